import PyProof.Rows.All
import Wide.All
import OpenK.AllK
import Wide.FinOn
import PyProof.EqAt
import PyProof.EqKinds
import PyProof.TupleCall
import KE.BitLaws
import Open.SpecLaws
import KE.OsHead
import KE.OsGo
import PySem.Challenge.RW_abacusbooks_s02_right
section
set_option Elab.async false
set_option linter.all false
set_option maxRecDepth 100000
/-! THE HAND LAYER, for ints, bools, texts, own classes, lists, tuples, dicts, comprehensions, walks over dicts, enumerate, zip, reversed, texts, calls, loops. Paste it whole ahead of your own text; what your proof does not reach may be deleted. -/
namespace L2
open PySem PySem.Spec PyProof.Rows

/-- a key: an int or a str -/
abbrev Key := Sum Int Str
def keyIs : Key → Value → Bool
  | .inl k, v => Value.isInt k v
  | .inr x, v => Value.isStrOf x v
def keyH (w : World) : Key → Int
  | .inl k => hashInt k
  | .inr x => hashStr w x
theorem keyIs_shape : ∀ {k : Key} {v : Value}, keyIs k v = true → (∃ i t, k = Sum.inl i ∧ v = Value.int i t) ∨ (∃ x t, k = Sum.inr x ∧ v = Value.str x t)
  | .inl i, v, h => by
    obtain ⟨t, e⟩ := Value.isInt_shape (k := i) (v := v) h
    exact .inl ⟨i, t, rfl, e⟩
  | .inr x, v, h => by
    obtain ⟨t, e⟩ := Value.isStrOf_shape (x := x) (v := v) h
    exact .inr ⟨x, t, rfl, e⟩
theorem keyIs_int (i : Int) (t : Tok) : keyIs (.inl i) (.int i t) = true := by simp [keyIs, Value.isInt]
theorem keyIs_str (x : Str) (t : Tok) : keyIs (.inr x) (.str x t) = true := by simp [keyIs, Value.isStrOf]
theorem key_ll (a b : Int) : decide ((Sum.inl a : Key) = Sum.inl b) = (a == b) := by
  by_cases e : a = b
  · subst e; simp
  · have h : ¬ (Sum.inl a : Key) = Sum.inl b := fun q => e (Sum.inl.inj q)
    rw [decide_eq_false h]
    exact (beq_eq_false_iff_ne.mpr e).symm
theorem key_rr (a b : Str) : decide ((Sum.inr a : Key) = Sum.inr b) = decide (a = b) := by
  by_cases e : a = b
  · subst e; simp
  · have h : ¬ (Sum.inr a : Key) = Sum.inr b := fun q => e (Sum.inr.inj q)
    rw [decide_eq_false h, decide_eq_false e]
theorem key_lr (a : Int) (b : Str) : decide ((Sum.inl a : Key) = Sum.inr b) = false := decide_eq_false (fun q => nomatch q)
theorem key_rl (a : Str) (b : Int) : decide ((Sum.inr a : Key) = Sum.inl b) = false := decide_eq_false (fun q => nomatch q)

def mixKind (prog : Program) (w : World) : PySem.KeyKind prog w Key where
  is := keyIs
  hash := keyH w
  inj := fun v a b ha hb => by
    rcases keyIs_shape ha with ⟨i, t, rfl, rfl⟩ | ⟨x, t, rfl, rfl⟩
    · rcases keyIs_shape hb with ⟨j, u, rfl, e⟩ | ⟨y, u, rfl, e⟩
      · injection e with e1 _; rw [e1]
      · exact nomatch e
    · rcases keyIs_shape hb with ⟨j, u, rfl, e⟩ | ⟨y, u, rfl, e⟩
      · exact nomatch e
      · injection e with e1 _; rw [e1]
  byValue := fun k v h => by
    rcases keyIs_shape h with ⟨i, t, rfl, rfl⟩ | ⟨x, t, rfl, rfl⟩ <;> rfl
  pyHash := fun hv h => by
    rcases keyIs_shape hv with ⟨i, t, rfl, rfl⟩ | ⟨x, t, rfl, rfl⟩
    · exact wpAny_pyHash_int h
    · exact wpAny_pyHash_str h
  eqBool := fun hu hv h => by
    rcases keyIs_shape hu with ⟨i, t, rfl, rfl⟩ | ⟨x, t, rfl, rfl⟩
    · rcases keyIs_shape hv with ⟨j, u, rfl, rfl⟩ | ⟨y, u, rfl, rfl⟩
      · rw [key_ll] at h; exact wpAny_eqBool_int h
      · rw [key_lr] at h; exact SeqAt.EqAt.int_str i t y u _ _ _ _ h
    · rcases keyIs_shape hv with ⟨j, u, rfl, rfl⟩ | ⟨y, u, rfl, rfl⟩
      · rw [key_rl] at h; exact SeqAt.EqAt.str_int x t j u _ _ _ _ h
      · rw [key_rr] at h; exact wpAny_eqBool_str h
  «strs» := fun k x t v h => by
    rcases keyIs_shape h with ⟨i, u, rfl, e⟩ | ⟨y, u, rfl, e⟩
    · exact nomatch e
    · injection e with e1 _
      subst e1
      cases v <;> rfl

theorem mixKind_int (prog : Program) (w : World) (i : Int) (t : Tok) : (mixKind prog w).is (.inl i) (.int i t) = true := keyIs_int i t
theorem mixKind_str (prog : Program) (w : World) (x : Str) (t : Tok) : (mixKind prog w).is (.inr x) (.str x t) = true := keyIs_str x t
end L2

namespace L2
open PySem PySem.Spec PyProof.Rows

/-- a value, without the heap -/
inductive V where
  | non | bl (b : Bool) | int (i : Int) | str (x : Str) | byt (b : Array UInt8) | flt (b : UInt64) | ref (a : Addr) | ty (n : String)
  deriving DecidableEq

def RelV : V → Value → Prop
  | .non, u => u = Value.none
  | .bl b, u => u = Value.bool b
  | .int i, u => ∃ t, u = Value.int i t
  | .str x, u => ∃ t, u = Value.str x t
  | .byt b, u => ∃ t, u = Value.bytes b t
  | .flt b, u => ∃ t, u = Value.float b t
  | .ref a, u => u = Value.ref a
  | .ty n, u => u = Value.type n

abbrev Vals : List V → List Value → Prop := Paired RelV
theorem Vals.length {xs : List V} {us : List Value} (r : Vals xs us) : xs.length = us.length := Paired.length r
theorem Vals.get : ∀ {xs : List V} {us : List Value} {i : Nat} {x : V}, Vals xs us → xs[i]? = some x → ∃ u, us[i]? = some u ∧ RelV x u
  | _, _, _, _, .nil, e => by simp at e
  | _, _, 0, _, .cons r _, e => by simp at e; subst e; exact ⟨_, rfl, r⟩
  | _, _, i + 1, x, .cons _ t, e => by
    obtain ⟨u, h1, h2⟩ := Vals.get (i := i) (x := x) t (by simpa using e)
    exact ⟨u, by simpa using h1, h2⟩
theorem Vals.set {x : V} {u : Value} (r : RelV x u) : ∀ {xs : List V} {us : List Value} (i : Nat), Vals xs us → Vals (xs.set i x) (us.set i u)
  | _, _, _, .nil => .nil
  | _, _, 0, .cons _ t => .cons r t
  | _, _, i + 1, .cons q t => .cons q (Vals.set r i t)
theorem Vals.append : ∀ {xs ys : List V} {us ws : List Value}, Vals xs us → Vals ys ws → Vals (xs ++ ys) (us ++ ws)
  | _, _, _, _, .nil, s => s
  | _, _, _, _, .cons r t, s => .cons r (Vals.append t s)
theorem Vals.take : ∀ {xs : List V} {us : List Value} (n : Nat), Vals xs us → Vals (xs.take n) (us.take n)
  | _, _, 0, _ => .nil
  | _, _, _ + 1, .nil => .nil
  | _, _, n + 1, .cons r t => .cons r (Vals.take n t)
theorem Vals.drop : ∀ {xs : List V} {us : List Value} (n : Nat), Vals xs us → Vals (xs.drop n) (us.drop n)
  | _, _, 0, r => r
  | _, _, _ + 1, .nil => .nil
  | _, _, n + 1, .cons _ t => Vals.drop n t

def RelO : Option V → Option Value → Prop
  | some v, some u => RelV v u
  | none, none => True
  | _, _ => False
def KV {κ : Type} : List (κ × V) → List (κ × Value) → Prop := Paired fun (p : κ × V) (q : κ × Value) => p.1 = q.1 ∧ RelV p.2 q.2

/-- a key of a dict (00_mix): an int or a text -/
def kV : Key → V
  | .inl i => .int i
  | .inr x => .str x

/-- what stands at a tracked address -/
inductive HO where
  /-- a list -/
  | lst (xs : List V)
  /-- a tuple (never changes) -/
  | tup (xs : List V)
  /-- a dict whose keys are ints and texts; one whose keys are tuples of ints and texts (the empty one is both) -/
  | dK (kvs : List (Key × V)) | dT (kvs : List (List Key × V))
  /-- a set of ints: its members, its size -/
  | set (S : Int → Bool) (n : Nat)
  /-- an instance of the class at C, its dict at dx, its attributes -/
  | ins (C dx : Addr) (fs : List (Str × V))
  /-- the dict of the instance at x -/
  | own (x : Addr)
  /-- the dict of an exception -/
  | xd (fs : List (Str × V))
  /-- a bound method, f of x -/
  | met (f x : Addr)
  /-- a range object lo, lo + 1, .. below hi -/
  | rng (lo hi : Int)
  /-- a thing that is known to the object (the script; a dict while a loop walks it): read, never written while it is so -/
  | frz (o : Obj) (u : HO)
  /-- a code object's table -/
  | tbl (ps : Array Value)
  /-- any other thing, by what is true of its one object (a def of one's own: SetO a S n := HO.ext fun h => ..) -/
  | ext (φ : Heap → Prop)

abbrev Hp := Addr → Option HO
def upd (H : Hp) (a : Addr) (o : HO) : Hp := fun b => if b = a then some o else H b
theorem upd_same {H : Hp} {a : Addr} {o : HO} : upd H a o a = some o := by unfold upd; rw [if_pos rfl]
theorem upd_ne {H : Hp} {a b : Addr} {o : HO} (h : b ≠ a) : upd H a o b = H b := by unfold upd; rw [if_neg h]
/-- two objects of different content stand apart -/
theorem ne_of {H : Hp} {a b : Addr} {o u : HO} (h : H a = some o) (h' : H b = some u) (d : o ≠ u) : a ≠ b := by
  intro e; subst e; rw [h] at h'; exact d (Option.some.inj h')
theorem ne_of_none {H : Hp} {a b : Addr} {o : HO} (h : H a = some o) (h' : H b = none) : a ≠ b := by
  intro e; subst e; rw [h] at h'; cases h'

section
variable (P : Program) (w : World)
def ObjOk (H : Hp) (h : Heap) (a : Addr) : HO → Prop
  | .lst xs => xs.length ≤ sizeLine ∧ ∃ (its : List Value) (n : Nat), Vals xs its ∧ h.get? a = some { cls := .type "list", data := .seq its.toArray n }
  | .tup xs => xs.length ≤ sizeLine ∧ ∃ its : List Value, Vals xs its ∧ IsTup h a its.toArray
  | .dK kvs => kvs.length ≤ sizeLine ∧ (a == sysModules) = false ∧ ∃ vs, KV kvs vs ∧ h.DictOf (mixKind P w) a vs
  | .dT kvs => kvs.length ≤ sizeLine ∧ (a == sysModules) = false ∧ ∃ xs : List (List Key × Addr × Value),
      Paired (fun (p : List Key × V) (q : List Key × Addr × Value) => p.1 = q.1 ∧ H q.2.1 = some (.tup (p.1.map kV)) ∧ RelV p.2 q.2.2) kvs xs ∧
      ∃ o es ep, h.get? a = some o ∧ o.ExactDict ∧ o.data = .dict es ep ∧ es.toList = xs.map (entryOfKey (tupleKind (mixKind P w))) ∧ (xs.map (·.1)).Nodup
  | .set S n => h.SetOf (intKind P w) a S n
  | .ins C dx fs => H dx = some (.own a) ∧ fs.length ≤ 1000 ∧ dx ≠ a ∧ h.get? a = some (PySem.W.instObj C dx) ∧
      ∃ mA, h.Ns1 dx mA ∧ (∀ f, RelO (fs.lookup f) (mA f)) ∧ PySem.Within mA (fs.map (·.1))
  | .own _ => ∃ o, h.get? a = some o
  | .xd fs => ∃ mA, h.Ns1 a mA ∧ ∀ f, RelO (fs.lookup f) (mA f)
  | .rng lo hi => ∃ t u v, h.get? a = some { cls := .type "range", data := .fields #[.int lo t, .int hi u, .int 1 v] }
  | .frz o u => h.get? a = some o ∧ ObjOk H h a u
  | .tbl ps => h.get? a = some { cls := .none, data := .fields ps }
  | .met f x => h.get? a = some (PySem.W.methodObj (.ref f) (.ref x))
  | .ext φ => φ h ∧ (∃ o, h.get? a = some o) ∧ ∀ h1 h2 : Heap, φ h1 → (∀ o, h1.get? a = some o → h2.get? a = some o) → φ h2
/-- the abstract heap is held -/
def HOk (H : Hp) (h : Heap) : Prop := ∀ a o, H a = some o → ObjOk P w H h a o
end

section
variable {P : Program} {w : World} {H H' : Hp} {h h' : Heap} {a : Addr} {o : HO}
theorem ObjOk.lt (x : ObjOk P w H h a o) : a < h.objs.size := by
  cases o with
  | lst xs => obtain ⟨_, _, _, _, e⟩ := x; exact Heap.lt_size e
  | tup xs => obtain ⟨_, _, _, p⟩ := x; exact p.lt
  | dK kvs => obtain ⟨_, _, _, _, o, _, _, e, _⟩ := x; exact Heap.lt_size e
  | dT kvs => obtain ⟨_, _, _, _, o, _, _, e, _⟩ := x; exact Heap.lt_size e
  | set S n => obtain ⟨o, _, _, _, e, _⟩ := x; exact Heap.lt_size e
  | ins C dx fs => obtain ⟨_, _, _, e, _⟩ := x; exact Heap.lt_size e
  | own y => obtain ⟨_, e⟩ := x; exact Heap.lt_size e
  | xd fs => obtain ⟨_, ⟨_, _, _, e, _⟩, _⟩ := x; exact Heap.lt_size e
  | rng lo hi => obtain ⟨_, _, _, e⟩ := x; exact Heap.lt_size e
  | frz ob u => obtain ⟨e, _⟩ := x; exact Heap.lt_size e
  | tbl ps => exact Heap.lt_size (show h.get? a = some _ from x)
  | met f y => exact Heap.lt_size (show h.get? a = some _ from x)
  | ext φ => obtain ⟨_, ⟨_, e⟩, _⟩ := x; exact Heap.lt_size e
theorem Paired.mapP {α β : Type} {F G : α → β → Prop} : ∀ {l₁ : List α} {l₂ : List β}, Paired F l₁ l₂ → (∀ a b, F a b → G a b) → Paired G l₁ l₂
  | _, _, .nil, _ => .nil
  | _, _, .cons r t, f => .cons (f _ _ r) (Paired.mapP t f)
/-- what an object's description leans on: its own object, its own dict, the tuples -/
theorem ObjOk.stay (x : ObjOk P w H h a o) (k : ∀ b u, (b = a ∨ H b = some (.own a)) → h.get? b = some u → h'.get? b = some u)
    (ho : ∀ b, H b = some (.own a) → H' b = some (.own a)) (ht : ∀ b xs, H b = some (.tup xs) → H' b = some (.tup xs)) : ObjOk P w H' h' a o := by
  induction o with
  | lst xs => obtain ⟨z, its, n, r, e⟩ := x; exact ⟨z, its, n, r, k _ _ (.inl rfl) e⟩
  | tup xs => obtain ⟨z, its, r, ob, e, c⟩ := x; exact ⟨z, its, r, ob, k _ _ (.inl rfl) e, c⟩
  | dK kvs => obtain ⟨z, y, vs, r, ob, es, ep, e, c⟩ := x; exact ⟨z, y, vs, r, ob, es, ep, k _ _ (.inl rfl) e, c⟩
  | dT kvs =>
    obtain ⟨z, y, xs, r, ob, es, ep, e, c⟩ := x
    exact ⟨z, y, xs, Paired.mapP r fun p q z => ⟨z.1, ht _ _ z.2.1, z.2.2⟩, ob, es, ep, k _ _ (.inl rfl) e, c⟩
  | set S n => obtain ⟨ob, es, ep, t, e, c⟩ := x; exact ⟨ob, es, ep, t, k _ _ (.inl rfl) e, c⟩
  | ins C dx fs =>
    obtain ⟨d, z, ne, e, mA, ⟨od, es, ep, e2, c⟩, r⟩ := x
    exact ⟨ho _ d, z, ne, k _ _ (.inl rfl) e, mA, ⟨od, es, ep, k _ _ (.inr d) e2, c⟩, r⟩
  | own y => obtain ⟨ob, e⟩ := x; exact ⟨ob, k _ _ (.inl rfl) e⟩
  | xd fs => obtain ⟨mA, ⟨od, es, ep, e, c⟩, r⟩ := x; exact ⟨mA, ⟨od, es, ep, k _ _ (.inl rfl) e, c⟩, r⟩
  | rng lo hi => obtain ⟨t, u, v, e⟩ := x; exact ⟨t, u, v, k _ _ (.inl rfl) e⟩
  | frz ob u ih => obtain ⟨e, q⟩ := x; exact ⟨k _ _ (.inl rfl) e, ih q⟩
  | tbl ps =>
    have e : h.get? a = some { cls := .none, data := .fields ps } := x
    show h'.get? a = some { cls := .none, data := .fields ps }
    exact k a _ (.inl rfl) e
  | met f y =>
    have e : h.get? a = some (PySem.W.methodObj (.ref f) (.ref y)) := x
    show h'.get? a = some (PySem.W.methodObj (.ref f) (.ref y))
    exact k a _ (.inl rfl) e
  | ext φ => obtain ⟨p, ⟨o, e⟩, st⟩ := x; exact ⟨st _ _ p fun o q => k _ _ (.inl rfl) q, ⟨o, k _ _ (.inl rfl) e⟩, st⟩
theorem HOk.lt (x : HOk P w H h) (e : H a = some o) : a < h.objs.size := (x a o e).lt
theorem HOk.fresh (x : HOk P w H h) (e : h.objs.size ≤ a) : H a = none := by
  cases q : H a with
  | none => rfl
  | some u => exact absurd (Nat.lt_of_lt_of_le (x.lt q) e) (Nat.lt_irrefl _)
/-- every object of the heap is kept -/
theorem HOk.kept (x : HOk P w H h) (k : ∀ b u, h.get? b = some u → h'.get? b = some u) : HOk P w H h' := fun a o e =>
  (x a o e).stay (fun b u _ q => k b u q) (fun _ q => q) fun _ _ q => q
/-- a new object is laid and tracked -/
theorem HOk.laid (x : HOk P w H h) (k : ∀ b u, h.get? b = some u → h'.get? b = some u) (hp : h.objs.size ≤ a) (new : ObjOk P w (upd H a o) h' a o) : HOk P w (upd H a o) h' := fun b u e => by
  have hn := x.fresh hp
  by_cases hb : b = a
  · subst hb; rw [upd_same] at e; cases e; exact new
  · rw [upd_ne hb] at e
    exact (x b u e).stay (fun c v _ q => k c v q) (fun c q => by rw [upd_ne (ne_of_none q hn)]; exact q) fun c xs q => by rw [upd_ne (ne_of_none q hn)]; exact q
end

/-- what may be read as u: it is u, or a known u -/
def Rd (H : Hp) (a : Addr) (u : HO) : Prop := H a = some u ∨ ∃ o, H a = some (.frz o u)
theorem Rd.ok {P : Program} {w : World} {H : Hp} {h : Heap} {a : Addr} {u : HO} (r : Rd H a u) (x : HOk P w H h) : ObjOk P w H h a u := by
  rcases r with r | ⟨o, r⟩
  · exact x a u r
  · obtain ⟨_, q⟩ := x a _ r
    exact q
/-- what may be written -/
def Mut : Option HO → Prop
  | some (.lst _) => True
  | some (.dK _) => True
  | some (.dT _) => True
  | some (.set _ _) => True
  | some (.ins _ _ _) => True
  | some (.ext _) => True
  | _ => False
section
variable {P : Program} {w : World} {H : Hp} {h h' : Heap} {x e : Addr} {o' : HO}
/-- the object at e is changed: x itself, or the dict of the instance x -/
theorem HOk.write (ok : HOk P w H h) (mu : Mut (H x)) (he : e = x ∨ H e = some (.own x)) (k : ∀ b u, b ≠ e → h.get? b = some u → h'.get? b = some u) (heo : ∃ u, h'.get? e = some u)
    (new : ObjOk P w (upd H x o') h' x o') : HOk P w (upd H x o') h' := fun b u q => by
  have nown : ∀ c y, H c = some (.own y) → c ≠ x := fun c y r z => by subst z; rw [r] at mu; exact mu
  have ntup : ∀ c xs, H c = some (.tup xs) → c ≠ x := fun c xs r z => by subst z; rw [r] at mu; exact mu
  by_cases hb : b = x
  · subst hb; rw [upd_same] at q; cases q; exact new
  · rw [upd_ne hb] at q
    by_cases hbe : b = e
    · have q' : H b = some (.own x) := by
        rcases he with z | z
        · exact absurd (hbe.trans z) hb
        · rw [hbe]; exact z
      rw [q] at q'; cases q'
      obtain ⟨v, hv⟩ := heo
      exact ⟨v, by rw [hbe]; exact hv⟩
    · refine (ok b u q).stay (fun c v hc r => k c v ?_ r) (fun c r => by rw [upd_ne (nown c b r)]; exact r) fun c xs r => by rw [upd_ne (ntup c xs r)]; exact r
      rcases hc with rfl | hc
      · exact hbe
      · rintro rfl
        rcases he with z | z
        · exact nown c b hc z
        · rw [hc] at z; cases z; exact hb rfl
end

/-! ### kept unless tracked; of the frames at fs (the callers') the slots may change (an exception that passes writes there); of the records at ex (iterators) nothing is said -/
structure Un (fs ex : List Addr) (H H' : Hp) (h h' : Heap) : Prop where
  keep : ∀ b o, h.get? b = some o → H b = none → b ∉ fs → b ∉ ex → h'.get? b = some o
  slot : ∀ b o, h.get? b = some o → H b = none → b ∈ fs → b ∉ ex → ∃ sl, h'.get? b = some { o with slots := sl }
  free : ∀ b o, h.get? b = some o → H b = none → b ∉ ex → H' b = none
  there : ∀ b o, h.get? b = some o → b ∉ ex → ∃ o', h'.get? b = some o'
  tups : ∀ b xs, H b = some (.tup xs) → H' b = some (.tup xs)
  frzs : ∀ b o u, H b = some (.frz o u) → H' b = some (.frz o u)
  tbls : ∀ b ps, H b = some (.tbl ps) → ∃ more, H' b = some (.tbl (ps ++ more))
section
variable {fs fs' ex ex' : List Addr} {H H1 H2 : Hp} {h h1 h2 h' : Heap} {a x e : Addr} {o : HO}
theorem Un.any (u : Un fs ex H H1 h h1) {b : Addr} {ob : Obj} (q : h.get? b = some ob) (n : H b = none) (hx : b ∉ ex) : ∃ sl, h1.get? b = some { ob with slots := sl } := by
  by_cases hb : b ∈ fs
  · exact u.slot b ob q n hb hx
  · exact ⟨ob.slots, u.keep b ob q n hb hx⟩
theorem Un.kept (k : ∀ b u, h.get? b = some u → h'.get? b = some u) : Un fs ex H H h h' :=
  ⟨fun b ob q _ _ _ => k b ob q, fun b ob q _ _ _ => ⟨ob.slots, k b ob q⟩, fun _ _ _ n _ => n, fun b ob q _ => ⟨ob, k b ob q⟩, fun _ _ q => q, fun _ _ _ q => q, fun _ ps q => ⟨#[], by rw [q]; simp⟩⟩
theorem Un.refl : Un fs ex H H h h := Un.kept fun _ _ q => q
theorem Un.laid (k : ∀ b u, h.get? b = some u → h'.get? b = some u) (hp : h.objs.size ≤ a) (hn : H a = none) : Un fs ex H (upd H a o) h h' where
  keep := fun b u q _ _ _ => k b u q
  slot := fun b u q _ _ _ => ⟨u.slots, k b u q⟩
  free := fun b u q n _ => by rw [upd_ne (Nat.ne_of_lt (Nat.lt_of_lt_of_le (Heap.lt_size q) hp))]; exact n
  there := fun b u q _ => ⟨u, k b u q⟩
  tups := fun b xs q => by rw [upd_ne (ne_of_none q hn)]; exact q
  frzs := fun b u xs q => by rw [upd_ne (ne_of_none q hn)]; exact q
  tbls := fun b ps q => ⟨#[], by rw [upd_ne (ne_of_none q hn), q]; simp⟩
theorem Un.write (mu : Mut (H x)) (he : e = x ∨ H e = some (.own x)) (k : ∀ b u, b ≠ e → h.get? b = some u → h'.get? b = some u) (heo : ∃ u, h'.get? e = some u) : Un fs ex H (upd H x o) h h' := by
  have hx : ∀ b, H b = none → b ≠ x := fun b n z => by subst z; rw [n] at mu; exact mu
  have hb : ∀ b, H b = none → b ≠ e := fun b n z => by
    subst z
    rcases he with r | r
    · exact hx b n r
    · rw [n] at r; cases r
  have hm : ∀ b u, H b = some u → ¬ Mut (some u) → b ≠ x := fun b u q nm z => by subst z; rw [q] at mu; exact nm mu
  refine ⟨fun b u q n _ _ => k b u (hb b n) q, fun b u q n _ _ => ⟨u.slots, k b u (hb b n) q⟩, fun b u q n _ => by rw [upd_ne (hx b n)]; exact n, fun b u q _ => ?_,
    fun b xs q => by rw [upd_ne (hm b _ q fun z => z)]; exact q, fun b u xs q => by rw [upd_ne (hm b _ q fun z => z)]; exact q, fun b ps q => ⟨#[], by rw [upd_ne (hm b _ q fun z => z), q]; simp⟩⟩
  by_cases hbe : b = e
  · subst hbe; exact heo
  · exact ⟨u, k b u hbe q⟩
end

/-! ### the heap without what is tracked -/
def trk (h : Heap) (H : Hp) : List Addr := (List.range h.objs.size).filter fun a => (H a).isSome
def hidT (h : Heap) (H : Hp) : Heap := PySem.W.hideAll h (trk h H)
theorem hidT_size (h : Heap) (H : Hp) : (hidT h H).objs.size = h.objs.size := PySem.W.hideAll_size _ _
theorem hidT_get {h : Heap} {H : Hp} {b : Addr} {o : Obj} (e : h.get? b = some o) (n : H b = none) : (hidT h H).get? b = some o :=
  PySem.W.hideAll_get _ e fun hm => by
    have q : (H b).isSome = true := (List.mem_filter.mp hm).2
    rw [n] at q; simp at q
theorem of_hidT {h : Heap} {H : Hp} {b : Addr} {o : Obj} (e : (hidT h H).get? b = some o) : h.get? b = some o ∧ H b = none := by
  have e' : h.get? b = some o := PySem.W.of_hideAll (trk h H) e
  refine ⟨e', ?_⟩
  cases q : H b with
  | none => rfl
  | some x =>
    have hm : b ∈ trk h H := List.mem_filter.mpr ⟨List.mem_range.mpr (Heap.lt_size e'), by simp [q]⟩
    have z : (hidT h H).get? b = none := PySem.W.hideAll_none (trk h H) hm
    rw [z] at e; cases e

/-! ### OpenK's ledger, filled with every new object but one -/
def allNews (g h : Heap) (L : Addr) : List (Addr × Obj) := (List.range h.objs.size).filterMap fun a => if a = L ∨ (g.get? a).isSome = true then none else (h.get? a).map fun o => (a, o)
def rest (g h : Heap) (L d : Addr) : List (Addr × Obj) := (allNews g h L).filter fun p => decide (p.1 ≠ d)
end L2

namespace L2
open PySem PySem.Spec PyProof.Rows

/-- the module's facts, over the base: the heap at the law's entry without what is tracked there -/
structure Mod (K : PySem.W.Frag) (mg : Str → Option Value) (base : Heap) : Prop where
  kin : K.In base
  glob : base.Ns mainGlobals mg
  blt : ∃ mb, base.Ns builtinsNs mb ∧ ∀ x : Str, x ≠ "__name__" → mb x = bootBuiltins x
  nolimit : base.NoLimit

/-- the context: a def's body (or a comprehension's block) running. base: fixed through the whole law; s₀, H₀: the entry; outer: the frames whose slots others may change (a def's callers); stack: all frames that run;
   ex: iterators that were made ahead of the entry and are walked here (a comprehension's); fn: the names whose cells were made at the entry (a def: all; a comprehension's block: its own); calm: not within an except suite; pn: pins that every state bears; xe: what is wanted of an exception that leaves the code -/
structure Cx where
  prog : Program
  w : World
  K : PySem.W.Frag
  mg : Str → Option Value
  base : Heap
  A : Around
  N : List Str
  s_0 : Shared
  H_0 : Hp
  env : Env
  outer : List Env
  stack : List Env
  ex : List Addr
  fn : Str → Bool
  calm : Bool
  pn : List (Addr × Obj)
  xe : Value → Shared → Prop
/-- the callers' frames -/
def frs (l : List Env) : List Addr := l.filterMap (·.frame)
abbrev Cx.fs (X : Cx) : List Addr := frs X.outer

def Vis (sc : Scope) (x : Str) : Prop := sc.names.lookup x = some .local ∨ sc.names.lookup x = some .cell ∨ sc.names.lookup x = some .free
def Loc (sc : Scope) (x : Str) : Prop := sc.names.lookup x = some .local ∨ sc.names.lookup x = some .cell
def Look (env : Env) (h : Heap) (m : Str → Option Value) (x : Str) (u : Value) : Prop :=
  (env.kindOf x = some .local ∧ m x = some u) ∨ ((env.kindOf x = some .cell ∨ env.kindOf x = some .free) ∧ ∃ c, env.cells.lookup x = some c ∧ h.IsCell c (some u))

structure Cx.Ok (X : Cx) : Prop where
  mod : Mod X.K X.mg X.base
  kind : X.env.scope.kind = .function
  glob : X.env.globals = mainGlobals
  blt : X.env.builtins = builtinsNs
  above : X.s_0.heap.objs.size ≤ X.env.locals
  inj : ∀ x y c, X.env.cells.lookup x = some c → X.env.cells.lookup y = some c → x = y
  has : ∀ x, (X.env.kindOf x = some .cell ∨ X.env.kindOf x = some .free) → ∃ c, X.env.cells.lookup x = some c
  cab : ∀ x c, X.fn x = true → X.env.cells.lookup x = some c → X.s_0.heap.objs.size ≤ c
  hd : X.calm = true → X.A.handled = none
  frames : X.A.frames = some X.stack
  stk : X.stack = X.outer ∨ (X.stack = X.env :: X.outer ∧ X.env.frame = some X.env.locals)
  exf : ∀ b ∈ X.ex, b ≠ X.env.locals ∧ ∀ x c, X.env.cells.lookup x = some c → c ≠ b
  bs : ∀ b o, X.base.get? b = some o → X.s_0.heap.get? b = some o ∧ X.H_0 b = none
  bsz : X.base.objs.size ≤ X.s_0.heap.objs.size
  noex : ∀ b o, X.base.get? b = some o → b ∉ X.ex
  exfs : ∀ b ∈ X.ex, b ∉ X.fs
  funs : X.s_0.heap.FunFrames X.base X.outer
  frf : ∀ b ∈ X.fs, X.H_0 b = none

structure Inv (X : Cx) (pins : List (Addr × Obj)) (σ : List (Option V)) (H : Hp) (s : Shared) : Prop where
  ok : X.Ok
  os : s.os = X.s_0.os
  bare : AllBare s.gens
  base : Un X.fs X.ex X.H_0 H X.s_0.heap s.heap
  loc : ∃ m, s.heap.Ns X.env.locals m ∧ ∀ (i : Nat) (x : Str) (v : V), X.N[i]? = some x → σ[i]? = some (some v) → Vis X.env.scope x → ∃ u, RelV v u ∧ Look X.env s.heap m x u
  cell : ∀ x c, X.env.cells.lookup x = some c → ∃ v, s.heap.IsCell c v
  free : H X.env.locals = none
  freeC : ∀ x c, X.env.cells.lookup x = some c → H c = none
  pin : ∀ p ∈ X.pn ++ pins, s.heap.get? p.1 = some p.2 ∧ H p.1 = none ∧ p.1 ≠ X.env.locals ∧ p.1 ∉ X.fs ∧ ∀ v, p.2.data ≠ .cell v
  hok : HOk X.prog X.w H s.heap
  len : σ.length = X.N.length

section
variable {X : Cx} {pins : List (Addr × Obj)} {σ : List (Option V)} {H H' : Hp} {s : Shared} {h' : Heap}

theorem Cx.Ok.nofr (ok : X.Ok) {b : Addr} {o : Obj} (e : X.base.get? b = some o) : b ∉ X.fs := fun hb => by
  have := (ok.funs.mem hb).1
  rw [e] at this; cases this
theorem Inv.bs (I : Inv X pins σ H s) : ∀ b o, X.base.get? b = some o → s.heap.get? b = some o ∧ H b = none := fun b o e =>
  ⟨I.base.keep b o (I.ok.bs b o e).1 (I.ok.bs b o e).2 (I.ok.nofr e) (I.ok.noex b o e), I.base.free b o (I.ok.bs b o e).1 (I.ok.bs b o e).2 (I.ok.noex b o e)⟩
theorem Inv.bk (I : Inv X pins σ H s) : ∀ b o, X.base.get? b = some o → s.heap.get? b = some o := fun b o e => (I.bs b o e).1
theorem Inv.mod (I : Inv X pins σ H s) : Mod X.K X.mg X.base := I.ok.mod
theorem Inv.kIn (I : Inv X pins σ H s) : X.K.In s.heap := I.ok.mod.kin.keeps I.bk
theorem Inv.lt (I : Inv X pins σ H s) : X.env.locals < s.heap.objs.size := let ⟨_, hn, _⟩ := I.loc; hn.lt
theorem Inv.sz (I : Inv X pins σ H s) : X.s_0.heap.objs.size ≤ s.heap.objs.size := Nat.le_trans I.ok.above (Nat.le_of_lt I.lt)
theorem Inv.nofs (I : Inv X pins σ H s) {a : Addr} (h : s.heap.objs.size ≤ a) : a ∉ X.fs := fun hb => by
  obtain ⟨_, o, ho, _⟩ := I.ok.funs.mem hb
  exact absurd (Nat.lt_of_lt_of_le (Heap.lt_size ho) (Nat.le_trans I.sz h)) (Nat.lt_irrefl _)
theorem Inv.cne (I : Inv X pins σ H s) : ∀ x c, X.env.cells.lookup x = some c → c ≠ X.env.locals := fun x c e z => by
  obtain ⟨v, o, ho, hd⟩ := I.cell x c e
  obtain ⟨m, ⟨o', es, ep, ho', hd', _⟩, _⟩ := I.loc
  rw [z, ho'] at ho; cases ho; rw [hd'] at hd; cases hd
theorem Inv.funs (I : Inv X pins σ H s) : s.heap.FunFrames X.base X.outer := by
  have all : ∀ (l : List Env), (∀ b ∈ frs l, b ∈ X.fs) → X.s_0.heap.FunFrames X.base l → s.heap.FunFrames X.base l := by
    intro l
    induction l with
    | nil => intro _ _; trivial
    | cons env r ih =>
      intro hs hl
      obtain ⟨hk, ⟨L, o, hf, hn, ho, hd⟩, hr⟩ := hl
      have hL : L ∈ X.fs := hs L (by unfold frs; rw [List.filterMap_cons, hf]; exact List.mem_cons_self)
      obtain ⟨sl, e⟩ := I.base.slot L o ho (I.ok.frf L hL) hL fun z => I.ok.exfs L z hL
      exact ⟨hk, ⟨L, _, hf, hn, e, hd⟩, ih (fun b hb => hs b (by unfold frs; rw [List.filterMap_cons, hf]; exact List.mem_cons_of_mem _ hb)) hr⟩
  exact all X.outer (fun _ hb => hb) I.ok.funs

/-- the frames that run, for a call -/
theorem Inv.stack (I : Inv X pins σ H s) : s.heap.FunFrames X.base X.stack := by
  rcases I.ok.stk with e | ⟨e, hf⟩
  · rw [e]; exact I.funs
  · rw [e]
    obtain ⟨m, hn, _⟩ := I.loc
    refine .cons (by rw [I.ok.kind]; decide) hf hn ?_ I.funs
    exact Heap.get?_none_of_le (Nat.le_trans I.ok.bsz I.ok.above)
theorem Inv.stkSub (I : Inv X pins σ H s) : ∀ b ∈ frs X.stack, b ∈ X.env.locals :: X.fs := fun b hb => by
  rcases I.ok.stk with e | ⟨e, hf⟩
  · rw [e] at hb; exact List.mem_cons_of_mem _ hb
  · rw [e] at hb
    unfold frs at hb
    rw [List.filterMap_cons, hf] at hb
    exact hb
theorem Inv.stkFree (I : Inv X pins σ H s) : ∀ b ∈ frs X.stack, H b = none := fun b hb => by
  rcases List.mem_cons.mp (I.stkSub b hb) with e | hb
  · rw [e]; exact I.free
  · obtain ⟨_, o, ho, _⟩ := I.ok.funs.mem hb
    exact I.base.free b o ho (I.ok.frf b hb) fun z => I.ok.exfs b z hb

/-- THE STEP: the untracked objects but the frame and the records at ch are kept (the callers' frames up to slots), the frame's map is kept, the new abstract heap is held -/
theorem Inv.step {g' : Array GenState} {t' : Nat} {d' : Drawn} {ch : List Addr} (I : Inv X pins σ H s)
    (hch : ∀ b ∈ ch, (b ∈ X.ex ∨ X.s_0.heap.objs.size ≤ b) ∧ b ≠ X.env.locals ∧ (∀ x c, X.env.cells.lookup x = some c → c ≠ b) ∧ ∀ p ∈ X.pn ++ pins, p.1 ≠ b)
    (keep : ∀ b o, b ≠ X.env.locals → b ∉ X.fs → b ∉ ch → s.heap.get? b = some o → H b = none → h'.get? b = some o)
    (slot : ∀ b o, b ≠ X.env.locals → b ∈ X.fs → b ∉ ch → s.heap.get? b = some o → H b = none → ∃ sl, h'.get? b = some { o with slots := sl }) (free : ∀ b o, b ∉ ch → s.heap.get? b = some o → H b = none → H' b = none)
    (there : ∀ b o, b ∉ ch → s.heap.get? b = some o → ∃ o', h'.get? b = some o')
    (tups : ∀ b xs, H b = some (.tup xs) → H' b = some (.tup xs)) (frzs : ∀ b o u, H b = some (.frz o u) → H' b = some (.frz o u)) (tbls : ∀ b ps, H b = some (.tbl ps) → ∃ more, H' b = some (.tbl (ps ++ more)))
    (ns : ∀ m, s.heap.Ns X.env.locals m → h'.Ns X.env.locals m) (hok : HOk X.prog X.w H' h') (hg : AllBare g') :
    Inv X pins σ H' { s with heap := h', gens := g', drawn := d', toks := t' } := by
  have neL : ∀ b o, X.s_0.heap.get? b = some o → b ≠ X.env.locals := fun b o e => Nat.ne_of_lt (Nat.lt_of_lt_of_le (Heap.lt_size e) I.ok.above)
  have neC : ∀ b o, X.s_0.heap.get? b = some o → b ∉ X.ex → b ∉ ch := fun b o e hx hb => by
    rcases (hch b hb).1 with z | z
    · exact hx z
    · exact absurd (Nat.lt_of_lt_of_le (Heap.lt_size e) z) (Nat.lt_irrefl _)
  have cellK : ∀ x c, X.env.cells.lookup x = some c → ∀ v, s.heap.IsCell c v → h'.IsCell c v := fun x c e v ⟨o, ho, hd⟩ => by
    have nch : c ∉ ch := fun z => (hch c z).2.2.1 x c e rfl
    by_cases hc : c ∈ X.fs
    · obtain ⟨sl, q⟩ := slot c o (I.cne x c e) hc nch ho (I.freeC x c e)
      exact ⟨_, q, hd⟩
    · exact ⟨o, keep c o (I.cne x c e) hc nch ho (I.freeC x c e), hd⟩
  refine ⟨I.ok, I.os, hg, ⟨fun b o e n hb hx => ?_, fun b o e n hb hx => ?_, fun b o e n hx => ?_, fun b o e hx => ?_, fun b xs e => tups b xs (I.base.tups b xs e), fun b o xs e => frzs b o xs (I.base.frzs b o xs e), fun b ps e => ?_⟩, ?_, fun x c e => ?_, ?_, fun x c e => ?_, fun p hp => ?_, hok, I.len⟩
  · exact keep b o (neL b o e) hb (neC b o e hx) (I.base.keep b o e n hb hx) (I.base.free b o e n hx)
  · obtain ⟨sl, e1⟩ := I.base.slot b o e n hb hx
    obtain ⟨sl', e2⟩ := slot b _ (neL b o e) hb (neC b o e hx) e1 (I.base.free b o e n hx)
    exact ⟨sl', e2⟩
  · obtain ⟨o', e1⟩ := I.base.there b o e hx
    exact free b o' (neC b o e hx) e1 (I.base.free b o e n hx)
  · obtain ⟨o', e1⟩ := I.base.there b o e hx
    exact there b o' (neC b o e hx) e1
  · obtain ⟨m1, e1⟩ := I.base.tbls b ps e
    obtain ⟨m2, e2⟩ := tbls b _ e1
    exact ⟨m1 ++ m2, by rw [e2, Array.append_assoc]⟩
  · obtain ⟨m, hn, hl⟩ := I.loc
    refine ⟨m, ns m hn, fun i x v e1 e2 e3 => ?_⟩
    obtain ⟨u, r, l⟩ := hl i x v e1 e2 e3
    refine ⟨u, r, ?_⟩
    rcases l with l | ⟨k, c, e, z⟩
    · exact .inl l
    · exact .inr ⟨k, c, e, cellK x c e _ z⟩
  · obtain ⟨v, z⟩ := I.cell x c e
    exact ⟨v, cellK x c e v z⟩
  · obtain ⟨m, ⟨o, _, _, ho, _⟩, _⟩ := I.loc
    exact free _ o (fun z => (hch _ z).2.1 rfl) ho I.free
  · obtain ⟨v, o, ho, hd⟩ := I.cell x c e
    exact free c o (fun z => (hch c z).2.2.1 x c e rfl) ho (I.freeC x c e)
  · obtain ⟨e, n, ne, nf, d⟩ := I.pin p hp
    have nch : p.1 ∉ ch := fun z => (hch p.1 z).2.2.2 p hp rfl
    exact ⟨keep p.1 p.2 ne nf nch e n, free p.1 p.2 nch e n, ne, nf, d⟩
/-- .. where the frame's own object is kept too -/
theorem Inv.un {t' : Nat} (I : Inv X pins σ H s) (u : Un X.fs [] H H' s.heap h') (hok : HOk X.prog X.w H' h') : Inv X pins σ H' { s with heap := h', toks := t' } := by
  obtain ⟨m, ⟨o, es, ep, ho, r⟩, _⟩ := id I.loc
  obtain ⟨sl, hL⟩ := u.any ho I.free (by simp)
  exact I.step (g' := s.gens) (d' := s.drawn) (ch := []) (fun _ z => nomatch z) (fun b o _ hb _ e n => u.keep b o e n hb (by simp)) (fun b o _ hb _ e n => u.slot b o e n hb (by simp)) (fun b o _ e n => u.free b o e n (by simp)) (fun b o _ e => u.there b o e (by simp)) u.tups u.frzs u.tbls (fun m' hm => by
    obtain ⟨o', es', ep', ho', r'⟩ := hm
    rw [ho] at ho'; cases ho'
    exact ⟨_, es', ep', hL, r'⟩) hok I.bare
/-- behind a call (or a comprehension's block): the slots of this frame may have changed too, the records at ch may have turned -/
theorem Inv.call {g' : Array GenState} {t' : Nat} {d' : Drawn} {ch : List Addr} (I : Inv X pins σ H s) (u : Un (frs X.stack) ch H H' s.heap h') (hok : HOk X.prog X.w H' h') (hg : AllBare g')
    (hch : ∀ b ∈ ch, (b ∈ X.ex ∨ X.s_0.heap.objs.size ≤ b) ∧ b ≠ X.env.locals ∧ (∀ x c, X.env.cells.lookup x = some c → c ≠ b) ∧ ∀ p ∈ X.pn ++ pins, p.1 ≠ b) :
    Inv X pins σ H' { s with heap := h', gens := g', drawn := d', toks := t' } := by
  obtain ⟨m, ⟨o, es, ep, ho, r⟩, _⟩ := id I.loc
  obtain ⟨sl, hL⟩ := u.any ho I.free fun z => (hch _ z).2.1 rfl
  exact I.step (ch := ch) hch (fun b o hL hb hc e n => u.keep b o e n (fun z => (List.mem_cons.mp (I.stkSub b z)).elim hL hb) hc) (fun b o _ _ hc e n => u.any e n hc) (fun b o hc e n => u.free b o e n hc) (fun b o hc e => u.there b o e hc) u.tups u.frzs u.tbls (fun m' hm => by
    obtain ⟨o', es', ep', ho', r'⟩ := hm
    rw [ho] at ho'; cases ho'
    exact ⟨_, es', ep', hL, r'⟩) hok hg
/-- an untracked record of ours (an iterator) has turned -/
theorem Inv.turned {t' : Nat} {it : Addr} (I : Inv X pins σ H s) (k : ∀ b o, b ≠ it → s.heap.get? b = some o → h'.get? b = some o) (hn : H it = none) (hL : it ≠ X.env.locals)
    (h1 : it ∈ X.ex ∨ X.s_0.heap.objs.size ≤ it) (h2 : ∀ x c, X.env.cells.lookup x = some c → c ≠ it) (h3 : ∀ p ∈ X.pn ++ pins, p.1 ≠ it) : Inv X pins σ H { s with heap := h', toks := t' } := by
  have nit : ∀ b u, H b = some u → b ≠ it := fun b u e z => by rw [z, hn] at e; cases e
  refine I.step (g' := s.gens) (d' := s.drawn) (ch := [it]) (fun b hb => ?_) (fun b o _ _ hc e _ => k b o (fun z => hc (by simp [z])) e) (fun b o _ _ hc e _ => ⟨o.slots, k b o (fun z => hc (by simp [z])) e⟩) (fun _ _ _ _ n => n)
    (fun b o hc e => ⟨o, k b o (fun z => hc (by simp [z])) e⟩) (fun _ _ e => e) (fun _ _ _ e => e) (fun b ps e => ⟨#[], by rw [e]; simp⟩) (fun m hm => ?_) (fun b u e => ?_) I.bare
  · have e : b = it := by simpa using hb
    subst e
    exact ⟨h1, hL, h2, h3⟩
  · obtain ⟨o, es, ep, ho, r⟩ := hm
    exact ⟨o, es, ep, k _ o (Ne.symm hL) ho, r⟩
  · refine (I.hok b u e).stay (fun c v hc q => k c v ?_ q) (fun _ q => q) fun _ _ q => q
    rcases hc with z | z
    · rw [z]; exact nit b u e
    · exact nit c _ z
theorem Inv.tok (I : Inv X pins σ H s) (t : Nat) : Inv X pins σ H { s with toks := t } := I.un (h' := s.heap) (t' := t) Un.refl I.hok
/-- all objects kept -/
theorem Inv.kept {t' : Nat} (I : Inv X pins σ H s) (k : ∀ b u, s.heap.get? b = some u → h'.get? b = some u) : Inv X pins σ H { s with heap := h', toks := t' } := I.un (Un.kept k) (I.hok.kept k)
/-- a new object laid and tracked -/
theorem Inv.laid {a : Addr} {o : HO} {t' : Nat} (I : Inv X pins σ H s) (k : ∀ b u, s.heap.get? b = some u → h'.get? b = some u) (hp : s.heap.objs.size ≤ a) (new : ObjOk X.prog X.w (upd H a o) h' a o) :
    Inv X pins σ (upd H a o) { s with heap := h', toks := t' } := I.un (Un.laid k hp (I.hok.fresh hp)) (I.hok.laid k hp new)
/-- an object written -/
theorem Inv.write {x e : Addr} {o : HO} {t' : Nat} (I : Inv X pins σ H s) (mu : Mut (H x)) (he : e = x ∨ H e = some (.own x)) (k : ∀ b u, b ≠ e → s.heap.get? b = some u → h'.get? b = some u) (heo : ∃ u, h'.get? e = some u)
    (new : ObjOk X.prog X.w (upd H x o) h' x o) : Inv X pins σ (upd H x o) { s with heap := h', toks := t' } := I.un (Un.write mu he k heo) (I.hok.write mu he k heo new)
/-- forgetting slots, pins -/
theorem Inv.weak {σ' : List (Option V)} (I : Inv X pins σ H s) (hl : σ'.length = σ.length) (w : ∀ (i : Nat) v, σ'[i]? = some (some v) → σ[i]? = some (some v)) : Inv X pins σ' H s :=
  ⟨I.ok, I.os, I.bare, I.base, let ⟨m, hn, hl'⟩ := I.loc; ⟨m, hn, fun i x v e1 e2 e3 => hl' i x v e1 (w i v e2) e3⟩, I.cell, I.free, I.freeC, I.pin, I.hok, hl.trans I.len⟩
theorem Inv.pins_of {pins' : List (Addr × Obj)} (I : Inv X pins σ H s) (h : ∀ p ∈ pins', s.heap.get? p.1 = some p.2 ∧ H p.1 = none ∧ p.1 ≠ X.env.locals ∧ p.1 ∉ X.fs ∧ ∀ v, p.2.data ≠ .cell v) : Inv X pins' σ H s :=
  ⟨I.ok, I.os, I.bare, I.base, I.loc, I.cell, I.free, I.freeC, fun p hp => (List.mem_append.mp hp).elim (fun z => I.pin p (List.mem_append_left _ z)) (h p), I.hok, I.len⟩

theorem nodup_ix {N : List Str} (hN : N.Nodup) {i j : Nat} {x : Str} (a : N[i]? = some x) (b : N[j]? = some x) : i = j := by
  obtain ⟨h1, e1⟩ := List.getElem?_eq_some_iff.mp a
  obtain ⟨h2, e2⟩ := List.getElem?_eq_some_iff.mp b
  exact (List.getElem_inj hN).mp (e1.trans e2.symm)

/-- a name is stored; what changed -/
theorem store_ok2 {M : Model} {A : Around} {E : Value → Shared → Prop} {i : Nat} {x : Str} {v : V} {u : Value} {Q : Unit → Shared → Prop} (I : Inv X pins σ H s) (hN : X.N.Nodup) (hi : X.N[i]? = some x) (hx : Loc X.env.scope x) (r : RelV v u)
    (h : ∀ s', Inv X pins (σ.set i (some v)) H s' → (∃ a, Heap.SameBut a s.heap s'.heap ∧ (a = X.env.locals ∨ X.env.cells.lookup x = some a)) → Q () s') (hf : X.fn x = true ∨ X.env.scope.names.lookup x = some .local := by first | exact .inl rfl | exact .inr rfl | assumption) : wpAny M A (storeName X.env x u) Q E s := by
  obtain ⟨m, hn, hl⟩ := id I.loc
  have hcls : (X.env.scope.kind == .class || (X.env.scope.kind == .module && X.env.locals != X.env.globals)) = false := by rw [I.ok.kind]; rfl
  have hiσ : i < σ.length := by rw [I.len]; exact (List.getElem?_eq_some_iff.mp hi).1
  have cne := I.cne
  have tracked : ∀ {a : Addr} {h' : Heap}, (∃ o, s.heap.get? a = some o ∧ H a = none) → Heap.SameBut a s.heap h' → HOk X.prog X.w H h' := fun {a h'} ha hs b ob e => by
    obtain ⟨_, _, hfree⟩ := ha
    refine (I.hok b ob e).stay (fun c w' hc q => (hs.2 c ?_).trans q) (fun _ q => q) fun _ _ q => q
    rintro rfl
    rcases hc with rfl | hc
    · rw [hfree] at e; cases e
    · rw [hfree] at hc; cases hc
  rcases hx with hk | hk
  · refine wpAny_storeName_local hk hn (fun h' hn' hs => ?_) hcls
    obtain ⟨oL, _, _, hoL, _⟩ := id hn
    refine h _ ⟨I.ok, I.os, I.bare, ⟨fun b o e n hb hx => ?_, fun b o e n hb hx => ?_, I.base.free, fun b o e hx => ?_, I.base.tups, I.base.frzs, I.base.tbls⟩, ⟨_, hn', fun j y v' e1 e2 e3 => ?_⟩, fun y c e => ?_, I.free, I.freeC, fun p hp => ?_, tracked ⟨oL, hoL, I.free⟩ hs, by simpa using I.len⟩ ⟨_, hs, .inl rfl⟩
    · exact (hs.2 b (Nat.ne_of_lt (Nat.lt_of_lt_of_le (Heap.lt_size e) I.ok.above))).trans (I.base.keep b o e n hb hx)
    · obtain ⟨sl, e1⟩ := I.base.slot b o e n hb hx
      exact ⟨sl, (hs.2 b (Nat.ne_of_lt (Nat.lt_of_lt_of_le (Heap.lt_size e) I.ok.above))).trans e1⟩
    · obtain ⟨o', e1⟩ := I.base.there b o e hx
      exact ⟨o', (hs.2 b (Nat.ne_of_lt (Nat.lt_of_lt_of_le (Heap.lt_size e) I.ok.above))).trans e1⟩
    · by_cases hj : j = i
      · subst hj
        rw [hi] at e1; cases e1
        rw [List.getElem?_set_self hiσ] at e2
        cases e2
        exact ⟨u, r, .inl ⟨hk, by simp⟩⟩
      · rw [List.getElem?_set_ne (Ne.symm hj)] at e2
        obtain ⟨u', r', q⟩ := hl j y v' e1 e2 e3
        refine ⟨u', r', ?_⟩
        rcases q with ⟨k, e⟩ | ⟨k, c, e, z⟩
        · refine .inl ⟨k, ?_⟩
          have : y ≠ x := fun e => hj (nodup_ix hN e1 (e ▸ hi))
          simp [this, e]
        · exact .inr ⟨k, c, e, z.sameBut hs (cne y c e)⟩
    · obtain ⟨w', z⟩ := I.cell y c e
      exact ⟨w', z.sameBut hs (cne y c e)⟩
    · obtain ⟨e, n, ne, nf, d⟩ := I.pin p hp
      exact ⟨(hs.2 p.1 ne).trans e, n, ne, nf, d⟩
  · have hfn : X.fn x = true := by
      rcases hf with z | z
      · exact z
      · rw [z] at hk; cases hk
    obtain ⟨c, hc⟩ := I.ok.has x (.inl hk)
    obtain ⟨w', z⟩ := I.cell x c hc
    refine wpAny_storeName_cell I.ok.kind hk hc z (fun h' hc' hs => ?_)
    obtain ⟨oc, hoc, hocd⟩ := id z
    refine h { s with heap := h' } ⟨I.ok, I.os, I.bare, ⟨fun b o e n hb hx => ?_, fun b o e n hb hx => ?_, I.base.free, fun b o e hx => ?_, I.base.tups, I.base.frzs, I.base.tbls⟩, ⟨m, hn.sameBut hs (Ne.symm (cne x c hc)), fun j y v' e1 e2 e3 => ?_⟩, fun y c' e => ?_, I.free, I.freeC, fun p hp => ?_, tracked ⟨oc, hoc, I.freeC x c hc⟩ hs, by simpa using I.len⟩ ⟨c, hs, .inr hc⟩
    · exact (hs.2 b (Nat.ne_of_lt (Nat.lt_of_lt_of_le (Heap.lt_size e) (I.ok.cab x c hfn hc)))).trans (I.base.keep b o e n hb hx)
    · obtain ⟨sl, e1⟩ := I.base.slot b o e n hb hx
      exact ⟨sl, (hs.2 b (Nat.ne_of_lt (Nat.lt_of_lt_of_le (Heap.lt_size e) (I.ok.cab x c hfn hc)))).trans e1⟩
    · obtain ⟨o', e1⟩ := I.base.there b o e hx
      exact ⟨o', (hs.2 b (Nat.ne_of_lt (Nat.lt_of_lt_of_le (Heap.lt_size e) (I.ok.cab x c hfn hc)))).trans e1⟩
    · by_cases hj : j = i
      · subst hj
        rw [hi] at e1; cases e1
        rw [List.getElem?_set_self hiσ] at e2
        cases e2
        exact ⟨u, r, .inr ⟨.inl hk, c, hc, hc'⟩⟩
      · rw [List.getElem?_set_ne (Ne.symm hj)] at e2
        obtain ⟨u', r', q⟩ := hl j y v' e1 e2 e3
        refine ⟨u', r', ?_⟩
        rcases q with q | ⟨k, c', e, z'⟩
        · exact .inl q
        · refine .inr ⟨k, c', e, z'.sameBut hs ?_⟩
          rintro rfl
          exact hj (nodup_ix hN e1 (I.ok.inj _ _ _ e hc ▸ hi))
    · by_cases hcc : c' = c
      · subst hcc; exact ⟨_, hc'⟩
      · obtain ⟨w2, z2⟩ := I.cell y c' e
        exact ⟨w2, z2.sameBut hs hcc⟩
    · obtain ⟨e, n, ne, nf, d⟩ := I.pin p hp
      refine ⟨(hs.2 p.1 ?_).trans e, n, ne, nf, d⟩
      intro q
      rw [q, hoc] at e
      have q' : oc = p.2 := Option.some.inj e
      exact d w' (by rw [← q']; exact hocd)
theorem store_ok {M : Model} {A : Around} {E : Value → Shared → Prop} {i : Nat} {x : Str} {v : V} {u : Value} {Q : Unit → Shared → Prop} (I : Inv X pins σ H s) (hN : X.N.Nodup) (hi : X.N[i]? = some x) (hx : Loc X.env.scope x) (r : RelV v u)
    (h : ∀ s', Inv X pins (σ.set i (some v)) H s' → Q () s') (hf : X.fn x = true ∨ X.env.scope.names.lookup x = some .local := by first | exact .inl rfl | exact .inr rfl | assumption) : wpAny M A (storeName X.env x u) Q E s :=
  store_ok2 I hN hi hx r (fun s' I' _ => h s' I') hf
/-- behind a call or a block, the state as it is -/
theorem Inv.call' {s' : Shared} {ch : List Addr} (I : Inv X pins σ H s) (ho : s'.os = s.os) (u : Un (frs X.stack) ch H H' s.heap s'.heap) (hok : HOk X.prog X.w H' s'.heap) (hg : AllBare s'.gens)
    (hch : ∀ b ∈ ch, (b ∈ X.ex ∨ X.s_0.heap.objs.size ≤ b) ∧ b ≠ X.env.locals ∧ (∀ x c, X.env.cells.lookup x = some c → c ≠ b) ∧ ∀ p ∈ X.pn ++ pins, p.1 ≠ b) : Inv X pins σ H' s' := by
  obtain ⟨h', g', d', t', o'⟩ := s'
  have e : o' = s.os := ho
  subst e
  exact I.call (g' := g') (t' := t') (d' := d') u hok hg hch
end

/-! ### the judgements -/
/-- an exception: its class, its own dict's address (where it has one), the abstract heap behind it -/
abbrev XK := Value → Option Addr → Hp → Prop
abbrev St := List (Option V)
abbrev VK := V → Hp → Prop
/-- an expression's reading; a test's; an argument list's -/
abbrev TE := St → Hp → VK → Prop
abbrev TT := St → Hp → (Bool → Hp → Prop) → Prop
abbrev TA := St → Hp → (List V → Hp → Prop) → Prop
/-- what is wanted behind a statement -/
structure Ends where
  nx : St → Hp → Prop
  rt : VK
  bk : St → Hp → Prop := fun _ _ => False
  ct : St → Hp → Prop := fun _ _ => False
abbrev TS := Ends → St → Hp → Prop

def EP (X : Cx) (pins : List (Addr × Obj)) (σ : St) (Q : VK) (u : Value) (s' : Shared) : Prop := ∃ v H', Inv X pins σ H' s' ∧ RelV v u ∧ Q v H'
def TP (X : Cx) (pins : List (Addr × Obj)) (σ : St) (Q : Bool → Hp → Prop) (b : Bool) (s' : Shared) : Prop := ∃ H', Inv X pins σ H' s' ∧ Q b H'
def AP (X : Cx) (pins : List (Addr × Obj)) (σ : St) (Q : List V → Hp → Prop) (us : List Value) (s' : Shared) : Prop := ∃ vs H', Inv X pins σ H' s' ∧ Vals vs us ∧ Q vs H'
def SP (X : Cx) (pins : List (Addr × Obj)) (D : Ends) (f : Flow) (s' : Shared) : Prop :=
  match f with
  | .next => ∃ σ' H', Inv X pins σ' H' s' ∧ D.nx σ' H'
  | .brk => ∃ σ' H', Inv X pins σ' H' s' ∧ D.bk σ' H'
  | .cont => ∃ σ' H', Inv X pins σ' H' s' ∧ D.ct σ' H'
  | .ret u => ∃ v σ' H', Inv X pins σ' H' s' ∧ RelV v u ∧ D.rt v H'

def PE (X : Cx) (e : Expr) (t : TE) : Prop :=
  ∀ (pins : List (Addr × Obj)) (s : Shared) (σ : St) (H : Hp) (Q : VK), Inv X pins σ H s → t σ H Q → wpAny (model X.prog X.w) X.A (eval e X.env) (EP X pins σ Q) X.xe s
def PT (X : Cx) (e : Expr) (t : TT) : Prop :=
  ∀ (pins : List (Addr × Obj)) (s : Shared) (σ : St) (H : Hp) (Q : Bool → Hp → Prop), Inv X pins σ H s → t σ H Q → wpAny (model X.prog X.w) X.A (isTrue e X.env (eval e X.env)) (TP X pins σ Q) X.xe s
/-- a test whatever its 'whole' is (and, or) -/
def PW (X : Cx) (e : Expr) (t : TT) : Prop :=
  ∀ (whole : Sem Value) (pins : List (Addr × Obj)) (s : Shared) (σ : St) (H : Hp) (Q : Bool → Hp → Prop), Inv X pins σ H s → t σ H Q → wpAny (model X.prog X.w) X.A (isTrue e X.env whole) (TP X pins σ Q) X.xe s
theorem PW.pt {X : Cx} {e : Expr} {t : TT} (h : PW X e t) : PT X e t := h _
/-- an argument list (no star), from the left -/
def PA (X : Cx) (es : List Expr) (t : TA) : Prop :=
  ∀ (pos : Pos) (pins : List (Addr × Obj)) (s : Shared) (σ : St) (H : Hp) (Q : List V → Hp → Prop), Inv X pins σ H s → t σ H Q → wpAny (model X.prog X.w) X.A (spliced (backTo pos (starEach es X.env))) (AP X pins σ Q) X.xe s
def PS (X : Cx) (st : Stmt) (t : TS) : Prop :=
  ∀ (pins : List (Addr × Obj)) (s : Shared) (σ : St) (H : Hp) (D : Ends), Inv X pins σ H s → t D σ H → wpAny (model X.prog X.w) X.A (exec st X.env) (SP X pins D) X.xe s
def PSs (X : Cx) (st : List Stmt) (t : TS) : Prop :=
  ∀ (pins : List (Addr × Obj)) (s : Shared) (σ : St) (H : Hp) (D : Ends), Inv X pins σ H s → t D σ H → wpAny (model X.prog X.w) X.A (execs st X.env) (SP X pins D) X.xe s
/-- weaken the end -/
theorem thn {α : Type} {t : Sem α} {Q Q' : α → Shared → Prop} {M : Model} {A : Around} {E : Value → Shared → Prop} {s : Shared} (h : wpAny M A t Q E s) (hQ : ∀ a s, Q a s → Q' a s) : wpAny M A t Q' E s := wpAny_mono h hQ fun _ _ x => x
end L2

namespace L2
open PySem PySem.Spec PyProof.Rows
section
variable {X : Cx}

/-- two expressions in a row -/
theorem bin {a b : Expr} {ta tb : TE} (ha : PE X a ta) (hb : PE X b tb) {pins : List (Addr × Obj)} {s : Shared} {σ : St} {H : Hp} {R : V → V → Hp → Prop} (I : Inv X pins σ H s) (h : ta σ H fun x H1 => tb σ H1 fun y H2 => R x y H2)
    {α : Type} {Q : α → Shared → Prop} {f : Value → Value → Sem α}
    (hf : ∀ v u s2 x y H2, Inv X pins σ H2 s2 → RelV x v → RelV y u → R x y H2 → wpAny (model X.prog X.w) X.A (f v u) Q X.xe s2) :
    wpAny (model X.prog X.w) X.A (eval a X.env) (fun v s₁ => wpAny (model X.prog X.w) X.A (eval b X.env) (fun u s₂ => wpAny (model X.prog X.w) X.A (f v u) Q X.xe s₂) X.xe s₁) X.xe s := by
  refine thn (ha pins s σ H _ I h) fun v s1 ⟨x, H1, I1, r1, q1⟩ => ?_
  refine thn (hb pins s1 σ H1 _ I1 q1) fun u s2 ⟨y, H2, I2, r2, q2⟩ => ?_
  exact hf v u s2 x y H2 I2 r1 r2 q2

/-! ### names and constants -/
def tVar (i : Nat) : TE := fun σ H Q => ∃ v, σ[i]? = some (some v) ∧ Q v H
def tC (v : V) : TE := fun _ H Q => Q v H
theorem pe_var {i : Nat} {x : Str} {pos : Pos} (hN : X.N[i]? = some x) (hv : Vis X.env.scope x) (hd : (x == ("__debug__" : Str)) = false := by decide) (hcd : (x == ("__classdict__" : Str)) = false := by decide) : PE X (.Name x pos) (tVar i) := by
  intro pins s σ H Q I h
  obtain ⟨v, e, h⟩ := h
  obtain ⟨m, hn, hl⟩ := I.loc
  obtain ⟨u, r, l⟩ := hl i x v hN e hv
  have fin : EP X pins σ Q u s := ⟨v, H, I, r, h⟩
  rcases l with ⟨hk, hm⟩ | ⟨hk, c, hc, hcell⟩
  · exact wpAny_Name (wpAny_loadName_local I.ok.kind hk hn hm fin) hd
  · rcases hk with hk | hk
    · exact wpAny_Name (wpAny_loadName_cell I.ok.kind hk hc hcell fin) hd
    · exact wpAny_Name (wpAny_loadName_free I.ok.kind hk hc hcell fin hcd) hd
theorem pe_int {i j pos} : PE X (.Constant (.int i) j pos) (tC (.int i)) := fun _ _ _ H _ I h => wpAny_Constant_int ⟨.int i, H, I.tok _, ⟨_, rfl⟩, h⟩
theorem pe_bl {b j pos} : PE X (.Constant (.bool b) j pos) (tC (.bl b)) := fun _ _ _ H _ I h => Constant_bool ⟨.bl b, H, I, rfl, h⟩
theorem pe_non {j pos} : PE X (.Constant .none j pos) (tC .non) := fun _ _ _ H _ I h => Constant_none ⟨.non, H, I, rfl, h⟩

/-- a global name of the def -/
def Gl (X : Cx) (x : Str) : Prop := X.env.kindOf x = some .globalImplicit
theorem ld_glob {E : Value → Shared → Prop} {pins : List (Addr × Obj)} {s : Shared} {σ : St} {H : Hp} {x : Str} {u : Value} {pos : Pos} {Q : Value → Shared → Prop} (I : Inv X pins σ H s) (hg : Gl X x) (hm : X.mg x = some u) (h : Q u s)
    (hd : (x == ("__debug__" : Str)) = false := by decide) : wpAny (model X.prog X.w) X.A (eval (.Name x pos) X.env) Q E s :=
  Calls.Name_function_global I.ok.kind hg (Calls.loadGlobal_global (by rw [I.ok.glob]; exact I.mod.glob.keeps I.bk) hm h) hd
theorem ld_blt {E : Value → Shared → Prop} {pins : List (Addr × Obj)} {s : Shared} {σ : St} {H : Hp} {x : Str} {u : Value} {pos : Pos} {Q : Value → Shared → Prop} (I : Inv X pins σ H s) (hg : Gl X x) (hm : X.mg x = none) (hv : bootBuiltins x = some u) (h : Q u s)
    (hn : x ≠ "__name__" := by decide) (hd : (x == ("__debug__" : Str)) = false := by decide) : wpAny (model X.prog X.w) X.A (eval (.Name x pos) X.env) Q E s := by
  obtain ⟨mb, h1, h2⟩ := I.mod.blt
  exact Calls.Name_function_global I.ok.kind hg (Calls.loadGlobal_builtin (by rw [I.ok.glob]; exact I.mod.glob.keeps I.bk) hm (by rw [I.ok.blt]; exact h1.keeps I.bk) ((h2 x hn).trans hv) h) hd
/-- a module's constant, a class, a function, as a value -/
theorem pe_glob {x : Str} {v : V} {u : Value} {pos : Pos} (hg : Gl X x) (hm : X.mg x = some u) (r : RelV v u) (hd : (x == ("__debug__" : Str)) = false := by decide) : PE X (.Name x pos) (tC v) :=
  fun _ _ _ H _ I h => ld_glob I hg hm ⟨v, H, I, r, h⟩ hd

/-! ### arithmetic -/
/-- two ints -/
def t2I (ta tb : TE) (k : Int → Int → Hp → Prop) : St → Hp → Prop := fun σ H => ta σ H fun x H1 => tb σ H1 fun y H2 => ∃ i j, x = .int i ∧ y = .int j ∧ k i j H2
def tAdd (ta tb : TE) : TE := fun σ H Q => t2I ta tb (fun i j H2 => Q (.int (i + j)) H2) σ H
def tSub (ta tb : TE) : TE := fun σ H Q => t2I ta tb (fun i j H2 => Q (.int (i - j)) H2) σ H
/-- the left factor below 2^64 -/
def tMul (ta tb : TE) : TE := fun σ H Q => t2I ta tb (fun i j H2 => (-(2 ^ 64) < i ∧ i < 2 ^ 64) ∧ Q (.int (i * j)) H2) σ H
variable {a b : Expr} {ta tb : TE} {pos : Pos}

/-! ### comparisons -/
def PC (X : Cx) (op : CmpOp) (a b : Expr) (t : TE) : Prop :=
  ∀ (pins : List (Addr × Obj)) (s : Shared) (σ : St) (H : Hp) (Q : VK), Inv X pins σ H s → t σ H Q →
    wpAny (model X.prog X.w) X.A (eval a X.env) (fun v s₁ => wpAny (model X.prog X.w) X.A (eval b X.env) (fun u s₂ => wpAny (model X.prog X.w) X.A (compareOp op v u) (EP X pins σ Q) X.xe s₂) X.xe s₁) X.xe s
theorem nobehind (b : Expr) {op : CmpOp} (h : op ≠ .In) (h2 : op ≠ .NotIn) : behindInMarks op b = false := by
  have e1 : (op == CmpOp.In) = false := by cases op <;> first | rfl | exact absurd rfl h
  have e2 : (op == CmpOp.NotIn) = false := by cases op <;> first | rfl | exact absurd rfl h2
  cases b <;> simp [behindInMarks, e1, e2]
def tCmp (p : Int → Int → Bool) (ta tb : TE) : TE := fun σ H Q => t2I ta tb (fun i j H2 => Q (.bl (p i j)) H2) σ H
abbrev tLt : TE → TE → TE := tCmp fun i j => decide (i < j)
abbrev tLe : TE → TE → TE := tCmp fun i j => decide (i ≤ j)
abbrev tGt : TE → TE → TE := tCmp fun i j => decide (j < i)
abbrev tGe : TE → TE → TE := tCmp fun i j => decide (j ≤ i)
abbrev tEqI : TE → TE → TE := tCmp fun i j => decide (i = j)
abbrev tNeI : TE → TE → TE := tCmp fun i j => !decide (i = j)
/-- a comparison of two ints, by its rule -/
theorem pc_int {op : CmpOp} {p : Int → Int → Bool} (ha : PE X a ta) (hb : PE X b tb)
    (rule : ∀ (i j : Int) (t u : Tok) (Q : Value → Shared → Prop) (s : Shared), Q (.bool (p i j)) s → wpAny (model X.prog X.w) X.A (compareOp op (.int i t) (.int j u)) Q X.xe s) : PC X op a b (tCmp p ta tb) := by
  intro pins s σ H Q I h
  refine bin ha hb I h fun v u s2 x y H2 I2 rx ry q => ?_
  obtain ⟨i, j, rfl, rfl, q⟩ := q
  obtain ⟨t, rfl⟩ := rx
  obtain ⟨t', rfl⟩ := ry
  exact rule i j t t' _ s2 ⟨.bl _, H2, I2, rfl, q⟩
theorem pc_lt (ha : PE X a ta) (hb : PE X b tb) : PC X .Lt a b (tLt ta tb) := pc_int ha hb fun _ _ _ _ _ _ h => lt_int h
theorem pc_le (ha : PE X a ta) (hb : PE X b tb) : PC X .LtE a b (tLe ta tb) := pc_int ha hb fun _ _ _ _ _ _ h => le_int h
theorem pc_gt (ha : PE X a ta) (hb : PE X b tb) : PC X .Gt a b (tGt ta tb) := pc_int ha hb fun _ _ _ _ _ _ h => gt_int h
theorem pc_ge (ha : PE X a ta) (hb : PE X b tb) : PC X .GtE a b (tGe ta tb) := pc_int ha hb fun _ _ _ _ _ _ h => ge_int h
theorem pc_eqI (ha : PE X a ta) (hb : PE X b tb) : PC X .Eq a b (tEqI ta tb) := pc_int ha hb fun _ _ _ _ _ _ h => eq_int (by rw [Bool.beq_eq_decide_eq]; exact h)
theorem pc_neI (ha : PE X a ta) (hb : PE X b tb) : PC X .NotEq a b (tNeI ta tb) := pc_int ha hb fun _ _ _ _ _ _ h => ne_int (by rw [bne, Bool.beq_eq_decide_eq]; exact h)
/-- is None -/
def tIsN (ta : TE) : TE := fun σ H Q => ta σ H fun x H1 => Q (.bl (decide (x = .non))) H1
def tNotN (ta : TE) : TE := fun σ H Q => ta σ H fun x H1 => Q (.bl (!decide (x = .non))) H1
theorem RelV.none_iff {x : V} {v : Value} (r : RelV x v) : (v == Value.none) = decide (x = .non) := by
  cases x with
  | non => cases r; rfl
  | bl _ => cases r; rfl
  | int _ => obtain ⟨t, rfl⟩ := r; rfl
  | str _ => obtain ⟨t, rfl⟩ := r; rfl
  | byt _ => obtain ⟨t, rfl⟩ := r; rfl
  | flt _ => obtain ⟨t, rfl⟩ := r; rfl
  | ref _ => cases r; rfl
  | ty _ => cases r; rfl
theorem pc_isN {j pos'} (ha : PE X a ta) : PC X .Is a (.Constant .none j pos') (tIsN ta) := by
  intro pins s σ H Q I h
  refine thn (ha pins s σ H _ I h) fun v s1 ⟨x, H1, I1, r1, q1⟩ => ?_
  exact Constant_none (is_none_gen ⟨.bl _, H1, I1, by rw [r1.none_iff]; rfl, q1⟩)
theorem pc_notN {j pos'} (ha : PE X a ta) : PC X .IsNot a (.Constant .none j pos') (tNotN ta) := by
  intro pins s σ H Q I h
  refine thn (ha pins s σ H _ I h) fun v s1 ⟨x, H1, I1, r1, q1⟩ => ?_
  exact Constant_none (isnot_none_gen ⟨.bl _, H1, I1, by rw [r1.none_iff]; rfl, q1⟩)
/-- a comparison as a value, as a test -/
def tB (t : TE) : TT := fun σ H Q => t σ H fun x H1 => ∃ c, x = .bl c ∧ Q c H1
theorem pe_cmp {op : CmpOp} {t : TE} (h : PC X op a b t) (h1 : behindInMarks op b = false := by first | exact nobehind _ (by decide) (by decide) | rfl) : PE X (.Compare a [op] [b] pos) t := fun pins s σ H Q I hw => wpAny_Compare1 (h pins s σ H Q I hw) h1
theorem pt_cmp {op : CmpOp} {t : TE} (h : PC X op a b t) (h1 : behindInMarks op b = false := by first | exact nobehind _ (by decide) (by decide) | rfl) : PT X (.Compare a [op] [b] pos) (tB t) := by
  intro pins s σ H Q I hw
  refine wpAny_isTrue_Compare1 (thn (h pins s σ H _ I hw) fun v s1 h1 => thn h1 fun u s2 h2 => thn h2 fun c s3 ⟨x, H1, I1, r1, q1⟩ => ?_) h1
  obtain ⟨d, rfl, q⟩ := q1
  cases r1
  exact wpAny_truthy_bool ⟨H1, I1, q⟩
/-- an expression whose value is a bool, as a test -/
theorem pt_val {e : Expr} {t : TE} (h : PE X e t) (he : ∀ whole, isTrue e X.env whole = (do let v ← whole; standAt e.pos; holding [v] (truthy v)) := by intro _; rfl) : PT X e (tB t) := by
  intro pins s σ H Q I hw
  refine isTrue_plain (thn (h pins s σ H _ I hw) fun v s1 ⟨x, H1, I1, r1, q1⟩ => ?_) (he _)
  obtain ⟨d, rfl, q⟩ := q1
  cases r1
  exact wpAny_truthy_bool ⟨H1, I1, q⟩

/-! ### and, or, not -/
variable {tA tB' : TT} {rest : List Expr}
def tAnd (t u : TT) : TT := fun σ H Q => t σ H fun c H1 => if c = true then u σ H1 Q else Q false H1
def tOr (t u : TT) : TT := fun σ H Q => t σ H fun c H1 => if c = true then Q true H1 else u σ H1 Q
def tNot (t : TT) : TT := fun σ H Q => t σ H fun c H1 => Q (!c) H1
theorem pw_or1 (ha : PT X a tA) : PW X (.BoolOp .Or [a] pos) tA := by
  intro wh pins s σ H Q I h
  refine isTrue_or (thn (ha pins s σ H Q I h) fun c s1 e => ?_)
  cases c with
  | false => exact isTrue_or_nil e
  | true => exact e
theorem pw_or (ha : PT X a tA) (hb : PW X (.BoolOp .Or (b :: rest) pos) tB') : PW X (.BoolOp .Or (a :: b :: rest) pos) (tOr tA tB') := by
  intro wh pins s σ H Q I h
  refine isTrue_or (thn (ha pins s σ H _ I h) fun c s1 ⟨H1, I1, q1⟩ => ?_)
  cases c with
  | true => exact ⟨H1, I1, q1⟩
  | false => exact hb wh pins s1 σ H1 Q I1 q1
theorem pt_not (ha : PT X a tA) : PT X (.UnaryOp .Not a pos) (tNot tA) := by
  intro pins s σ H Q I h
  exact isTrue_not (ha pins s σ H (fun c H1 => Q (!c) H1) I h)
/-- .. as values (bools) -/
def tAndV (ta tb : TE) : TE := fun σ H Q => ta σ H fun x H1 => ∃ c, x = .bl c ∧ if c = true then tb σ H1 Q else Q (.bl false) H1
def tOrV (ta tb : TE) : TE := fun σ H Q => ta σ H fun x H1 => ∃ c, x = .bl c ∧ if c = true then Q (.bl true) H1 else tb σ H1 Q
def tNotV (ta : TE) : TE := fun σ H Q => ta σ H fun x H1 => ∃ c, x = .bl c ∧ Q (.bl (!c)) H1
theorem pe_one {op} {t : TE} (h : PE X a t) : PE X (.BoolOp op [a] pos) t := fun pins s σ H Q I hw => BoolOp_one (h pins s σ H Q I hw)
theorem pe_and (ha : PE X a ta) (hb : PE X (.BoolOp .And (b :: rest) pos) tb) : PE X (.BoolOp .And (a :: b :: rest) pos) (tAndV ta tb) := by
  intro pins s σ H Q I h
  refine BoolOp_and (thn (ha pins s σ H _ I h) fun v s1 ⟨x, H1, I1, r1, q1⟩ => ?_)
  obtain ⟨c, rfl, q1⟩ := q1
  cases r1
  refine wpAny_truthy_bool ?_
  cases c with
  | true => exact hb pins s1 σ H1 Q I1 q1
  | false => exact ⟨.bl false, H1, I1, rfl, q1⟩
theorem pe_or (ha : PE X a ta) (hb : PE X (.BoolOp .Or (b :: rest) pos) tb) : PE X (.BoolOp .Or (a :: b :: rest) pos) (tOrV ta tb) := by
  intro pins s σ H Q I h
  refine BoolOp_or (thn (ha pins s σ H _ I h) fun v s1 ⟨x, H1, I1, r1, q1⟩ => ?_)
  obtain ⟨c, rfl, q1⟩ := q1
  cases r1
  refine wpAny_truthy_bool ?_
  cases c with
  | false => exact hb pins s1 σ H1 Q I1 q1
  | true => exact ⟨.bl true, H1, I1, rfl, q1⟩
/-- a if t else b -/
def tIf (t : TT) (ta tb : TE) : TE := fun σ H Q => t σ H fun c H1 => if c = true then ta σ H1 Q else tb σ H1 Q
theorem pe_ifExp {c : Expr} (hc : PT X c tA) (ha : PE X a ta) (hb : PE X b tb) : PE X (.IfExp c a b pos) (tIf tA ta tb) := by
  intro pins s σ H Q I h
  refine wpAny_IfExp (thn (hc pins s σ H _ I h) fun d s1 ⟨H1, I1, q1⟩ => ?_)
  cases d with
  | true => exact ha pins s1 σ H1 Q I1 q1
  | false => exact hb pins s1 σ H1 Q I1 q1
end
end L2

namespace L2
open PySem PySem.Spec PyProof.Rows

/-! ### a list, a tuple that is read: tracked, frozen, or an object of the module -/
def SqL (K : PySem.W.Frag) (H : Hp) (a : Addr) (xs : List V) : Prop :=
  Rd H a (.lst xs) ∨
    ∃ (o : Obj) (its : Array Value) (n : Nat), K.lookup a = some o ∧ o.cls = .type "list" ∧ o.dict = none ∧ o.data = .seq its n ∧ its.size ≤ sizeLine ∧ Vals xs its.toList
def SqT (K : PySem.W.Frag) (H : Hp) (a : Addr) (xs : List V) : Prop :=
  Rd H a (.tup xs) ∨
    ∃ (o : Obj) (its : Array Value) (n : Nat), K.lookup a = some o ∧ o.cls = .type "tuple" ∧ o.data = .seq its n ∧ its.size ≤ sizeLine ∧ Vals xs its.toList
def absV : Value → Option V
  | .none => some .non
  | .bool b => some (.bl b)
  | .int i _ => some (.int i)
  | .str x _ => some (.str x)
  | .bytes b _ => some (.byt b)
  | .float b _ => some (.flt b)
  | .ref a => some (.ref a)
  | .type n => some (.ty n)
  | _ => none
theorem RelV.abs {x : V} {u : Value} (r : RelV x u) : absV u = some x := by
  cases x with
  | non => cases r; rfl
  | bl _ => cases r; rfl
  | int _ => obtain ⟨t, rfl⟩ := r; rfl
  | str _ => obtain ⟨t, rfl⟩ := r; rfl
  | byt _ => obtain ⟨t, rfl⟩ := r; rfl
  | flt _ => obtain ⟨t, rfl⟩ := r; rfl
  | ref _ => cases r; rfl
  | ty _ => cases r; rfl
theorem RelV.inj {x y : V} {u : Value} (r : RelV x u) (q : RelV y u) : x = y := Option.some.inj (r.abs.symm.trans q.abs)
theorem Vals.inj : ∀ {xs ys : List V} {us : List Value}, Vals xs us → Vals ys us → xs = ys
  | _, _, _, .nil, .nil => rfl
  | _, _, _, .cons r t, .cons r' t' => by rw [r.inj r', Vals.inj t t']
section
variable {X : Cx} {pins : List (Addr × Obj)} {σ : St} {H : Hp} {s : Shared} {a : Addr} {xs ys : List V}
theorem SqL.of {K : PySem.W.Frag} (h : H a = some (.lst xs)) : SqL K H a xs := .inl (.inl h)
theorem SqT.of {K : PySem.W.Frag} (h : H a = some (.tup xs)) : SqT K H a xs := .inl (.inl h)
theorem Inv.list (I : Inv X pins σ H s) (h : SqL X.K H a xs) : ∃ its : List Value, Vals xs its ∧ PlainL s.heap a its.toArray ∧ xs.length ≤ sizeLine := by
  rcases h with h | ⟨o, its, n, hk, hc, hd, hs, hz, r⟩
  · obtain ⟨z, its, n, r, e⟩ := h.ok I.hok
    exact ⟨its, r, ⟨_, n, e, rfl, rfl, rfl⟩, z⟩
  · refine ⟨its.toList, r, ⟨o, n, I.kIn a o hk, hc, hd, by simpa using hs⟩, ?_⟩
    have e := r.length
    simp only [Array.length_toList] at e
    omega
theorem Inv.tuple (I : Inv X pins σ H s) (h : SqT X.K H a xs) : ∃ its : List Value, Vals xs its ∧ IsTup s.heap a its.toArray ∧ xs.length ≤ sizeLine := by
  rcases h with h | ⟨o, its, n, hk, hc, hs, hz, r⟩
  · obtain ⟨z, its, r, p⟩ := h.ok I.hok
    exact ⟨its, r, p, z⟩
  · refine ⟨its.toList, r, ⟨o, I.kIn a o hk, hc, n, by simpa using hs⟩, ?_⟩
    have e := r.length
    simp only [Array.length_toList] at e
    omega
theorem Inv.list_inj (I : Inv X pins σ H s) (h : SqL X.K H a xs) (h' : SqL X.K H a ys) : xs = ys := by
  obtain ⟨its, r, ⟨o, n, e, _, _, d⟩, _⟩ := I.list h
  obtain ⟨its', r', ⟨o', n', e', _, _, d'⟩, _⟩ := I.list h'
  rw [e] at e'; cases e'
  rw [d] at d'
  injection d' with d1 _
  have : its = its' := by simpa using congrArg Array.toList d1
  subst this
  exact r.inj r'
theorem Inv.tuple_inj (I : Inv X pins σ H s) (h : SqT X.K H a xs) (h' : SqT X.K H a ys) : xs = ys := by
  obtain ⟨its, r, ⟨o, e, _, n, d⟩, _⟩ := I.tuple h
  obtain ⟨its', r', ⟨o', e', _, n', d'⟩, _⟩ := I.tuple h'
  rw [e] at e'; cases e'
  rw [d] at d'
  injection d' with d1 _
  have : its = its' := by simpa using congrArg Array.toList d1
  subst this
  exact r.inj r'
end

/-! ### another wish about exceptions -/
abbrev Cx.wish (X : Cx) (E : Value → Shared → Prop) : Cx := { X with xe := E }
/-- no exception leaves -/
abbrev Cx.nox (X : Cx) : Cx := X.wish fun _ _ => False
theorem Cx.Ok.wish {X : Cx} (ok : X.Ok) (E : Value → Shared → Prop) : (X.wish E).Ok :=
  ⟨ok.mod, ok.kind, ok.glob, ok.blt, ok.above, ok.inj, ok.has, ok.cab, ok.hd, ok.frames, ok.stk, ok.exf, ok.bs, ok.bsz, ok.noex, ok.exfs, ok.funs, ok.frf⟩
theorem Cx.Ok.unwish {X : Cx} {E : Value → Shared → Prop} (ok : (X.wish E).Ok) : X.Ok :=
  ⟨ok.mod, ok.kind, ok.glob, ok.blt, ok.above, ok.inj, ok.has, ok.cab, ok.hd, ok.frames, ok.stk, ok.exf, ok.bs, ok.bsz, ok.noex, ok.exfs, ok.funs, ok.frf⟩
section
variable {X : Cx} {pins : List (Addr × Obj)} {σ : St} {H : Hp} {s : Shared} {E : Value → Shared → Prop}
theorem Inv.wish (I : Inv X pins σ H s) (E : Value → Shared → Prop) : Inv (X.wish E) pins σ H s := ⟨I.ok.wish E, I.os, I.bare, I.base, I.loc, I.cell, I.free, I.freeC, I.pin, I.hok, I.len⟩
theorem Inv.unwish (I : Inv (X.wish E) pins σ H s) : Inv X pins σ H s := ⟨I.ok.unwish, I.os, I.bare, I.base, I.loc, I.cell, I.free, I.freeC, I.pin, I.hok, I.len⟩
theorem SP.unwish {D : Ends} {f : Flow} {s' : Shared} (h : SP (X.wish E) pins D f s') : SP X pins D f s' := by
  cases f with
  | next => obtain ⟨σ', H', I, q⟩ := h; exact ⟨σ', H', I.unwish, q⟩
  | brk => obtain ⟨σ', H', I, q⟩ := h; exact ⟨σ', H', I.unwish, q⟩
  | cont => obtain ⟨σ', H', I, q⟩ := h; exact ⟨σ', H', I.unwish, q⟩
  | ret u => obtain ⟨v, σ', H', I, r, q⟩ := h; exact ⟨v, σ', H', I.unwish, r, q⟩
theorem PSs.nox {st : List Stmt} {t : TS} (h : PSs X.nox st t) : PSs X st t := fun pins s σ H D I hw =>
  wpAny_mono (h pins s σ H D (I.wish _) hw) (fun _ _ q => q.unwish) fun _ _ z => False.elim z
end

/-! ### blocks and small statements -/
section
variable {X : Cx} {st : Stmt} {rest : List Stmt} {t u : TS} {e : Expr} {te : TE} {pos : Pos}
def tNext : TS := fun D σ H => D.nx σ H
def tSeq (t u : TS) : TS := fun D σ H => t { D with nx := u D } σ H
theorem pss_nil : PSs X [] tNext := fun _ _ σ H _ I h => wpAny_execs_nil ⟨σ, H, I, h⟩
theorem pss_cons (h1 : PS X st t) (h2 : PSs X rest u) : PSs X (st :: rest) (tSeq t u) := by
  intro pins s σ H D I h
  refine wpAny_execs_cons (thn (h1 pins s σ H { D with nx := u D } I h) fun f s1 q => ?_)
  cases f with
  | next =>
    obtain ⟨σ', H', I', q⟩ := q
    exact h2 pins s1 σ' H' D I' q
  | ret v => exact q
  | brk => exact q
  | cont => exact q
theorem pss_one (h1 : PS X st t) : PSs X [st] t := by
  intro pins s σ H D I h
  refine wpAny_execs_cons (thn (h1 pins s σ H D I h) fun f s1 q => ?_)
  cases f with
  | next => exact wpAny_execs_nil q
  | ret v => exact q
  | brk => exact q
  | cont => exact q
def tBreak : TS := fun D σ H => D.bk σ H
def tCont : TS := fun D σ H => D.ct σ H
theorem ps_break : PS X (.Break pos) tBreak := fun _ _ σ H _ I h => wpAny_Break ⟨σ, H, I, h⟩
theorem ps_continue : PS X (.Continue pos) tCont := fun _ _ σ H _ I h => wpAny_Continue ⟨σ, H, I, h⟩
/-- an expression whose value is dropped -/
def tDrop (te : TE) : TS := fun D σ H => te σ H fun _ H1 => D.nx σ H1
def tRet (te : TE) : TS := fun D σ H => te σ H D.rt
theorem ps_ret (he : PE X e te) : PS X (.Return (some e) pos) (tRet te) := by
  intro pins s σ H D I h
  exact wpAny_Return_some (thn (he pins s σ H _ I h) fun v s1 ⟨x, H1, I1, r1, q1⟩ => ⟨x, σ, H1, I1, r1, q1⟩)
def tRetN : TS := fun D _ H => D.rt .non H
def tIfS (c : TT) (t u : TS) : TS := fun D σ H => c σ H fun b H1 => if b = true then t D σ H1 else u D σ H1
theorem ps_if {c : Expr} {a b : List Stmt} {tc : TT} (hc : PT X c tc) (ha : PSs X a t) (hb : PSs X b u) : PS X (.If c a b pos) (tIfS tc t u) := by
  intro pins s σ H D I h
  refine wpAny_If (thn (hc pins s σ H _ I h) fun d s1 ⟨H1, I1, q1⟩ => ?_)
  cases d with
  | true => exact ha pins s1 σ H1 D I1 q1
  | false => exact hb pins s1 σ H1 D I1 q1
/-- code that the proof never comes to -/
def tNever : TS := fun _ _ _ => False
end

/-! ### targets -/
abbrev TG := V → St → Hp → (St → Hp → Prop) → Prop
abbrev TGs := List V → St → Hp → (St → Hp → Prop) → Prop
def PG (X : Cx) (target : Expr) (t : TG) : Prop :=
  ∀ (pins : List (Addr × Obj)) (s : Shared) (σ : St) (H : Hp) (v : V) (u : Value) (Q : St → Hp → Prop), Inv X pins σ H s → RelV v u → t v σ H Q →
    wpAny (model X.prog X.w) X.A (assign target X.env u) (fun _ s' => ∃ σ' H', Inv X pins σ' H' s' ∧ Q σ' H') X.xe s
/-- several targets, one after another -/
def PGs (X : Cx) (ts : List Expr) (t : TGs) : Prop :=
  ∀ (pins : List (Addr × Obj)) (s : Shared) (σ : St) (H : Hp) (vs : List V) (us : List Value) (Q : St → Hp → Prop), Inv X pins σ H s → Vals vs us → t vs σ H Q →
    wpAny (model X.prog X.w) X.A (assignInOrder ((assignEach ts X.env).map (·.2)) us) (fun _ s' => ∃ σ' H', Inv X pins σ' H' s' ∧ Q σ' H') X.xe s
/-- o[i] = v, by values -/
abbrev TSet := V → V → V → Hp → (Hp → Prop) → Prop
def PSet (X : Cx) (t : TSet) : Prop :=
  ∀ (pins : List (Addr × Obj)) (s : Shared) (σ : St) (H : Hp) (o i v : V) (ov iv u : Value) (Q : Hp → Prop), Inv X pins σ H s → RelV o ov → RelV i iv → RelV v u → t o i v H Q →
    wpAny (model X.prog X.w) X.A (setItem ov iv u) (fun _ s' => ∃ H', Inv X pins σ H' s' ∧ Q H') X.xe s
/-- a op= b, by values -/
abbrev TIp := V → V → Hp → VK → Prop
def PIp (X : Cx) (op : Operator) (t : TIp) : Prop :=
  ∀ (pins : List (Addr × Obj)) (s : Shared) (σ : St) (H : Hp) (x y : V) (v u : Value) (Q : VK), Inv X pins σ H s → RelV x v → RelV y u → t x y H Q →
    wpAny (model X.prog X.w) X.A (inplaceOp op v u) (EP X pins σ Q) X.xe s
section
variable {X : Cx} {pos : Pos}
def gName (i : Nat) : TG := fun v σ H Q => Q (σ.set i (some v)) H
theorem pg_name {i : Nat} {x : Str} (hN : X.N.Nodup) (hi : X.N[i]? = some x) (hx : Loc X.env.scope x) (hf : X.fn x = true ∨ X.env.scope.names.lookup x = some .local := by first | exact .inl rfl | exact .inr rfl | assumption) : PG X (.Name x pos) (gName i) := by
  intro pins s σ H v u Q I r h
  exact wpAny_assign_Name (store_ok I hN hi hx r (fun s' I' => ⟨_, H, I', h⟩) hf)
def gNil : TGs := fun vs σ H Q => vs = [] ∧ Q σ H
def gCons (t : TG) (u : TGs) : TGs := fun vs σ H Q => ∃ v r, vs = v :: r ∧ t v σ H fun σ' H' => u r σ' H' Q
theorem pgs_nil : PGs X [] gNil := by
  intro pins s σ H vs us Q I r h
  obtain ⟨e, h⟩ := h
  subst e
  cases r
  exact assignInOrder_nil ⟨σ, H, I, h⟩
theorem pgs_cons {e : Expr} {es : List Expr} {t : TG} {u : TGs} (h1 : PG X e t) (h2 : PGs X es u)
    (hs : (assignEach (e :: es) X.env).map (·.2) = assign e X.env :: (assignEach es X.env).map (·.2) := by rfl) : PGs X (e :: es) (gCons t u) := by
  intro pins s σ H vs us Q I r h
  obtain ⟨v, vr, e1, h⟩ := h
  subst e1
  cases r with
  | cons r rr =>
    rw [hs]
    refine assignInOrder_cons (thn (h1 pins s σ H _ _ _ I r h) fun _ s1 ⟨σ1, H1, I1, q1⟩ => ?_)
    exact h2 pins s1 σ1 H1 _ _ Q I1 rr q1
/-- (a, b, ..) = a tuple of that length -/
def gTup (K : PySem.W.Frag) (n : Nat) (t : TGs) : TG := fun v σ H Q => ∃ a xs, v = .ref a ∧ SqT K H a xs ∧ xs.length = n ∧ t xs σ H Q
theorem pg_tup {es : List Expr} {k : Nat} {t : TGs} {n : Nat} (hc : X.calm = true) (h : PGs X es t)
    (hn : (assignEach es X.env).length = n := by rfl) (hst : (assignEach es X.env).findIdx? (·.1) = none := by rfl) : PG X (.Tuple es k pos) (gTup X.K n t) := by
  intro pins s σ H v u Q I r hw
  obtain ⟨a, xs, e1, hq, hl, hw⟩ := hw
  subst e1
  cases r
  obtain ⟨its, rv, ht, hz⟩ := I.tuple hq
  refine assign_Tuple_tuple (I.ok.hd hc) ht (by simp [hn, ← hl, rv.length]) hst fun h' hx => ?_
  have I1 : Inv X pins σ H { s with heap := h' } := I.kept (t' := s.toks) fun b o e => hx b o (Nat.ne_of_lt (Heap.lt_size e)) e
  exact h pins _ σ H xs _ Q I1 (by simpa using rv) hw
/-- o[i] = .. -/
def gSub (to ti : TE) (t : TSet) : TG := fun v σ H Q => to σ H fun o H1 => ti σ H1 fun i H2 => t o i v H2 fun H3 => Q σ H3
/-- target = value -/
def tAsg (te : TE) (g : TG) : TS := fun D σ H => te σ H fun x H1 => g x σ H1 D.nx
/-- name = value -/
theorem ps_set {i : Nat} {x : Str} {e : Expr} {te : TE} {pos' : Pos} (hN : X.N.Nodup) (hi : X.N[i]? = some x) (hx : Loc X.env.scope x) (he : PE X e te) (hs : swapsWith e (some (.Name x pos')) pos.line X.env = pure false := by rfl) (hf : X.fn x = true ∨ X.env.scope.names.lookup x = some .local := by first | exact .inl rfl | exact .inr rfl | assumption) :
    PS X (.Assign [.Name x pos'] e pos) (tAsg te (gName i)) := by
  intro pins s σ H D I h
  refine wpAny_Assign_Name (thn (he pins s σ H _ I h) fun v s1 ⟨y, H1, I1, r1, q1⟩ => ?_) hs
  exact store_ok I1 hN hi hx r1 (fun s2 I2 => ⟨_, H1, I2, q1⟩) hf
/-- a, b = x, y with plain local names: stored from the right; the pair itself is not tracked (the opening rows as in PyProof/Rows/TupAssign.lean:23) -/
def tPar (i j : Nat) (ta : TA) : TS := fun D σ H => ta σ H fun vs H1 => ∃ v w, vs = [v, w] ∧ D.nx ((σ.set i (some v)).set j (some w)) H1
/-- name op= e -/
def tAug (i : Nat) (te : TE) (ti : TIp) : TS := fun D σ H => ∃ x, σ[i]? = some (some x) ∧ te σ H fun y H1 => ti x y H1 fun z H2 => D.nx (σ.set i (some z)) H2
/-- o[i] op= e -/
def tAugS (to ti te : TE) (tget : V → V → Hp → VK → Prop) (tip : TIp) (tset : TSet) : TS := fun D σ H => to σ H fun o H1 => ti σ H1 fun i H2 => tget o i H2 fun x H3 => te σ H3 fun y H4 => tip x y H4 fun z H5 => tset o i z H5 fun H6 => D.nx σ H6
/-- o[i], by values -/
def PGet (X : Cx) (t : V → V → Hp → VK → Prop) : Prop :=
  ∀ (pins : List (Addr × Obj)) (s : Shared) (σ : St) (H : Hp) (o i : V) (ov iv : Value) (Q : VK), Inv X pins σ H s → RelV o ov → RelV i iv → t o i H Q →
    wpAny (model X.prog X.w) X.A (getItem ov iv) (EP X pins σ Q) X.xe s
theorem ps_augS {o i e : Expr} {to ti te : TE} {tget : V → V → Hp → VK → Prop} {tip : TIp} {tset : TSet} {op : Operator} {tpos : Pos} (ho : PE X o to) (hi : PE X i ti) (hg : PGet X tget) (he : PE X e te) (hp : PIp X op tip) (hs : PSet X tset)
    (ha : ∀ ov iv new, augStore i ov iv new = (do holding [new, ov, iv] (setItem ov iv new); release [new, ov, iv] []; pure .next) := by intros; rfl) : PS X (.AugAssign (.Subscript o i tpos) op e pos) (tAugS to ti te tget tip tset) := by
  intro pins s σ H D I h
  refine wpAny_AugAssign_SubscriptAny (thn (ho pins s σ H _ I h) fun ov s1 ⟨x1, H1, I1, r1, q1⟩ => ?_) ha
  refine thn (hi pins s1 σ H1 _ I1 q1) fun iv s2 ⟨x2, H2, I2, r2, q2⟩ => ?_
  refine thn (hg pins s2 σ H2 x1 x2 ov iv _ I2 r1 r2 q2) fun old s3 ⟨x3, H3, I3, r3, q3⟩ => ?_
  refine thn (he pins s3 σ H3 _ I3 q3) fun v s4 ⟨x4, H4, I4, r4, q4⟩ => ?_
  refine thn (hp pins s4 σ H4 x3 x4 old v _ I4 r3 r4 q4) fun new s5 ⟨x5, H5, I5, r5, q5⟩ => ?_
  exact thn (hs pins s5 σ H5 x1 x2 x5 ov iv new _ I5 r1 r2 r5 q5) fun _ s6 ⟨H6, I6, q6⟩ => ⟨σ, H6, I6, q6⟩
/-- ints -/
def ipI (f : Int → Int → Int) : TIp := fun x y H Q => ∃ i j, x = .int i ∧ y = .int j ∧ Q (.int (f i j)) H
theorem ip_add : PIp X .Add (ipI fun i j => i + j) := by
  intro pins s σ H x y v u Q I r1 r2 h
  obtain ⟨i, j, e1, e2, q⟩ := h
  subst e1; subst e2
  obtain ⟨t, rfl⟩ := r1
  obtain ⟨t', rfl⟩ := r2
  exact iadd_int ⟨.int _, H, I.tok _, ⟨_, rfl⟩, q⟩
end

/-! ### while -/
section
variable {X : Cx} {pos : Pos}
/-- the invariant W with its measure -/
def tWhile (c : TT) (tb : TS) : TS := fun D σ H => ∃ W : Nat → St → Hp → Prop, (∃ m, W m σ H) ∧ ∀ m σ H, W m σ H →
  c σ H fun b H1 => if b = true then ∃ N : St → Hp → Prop, (∀ σ' H', N σ' H' → ∃ m', m' < m ∧ W m' σ' H') ∧ tb { D with nx := N, ct := N, bk := D.nx } σ H1 else D.nx σ H1
end

/-! ### what a loop or a comprehension walks -/
/-- at turn i: it yields x (the heap may grow), or it stops -/
structure It where
  go : Nat → Hp → Prop
  yld : Nat → Hp → V → Hp → Prop
  stop : Nat → Hp → Prop
/-- the iterator's own objects may turn: they are not the frame's, not pinned, younger than the entry (or a comprehension's own) -/
def FpOk (X : Cx) (pins : List (Addr × Obj)) (H : Hp) (b : Addr) : Prop :=
  H b = none ∧ b ≠ X.env.locals ∧ b ∉ X.fs ∧ (b ∈ X.ex ∨ X.s_0.heap.objs.size ≤ b) ∧ (∀ x c, X.env.cells.lookup x = some c → c ≠ b) ∧ ∀ p ∈ X.pn ++ pins, p.1 ≠ b
theorem Inv.fpOk {X : Cx} {pins : List (Addr × Obj)} {σ : St} {H H' : Hp} {s : Shared} {b : Addr} (I : Inv X pins σ H s) (hb : s.heap.objs.size ≤ b) (hn : H' b = none) : FpOk X pins H' b := by
  refine ⟨hn, Nat.ne_of_gt (Nat.lt_of_lt_of_le I.lt hb), I.nofs hb, .inr (Nat.le_trans I.sz hb), fun x c e z => ?_, fun p hp z => ?_⟩
  · obtain ⟨v, q⟩ := I.cell x c e
    exact absurd (Nat.lt_of_lt_of_le q.lt (by rw [z]; exact hb)) (Nat.lt_irrefl _)
  · exact absurd (Nat.lt_of_lt_of_le (Heap.lt_size (I.pin p hp).1) (by rw [z]; exact hb)) (Nat.lt_irrefl _)
structure Turn (P : Program) (w : World) (K : PySem.W.Frag) (tg : Expr) (J : It) (fp : List Addr) (it : Addr) (tn : Nat → Heap → Prop) : Prop where
  mem : it ∈ fp
  obj : ∀ i h, tn i h → ∀ b ∈ fp, ∃ o, h.get? b = some o ∧ ∀ v, o.data ≠ .cell v
  keep : ∀ i h h', tn i h → (∀ b ∈ fp, ∀ o, h.get? b = some o → h'.get? b = some o) → tn i h'
  item : ∀ (X : Cx), X.prog = P → X.w = w → X.K = K → X.calm = true → ∀ (i : Nat) (pins : List (Addr × Obj)) (s : Shared) (σ : St) (H : Hp) (E : Value → Shared → Prop), Inv X pins σ H s → (∀ b ∈ fp, FpOk X pins H b) → tn i s.heap → J.go i H →
    wpAny (model P w) X.A (pyNext (.ref it)) (fun r s1 => ∃ u, r = some u ∧
      wpAny (model P w) X.A (letOwnedTupleGo tg (.ref it) u) (fun _ s2 => ∃ x H', Inv X pins σ H' s2 ∧ RelV x u ∧ J.yld i H x H' ∧ tn (i + 1) s2.heap ∧ ∀ b ∈ fp, H' b = none) E s1) E s
  done : ∀ (X : Cx), X.prog = P → X.w = w → X.K = K → X.calm = true → ∀ (i : Nat) (pins : List (Addr × Obj)) (s : Shared) (σ : St) (H : Hp) (E : Value → Shared → Prop), Inv X pins σ H s → (∀ b ∈ fp, FpOk X pins H b) → tn i s.heap → J.stop i H →
    wpAny (model P w) X.A (pyNext (.ref it)) (fun r s1 => r = none ∧ Inv X pins σ H s1) E s
  self : ∀ (A : Around) (i : Nat) (s : Shared) (Q : Value → Shared → Prop) (E : Value → Shared → Prop), tn i s.heap → Q (.ref it) s → wpAny (model P w) A (pyIter (.ref it)) Q E s
abbrev TI := St → Hp → (It → Hp → Prop) → Prop
/-- an iterator has come -/
def PIE (X : Cx) (pins : List (Addr × Obj)) (σ : St) (tg : Expr) (R : It → Hp → Prop) (itv : Value) (s2 : Shared) : Prop :=
  ∃ (it : Addr) (fp : List Addr) (tn : Nat → Heap → Prop) (J : It) (H' : Hp), itv = .ref it ∧ Inv X pins σ H' s2 ∧ Turn X.prog X.w X.K tg J fp it tn ∧ tn 0 s2.heap ∧ (∀ b ∈ fp, FpOk X pins H' b) ∧ R J H'
def PI (X : Cx) (tg iter : Expr) (wi : TI) : Prop :=
  ∀ (pins : List (Addr × Obj)) (s : Shared) (σ : St) (H : Hp) (R : It → Hp → Prop), Inv X pins σ H s → wi σ H R →
    wpAny (model X.prog X.w) X.A (eval iter X.env) (fun v s1 => wpAny (model X.prog X.w) X.A (pyIter v) (PIE X pins σ tg R) X.xe s1) X.xe s

/-- the step ahead of the store is nothing for an iterator that keeps no tuple -/
theorem go_of {M : Model} {A : Around} {E : Value → Shared → Prop} {s : Shared} {tg : Expr} {it : Addr} {u : Value} {o : Obj} {n : String} {vs : Array Value} {Q : Unit → Shared → Prop} (ho : s.heap.get? it = some o) (hc : o.cls = .type n) (hd : o.data = .fields vs)
    (hn : ["enumerate", "zip", "dict_itemiterator", "dict_reverseitemiterator", "odict_iterator", "itertools.zip_longest", "itertools.pairwise"].contains n = false) (hQ : Q () s) : wpAny M A (letOwnedTupleGo tg (.ref it) u) Q E s := by
  unfold letOwnedTupleGo
  cases tg <;> first
    | exact wpAny_pure hQ
    | (cases u <;> first
        | exact wpAny_pure hQ
        | (refine wpAny_bind (wpAny_load ho ?_)
           rw [hc, hd]
           show wpAny M A (if (["enumerate", "zip", "dict_itemiterator", "dict_reverseitemiterator", "odict_iterator", "itertools.zip_longest", "itertools.pairwise"].contains n && vs[0]? == some (rawInt _)) = true then _ else _) Q E s
           rw [if_neg (by intro h; rw [hn, Bool.false_and] at h; cases h)]
           exact wpAny_pure hQ))

/-- the list at a, as it stands at each turn (a loop may append to it) -/
def Itl (K : PySem.W.Frag) (a : Addr) : It :=
  ⟨fun i H => ∃ xs x, SqL K H a xs ∧ xs[i]? = some x, fun i H x H' => H' = H ∧ ∀ xs, SqL K H a xs → xs[i]? = some x, fun i H => ∃ xs, SqL K H a xs ∧ xs.length ≤ i⟩
def Itt (K : PySem.W.Frag) (a : Addr) : It :=
  ⟨fun i H => ∃ xs x, SqT K H a xs ∧ xs[i]? = some x, fun i H x H' => H' = H ∧ ∀ xs, SqT K H a xs → xs[i]? = some x, fun i H => ∃ xs, SqT K H a xs ∧ xs.length ≤ i⟩
/-- lo, lo + 1, .. (n of them) -/
def Itr (lo : Int) (n : Nat) : It := ⟨fun i _ => i < n, fun i H x H' => H' = H ∧ x = .int (lo + i), fun i _ => n ≤ i⟩
theorem turn_list {P : Program} {w : World} {K : PySem.W.Frag} {tg : Expr} (a it : Addr) : Turn P w K tg (Itl K a) [it] it (fun i h => h.IsListIter it a i) where
  mem := by simp
  obj := fun i h st b hb => by
    have e : b = it := by simpa using hb
    subst e
    obtain ⟨o, e, c, d⟩ := st
    exact ⟨o, e, fun v z => by rw [d] at z; cases z⟩
  keep := fun i h h' st k => st.at fun o e => k it (by simp) o e
  item := by
    intro X hP hw hK hc i pins s σ H E I hf st hg
    subst hP hw hK
    obtain ⟨xs, x, hq, hx⟩ := hg
    obtain ⟨its, rv, p, hz⟩ := I.list hq
    obtain ⟨u, hu, ru⟩ := rv.get hx
    obtain ⟨f0, f1, f2, f3, f4, f5⟩ := hf it (by simp)
    refine wpAny_pyNext_list_item st p.isList (x := u) (by simpa using hu) fun h' st' sb => ?_
    have I1 : Inv X pins σ H { s with heap := h' } := I.turned (t' := s.toks) (fun b o hb e => (sb.2 b hb).trans e) f0 f1 f3 f4 f5
    obtain ⟨o, e, c, d⟩ := id st'
    exact ⟨u, rfl, go_of (s := { s with heap := h' }) e c d (by decide) ⟨x, H, I1, ru, ⟨rfl, fun ys hy => by rw [I.list_inj hy hq]; exact hx⟩, st', fun b hb => (hf b hb).1⟩⟩
  done := by
    intro X hP hw hK hc i pins s σ H E I hf st hg
    subst hP hw hK
    obtain ⟨xs, hq, hx⟩ := hg
    obtain ⟨its, rv, p, hz⟩ := I.list hq
    obtain ⟨f0, f1, f2, f3, f4, f5⟩ := hf it (by simp)
    have hl := rv.length
    exact wpAny_pyNext_list_end (I.ok.hd hc) st p.isList (by simp; omega) fun h' eb => ⟨rfl, I.turned (t' := s.toks) (fun b o hb e => eb b o hb e) f0 f1 f3 f4 f5⟩
  self := fun _ _ _ _ _ st h => wpAny_pyIter_listiter st h
theorem turn_tuple {P : Program} {w : World} {K : PySem.W.Frag} {tg : Expr} (a it : Addr) : Turn P w K tg (Itt K a) [it] it (fun i h => h.IsTupleIter it a i) where
  mem := by simp
  obj := fun i h st b hb => by
    have e : b = it := by simpa using hb
    subst e
    obtain ⟨o, e, c, d⟩ := st
    exact ⟨o, e, fun v z => by rw [d] at z; cases z⟩
  keep := fun i h h' st k => st.at fun o e => k it (by simp) o e
  item := by
    intro X hP hw hK hc i pins s σ H E I hf st hg
    subst hP hw hK
    obtain ⟨xs, x, hq, hx⟩ := hg
    obtain ⟨its, rv, p, hz⟩ := I.tuple hq
    obtain ⟨u, hu, ru⟩ := rv.get hx
    obtain ⟨f0, f1, f2, f3, f4, f5⟩ := hf it (by simp)
    refine wpAny_pyNext_tuple_item st (show s.heap.IsTuple a its.toArray from p) (x := u) (by simpa using hu) fun h' st' sb => ?_
    have I1 : Inv X pins σ H { s with heap := h' } := I.turned (t' := s.toks) (fun b o hb e => (sb.2 b hb).trans e) f0 f1 f3 f4 f5
    obtain ⟨o, e, c, d⟩ := id st'
    exact ⟨u, rfl, go_of (s := { s with heap := h' }) e c d (by decide) ⟨x, H, I1, ru, ⟨rfl, fun ys hy => by rw [I.tuple_inj hy hq]; exact hx⟩, st', fun b hb => (hf b hb).1⟩⟩
  done := by
    intro X hP hw hK hc i pins s σ H E I hf st hg
    subst hP hw hK
    obtain ⟨xs, hq, hx⟩ := hg
    obtain ⟨its, rv, p, hz⟩ := I.tuple hq
    obtain ⟨f0, f1, f2, f3, f4, f5⟩ := hf it (by simp)
    have hl := rv.length
    exact wpAny_pyNext_tuple_end (I.ok.hd hc) st (show s.heap.IsTuple a its.toArray from p) (by simp; omega) fun h' eb => ⟨rfl, I.turned (t' := s.toks) (fun b o hb e => eb b o hb e) f0 f1 f3 f4 f5⟩
  self := fun _ _ _ _ _ st h => wpAny_pyIter_tupleiter st h
theorem turn_range {P : Program} {w : World} {K : PySem.W.Frag} {tg : Expr} (it : Addr) (lo : Int) (n : Nat) : Turn P w K tg (Itr lo n) [it] it (fun i h => IsRangeIter h it (lo + (i : Nat) * 1) ((n : Int) - (i : Nat)) 1) where
  mem := by simp
  obj := fun i h st b hb => by
    have e : b = it := by simpa using hb
    subst e
    exact ⟨_, st, fun v z => by
      have z' : Data.fields _ = Data.cell v := z
      cases z'⟩
  keep := fun i h h' st k => k it (by simp) _ st
  item := by
    intro X hP hw hK hc i pins s σ H E I hf st hg
    subst hP hw hK
    obtain ⟨f0, f1, f2, f3, f4, f5⟩ := hf it (by simp)
    have W := Walks.range (prog := X.prog) (w := X.w) (I.ok.hd hc) it lo 1 n
    refine W.item i s _ _ hg st fun v h' tk hv st' kk => ?_
    obtain ⟨t, rfl⟩ := hv
    have I1 : Inv X pins σ H { s with heap := h', toks := tk } := I.turned (fun b o hb e => kk b o (by simpa using hb) e) f0 f1 f3 f4 f5
    refine ⟨_, rfl, go_of (s := { s with heap := h', toks := tk }) (n := "range_iterator") st' rfl rfl (by decide) ⟨.int (lo + i), H, I1, ⟨t, ?_⟩, ⟨rfl, rfl⟩, st', fun b hb => (hf b hb).1⟩⟩
    rw [Int.mul_one]
  done := by
    intro X hP hw hK hc i pins s σ H E I hf st hg
    subst hP hw hK
    obtain ⟨f0, f1, f2, f3, f4, f5⟩ := hf it (by simp)
    exact wpAny_pyNext_range_end (I.ok.hd hc) st (by have : n ≤ i := hg; omega) fun h' eb => ⟨rfl, I.turned (t' := s.toks) (fun b o hb e => eb b o hb e) f0 f1 f3 f4 f5⟩
  self := fun _ _ _ _ _ st h => wpAny_pyIter_rangeiter st h
end L2

namespace L2
open PySem PySem.Spec PyProof.Rows
section
variable {X : Cx} {tg : Expr}
def iList (K : PySem.W.Frag) (tl : TE) : TI := fun σ H R => tl σ H fun x H1 => ∃ a, x = .ref a ∧ (∃ xs, SqL K H1 a xs) ∧ R (Itl K a) H1
def iTup (K : PySem.W.Frag) (tl : TE) : TI := fun σ H R => tl σ H fun x H1 => ∃ a, x = .ref a ∧ (∃ xs, SqT K H1 a xs) ∧ R (Itt K a) H1
theorem pi_list {l : Expr} {tl : TE} (hl : PE X l tl) : PI X tg l (iList X.K tl) := by
  intro pins s σ H R I h
  refine thn (hl pins s σ H _ I h) fun v s1 ⟨x, H1, I1, r1, q1⟩ => ?_
  obtain ⟨a, e, ⟨xs, hq⟩, q⟩ := q1
  subst e
  cases r1
  obtain ⟨its, rv, p, hz⟩ := I1.list hq
  refine wpAny_pyIter_list p.isList ?_
  refine ⟨s1.heap.objs.size, [s1.heap.objs.size], _, _, H1, rfl, I1.kept (t' := s1.toks) fun b o e => Heap.get?_push_of_some _ e, turn_list a _, ⟨_, Heap.get?_push_size _ rfl, rfl, rfl⟩, fun b hb => ?_, q⟩
  have e : b = s1.heap.objs.size := by simpa using hb
  subst e
  exact I1.fpOk (Nat.le_refl _) (I1.hok.fresh (Nat.le_refl _))
theorem pi_tup {l : Expr} {tl : TE} (hl : PE X l tl) : PI X tg l (iTup X.K tl) := by
  intro pins s σ H R I h
  refine thn (hl pins s σ H _ I h) fun v s1 ⟨x, H1, I1, r1, q1⟩ => ?_
  obtain ⟨a, e, ⟨xs, hq⟩, q⟩ := q1
  subst e
  cases r1
  obtain ⟨its, rv, p, hz⟩ := I1.tuple hq
  refine wpAny_pyIter_tuple (show s1.heap.IsTuple a its.toArray from p) ?_
  refine ⟨s1.heap.objs.size, [s1.heap.objs.size], _, _, H1, rfl, I1.kept (t' := s1.toks) fun b o e => Heap.get?_push_of_some _ e, turn_tuple a _, ⟨_, Heap.get?_push_size _ rfl, rfl, rfl⟩, fun b hb => ?_, q⟩
  have e : b = s1.heap.objs.size := by simpa using hb
  subst e
  exact I1.fpOk (Nat.le_refl _) (I1.hok.fresh (Nat.le_refl _))
/-- a range object just made, walked -/
theorem range_it {pins : List (Addr × Obj)} {σ : St} {H : Hp} {s : Shared} {R : It → Hp → Prop} {E : Value → Shared → Prop} {lo hi : Int} {t u v : Tok} {tk : Nat} (I : Inv X pins σ H s) (h1 : -(2 ^ 62) ≤ lo) (h2 : lo < 2 ^ 62) (h3 : -(2 ^ 62) ≤ hi) (h4 : hi < 2 ^ 62)
    (q : R (Itr lo (hi - lo).toNat) H) : wpAny (model X.prog X.w) X.A (pyIter (.ref s.heap.objs.size)) (PIE X pins σ tg R) E { s with heap := s.heap.push { cls := .type "range", data := .fields #[.int lo t, .int hi u, .int 1 v] }, toks := tk } := by
  refine wpAny_pyIter_range (IsRange.new ..) (small_one h1 h2 h3 h4) ?_
  have I1 : Inv X pins σ H { s with heap := s.heap.push { cls := .type "range", data := .fields #[.int lo t, .int hi u, .int 1 v] }, toks := tk } := I.kept fun b o e => Heap.get?_push_of_some _ e
  refine ⟨(s.heap.push { cls := .type "range", data := .fields #[.int lo t, .int hi u, .int 1 v] }).objs.size, [(s.heap.push { cls := .type "range", data := .fields #[.int lo t, .int hi u, .int 1 v] }).objs.size], _, _, H, rfl,
    I1.kept (t' := tk) fun b o e => Heap.get?_push_of_some _ e, turn_range _ lo (hi - lo).toNat, ?_, fun b hb => ?_, q⟩
  · have e1 : lo + ((0 : Nat) : Int) * 1 = lo := by simp
    have e2 : (((hi - lo).toNat : Nat) : Int) - ((0 : Nat) : Int) = Builtin.Range.rangeSize lo hi 1 := by rw [rangeSize_one]; split <;> omega
    show IsRangeIter _ _ (lo + ((0 : Nat) : Int) * 1) ((((hi - lo).toNat : Nat) : Int) - ((0 : Nat) : Int)) 1
    rw [e1, e2]
    exact Heap.get?_push_size _ rfl
  · have e : b = (s.heap.push { cls := .type "range", data := .fields #[.int lo t, .int hi u, .int 1 v] }).objs.size := by simpa using hb
    subst e
    exact I1.fpOk (Nat.le_refl _) (I1.hok.fresh (Nat.le_refl _))
def iRng1 (ta : TA) : TI := fun σ H R => ta σ H fun vs H1 => ∃ j : Int, vs = [.int j] ∧ -(2 ^ 62) ≤ j ∧ j < 2 ^ 62 ∧ R (Itr 0 j.toNat) H1
def iRng2 (ta : TA) : TI := fun σ H R => ta σ H fun vs H1 => ∃ i j : Int, vs = [.int i, .int j] ∧ (-(2 ^ 62) ≤ i ∧ i < 2 ^ 62 ∧ -(2 ^ 62) ≤ j ∧ j < 2 ^ 62) ∧ R (Itr i (j - i).toNat) H1
theorem pi_range1 {a : Expr} {ta : TA} {p pos : Pos} (hg : Gl X "range") (hm : X.mg "range" = none) (ha : PA X [a] ta) (hs : starEach [a] X.env = [(false, eval a X.env)] := by rfl) : PI X tg (.Call (.Name "range" p) [a] [] pos) (iRng1 ta) := by
  intro pins s σ H R I h
  refine Call_ (ld_blt I hg hm boot_range (PyProof.Rows.callWith_type1 (thn (ha pos pins s σ H _ I h) fun us s1 ⟨vs, H1, I1, r1, q1⟩ => ?_) hs rfl))
  obtain ⟨j, e, q1, q2, q⟩ := q1
  subst e
  cases r1 with
  | cons r rr =>
    cases rr
    obtain ⟨t, rfl⟩ := r
    exact call_range_1 (range_it I1 (by omega) (by omega) q1 q2 (by simpa using q))
theorem pi_range2 {a b : Expr} {ta : TA} {p pos : Pos} (hg : Gl X "range") (hm : X.mg "range" = none) (ha : PA X [a, b] ta) (hs : starEach [a, b] X.env = [(false, eval a X.env), (false, eval b X.env)] := by rfl) (hs2 : starEach [b] X.env = [(false, eval b X.env)] := by rfl) :
    PI X tg (.Call (.Name "range" p) [a, b] [] pos) (iRng2 ta) := by
  intro pins s σ H R I h
  refine Call_ (ld_blt I hg hm boot_range (PyProof.Rows.callWith_type1 (thn (ha pos pins s σ H _ I h) fun us s1 ⟨vs, H1, I1, r1, q1⟩ => ?_) (by rw [hs, hs2]) (by rw [hs2]; rfl)))
  obtain ⟨i, j, e, ⟨q1, q2, q3, q4⟩, q⟩ := q1
  subst e
  cases r1 with
  | cons r rr =>
    cases rr with
    | cons r' rr =>
      cases rr
      obtain ⟨t, rfl⟩ := r
      obtain ⟨t', rfl⟩ := r'
      exact call_range_2 (range_it I1 q1 q2 q3 q4 q)

/-! ### for -/
/-- W: the invariant by the turn and a measure; N: what the body is to reach -/
def tFor (wi : TI) (g : TG) (tb : TS) : TS := fun D σ H => wi σ H fun J H1 => ∃ W : Nat → Nat → St → Hp → Prop, (∃ m, W 0 m σ H1) ∧ ∀ i m σ H, W i m σ H →
  (J.stop i H ∧ D.nx σ H) ∨ (J.go i H ∧ ∃ N : St → Hp → Prop, (∀ σ' H', N σ' H' → ∃ m', m' < m ∧ W (i + 1) m' σ' H') ∧ ∀ x H', J.yld i H x H' → g x σ H' fun σ2 H2 => tb { D with nx := N, ct := N, bk := D.nx } σ2 H2)
/-- the records at fp as they stand -/
def pinsAt (fp : List Addr) (h : Heap) : List (Addr × Obj) := fp.filterMap fun b => (h.get? b).map fun o => (b, o)
theorem mem_pinsAt {fp : List Addr} {h : Heap} {b : Addr} {o : Obj} (hb : b ∈ fp) (e : h.get? b = some o) : (b, o) ∈ pinsAt fp h := List.mem_filterMap.mpr ⟨b, hb, by rw [e]; rfl⟩
theorem of_pinsAt {fp : List Addr} {h : Heap} {p : Addr × Obj} (hp : p ∈ pinsAt fp h) : p.1 ∈ fp ∧ h.get? p.1 = some p.2 := by
  obtain ⟨b, hb, e⟩ := List.mem_filterMap.mp hp
  cases q : h.get? b with
  | none => rw [q] at e; cases e
  | some o =>
    rw [q] at e
    have e' : (b, o) = p := Option.some.inj e
    subst e'
    exact ⟨hb, q⟩
theorem Inv.pinned {pins : List (Addr × Obj)} {σ : St} {H : Hp} {s : Shared} {fp : List Addr} (I : Inv X pins σ H s) (hf : ∀ b ∈ fp, FpOk X pins H b) (ho : ∀ b ∈ fp, ∃ o, s.heap.get? b = some o ∧ ∀ v, o.data ≠ .cell v) : Inv X (pins ++ pinsAt fp s.heap) σ H s :=
  I.pins_of fun p hp => (List.mem_append.mp hp).elim (fun z => I.pin p (List.mem_append_right _ z)) fun z => by
    obtain ⟨hb, e⟩ := of_pinsAt z
    obtain ⟨f0, f1, f2, _⟩ := hf p.1 hb
    obtain ⟨o, e', d⟩ := ho p.1 hb
    rw [e] at e'; cases e'
    exact ⟨e, f0, f1, f2, d⟩
theorem Inv.unpinned {pins pl : List (Addr × Obj)} {σ : St} {H : Hp} {s : Shared} (I : Inv X (pins ++ pl) σ H s) : Inv X pins σ H s := I.pins_of fun p hp => I.pin p (List.mem_append_right _ (List.mem_append_left _ hp))
theorem ps_for {iter : Expr} {body : List Stmt} {wi : TI} {g : TG} {tb : TS} {pos : Pos} (hp : PassesOwn (model X.prog X.w) X.A X.env X.xe) (hc : X.calm = true) (hi : PI X tg iter wi) (hg : PG X tg g) (hb : PSs X body tb)
    (hs : ∀ x, foldedSetIterable iter X.env x = pure x := by intro _; rfl) : PS X (.For tg iter body [] pos) (tFor wi g tb) := by
  intro pins s σ H D I h
  refine wpAny_For (thn (hi pins s σ H _ I h) fun v s1 h1 => thn h1 fun itv s2 h2 => ?_) hs
  obtain ⟨it, fp, tn, J, H2, e, I2, T, st2, f2, W, ⟨m0, w0⟩, turn⟩ := h2
  subst e
  -- what stays true of the iterator's objects through the loop
  have stat : ∀ {H' : Hp}, (∀ b ∈ fp, H' b = none) → ∀ b ∈ fp, FpOk X pins H' b := fun hn b hb => ⟨hn b hb, (f2 b hb).2⟩
  refine codeAny_forLoop_any (fun n s' => ∃ i σ' H', Inv X pins σ' H' s' ∧ tn i s'.heap ∧ (∀ b ∈ fp, H' b = none) ∧ W i n σ' H') ?_ m0 ⟨0, σ, H2, I2, st2, fun b hb => (f2 b hb).1, w0⟩
  rintro n s3 ⟨i, σ3, H3, I3, st3, fr3, w3⟩
  rcases turn i n σ3 H3 w3 with ⟨stop, qn⟩ | ⟨go, N, hN, step⟩
  · refine wpAny_passesOwn hp (thn (T.done X rfl rfl rfl hc i pins s3 σ3 H3 X.xe I3 (stat fr3) st3 stop) fun r s4 ⟨hr, I4⟩ => ?_)
    subst hr
    exact wpAny_execs_nil ⟨σ3, H3, I4, qn⟩
  · refine wpAny_passesOwn hp (thn (T.item X rfl rfl rfl hc i pins s3 σ3 H3 X.xe I3 (stat fr3) st3 go) fun r s4 ⟨u, hr, h4⟩ => ?_)
    subst hr
    refine wpAny_passesOwn hp (thn h4 fun _ s5 ⟨x, H5, I5, r5, y5, st5, fr5⟩ => ?_)
    have I5' := I5.pinned (stat fr5) (T.obj _ _ st5)
    refine wpAny_passesOwn hp (thn (hg _ s5 σ3 H5 x u _ I5' r5 (step x H5 y5)) fun _ s6 ⟨σ6, H6, I6, q6⟩ => ?_)
    refine wpAny_passesOwn hp (thn (hb _ s6 σ6 H6 _ I6 q6) fun f s7 q7 => ?_)
    have again : ∀ {σ7 : St} {H7 : Hp}, Inv X (pins ++ pinsAt fp s5.heap) σ7 H7 s7 → N σ7 H7 → ∃ m, m < n ∧ ∃ i σ' H', Inv X pins σ' H' s7 ∧ tn i s7.heap ∧ (∀ b ∈ fp, H' b = none) ∧ W i m σ' H' := fun {σ7 H7} I7 n7 => by
      obtain ⟨m', hm, w7⟩ := hN σ7 H7 n7
      refine ⟨m', hm, i + 1, σ7, H7, I7.unpinned, T.keep _ _ _ st5 fun b hb o e => (I7.pin (b, o) (List.mem_append_right _ (List.mem_append_right _ (mem_pinsAt hb e)))).1, fun b hb => ?_, w7⟩
      obtain ⟨o, e, d⟩ := T.obj _ _ st5 b hb
      exact (I7.pin (b, o) (List.mem_append_right _ (List.mem_append_right _ (mem_pinsAt hb e)))).2.1
    cases f with
    | next => obtain ⟨σ7, H7, I7, n7⟩ := q7; exact again I7 n7
    | cont => obtain ⟨σ7, H7, I7, n7⟩ := q7; exact again I7 n7
    | brk => obtain ⟨σ7, H7, I7, q7⟩ := q7; exact ⟨σ7, H7, I7.unpinned, q7⟩
    | ret v => obtain ⟨x7, σ7, H7, I7, r7, q7⟩ := q7; exact ⟨x7, σ7, H7, I7.unpinned, r7, q7⟩
end

/-! ### the forms one uses -/
/-- over a list that the body leaves as it is -/
theorem for_list {K : PySem.W.Frag} {a : Addr} {xs : List V} {g : TG} {tb : TS} {D : Ends} {σ : St} {H : Hp} (Pv : Nat → St → Hp → Prop) (h0 : Pv 0 σ H) (hl : ∀ i σ H, i ≤ xs.length → Pv i σ H → SqL K H a xs)
    (hs : ∀ i x σ H, xs[i]? = some x → Pv i σ H → g x σ H fun σ2 H2 => tb { D with nx := Pv (i + 1), ct := Pv (i + 1), bk := D.nx } σ2 H2) (hd : ∀ σ H, Pv xs.length σ H → D.nx σ H) :
    ∃ W : Nat → Nat → St → Hp → Prop, (∃ m, W 0 m σ H) ∧ ∀ i m σ H, W i m σ H →
      ((Itl K a).stop i H ∧ D.nx σ H) ∨ ((Itl K a).go i H ∧ ∃ N : St → Hp → Prop, (∀ σ' H', N σ' H' → ∃ m', m' < m ∧ W (i + 1) m' σ' H') ∧ ∀ x H', (Itl K a).yld i H x H' → g x σ H' fun σ2 H2 => tb { D with nx := N, ct := N, bk := D.nx } σ2 H2) := by
  refine ⟨fun i m σ H => m = xs.length - i ∧ i ≤ xs.length ∧ Pv i σ H, ⟨xs.length, by simp, Nat.zero_le _, h0⟩, ?_⟩
  rintro i m σ H ⟨rfl, hi, p⟩
  have q := hl i σ H hi p
  by_cases hlt : i < xs.length
  · refine .inr ⟨⟨xs, xs[i], q, by simp [hlt]⟩, Pv (i + 1), fun σ' H' p' => ⟨xs.length - (i + 1), by omega, rfl, hlt, p'⟩, fun x H' y => ?_⟩
    obtain ⟨e, y⟩ := y
    subst e
    exact hs i x σ _ (y xs q) p
  · have e : i = xs.length := by omega
    subst e
    exact .inl ⟨⟨xs, q, Nat.le_refl _⟩, hd σ H p⟩
theorem for_tup {K : PySem.W.Frag} {a : Addr} {xs : List V} {g : TG} {tb : TS} {D : Ends} {σ : St} {H : Hp} (Pv : Nat → St → Hp → Prop) (h0 : Pv 0 σ H) (hl : ∀ i σ H, i ≤ xs.length → Pv i σ H → SqT K H a xs)
    (hs : ∀ i x σ H, xs[i]? = some x → Pv i σ H → g x σ H fun σ2 H2 => tb { D with nx := Pv (i + 1), ct := Pv (i + 1), bk := D.nx } σ2 H2) (hd : ∀ σ H, Pv xs.length σ H → D.nx σ H) :
    ∃ W : Nat → Nat → St → Hp → Prop, (∃ m, W 0 m σ H) ∧ ∀ i m σ H, W i m σ H →
      ((Itt K a).stop i H ∧ D.nx σ H) ∨ ((Itt K a).go i H ∧ ∃ N : St → Hp → Prop, (∀ σ' H', N σ' H' → ∃ m', m' < m ∧ W (i + 1) m' σ' H') ∧ ∀ x H', (Itt K a).yld i H x H' → g x σ H' fun σ2 H2 => tb { D with nx := N, ct := N, bk := D.nx } σ2 H2) := by
  refine ⟨fun i m σ H => m = xs.length - i ∧ i ≤ xs.length ∧ Pv i σ H, ⟨xs.length, by simp, Nat.zero_le _, h0⟩, ?_⟩
  rintro i m σ H ⟨rfl, hi, p⟩
  have q := hl i σ H hi p
  by_cases hlt : i < xs.length
  · refine .inr ⟨⟨xs, xs[i], q, by simp [hlt]⟩, Pv (i + 1), fun σ' H' p' => ⟨xs.length - (i + 1), by omega, rfl, hlt, p'⟩, fun x H' y => ?_⟩
    obtain ⟨e, y⟩ := y
    subst e
    exact hs i x σ _ (y xs q) p
  · have e : i = xs.length := by omega
    subst e
    exact .inl ⟨⟨xs, q, Nat.le_refl _⟩, hd σ H p⟩
theorem for_range {lo : Int} {n : Nat} {g : TG} {tb : TS} {D : Ends} {σ : St} {H : Hp} (Pv : Nat → St → Hp → Prop) (h0 : Pv 0 σ H)
    (hs : ∀ i σ H, i < n → Pv i σ H → g (.int (lo + i)) σ H fun σ2 H2 => tb { D with nx := Pv (i + 1), ct := Pv (i + 1), bk := D.nx } σ2 H2) (hd : ∀ σ H, Pv n σ H → D.nx σ H) :
    ∃ W : Nat → Nat → St → Hp → Prop, (∃ m, W 0 m σ H) ∧ ∀ i m σ H, W i m σ H →
      ((Itr lo n).stop i H ∧ D.nx σ H) ∨ ((Itr lo n).go i H ∧ ∃ N : St → Hp → Prop, (∀ σ' H', N σ' H' → ∃ m', m' < m ∧ W (i + 1) m' σ' H') ∧ ∀ x H', (Itr lo n).yld i H x H' → g x σ H' fun σ2 H2 => tb { D with nx := N, ct := N, bk := D.nx } σ2 H2) := by
  refine ⟨fun i m σ H => m = n - i ∧ i ≤ n ∧ Pv i σ H, ⟨n, by simp, Nat.zero_le _, h0⟩, ?_⟩
  rintro i m σ H ⟨rfl, hi, p⟩
  by_cases hlt : i < n
  · refine .inr ⟨hlt, Pv (i + 1), fun σ' H' p' => ⟨n - (i + 1), by omega, rfl, hlt, p'⟩, fun x H' y => ?_⟩
    obtain ⟨e, y⟩ := y
    subst e y
    exact hs i σ _ hlt p
  · have e : i = n := by omega
    subst e
    exact .inl ⟨Nat.le_refl _, hd σ H p⟩
end L2

namespace L2
open PySem PySem.Spec PyProof.Rows

abbrev R2 := V → V → Hp → VK → Prop
/-- a two-place operation on values: f is binaryOp op, inplaceOp op or compareOp op -/
def OpR (X : Cx) (f : Value → Value → Sem Value) (r : R2) : Prop :=
  ∀ (pins : List (Addr × Obj)) (s : Shared) (σ : St) (H : Hp) (x y : V) (v u : Value) (Q : VK), Inv X pins σ H s → RelV x v → RelV y u → r x y H Q →
    wpAny (model X.prog X.w) X.A (f v u) (EP X pins σ Q) X.xe s
/-- a one-place operation -/
def UnR (X : Cx) (f : Value → Sem Value) (r : V → Hp → VK → Prop) : Prop :=
  ∀ (pins : List (Addr × Obj)) (s : Shared) (σ : St) (H : Hp) (x : V) (v : Value) (Q : VK), Inv X pins σ H s → RelV x v → r x H Q →
    wpAny (model X.prog X.w) X.A (f v) (EP X pins σ Q) X.xe s
/-- a call of a value that is known (a builtin, a type) with values -/
def CallR (X : Cx) (f : Value) (r : List V → Hp → VK → Prop) : Prop :=
  ∀ (pins : List (Addr × Obj)) (s : Shared) (σ : St) (H : Hp) (xs : List V) (us : List Value) (Q : VK), Inv X pins σ H s → Vals xs us → r xs H Q →
    wpAny (model X.prog X.w) X.A (call f us) (EP X pins σ Q) X.xe s
/-- a value's truth -/
def TruR (X : Cx) (r : V → Hp → (Bool → Hp → Prop) → Prop) : Prop :=
  ∀ (pins : List (Addr × Obj)) (s : Shared) (σ : St) (H : Hp) (x : V) (v : Value) (Q : Bool → Hp → Prop), Inv X pins σ H s → RelV x v → r x H Q →
    wpAny (model X.prog X.w) X.A (truthy v) (TP X pins σ Q) X.xe s

def tOp (r : R2) (ta tb : TE) : TE := fun σ H Q => ta σ H fun x H1 => tb σ H1 fun y H2 => r x y H2 Q
def tUn (r : V → Hp → VK → Prop) (ta : TE) : TE := fun σ H Q => ta σ H fun x H1 => r x H1 Q
/-- ints in, under C, and a value out -/
def rI (C : Int → Int → Prop) (g : Int → Int → V) : R2 := fun x y H Q => ∃ i j, x = .int i ∧ y = .int j ∧ C i j ∧ Q (g i j) H
def rI0 (g : Int → Int → V) : R2 := fun x y H Q => ∃ i j, x = .int i ∧ y = .int j ∧ Q (g i j) H
def rU (g : Int → V) : V → Hp → VK → Prop := fun x H Q => ∃ i, x = .int i ∧ Q (g i) H

section
variable {X : Cx} {a b c : Expr} {ta tb tc : TE} {pos : Pos}

theorem binT (ha : PE X a ta) (hb : PE X b tb) {pins : List (Addr × Obj)} {s : Shared} {σ : St} {H : Hp} {R : V → V → Hp → Prop} (I : Inv X pins σ H s)
    (h : ta σ H fun x H1 => tb σ H1 fun y H2 => R x y H2) {Q : Value → Shared → Prop} {f : Value → Value → Sem Value}
    (hf : ∀ v u s2 x y H2, Inv X pins σ H2 s2 → RelV x v → RelV y u → R x y H2 → wpAny (model X.prog X.w) X.A (f v u) Q X.xe s2) :
    wpAny (model X.prog X.w) X.A (eval a X.env) (fun v s₁ => wpAny (model X.prog X.w) X.A (eval b X.env) (fun u s₂ => wpAny (model X.prog X.w) X.A (f v u) Q X.xe s₂) X.xe s₁) X.xe s := by
  refine thn (ha pins s σ H _ I h) fun v s1 ⟨x, H1, I1, r1, q1⟩ => ?_
  refine thn (hb pins s1 σ H1 _ I1 q1) fun u s2 ⟨y, H2, I2, r2, q2⟩ => ?_
  exact hf v u s2 x y H2 I2 r1 r2 q2

theorem pe_op {op : Operator} {r : R2} (ho : OpR X (binaryOp op) r) (ha : PE X a ta) (hb : PE X b tb) : PE X (.BinOp a op b pos) (tOp r ta tb) := by
  intro pins s σ H Q I h
  exact wpAny_BinOp (binT ha hb I h fun v u s2 x y H2 I2 rx ry q => ho pins s2 σ H2 x y v u Q I2 rx ry q)
theorem pe_un {op : UnaryOp} {r : V → Hp → VK → Prop} (ho : UnR X (unaryOp op) r) (ha : PE X a ta) : PE X (.UnaryOp op a pos) (tUn r ta) := by
  intro pins s σ H Q I h
  exact UnaryOp_ (thn (ha pins s σ H _ I h) fun v s1 ⟨x, H1, I1, r1, q1⟩ => ho pins s1 σ H1 x v Q I1 r1 q1)

/-! ### ints -/
theorem opI {f : Value → Value → Sem Value} {C : Int → Int → Prop} {g : Int → Int → Int}
    (rule : ∀ (i j : Int) (t u : Tok) (s : Shared) (Q : Value → Shared → Prop) (E : Value → Shared → Prop), C i j → Q (.int (g i j) s.toks) { s with toks := s.toks + 1 } → wpAny (model X.prog X.w) X.A (f (.int i t) (.int j u)) Q E s) :
    OpR X f (rI C fun i j => .int (g i j)) := by
  intro pins s σ H x y v u Q I rx ry h
  obtain ⟨i, j, rfl, rfl, hc, q⟩ := h
  obtain ⟨t, rfl⟩ := rx
  obtain ⟨t', rfl⟩ := ry
  exact rule i j t t' s _ _ hc ⟨.int (g i j), H, I.tok _, ⟨_, rfl⟩, q⟩
theorem opI0 {f : Value → Value → Sem Value} {g : Int → Int → Int}
    (rule : ∀ (i j : Int) (t u : Tok) (s : Shared) (Q : Value → Shared → Prop) (E : Value → Shared → Prop), Q (.int (g i j) s.toks) { s with toks := s.toks + 1 } → wpAny (model X.prog X.w) X.A (f (.int i t) (.int j u)) Q E s) :
    OpR X f (rI0 fun i j => .int (g i j)) := by
  intro pins s σ H x y v u Q I rx ry h
  obtain ⟨i, j, rfl, rfl, q⟩ := h
  obtain ⟨t, rfl⟩ := rx
  obtain ⟨t', rfl⟩ := ry
  exact rule i j t t' s _ _ ⟨.int (g i j), H, I.tok _, ⟨_, rfl⟩, q⟩
theorem opB0 {f : Value → Value → Sem Value} {g : Int → Int → Bool}
    (rule : ∀ (i j : Int) (t u : Tok) (s : Shared) (Q : Value → Shared → Prop) (E : Value → Shared → Prop), Q (.bool (g i j)) s → wpAny (model X.prog X.w) X.A (f (.int i t) (.int j u)) Q E s) :
    OpR X f (rI0 fun i j => .bl (g i j)) := by
  intro pins s σ H x y v u Q I rx ry h
  obtain ⟨i, j, rfl, rfl, q⟩ := h
  obtain ⟨t, rfl⟩ := rx
  obtain ⟨t', rfl⟩ := ry
  exact rule i j t t' s _ _ ⟨.bl (g i j), H, I, rfl, q⟩

def CDiv (i j : Int) : Prop := 0 < j ∧ j < 1073741824
def CDivN (i j : Int) : Prop := j ≠ 0 ∧ j.natAbs < 1073741824
def CPow (i j : Int) : Prop := 0 ≤ j ∧ j ≤ 1000000 ∧ i.natAbs < 2 ^ 64
def CMul (i j : Int) : Prop := (-(2 ^ 64) < i ∧ i < 2 ^ 64) ∨ (-(2 ^ 64) < j ∧ j < 2 ^ 64)
theorem CMul.ok {i j : Int} (h : CMul i j) : IntMulOk i j := by
  rcases h with ⟨h1, h2⟩ | ⟨h1, h2⟩
  · exact .of_left (intBits_le_64 h1 h2)
  · exact .of_right (intBits_le_64 h1 h2)

theorem op_add : OpR X (binaryOp .Add) (rI0 fun i j => .int (i + j)) := opI0 fun _ _ _ _ _ _ _ q => add_int q
theorem op_sub : OpR X (binaryOp .Sub) (rI0 fun i j => .int (i - j)) := opI0 fun _ _ _ _ _ _ _ q => sub_int q
theorem op_mul : OpR X (binaryOp .Mult) (rI CMul fun i j => .int (i * j)) := opI fun _ _ _ _ _ _ _ hc q => mul_int q hc.ok
/-- // by a positive divisor -/
theorem op_fdiv : OpR X (binaryOp .FloorDiv) (rI CDiv fun i j => .int (i / j)) := opI fun i j _ _ _ _ _ hc q => by
  have h1 : (0 : Int) < j := hc.1
  have h2 : j < 1073741824 := hc.2
  exact floordiv_int (by omega) (by rw [Int.fdiv_eq_ediv_of_nonneg i (by omega)]; exact q) (.inl (PyProof.noPylong_small (by omega)))
/-- % by a positive divisor of any size -/
theorem op_mod : OpR X (binaryOp .Mod) (rI (fun _ j => 0 < j) fun i j => .int (i % j)) := opI fun i j _ _ _ _ _ hc q => by
  have h1 : (0 : Int) < j := hc
  exact mod_int' (by omega) (by rw [Int.fmod_eq_emod_of_nonneg i (by omega)]; exact q)


theorem unI {f : Value → Sem Value} {g : Int → Int}
    (rule : ∀ (i : Int) (t : Tok) (s : Shared) (Q : Value → Shared → Prop) (E : Value → Shared → Prop), Q (.int (g i) s.toks) { s with toks := s.toks + 1 } → wpAny (model X.prog X.w) X.A (f (.int i t)) Q E s) :
    UnR X f (rU fun i => .int (g i)) := by
  intro pins s σ H x v Q I rx h
  obtain ⟨i, rfl, q⟩ := h
  obtain ⟨t, rfl⟩ := rx
  exact rule i t s _ _ ⟨.int (g i), H, I.tok _, ⟨_, rfl⟩, q⟩
theorem un_neg : UnR X (unaryOp .USub) (rU fun i => .int (-i)) := unI fun _ _ _ _ _ q => neg_int q

/-! ### bools among ints: n += (a < b) -/
end

/-! ### comparisons -/
/-- the scalars that == tells apart as data does -/
def scal : V → V → Bool
  | .non, .non => true | .non, .int _ => true | .int _, .non => true | .non, .bl _ => true | .bl _, .non => true | .non, .str _ => true | .str _, .non => true
  | .int _, .int _ => true | .bl _, .bl _ => true | .str _, .str _ => true | .byt _, .byt _ => true
  | .int _, .str _ => true | .str _, .int _ => true | .bl _, .str _ => true | .str _, .bl _ => true
  | _, _ => false
def rEq : R2 := fun x y H Q => scal x y = true ∧ Q (.bl (decide (x = y))) H
def rNe : R2 := fun x y H Q => scal x y = true ∧ Q (.bl (!decide (x = y))) H


section
variable {X : Cx} {a b c : Expr} {ta tb tc : TE} {pos : Pos}

theorem op_lt : OpR X (compareOp .Lt) (rI0 fun i j => .bl (decide (i < j))) := opB0 fun _ _ _ _ _ _ _ q => lt_int q
theorem op_le : OpR X (compareOp .LtE) (rI0 fun i j => .bl (decide (i ≤ j))) := opB0 fun _ _ _ _ _ _ _ q => le_int q


/-- is, is not of two objects that are tracked lists or instances -/
def isObj : HO → Bool
  | .lst _ => true
  | .ins _ _ _ => true
  | _ => false


theorem nomark (b : Expr) {op : CmpOp} (h : op ≠ .In := by decide) (h2 : op ≠ .NotIn := by decide) : behindInMarks op b = false := by
  have e1 : (op == CmpOp.In) = false := by cases op <;> first | rfl | exact absurd rfl h
  have e2 : (op == CmpOp.NotIn) = false := by cases op <;> first | rfl | exact absurd rfl h2
  cases b <;> simp [behindInMarks, e1, e2]
/-- a comparison as a value; hm: nomark b, or (for in, not in) by with_unfolding_all rfl -/
theorem pe_cmpR {op : CmpOp} {r : R2} (ho : OpR X (compareOp op) r) (ha : PE X a ta) (hb : PE X b tb) (hm : behindInMarks op b = false) : PE X (.Compare a [op] [b] pos) (tOp r ta tb) := by
  intro pins s σ H Q I h
  exact wpAny_Compare1 (binT ha hb I h fun v u s2 x y H2 I2 rx ry q => ho pins s2 σ H2 x y v u Q I2 rx ry q) hm
/-- a reading of a value as a test -/
def tTest (t : TE) : TT := fun σ H Q => t σ H fun x H' => ∃ k, x = .bl k ∧ Q k H'
theorem pt_cmpR {op : CmpOp} {r : R2} (ho : OpR X (compareOp op) r) (ha : PE X a ta) (hb : PE X b tb) (hm : behindInMarks op b = false) : PT X (.Compare a [op] [b] pos) (tTest (tOp r ta tb)) := by
  intro pins s σ H Q I h
  refine wpAny_isTrue_Compare1 (thn (ha pins s σ H _ I h) fun v s1 ⟨x, H1, I1, r1, q1⟩ => thn (hb pins s1 σ H1 _ I1 q1) fun u s2 ⟨y, H2, I2, r2, q2⟩ =>
    thn (ho pins s2 σ H2 x y v u _ I2 r1 r2 q2) fun c s3 ⟨z, H3, I3, r3, k, e, q3⟩ => ?_) hm
  subst e
  cases r3
  exact wpAny_truthy_bool ⟨H3, I3, q3⟩
/-- a op1 b op2 c -/
def tChain (r r' : R2) (ta tb tc : TE) : TE := fun σ H Q => ta σ H fun x H1 => tb σ H1 fun y H2 => r x y H2 fun z H3 => ∃ k, z = .bl k ∧
  (if k = true then tc σ H3 fun w' H4 => r' y w' H4 Q else Q (.bl false) H3)
theorem pe_chain {op op' : CmpOp} {r r' : R2} (ho : OpR X (compareOp op) r) (ho' : OpR X (compareOp op') r') (ha : PE X a ta) (hb : PE X b tb) (hc : PE X c tc)
    (hm : lastMarks [op, op'] [b, c] = false := by with_unfolding_all rfl) : PE X (.Compare a [op, op'] [b, c] pos) (tChain r r' ta tb tc) := by
  intro pins s σ H Q I h
  refine Compare_chain (thn (ha pins s σ H _ I h) fun v s1 ⟨x, H1, I1, r1, q1⟩ => chain_link (thn (hb pins s1 σ H1 _ I1 q1) fun u s2 ⟨y, H2, I2, r2, q2⟩ =>
    thn (ho pins s2 σ H2 x y v u _ I2 r1 r2 q2) fun d s3 ⟨z, H3, I3, r3, k, e, q3⟩ => ?_)) hm
  subst e
  cases r3
  refine wpAny_truthy_bool ?_
  cases k with
  | false => exact ite_ff ⟨.bl false, H3, I3, rfl, q3⟩
  | true => exact ite_tt (chain_last (thn (hc pins s3 σ H3 _ I3 q3) fun w' s4 ⟨z', H4, I4, r4, q4⟩ => ho' pins s4 σ H4 y z' u w' Q I4 r2 r4 q4))
theorem pt_chain {op op' : CmpOp} {r r' : R2} (ho : OpR X (compareOp op) r) (ho' : OpR X (compareOp op') r') (ha : PE X a ta) (hb : PE X b tb) (hc : PE X c tc)
    (hm : lastMarks [op, op'] [b, c] = false := by with_unfolding_all rfl) : PT X (.Compare a [op, op'] [b, c] pos) (tTest (tChain r r' ta tb tc)) := by
  intro pins s σ H Q I h
  refine isTrue_chain (thn (ha pins s σ H _ I h) fun v s1 ⟨x, H1, I1, r1, q1⟩ => test_link (thn (hb pins s1 σ H1 _ I1 q1) fun u s2 ⟨y, H2, I2, r2, q2⟩ =>
    thn (ho pins s2 σ H2 x y v u _ I2 r1 r2 q2) fun d s3 ⟨z, H3, I3, r3, k, e, q3⟩ => ?_)) hm
  subst e
  cases r3
  refine wpAny_truthy_bool ?_
  cases k with
  | false =>
    obtain ⟨k', e', q'⟩ := q3
    cases e'
    exact ite_ff ⟨H3, I3, q'⟩
  | true =>
    refine ite_tt (test_last (thn (hc pins s3 σ H3 _ I3 q3) fun w' s4 ⟨z', H4, I4, r4, q4⟩ => thn (ho' pins s4 σ H4 y z' u w' _ I4 r2 r4 q4) fun d' s5 ⟨z2, H5, I5, r5, k2, e2, q5⟩ => ?_))
    subst e2
    cases r5
    exact wpAny_truthy_bool ⟨H5, I5, q5⟩

/-! ### truth -/
/-- a value's truth by the abstract heap -/
def TruV (K : PySem.W.Frag) (x : V) (H : Hp) (k : Bool) : Prop :=
  match x with
  | .non => k = false
  | .bl b => k = b
  | .int i => k = (i != 0)
  | .str y => y.length ≤ sizeLine ∧ k = ((y.length : Int) != 0)
  | .byt y => y.size ≤ sizeLine ∧ k = ((y.size : Int) != 0)
  | .ref p => (∃ xs, SqL K H p xs ∧ k = !xs.isEmpty) ∨ (∃ xs, SqT K H p xs ∧ k = !xs.isEmpty) ∨ ∃ kvs, H p = some (.dK kvs) ∧ k = !kvs.isEmpty
  | _ => False
theorem line63 : (sizeLine : Nat) < 2 ^ 63 := by rw [sizeLine_eq]; decide

/-! ### strs and bytes -/

def PlainIxT (b : Expr) : Prop := ∀ o i, subscripted b false o i = operate [o, i] (getItem o i)

/-! ### scalar builtins, by CallR -/
theorem vals1 {x : V} {us : List Value} (r : Vals [x] us) : ∃ u, us = [u] ∧ RelV x u := by
  cases r with
  | cons r1 r2 => cases r2; exact ⟨_, rfl, r1⟩
theorem vals2 {x y : V} {us : List Value} (r : Vals [x, y] us) : ∃ u w', us = [u, w'] ∧ RelV x u ∧ RelV y w' := by
  cases r with
  | cons r1 r2 =>
    cases r2 with
    | cons r3 r4 => cases r4; exact ⟨_, _, rfl, r1, r3⟩
theorem call_min2 (hc : X.calm = true) : CallR X (.builtin "min") (fun xs H Q => ∃ i j, xs = [.int i, .int j] ∧ Q (.int (if j < i then j else i)) H) := by
  intro pins s σ H xs us Q I r h
  obtain ⟨i, j, rfl, q⟩ := h
  obtain ⟨u, w', rfl, ⟨t, rfl⟩, ⟨t', rfl⟩⟩ := vals2 r
  refine min_two_ints (I.ok.hd hc) fun h' tk k => ⟨_, H, I.kept k, ?_, q⟩
  by_cases hj : j < i
  · rw [if_pos hj, if_pos hj]; exact ⟨_, rfl⟩
  · rw [if_neg hj, if_neg hj]; exact ⟨_, rfl⟩
/-- len of a str, a bytes, a list, a tuple -/
def LenV (K : PySem.W.Frag) (x : V) (H : Hp) (n : Nat) : Prop :=
  match x with
  | .str y => y.length ≤ sizeLine ∧ n = y.length
  | .byt y => y.size ≤ sizeLine ∧ n = y.size
  | .ref p => (∃ xs, SqL K H p xs ∧ n = xs.length) ∨ ∃ xs, SqT K H p xs ∧ n = xs.length
  | _ => False
end
end L2

namespace L2
open PySem PySem.Spec PyProof.Rows

/-! ### an instance, its attributes a map -/
structure ObjM (h : Heap) (x dx C : Addr) (mA : Str → Option Value) : Prop where
  obj : h.get? x = some (PySem.W.instObj C dx)
  ns : h.Ns1 dx mA
  ne : dx ≠ x



section
variable {prog : Program} {w : World} {A : Around} {E : Value → Shared → Prop} {s : Shared} {K : PySem.W.Frag} {x dx C f : Addr} {mA : Str → Option Value} {name : Str} {v : Value}





end

/-! ### the attributes as a list of pairs -/
def putF (f : Str) (v : V) : List (Str × V) → List (Str × V)
  | [] => [(f, v)]
  | (g, x) :: r => if g = f then (g, v) :: r else (g, x) :: putF f v r

theorem RelO.some_of {v : V} {o : Option Value} (r : RelO (some v) o) : ∃ u, o = some u ∧ RelV v u := by
  cases o with
  | none => exact (show False from r).elim
  | some u => exact ⟨u, rfl, r⟩

section
variable {P : Program} {w : World} {H H' : Hp} {h h' : Heap} {a C dx : Addr} {fs fs' : List (Str × V)}
end

/-! ### what of the text a class must have -/
structure Cls (K : PySem.W.Frag) (C : Addr) : Prop where
  pg : PySem.W.plainGet K C Str.empty = true
  hd : PySem.W.hasDictIn K C = true
  po : PySem.W.plainOver K C = true
  sa : PySem.W.findIn K (.ref C) "__setattr__" = some (some (.builtin "object.__setattr__"))
/-- no class of it has the name -/
def NoAttr (K : PySem.W.Frag) (C : Addr) (f : Str) : Prop := PySem.W.findIn K (.ref C) f = some none
/-- a constant of the class -/
structure Con (K : PySem.W.Frag) (C : Addr) (f : Str) (v : V) (u : Value) : Prop where
  at_ : PySem.W.findIn K (.ref C) f = some (some u)
  rel : RelV v u
  get : PySem.W.specialIn K u "__get__" = some none
  cp : PySem.W.copiedNames.contains f = false
/-- a method: a plain def of the class or of one above it -/
structure Meth (K : PySem.W.Frag) (C : Addr) (m : Str) (f : Addr) : Prop where
  at_ : PySem.W.findIn K (.ref C) m = some (some (.ref f))
  fn : PySem.W.isFn K (.ref f) = true
  kp : PySem.W.keepIn K (.ref f) = true

section
variable {X : Cx} {pins : List (Addr × Obj)} {σ : St} {H : Hp} {s : Shared} {a C dx : Addr} {fs : List (Str × V)} {f : Str} {v : V} {A : Around} {E : Value → Shared → Prop}






end

/-! ### readings and rules -/
/-- e.f, an attribute of the instance -/
def tFld (K : PySem.W.Frag) (ta : TE) (f : Str) : TE := fun σ H Q => ta σ H fun x H1 => ∃ a C dx fs v, x = .ref a ∧ H1 a = some (.ins C dx fs) ∧ Cls K C ∧ NoAttr K C f ∧ fs.lookup f = some v ∧ Q v H1
/-- e.f, a constant of the class -/
def tCon (K : PySem.W.Frag) (ta : TE) (f : Str) : TE := fun σ H Q => ta σ H fun x H1 => ∃ a C dx fs v u, x = .ref a ∧ H1 a = some (.ins C dx fs) ∧ Cls K C ∧ Con K C f v u ∧ fs.lookup f = none ∧ Q v H1
/-- e.f = value -/
def sFld (K : PySem.W.Frag) (ta tv : TE) (f : Str) : TS := fun D σ H => tv σ H fun y H1 => ta σ H1 fun x H2 => ∃ a C dx fs, x = .ref a ∧ H2 a = some (.ins C dx fs) ∧ Cls K C ∧ NoAttr K C f ∧ fs.length < 1000 ∧
  D.nx σ (upd H2 a (.ins C dx (putF f y fs)))
/-- an augmented operator on two values -/
def InOp (X : Cx) (op : Operator) (rd : V → V → Hp → VK → Prop) : Prop :=
  ∀ (pins : List (Addr × Obj)) (s : Shared) (σ : St) (H : Hp) (x y : V) (u v : Value) (Q : VK), Inv X pins σ H s → RelV x u → RelV y v → rd x y H Q → wpAny (model X.prog X.w) X.A (inplaceOp op u v) (EP X pins σ Q) X.xe s
/-- e.f op= value -/
def sFldAug (K : PySem.W.Frag) (ta tv : TE) (rd : V → V → Hp → VK → Prop) (f : Str) : TS := fun D σ H => ta σ H fun x H1 => ∃ a C dx fs v, x = .ref a ∧ H1 a = some (.ins C dx fs) ∧ Cls K C ∧ NoAttr K C f ∧ fs.lookup f = some v ∧
  tv σ H1 fun y H2 => rd v y H2 fun z H3 => ∃ dx' fs', H3 a = some (.ins C dx' fs') ∧ fs'.length < 1000 ∧ D.nx σ (upd H3 a (.ins C dx' (putF f z fs')))

section
variable {X : Cx} {o e value : Expr} {f : Str} {pos pos' tpos : Pos} {ta tv : TE}
def rAdd : V → V → Hp → VK → Prop := fun x y H Q => ∃ i j, x = .int i ∧ y = .int j ∧ Q (.int (i + j)) H
def rSub : V → V → Hp → VK → Prop := fun x y H Q => ∃ i j, x = .int i ∧ y = .int j ∧ Q (.int (i - j)) H

end

/-! ### isinstance -/
section
variable {X : Cx} {pins : List (Addr × Obj)} {σ : St} {H : Hp} {s : Shared} {A : Around} {E : Value → Shared → Prop} {Q : Value → Shared → Prop} {c : Value} {b : Bool}
/-- the type of a value, as the fragment's deciders take it; for an instance its class -/
inductive TyOf (K : PySem.W.Frag) (H : Hp) : V → Value → Prop where
  | non : TyOf K H .non (.type "NoneType")
  | bl (x : Bool) : TyOf K H (.bl x) (.type "bool")
  | int (i : Int) : TyOf K H (.int i) (.type "int")
  | str (x : Str) : TyOf K H (.str x) (.type "str")
  | flt (x : UInt64) : TyOf K H (.flt x) (.type "float")
  | lst {a : Addr} {xs : List V} (e : H a = some (.lst xs)) : TyOf K H (.ref a) (.type "list")
  | frz {a : Addr} {o : Obj} {xs : List V} (e : H a = some (.frz o (.lst xs))) : TyOf K H (.ref a) (.type "list")
  | tup {a : Addr} {xs : List V} (e : H a = some (.tup xs)) : TyOf K H (.ref a) (.type "tuple")
  | dK {a : Addr} {kvs : List (Key × V)} (e : H a = some (.dK kvs)) : TyOf K H (.ref a) (.type "dict")
  | dT {a : Addr} {kvs : List (List Key × V)} (e : H a = some (.dT kvs)) : TyOf K H (.ref a) (.type "dict")
  | ins {a C dx : Addr} {fs : List (Str × V)} (e : H a = some (.ins C dx fs)) (cl : Cls K C) (ha : PySem.W.findIn K (.ref C) "__class__" = some (some (.builtin "object.__class__")))
      (hn : PySem.W.specialIn K (.builtin "object.__class__") "__get__" = some (some (.builtin "getset_descriptor.__get__"))) (htk : PySem.W.takesIn K (.builtin "object.__class__") = some true)
      (hm : PySem.W.mroIn K C (.type "object") = some true) : TyOf K H (.ref a) (.ref C)
end
end L2

namespace L2
open PySem PySem.Spec PyProof.Rows

/-! ### room -/
structure Room (k : Nat) (A : Around) : Prop where
  hd : A.handled = none
  dp : A.depth + 3 * k + 5 < recursionLimit
  un : A.units + 16 * k + 200 < cLine
theorem Room.mono {j k : Nat} {A : Around} (r : Room k A) (h : j ≤ k) : Room j A := ⟨r.hd, by have := r.dp; omega, by have := r.un; omega⟩
theorem Room.deeper {k : Nat} {A : Around} (r : Room (k + 1) A) (env : Env) : Room k (A.deeper env) :=
  ⟨r.hd, by have := r.dp; show A.depth + 1 + 3 * k + 5 < _; omega, by have := r.un; show A.units + 3 + 16 * k + 200 < _; omega⟩
theorem Room.depth {k : Nat} {A : Around} (r : Room k A) : A.depth < recursionLimit := by have := r.dp; omega
theorem Room.units {k : Nat} {A : Around} (r : Room k A) : A.units + 64 < cLine := by have := r.un; omega
theorem Room.units0 {k : Nat} {A : Around} (r : Room k A) : A.units < cLine := by have := r.un; omega

/-! ### argument lists and displays -/
def tNil : TA := fun _ H Q => Q [] H
def tCons (ta : TE) (tr : TA) : TA := fun σ H Q => ta σ H fun x H1 => tr σ H1 fun xs H2 => Q (x :: xs) H2
section
variable {X : Cx} {e : Expr} {es : List Expr} {te : TE} {t : TA} {pos : Pos}
theorem pa_nil : PA X [] tNil := fun _ _ _ _ H Q I h => Calls.spliced_nil ⟨[], H, I, .nil, h⟩
theorem pa_cons (ha : PE X e te) (hr : PA X es t) (hs : starEach (e :: es) X.env = (false, eval e X.env) :: starEach es X.env := by rfl) : PA X (e :: es) (tCons te t) := by
  intro pos pins s σ H Q I h
  rw [hs]
  show wpAny _ _ (spliced ((false, eval e X.env) :: backTo pos (starEach es X.env))) _ _ s
  refine Calls.spliced_cons (thn (ha pins s σ H _ I h) fun u s1 ⟨x, H1, I1, r1, q1⟩ => ?_)
  exact thn (hr pos pins s1 σ H1 _ I1 q1) fun us s2 ⟨xs, H2, I2, r2, q2⟩ => ⟨x :: xs, H2, I2, .cons r1 r2, q2⟩

/-- a tuple, a list of written items -/
def tTup (t : TA) : TE := fun σ H Q => t σ H fun xs H1 => xs.length ≤ sizeLine ∧ ∀ p, H1 p = none → Q (.ref p) (upd H1 p (.tup xs))
def tLst (t : TA) : TE := fun σ H Q => t σ H fun xs H1 => xs.length ≤ sizeLine ∧ ∀ p, H1 p = none → Q (.ref p) (upd H1 p (.lst xs))
theorem pe_tup {x1} (h : PA X es t) : PE X (.Tuple es x1 pos) (tTup t) := by
  intro pins s σ H Q I hq
  refine wpAny_Tuple_spliced (thn (h pos pins s σ H _ I hq) fun us s1 ⟨xs, H1, I1, r, z, q⟩ => ⟨by rw [← r.length]; exact z, ?_⟩)
  have hf : H1 s1.heap.objs.size = none := I1.hok.fresh (Nat.le_refl _)
  refine ⟨.ref s1.heap.objs.size, upd H1 s1.heap.objs.size (.tup xs), I1.laid (t' := s1.toks) (fun b u e => Heap.get?_push_of_some _ e) (Nat.le_refl _) ?_, rfl, q _ hf⟩
  exact ⟨z, us, r, ⟨_, Heap.get?_push_size _ rfl, rfl, _, rfl⟩⟩
theorem pe_lst (h : PA X es t) : PE X (.List es pos) (tLst t) := by
  intro pins s σ H Q I hq
  refine wpAny_List_spliced (thn (h pos pins s σ H _ I hq) fun us s1 ⟨xs, H1, I1, r, z, q⟩ => ⟨by rw [← r.length]; exact z, ?_⟩)
  have hf : H1 s1.heap.objs.size = none := I1.hok.fresh (Nat.le_refl _)
  refine ⟨.ref s1.heap.objs.size, upd H1 s1.heap.objs.size (.lst xs), I1.laid (t' := s1.toks) (fun b u e => Heap.get?_push_of_some _ e) (Nat.le_refl _) ?_, rfl, q _ hf⟩
  exact ⟨z, us, 0, r, Heap.get?_push_size _ rfl⟩
end

/-! ### what a def promises -/
/-- a def's promise: the bound arguments in the parameters' order, the heap, the wanted end, the wanted exception -/
abbrev Sp := List V → Hp → VK → XK → Prop
/-- how an exception lies behind a call (file 08 gives it): the callers' frames, abstract heap and state ahead of the call, the wish, the exception, the state -/
abbrev CXT := List Env → Hp → Shared → XK → Value → Shared → Prop

/-- the state at a call -/
structure Env0 (P : Program) (w : World) (K : PySem.W.Frag) (mg : Str → Option Value) (base : Heap) (A : Around) (outer : List Env) (s : Shared) (H : Hp) : Prop where
  frames : A.frames = some outer
  mod : Mod K mg base
  bs : ∀ b o, base.get? b = some o → s.heap.get? b = some o ∧ H b = none
  bsz : base.objs.size ≤ s.heap.objs.size
  funs : s.heap.FunFrames base outer
  frf : ∀ b ∈ frs outer, H b = none
  hok : HOk P w H s.heap
  bare : AllBare s.gens
/-- a call's end -/
def CE (outer : List Env) (P : Program) (w : World) (H : Hp) (s : Shared) (Q : VK) (u : Value) (s' : Shared) : Prop :=
  ∃ v H', s'.os = s.os ∧ AllBare s'.gens ∧ Un (frs outer) [] H H' s.heap s'.heap ∧ HOk P w H' s'.heap ∧ RelV v u ∧ Q v H'
def CR (CX : CXT) (outer : List Env) (P : Program) (w : World) (H : Hp) (s : Shared) (Q : VK) (E : XK) (r : Result) (s' : Shared) : Prop :=
  match r with
  | .ok (.ret u) => CE outer P w H s Q u s'
  | .ok _ => False
  | .error e => CX outer H s E e s'
structure FnOk (P : Program) (w : World) (K : PySem.W.Frag) (mg : Str → Option Value) (base : Heap) (CX : CXT) (k : Nat) (f : Addr) (fd : FuncData) (ps : List Str) (sp : Sp) : Prop where
  len : ∀ vs H Q E, sp vs H Q E → vs.length = ps.length
  run : ∀ (A : Around) (outer : List Env) (s : Shared) (H : Hp) (args : Args) (us : List Value) (vs : List V) (Q : VK) (E : XK), Room k A → Env0 P w K mg base A outer s H → BindsTo s fd args (ps.zip us) → Vals vs us → sp vs H Q E →
    codeAny (model P w) A (.call (.ref f) args) (CR CX outer P w H s Q E) s


section
variable {X : Cx} {pins : List (Addr × Obj)} {σ : St} {H : Hp} {s s' : Shared}
/-- from a body: what a callee wants -/
theorem Inv.env0 (I : Inv X pins σ H s) : Env0 X.prog X.w X.K X.mg X.base X.A X.stack s H :=
  ⟨I.ok.frames, I.ok.mod, I.bs, Nat.le_trans I.ok.bsz I.sz, I.stack, I.stkFree, I.hok, I.bare⟩
/-- behind a call -/
theorem Inv.after {Q : VK} {u : Value} (I : Inv X pins σ H s) (h : CE X.stack X.prog X.w H s Q u s') : EP X pins σ Q u s' := by
  obtain ⟨v, H', os, bare, un, hok, r, q⟩ := h
  obtain ⟨hh, g, d, t, os'⟩ := s'
  obtain rfl : os' = s.os := os
  exact ⟨v, H', I.call (h' := hh) (g' := g) (d' := d) (t' := t) (ch := []) un hok bare (fun b z => absurd z (by simp)), r, q⟩
end

/-! ### calls -/
/-- f(..): the written arguments, then the defaults dvs; E: what is wanted of an exception -/
def tCall (sp : Sp) (dvs : List V) (E : XK) (t : TA) : TE := fun σ H Q => t σ H fun vs H1 => sp (vs ++ dvs) H1 Q E
/-- o.m(..) of an instance of the class at C -/
def tMeth (C : Addr) (m : Str) (sp : Sp) (dvs : List V) (E : XK) (ta : TE) (t : TA) : TE := fun σ H Q => ta σ H fun x H1 => ∃ a dx fs, x = .ref a ∧ H1 a = some (.ins C dx fs) ∧ fs.lookup m = none ∧
  t σ H1 fun vs H2 => sp (x :: (vs ++ dvs)) H2 Q E
/-- C(..): a new instance and its dict, then __init__ -/
def tMake (C : Addr) (sp : Sp) (dvs : List V) (E : XK) (t : TA) : TE := fun σ H Q => t σ H fun vs H1 => ∀ x dx, H1 x = none → H1 dx = none → dx ≠ x →
  sp (.ref x :: (vs ++ dvs)) (upd (upd H1 dx (.own x)) x (.ins C dx [])) (fun v H2 => v = .non ∧ Q (.ref x) H2) E

/-- how the parameters are bound: us the positional arguments, kw the keywords' values by name, ds the defaults that fill up -/
def Binds (K : PySem.W.Frag) (fd : FuncData) (ps : List Str) (ds : List Value) : Prop :=
  ∀ (s : Shared) (us : List Value), K.In s.heap → (us ++ ds).length = ps.length → BindsTo s fd ⟨us, []⟩ (ps.zip (us ++ ds))
/-- every parameter is given -/
theorem Binds.all {K : PySem.W.Frag} {fd : FuncData} {ps : List Str} (h : ∀ us : List Value, us.length = ps.length → bindArgs fd ⟨us, []⟩ = pure (ps.zip us)) : Binds K fd ps [] := fun s us _ hl => by
  rw [List.append_nil] at hl ⊢
  exact .of_eq (h us hl)

/-- an exception of a callee reaches what this body wants of exceptions -/
def Passes (CX : CXT) (X : Cx) (E : XK) : Prop := ∀ (pins : List (Addr × Obj)) (σ : St) (H : Hp) (s : Shared) (e : Value) (s' : Shared), Inv X pins σ H s → CX X.stack H s E e s' → X.xe e s'

section
variable {X : Cx} {CX : CXT} {k : Nat} {f C : Addr} {fd : FuncData} {ps : List Str} {sp : Sp} {dvs : List V} {ds : List Value} {E : XK} {x m : Str} {p pos apos : Pos} {e o : Expr} {es : List Expr} {ta : TE} {t : TA}

/-- the callee runs -/
theorem run_fn {pins : List (Addr × Obj)} {σ : St} {H : Hp} {s : Shared} {Q : VK} {us : List Value} {vs : List V} (F : FnOk X.prog X.w X.K X.mg X.base CX k f fd ps sp) (hr : Room k X.A) (hb : Binds X.K fd ps ds) (hd : Vals dvs ds) (hx : Passes CX X E)
    (I : Inv X pins σ H s) (r : Vals vs us) (h : sp (vs ++ dvs) H Q E) : wpAny (model X.prog X.w) X.A (call (.ref f) us) (EP X pins σ Q) X.xe s := by
  have r2 : Vals (vs ++ dvs) (us ++ ds) := r.append hd
  have hl : (us ++ ds).length = ps.length := by rw [← r2.length]; exact F.len _ _ _ _ h
  refine wpAny_call (codeAny_mono (F.run X.A X.stack s H ⟨us, []⟩ (us ++ ds) (vs ++ dvs) Q E hr I.env0 (hb s us I.kIn hl) r2 h) fun r s' hq => ?_)
  cases r with
  | error e => exact hx pins σ H s e s' I hq
  | ok fl =>
    cases fl with
    | ret u => exact I.after hq
    | next => exact False.elim hq
    | brk => exact False.elim hq
    | cont => exact False.elim hq

theorem pe_call (F : FnOk X.prog X.w X.K X.mg X.base CX k f fd ps sp) (hr : Room k X.A) (hg : Gl X x) (hm : X.mg x = some (.ref f)) (hk : PySem.W.keepIn X.K (.ref f) = true) (hb : Binds X.K fd ps ds) (hd : Vals dvs ds) (hx : Passes CX X E)
    (ha : PA X (e :: es) t) (hdb : (x == ("__debug__" : Str)) = false := by decide) (he : starEach (e :: es) X.env = (false, eval e X.env) :: starEach es X.env := by rfl) (hpl : (backTo pos (starEach es X.env)).any (·.1) = false := by rfl) :
    PE X (.Call (.Name x p) (e :: es) [] pos) (tCall sp dvs E t) := by
  intro pins s σ H Q I h
  refine wpAny_Call_Name_kw (ld_glob I hg hm ?_ hdb)
  refine PySem.W.callWith_K (h₀ := X.base) I.ok.mod.kin hk (thn (ha pos pins s σ H _ I h) fun us s1 ⟨vs, H1, I1, r, q⟩ => ⟨I1.kIn, ?_⟩) he hpl
  exact run_fn F hr hb hd hx I1 r q
theorem pe_call0 (F : FnOk X.prog X.w X.K X.mg X.base CX k f fd ps sp) (hr : Room k X.A) (hg : Gl X x) (hm : X.mg x = some (.ref f)) (hk : PySem.W.keepIn X.K (.ref f) = true) (hb : Binds X.K fd ps ds) (hd : Vals dvs ds) (hx : Passes CX X E)
    (hdb : (x == ("__debug__" : Str)) = false := by decide) : PE X (.Call (.Name x p) [] [] pos) (tCall sp dvs E tNil) := by
  intro pins s σ H Q I h
  refine wpAny_Call_Name_kw (ld_glob I hg hm ?_ hdb)
  exact PySem.W.callWith_K0 I.kIn hk (run_fn (us := []) F hr hb hd hx I .nil h)


/-- what a class must have to be made -/
structure Mk (K : PySem.W.Frag) (C f : Addr) : Prop where
  makes : PySem.W.makesIn K C = true
  init : PySem.W.findIn K (.ref C) "__init__" = some (some (.ref f))
  fn : PySem.W.isFn K (.ref f) = true
  kp : PySem.W.keepIn K (.ref C) = true

end

/-! ### keywords -/
/-- the values of the keywords, from the left -/
def PK (X : Cx) (kws : List Keyword) (t : TA) : Prop :=
  ∀ (pos : Pos) (pins : List (Addr × Obj)) (s : Shared) (σ : St) (H : Hp) (Q : List V → Hp → Prop), Inv X pins σ H s → t σ H Q → wpAny (model X.prog X.w) X.A (evalAll ((backToKw pos (keywordEach kws X.env)).map (·.2))) (AP X pins σ Q) X.xe s
section
variable {X : Cx} {CX : CXT} {k : Nat} {f C : Addr} {fd : FuncData} {ps ks : List Str} {sp : Sp} {E : XK} {x m : Str} {p pos apos kpos : Pos} {e o : Expr} {es : List Expr} {kws : List Keyword} {te ta : TE} {t tk : TA} {nm : Option Str}

/-- how a call with keywords binds: g puts the positional values us and the keywords' values ws (names ks) in the parameters' order, defaults among them -/
structure KBinds (K : PySem.W.Frag) (fd : FuncData) (ps ks : List Str) (g : List Value → List Value → List Value) (gV : List V → List V → List V) : Prop where
  to : ∀ (s : Shared) (us ws : List Value), K.In s.heap → (g us ws).length = ps.length → BindsTo s fd ⟨us, ks.zip ws⟩ (ps.zip (g us ws))
  rel : ∀ {vs : List V} {us : List Value} {zs : List V} {ws : List Value}, Vals vs us → Vals zs ws → Vals (gV vs zs) (g us ws)
def tCallK (sp : Sp) (gV : List V → List V → List V) (E : XK) (t tk : TA) : TE := fun σ H Q => t σ H fun vs H1 => tk σ H1 fun zs H2 => sp (gV vs zs) H2 Q E
variable {g : List Value → List Value → List Value} {gV : List V → List V → List V}
end

/-! ### a def's body keeps its promise -/
/-- names: the parameters first -/
structure FnScope (N P : List Str) (sc : Scope) : Prop where
  kind : sc.kind = .function
  co : sc.isCoroutine = false
  gen : sc.isGenerator = false
  nd : N.Nodup
  pre : N.take P.length = P
  par : ∀ x ∈ P, sc.names.lookup x = some .local ∨ sc.names.lookup x = some .cell
  nofree : ∀ y ∈ sc.names, y.2 ≠ .free

theorem bindL_out {kindOf : Str → Option NameKind} {x : Str} : ∀ {binds : List (Str × Value)} {m : Str → Option Value}, (∀ v, (x, v) ∉ binds) → bindL kindOf binds m x = m x
  | [], _, _ => rfl
  | (n, v) :: r, m, h => by
    unfold bindL
    rw [bindL_out fun w hw => h w (List.mem_cons_of_mem _ hw)]
    split
    · have : x ≠ n := by rintro rfl; exact h v List.mem_cons_self
      simp [this]
    · rfl
theorem bindC_out {kindOf : Str → Option NameKind} {x : Str} : ∀ {binds : List (Str × Value)} {m : Str → Option Value}, (∀ v, (x, v) ∉ binds) → bindC kindOf binds m x = m x
  | [], _, _ => rfl
  | (n, v) :: r, m, h => by
    unfold bindC
    rw [bindC_out fun w hw => h w (List.mem_cons_of_mem _ hw)]
    split
    · rfl
    · have : x ≠ n := by rintro rfl; exact h v List.mem_cons_self
      simp [this]
theorem bindL_get {kindOf : Str → Option NameKind} {x : Str} {v : Value} : ∀ {P : List Str} {vs : List Value} {i : Nat} {m : Str → Option Value}, P.Nodup → P[i]? = some x → vs[i]? = some v → kindOf x = some .local →
    bindL kindOf (P.zip vs) m x = some v
  | [], _, _, _, _, h, _, _ => by simp at h
  | _ :: _, [], _, _, _, _, h, _ => by simp at h
  | p :: P, w :: vs, 0, m, nd, h1, h2, hk => by
    simp at h1 h2; subst h1; subst h2
    show bindL kindOf ((p, w) :: P.zip vs) m p = _
    unfold bindL
    rw [bindL_out fun v hv => (List.nodup_cons.mp nd).1 (List.of_mem_zip hv).1, if_pos hk]
    simp
  | p :: P, w :: vs, i + 1, m, nd, h1, h2, hk => by
    show bindL kindOf ((p, w) :: P.zip vs) m x = _
    unfold bindL
    exact bindL_get (i := i) (List.nodup_cons.mp nd).2 (by simpa using h1) (by simpa using h2) hk
theorem bindC_get {kindOf : Str → Option NameKind} {x : Str} {v : Value} : ∀ {P : List Str} {vs : List Value} {i : Nat} {m : Str → Option Value}, P.Nodup → P[i]? = some x → vs[i]? = some v → kindOf x ≠ some .local →
    bindC kindOf (P.zip vs) m x = some v
  | [], _, _, _, _, h, _, _ => by simp at h
  | _ :: _, [], _, _, _, _, h, _ => by simp at h
  | p :: P, w :: vs, 0, m, nd, h1, h2, hk => by
    simp at h1 h2; subst h1; subst h2
    show bindC kindOf ((p, w) :: P.zip vs) m p = _
    unfold bindC
    rw [bindC_out fun v hv => (List.nodup_cons.mp nd).1 (List.of_mem_zip hv).1, if_neg hk]
    simp
  | p :: P, w :: vs, i + 1, m, nd, h1, h2, hk => by
    show bindC kindOf ((p, w) :: P.zip vs) m x = _
    unfold bindC
    exact bindC_get (i := i) (List.nodup_cons.mp nd).2 (by simpa using h1) (by simpa using h2) hk

/-- the names' values at the entry -/
def start (N : List Str) (vs : List V) : St := vs.map some ++ List.replicate (N.length - vs.length) none

/-- the context of a def's body, at its entry; an exception leaves the frame, then lies as CX says -/
def cxOf (CX : CXT) (P : Program) (w : World) (K : PySem.W.Frag) (mg : Str → Option Value) (base : Heap) (N : List Str) (qual : Str) (scope : Scope) (f : Addr) (cd : Value) (A : Around) (outer : List Env) (s : Shared) (H : Hp) (E : XK) : Cx where
  prog := P
  w := w
  K := K
  mg := mg
  base := base
  A := A.deeper (envOfC qual scope s.heap.objs.size f cd)
  N := N
  s_0 := s
  H_0 := H
  env := envOfC qual scope s.heap.objs.size f cd
  outer := outer
  stack := envOfC qual scope s.heap.objs.size f cd :: outer
  ex := []
  calm := true
  fn := fun _ => true
  pn := []
  xe := fun e s' => wpAny (model P w) (A.deeper (envOfC qual scope s.heap.objs.size f cd)) (leaving (envOfC qual scope s.heap.objs.size f cd) e) (fun _ s'' => CX outer H s E e s'') (fun e' s'' => CX outer H s E e' s'') s'

theorem cell_has {sc : Scope} {n : Nat} {x : Str} (h : sc.names.lookup x = some .cell) : ∃ c, (cellsFrom n sc.names []).lookup x = some c := by
  have q := PySem.W.cellsFrom_some sc.names n [] (.inl h)
  exact Option.isSome_iff_exists.mp q

theorem inv_start {CX : CXT} {P : Program} {w : World} {K : PySem.W.Frag} {mg : Str → Option Value} {base : Heap} {N ps : List Str} {qual : Str} {scope : Scope} {f : Addr} {cd : Value} {A : Around} {outer : List Env} {s s1 : Shared} {H : Hp} {E : XK} {us : List Value} {vs : List V}
    (S : FnScope N ps scope) (hd : A.handled = none) (e0 : Env0 P w K mg base A outer s H) (hl : vs.length = ps.length) (r : Vals vs us)
    (x : InCallC s s.heap.objs.size (bindL (envOfC qual scope s.heap.objs.size f cd).kindOf (ps.zip us) fun _ => none) (cellsFrom (s.heap.objs.size + 1) scope.names []) (bindC (envOfC qual scope s.heap.objs.size f cd).kindOf (ps.zip us) fun _ => none) s1) :
    Inv (cxOf CX P w K mg base N qual scope f cd A outer s H E) [] (start N vs) H s1 := by
  have hpl : ps.length ≤ N.length := by have := congrArg List.length S.pre; rw [List.length_take] at this; omega
  obtain ⟨h1, tk, rfl, hk⟩ := x.done
  have noA : ∀ b : Addr, b ∉ (cxOf CX P w K mg base N qual scope f cd A outer s H E).ex := fun b z => absurd (show b ∈ ([] : List Addr) from z) (by simp)
  refine ⟨⟨e0.mod, S.kind, rfl, rfl, Nat.le_refl _, fun y z c h1 h2 => ?_, fun y hy => ?_, fun y c _ h => ?_, fun _ => hd, Around.frames_deeper e0.frames, .inr ⟨rfl, rfl⟩, fun b z => absurd z (noA b), e0.bs, e0.bsz, fun b _ _ => noA b, fun b z => absurd z (noA b), e0.funs, e0.frf⟩,
    rfl, e0.bare, Un.kept hk, ⟨_, x.toInCall.ns, fun i y v h1 h2 h3 => ?_⟩, fun y c h => ⟨_, x.cell y c h⟩, e0.hok.fresh (Nat.le_refl _), fun y c h => ?_, fun p hp => absurd (show p ∈ ([] : List (Addr × Obj)) from hp) (by simp), e0.hok.kept hk, ?_⟩
  · exact name_of_addr x.apart (PySem.mem_of_lookup h1) (PySem.mem_of_lookup h2)
  · have hy : scope.names.lookup y = some .cell ∨ scope.names.lookup y = some .free := hy
    rcases hy with hy | hy
    · exact cell_has hy
    · exact absurd rfl (S.nofree _ (PySem.mem_of_lookup hy))
  · exact Nat.le_of_lt (x.above y c (PySem.mem_of_lookup h))
  · have hi : i < vs.length := by
      unfold start at h2
      by_cases hi : i < vs.length
      · exact hi
      · rw [List.getElem?_append_right (by simpa using hi)] at h2
        rw [List.getElem?_replicate] at h2
        split at h2 <;> cases h2
    have ha : vs[i]? = some v := by
      unfold start at h2
      rw [List.getElem?_append_left (by simpa using hi), List.getElem?_map] at h2
      cases e : vs[i]? with
      | none => rw [e] at h2; cases h2
      | some a => rw [e] at h2; cases h2; rfl
    obtain ⟨u, hu, rv⟩ := r.get ha
    have hp : ps[i]? = some y := by
      rw [← S.pre, List.getElem?_take_of_lt (by omega)]; exact h1
    have ndP : ps.Nodup := by rw [← S.pre]; exact S.nd.sublist (List.take_sublist _ _)
    refine ⟨u, rv, ?_⟩
    rcases S.par y (List.mem_of_getElem? hp) with k | k
    · exact .inl ⟨k, bindL_get ndP hp hu k⟩
    · obtain ⟨c, e⟩ := cell_has (n := s.heap.objs.size + 1) k
      refine .inr ⟨.inl k, c, e, ?_⟩
      have q := x.cell y c e
      rw [bindC_get ndP hp hu (by show scope.names.lookup y ≠ _; rw [k]; decide)] at q
      exact q
  · exact e0.hok.fresh (Nat.le_of_lt (x.above y c (PySem.mem_of_lookup h)))
  · unfold start
    show _ = N.length
    rw [List.length_append, List.length_map, List.length_replicate]
    omega

/-- THE RULE: a def (or a method) of the text, by its body. The body's reading t is chosen for each entry; it is run at the parameters' values -/
theorem fn_of {CX : CXT} {P : Program} {w : World} {K : PySem.W.Frag} {mg : Str → Option Value} {base : Heap} {k : Nat} {f : Addr} {name qual : Str} {params : Arguments} {body : List Stmt} {scope : Scope} {dV kV doc pm cdv ct oc : Value} {an od : Option Addr}
    {osl : Array (Option Value)} {N ps : List Str} {sp : Sp} (lk : K.lookup f = some ⟨oc, od, .func (PySem.W.fnOf name qual params body scope dV kV doc pm an cdv ct), osl⟩) (hcd : PySem.W.codeIn K cdv qual = true) (S : FnScope N ps scope)
    (len : ∀ vs H Q E, sp vs H Q E → vs.length = ps.length)
    (hbody : ∀ (A : Around) (outer : List Env) (s : Shared) (H : Hp) (vs : List V) (Q : VK) (E : XK), Room k (A.deeper (envOfC qual scope s.heap.objs.size f cdv)) → sp vs H Q E →
      ∃ t, PSs (cxOf CX P w K mg base N qual scope f cdv A outer s H E) body t ∧ t { nx := fun _ H' => Q .non H', rt := Q } (start N vs) H) :
    FnOk P w K mg base CX (k + 1) f (PySem.W.fnOf name qual params body scope dV kV doc pm an cdv ct) ps sp := by
  refine ⟨len, fun A outer s H args us vs Q E hr e0 hb r hsp => ?_⟩
  have hl := len _ _ _ _ hsp
  have KX : K.In s.heap := e0.mod.kin.keeps fun b o e => (e0.bs b o e).1
  have lim : s.heap.NoLimit := e0.mod.nolimit.keeps fun b o e => (e0.bs b o e).1
  have hkind : ∀ y ∈ ps.zip us, scope.names.lookup y.1 = some .local ∨ (scope.names.lookup y.1 = some .cell ∧ ((cellsFrom (s.heap.objs.size + 1) scope.names []).lookup y.1).isSome = true) := fun ⟨n, v⟩ hy => by
    rcases S.par n (List.of_mem_zip hy).1 with q | q
    · exact .inl q
    · exact .inr ⟨q, PySem.W.cellsFrom_some _ _ _ (.inl q)⟩
  refine codeAny_call_function hr.depth (KX _ _ lk) rfl S.co S.gen rfl (PySem.W.codeRec_of KX hcd) (hb _ _ _ _ ?_)
  refine wpAny_newFunctionEnv_cells S.kind hkind fun env he s1 x => ?_
  subst he
  refine ⟨lim.keeps x.toInCall.keep, codeAny_func ?_⟩
  obtain ⟨t, ht, hq⟩ := hbody A outer s H vs Q E (hr.deeper _) hsp
  have I : Inv (cxOf CX P w K mg base N qual scope f cdv A outer s H E) [] (start N vs) H s1 := inv_start S hr.hd e0 hl r x
  refine wpAny_mono (ht [] s1 (start N vs) H _ I hq) (fun fl s' hs => ?_) fun e s' hs => hs
  have fin : ∀ {σ' : St} {H' : Hp} {v : V} {u : Value}, Inv (cxOf CX P w K mg base N qual scope f cdv A outer s H E) [] σ' H' s' → RelV v u → Q v H' → CE outer P w H s Q u s' :=
    fun {σ' H' v u} J rv q => ⟨v, H', J.os, J.bare, J.base, J.hok, rv, q⟩
  cases fl with
  | ret u =>
    obtain ⟨v, σ', H', J, rv, q⟩ := hs
    exact fin J rv q
  | next =>
    obtain ⟨σ', H', J, q⟩ := hs
    exact fin (v := V.non) (u := Value.none) J rfl q
  | brk =>
    obtain ⟨_, _, _, q⟩ := hs
    exact False.elim q
  | cont =>
    obtain ⟨_, _, _, q⟩ := hs
    exact False.elim q
end L2

namespace L2
open PySem PySem.Spec PyProof.Rows
section
variable {X : Cx} {x : Str} {p pos : Pos} {e : Expr} {es : List Expr} {t : TA} {id T : String} {r : List V → Hp → VK → Prop}

def tCB (r : List V → Hp → VK → Prop) (t : TA) : TE := fun σ H Q => t σ H fun vs H1 => r vs H1 Q
/-- f(e, ..), f a built-in function -/
theorem pe_callB (hc : CallR X (.builtin id) r) (hg : Gl X x) (hm : X.mg x = none) (hv : bootBuiltins x = some (.builtin id)) (ha : PA X (e :: es) t) (hn : x ≠ "__name__" := by decide) (hdb : (x == ("__debug__" : Str)) = false := by decide)
    (he : starEach (e :: es) X.env = (false, eval e X.env) :: starEach es X.env := by rfl) (hpl : (backTo pos (starEach es X.env)).any (·.1) = false := by rfl) : PE X (.Call (.Name x p) (e :: es) [] pos) (tCB r t) := by
  intro pins s σ H Q I h
  refine wpAny_Call_Name_kw (ld_blt I hg hm hv ?_ hn hdb)
  exact PyProof.Rows.callWith_builtin1 (thn (ha pos pins s σ H _ I h) fun us s1 ⟨vs, H1, I1, r1, q1⟩ => hc pins s1 σ H1 vs us Q I1 r1 q1) he hpl
/-- T(e, ..), T a built-in type -/
theorem pe_callTy (hc : CallR X (.type T) r) (hg : Gl X x) (hm : X.mg x = none) (hv : bootBuiltins x = some (.type T)) (ha : PA X (e :: es) t) (hn : x ≠ "__name__" := by decide) (hdb : (x == ("__debug__" : Str)) = false := by decide)
    (he : starEach (e :: es) X.env = (false, eval e X.env) :: starEach es X.env := by rfl) (hpl : (backTo pos (starEach es X.env)).any (·.1) = false := by rfl) : PE X (.Call (.Name x p) (e :: es) [] pos) (tCB r t) := by
  intro pins s σ H Q I h
  refine wpAny_Call_Name_kw (ld_blt I hg hm hv ?_ hn hdb)
  exact PyProof.Rows.callWith_type1 (thn (ha pos pins s σ H _ I h) fun us s1 ⟨vs, H1, I1, r1, q1⟩ => hc pins s1 σ H1 vs us Q I1 r1 q1) he hpl
end
end L2

namespace HT
open PySem PyProof.Rows

/-- t < u of tuples of ints -/
def lexLt : List Int → List Int → Bool
  | [], [] => false
  | [], _ :: _ => true
  | _ :: _, [] => false
  | x :: xs, y :: ys => if x = y then lexLt xs ys else decide (x < y)
theorem lexLt_cons (x y : Int) (xs ys : List Int) : lexLt (x :: xs) (y :: ys) = if x = y then lexLt xs ys else decide (x < y) := rfl
theorem lexLt_nil_nil : lexLt [] [] = false := rfl
theorem lexLt_nil_cons (y : Int) (ys : List Int) : lexLt [] (y :: ys) = true := rfl
theorem lexLt_cons_nil (x : Int) (xs : List Int) : lexLt (x :: xs) [] = false := rfl

theorem eqAt_int (A : Around) (s : Shared) (a : Int) (t : Tok) (c : Int) (u : Tok) : ∃ e, SeqAt.EqAt A s (.int a t) (.int c u) e ∧ (e = true ↔ a = c) :=
  ⟨(a == c), SeqAt.EqAt.int_int a t c u, by simp⟩
theorem rcLt_int (A : Around) (s : Shared) (a : Int) (t : Tok) (c : Int) (u : Tok) (prog : Program) (w : World) (E : Value → Shared → Prop) (Q : Value → Shared → Prop) (h : Q (.bool (decide (a < c))) s) :
    wpAny (model prog w) A (richCompare .Lt (.int a t) (.int c u)) Q E s :=
  (PyProof.Rows.lt_int h : wpAny (model prog w) A (compareOp .Lt (.int a t) (.int c u)) Q E s)

section
open PySem.SeqAt
open PySem.AutoSeq1 (wpAny_loadPart')
open PySem.MeetsSeq PySem.MeetsSeq2 PySem.MeetsSeq3

theorem tuple_lt_ints (l b : Addr) (items items2 : Array Value) (n n2 : Nat) (dd dd2 : Option Addr) (sl sl2 : Array (Option Value)) (ns ms : List Int) (hi : IntsAre items.toList ns) (hj : IntsAre items2.toList ms) :
    Meets (Builtin.«tuple.__lt__» ⟨[.ref l, .ref b], []⟩)
      (fun _ R s => s.heap.get? l = some { cls := .type "tuple", dict := dd, data := .seq items n, slots := sl } ∧ s.heap.get? b = some { cls := .type "tuple", dict := dd2, data := .seq items2 n2, slots := sl2 } ∧
        R (.ok (.ret (.bool (lexLt ns ms)))) s) :=
  .of_wp fun prog w A R s h => by
    obtain ⟨hp, g, d, tk, os⟩ := s; obtain ⟨hl, hb, h⟩ := h
    have f2 := AutoSeq1.sub_tuple_tuple
    have z1 : items.size = ns.length := by rw [← hi.length]; simp
    have z2 : items2.size = ms.length := by rw [← hj.length]; simp
    wp_walk using wpAny_loadPart' hl, wpAny_loadPart' hb, wpAny_forIn_list _ (fun rest b s' => b.1 = none ∧ s' = ⟨hp, g, d, tk, os⟩ ∧ ∃ (vs ws : List Value) (ns' ms' : List Int), rest = vs.zip ws ∧
      IntsAre vs ns' ∧ IntsAre ws ms' ∧ ns'.length + items2.size = ms'.length + items.size ∧ R (.ok (.ret (.bool (lexLt ns' ms')))) ⟨hp, g, d, tk, os⟩) _
    case turn =>
      rintro ⟨y, x⟩ rest b s' ⟨hb', rfl, vs, ws, ns', ms', hz, hvi, hwi, hlen, hR⟩
      cases hvi with
      | nil => rw [List.zip_nil_left] at hz; cases hz
      | cons a t hvi' =>
        cases hwi with
        | nil => rw [List.zip_nil_right] at hz; cases hz
        | cons c u hwi' =>
          rw [List.zip_cons_cons] at hz
          injection hz with hyx hrest
          injection hyx with hy hx
          subst hy hx
          rw [lexLt_cons] at hR
          simp only [List.length_cons] at hlen
          obtain ⟨e, he, hiff⟩ := eqAt_int A.in1 ⟨hp, g, d, tk, os⟩ a t c u
          refine wpAny_bind (he prog w _ _ ?_)
          cases e with
          | true =>
            rw [if_pos (hiff.mp rfl)] at hR
            wp_walk
            exact ⟨rfl, rfl, _, _, _, _, hrest, hvi', hwi', by omega, hR⟩
          | false =>
            rw [if_neg (fun q => absurd (hiff.mpr q) Bool.false_ne_true)] at hR
            have hri := rcLt_int A.in1 ⟨hp, g, d, tk, os⟩ a t c u prog w
            wp_walk using hri
            exact ⟨_, rfl, by simpa using hR⟩
    case fin =>
      rintro ⟨b1, b2⟩ s' ⟨hb', rfl, vs, ws, ns', ms', hz, hvi, hwi, hlen, hR⟩
      simp only at hb'
      subst hb'
      have hv : lexLt ns' ms' = decide (items.size < items2.size) := by
        cases hvi with
        | nil =>
          cases hwi with
          | nil =>
            simp only [List.length_nil] at hlen
            rw [lexLt_nil_nil]
            exact (decide_eq_false (by omega)).symm
          | cons c u hw =>
            simp only [List.length_nil, List.length_cons] at hlen
            rw [lexLt_nil_cons]
            exact (decide_eq_true (by omega)).symm
        | cons a t hv =>
          cases hwi with
          | nil =>
            simp only [List.length_nil, List.length_cons] at hlen
            rw [lexLt_cons_nil]
            exact (decide_eq_false (by omega)).symm
          | cons c u hw =>
            rw [List.zip_cons_cons] at hz
            cases hz
      rw [hv] at hR
      wp_walk
      exact ⟨_, rfl, by simpa [Builtin.Tuple.tupleCompareSizes] using hR⟩
    case h =>
      exact ⟨rfl, rfl, items.toList, items2.toList, ns, ms, rfl, hi, hj, by omega, h⟩
end

section
variable {prog : Program} {w : World} {A : Around} {E : Value → Shared → Prop} {s : Shared}

theorem lt_tupInts {l b : Addr} {items items2 : Array Value} {ns ms : List Int} {Q : Value → Shared → Prop} (hl : IsTup s.heap l items) (hb : IsTup s.heap b items2) (hi : IntsAre items.toList ns) (hj : IntsAre items2.toList ms)
    (hu : A.units < cLine) (h : Q (.bool (lexLt ns ms)) s) : wpAny (model prog w) A (compareOp .Lt (.ref l) (.ref b)) Q E s := by
  obtain ⟨⟨cls, dd, data, sl⟩, ho, hc, n, hd⟩ := id hl
  obtain ⟨⟨cls2, dd2, data2, sl2⟩, ho2, hc2, n2, hd2⟩ := id hb
  simp only at hc hd hc2 hd2
  subst hc hd hc2 hd2
  exact richCompare_meets_room (op := .Lt) ⟨_, ho, rfl⟩ ⟨_, ho2, rfl⟩ PySem.F.slot_tuple_lt PySem.F.entry_tuple_lt (PySem.F.args_tuple_lt_2 _ _) (tuple_lt_ints l b items items2 n n2 dd dd2 sl sl2 ns ms hi hj)
    ⟨ho, ho2, show Value.bool (lexLt ns ms) ≠ Value.notImplemented ∧ Q (.bool (lexLt ns ms)) s from ⟨(fun x => nomatch x), h⟩⟩ hu


/-! ### t[a:b], not the whole -/
/-- a slice's bound as a place among n (d where it is left out) -/
def sIx (n d : Nat) : Option Int → Nat
  | none => d
  | some v => if v < 0 then (v + (n : Int)).toNat else min v.toNat n
theorem sIx_nat (n d k : Nat) : sIx n d (some (k : Int)) = min k n := by
  show (if (k : Int) < 0 then ((k : Int) + (n : Int)).toNat else min (k : Int).toNat n) = min k n
  rw [if_neg (by omega), Int.toNat_natCast]
theorem sIx_le (n d : Nat) (hd : d ≤ n) (o : Option Int) : sIx n d o ≤ n := by
  cases o with
  | none => exact hd
  | some v =>
    show (if v < 0 then (v + (n : Int)).toNat else min v.toNat n) ≤ n
    by_cases hv : v < 0
    · rw [if_pos hv]; omega
    · rw [if_neg hv]; exact Nat.min_le_right _ _
theorem clip_eq (v : Int) (n d : Nat) : (if v < 0 then max (v + (n : Int)) 0 else min v (n : Int)) = ((sIx n d (some v) : Nat) : Int) := by
  show (if v < 0 then max (v + (n : Int)) 0 else min v (n : Int)) = (((if v < 0 then (v + (n : Int)).toNat else min v.toNat n) : Nat) : Int)
  by_cases hv : v < 0
  · simp only [if_pos hv]; omega
  · simp only [if_neg hv]; omega
theorem adjust_gen (lo hi : Option Int) (n : Nat) : Builtin.Slice.sliceAdjust lo hi 1 (n : Int) = (((sIx n 0 lo : Nat) : Int), ((sIx n n hi : Nat) : Int)) := by
  have h1 : ¬ ((1 : Int) < 0) := by omega
  unfold Builtin.Slice.sliceAdjust
  simp only [h1, if_false]
  refine Prod.ext ?_ ?_
  · cases lo with
    | none => rfl
    | some v => exact clip_eq v n 0
  · cases hi with
    | none => rfl
    | some v => exact clip_eq v n n
theorem places_gen (i j : Nat) : Builtin.Slice.slicePlaces (i : Int) (j : Int) 1 = j - i := by
  unfold Builtin.Slice.slicePlaces
  have h1 : (1 : Int) > 0 := by omega
  simp only [h1, if_true, Int.ediv_one]
  split <;> omega
theorem slicePart_ {v : Value} {o : Option Int} {Q : Option Int → Shared → Prop} (p : IsPart v o) (h : Q o s) : wpAny (model prog w) A (Builtin.Slice.slicePartIndex v) Q E s := by
  cases p with
  | none => exact slicePart_none h
  | int i t => exact slicePart_int h
theorem sliceApplied_gen {sl : Addr} {vl vu : Value} {lo hi : Option Int} {n : Nat} {Q : Int × Int × Nat → Shared → Prop} (hs : s.heap.IsSliceOf sl vl vu .none) (pl : IsPart vl lo) (pu : IsPart vu hi)
    (h : Q (((sIx n 0 lo : Nat) : Int), 1, sIx n n hi - sIx n 0 lo) s) : wpAny (model prog w) A (Builtin.Slice.sliceApplied (.ref sl) (pure (n : Int))) Q E s := by
  obtain ⟨os, hos, hcs, hds⟩ := id hs
  unfold Builtin.Slice.sliceApplied Builtin.Slice.sliceFields
  refine wpAny_bind (wpAny_bind (wpAny_field hos hds (x := vl) rfl (wpAny_bind (wpAny_field hos hds (x := vu) rfl (wpAny_bind (wpAny_field hos hds (x := .none) rfl (wpAny_pure ?_)))))))
  refine wpAny_bind (slicePart_none ?_)
  show wpAny _ _ (if ((1 : Int) == 0) = true then _ else _) _ _ s
  rw [if_neg (by decide)]
  refine wpAny_bind (slicePart_ pl (wpAny_bind (slicePart_ pu (wpAny_bind (wpAny_pure ?_)))))
  show wpAny _ _ (match Builtin.Slice.sliceAdjust lo hi 1 (n : Int) with | (lo, hi) => pure (lo, (1 : Int), Builtin.Slice.slicePlaces lo hi 1)) _ _ s
  rw [adjust_gen lo hi n]
  show wpAny _ _ (pure (((sIx n 0 lo : Nat) : Int), (1 : Int), Builtin.Slice.slicePlaces ((sIx n 0 lo : Nat) : Int) ((sIx n n hi : Nat) : Int) 1)) _ _ s
  rw [places_gen]
  exact wpAny_pure h
theorem pick_gen (xs : Array Value) (i k : Nat) : ((List.range k).filterMap fun (m : Nat) => xs[((i : Int) + (m : Int) * 1).toNat]?).toArray = ((xs.toList.drop i).take k).toArray := by
  have e : (fun (m : Nat) => xs[((i : Int) + (m : Int) * 1).toNat]?) = fun m => xs[i + m]? := by
    funext m
    have : ((i : Int) + (m : Int) * 1).toNat = i + m := by omega
    rw [this]
  rw [e]
  have := pick_run xs i k
  rw [List.filterMap_map] at this
  have e2 : ((fun x => xs[x]?) ∘ fun x => i + x) = fun m => xs[i + m]? := rfl
  rw [e2] at this
  rw [this]

theorem getItem_tuple_cut {t sl : Addr} {items : Array Value} {vl vu : Value} {lo hi : Option Int} {Q : Value → Shared → Prop} (ht : IsTup s.heap t items) (hs : s.heap.IsSliceOf sl vl vu .none) (pl : IsPart vl lo) (pu : IsPart vu hi)
    (hw : ¬ (sIx items.size 0 lo = 0 ∧ sIx items.size items.size hi = items.size))
    (h : Q (.ref s.heap.objs.size) { s with heap := s.heap.push { cls := .type "tuple", data := .seq ((items.toList.drop (sIx items.size 0 lo)).take (sIx items.size items.size hi - sIx items.size 0 lo)).toArray } })
    (hsz : items.size ≤ sizeLine) : wpAny (model prog w) A (getItem (.ref t) (.ref sl)) Q E s := by
  have htake : sizeOk (.seq ((items.toList.drop (sIx items.size 0 lo)).take (sIx items.size items.size hi - sIx items.size 0 lo)).toArray) := by
    show ((items.toList.drop (sIx items.size 0 lo)).take (sIx items.size items.size hi - sIx items.size 0 lo)).toArray.size ≤ sizeLine
    rw [List.size_toArray, List.length_take, List.length_drop, Array.length_toList]
    omega
  have hj : sIx items.size items.size hi ≤ items.size := sIx_le _ _ (Nat.le_refl _) hi
  obtain ⟨os, hos, hcs, hds⟩ := id hs
  have hTs : s.TypeIs (.ref sl) "slice" := ⟨os, hos, hcs⟩
  unfold getItem
  try with_reducible refine wpAny_holding ?_
  first | refine wpAny_bind (wpAny_pure ?_) | skip
  refine wpAny_bind (wpAny_sequenceKey ht.typeIs (by decide) ?_)
  refine wpAny_bind (wpAny_callSpecial?_slot (name := Str.ofString "__getitem__") ht.typeIs PyProof.Rows.slot_tuple_getitem
    (wpAny_call_entry PyProof.Rows.slot_tuple_getitem ht.typeIs entry_tuple_getitem ?_ (args_tuple_getitem _ _)))
  show wpAny _ _ (Builtin.Tuple.tupleItemsOf (.ref t) >>= _) _ _ s
  refine wpAny_bind (tupleItemsOf_ ht ?_)
  refine wpAny_bind (wpAny_typeOf hTs ?_)
  rw [if_pos (by decide)]
  refine wpAny_bind (sliceApplied_gen hs pl pu ?_)
  have hno : ¬ ((((sIx items.size 0 lo : Nat) : Int) == 0 && (1 : Int) == 1 && (sIx items.size items.size hi - sIx items.size 0 lo) == items.size) = true) := by
    intro q
    rw [Bool.and_eq_true, Bool.and_eq_true] at q
    have q1 : ((sIx items.size 0 lo : Nat) : Int) = 0 := eq_of_beq q.1.1
    have q2 : sIx items.size items.size hi - sIx items.size 0 lo = items.size := eq_of_beq q.2
    exact hw ⟨by omega, by omega⟩
  show wpAny _ _ (if (((sIx items.size 0 lo : Nat) : Int) == 0 && (1 : Int) == 1 && (sIx items.size items.size hi - sIx items.size 0 lo) == items.size) = true then _ else _) _ _ s
  rw [if_neg hno, pick_gen]
  first
    | exact wpAny_bind (m := Builtin.Tuple.tupleExact _) (wpAny_newObj_type (wpAny_pure ⟨_, rfl, wpAny_pure h⟩) htake)
    | exact wpAny_bind (m := Builtin.Tuple.tupleExact _) (wpAny_newObj_type (wpAny_bind (wpAny_pure (wpAny_pure ⟨_, rfl, wpAny_pure h⟩))) htake)
    | exact wpAny_bind (wpAny_bind (m := Builtin.Tuple.tupleExact _) (wpAny_newObj_type (wpAny_pure (wpAny_pure ⟨_, rfl, wpAny_pure h⟩)) htake))
    | exact wpAny_bind (wpAny_bind (m := Builtin.Tuple.tupleExact _) (wpAny_newObj_type (wpAny_pure ⟨_, rfl, wpAny_pure h⟩) htake))
end
end HT

namespace L2
open PySem PySem.Spec PyProof.Rows

/-! ### the parts of a slice -/
abbrev TO := St → Hp → (Option Int → Hp → Prop) → Prop
/-- a slice's part (left out, or an int) -/
def PO (X : Cx) (e : Option Expr) (t : TO) : Prop :=
  ∀ (pins : List (Addr × Obj)) (s : Shared) (σ : St) (H : Hp) (Q : Option Int → Hp → Prop), Inv X pins σ H s → t σ H Q →
    wpAny (model X.prog X.w) X.A (evalPart e X.env) (fun u s' => ∃ o H', Inv X pins σ H' s' ∧ IsPart u o ∧ Q o H') X.xe s
def tNoPart : TO := fun _ H Q => Q none H
def tPart (t : TE) : TO := fun σ H Q => t σ H fun x H1 => ∃ i, x = .int i ∧ Q (some i) H1

theorem intsAre_of {ns : List Int} : ∀ {us : List Value}, Vals (ns.map V.int) us → IntsAre us ns := by
  induction ns with
  | nil => intro us r; rw [List.map_nil] at r; cases r; exact .nil
  | cons n ns ih =>
    intro us r
    rw [List.map_cons] at r
    cases r with
    | cons r1 r2 =>
      obtain ⟨t, e⟩ := r1
      subst e
      exact .cons n t (ih r2)

section
variable {X : Cx} {e : Expr} {te : TE} {lo hi : Option Expr} {tl th : TO} {pos p2 : Pos}

theorem po_some (h : PE X e te) : PO X (some e) (tPart te) := by
  intro pins s σ H Q I hw
  rw [evalPart_some]
  refine thn (h pins s σ H _ I hw) fun u s1 ⟨x, H1, I1, r1, q1⟩ => ?_
  obtain ⟨i, rfl, q⟩ := q1
  obtain ⟨t, rfl⟩ := r1
  exact ⟨some i, H1, I1, .int i t, q⟩

/-- what a slice of a value is, by values: the slice object stands at sl -/
def SlR (X : Cx) (r : V → Option Int → Option Int → Hp → VK → Prop) : Prop :=
  ∀ (pins : List (Addr × Obj)) (s : Shared) (σ : St) (H : Hp) (x : V) (v vl vu : Value) (lo hi : Option Int) (sl : Addr) (Q : VK), Inv X pins σ H s → RelV x v → s.heap.IsSliceOf sl vl vu .none → IsPart vl lo → IsPart vu hi → r x lo hi H Q →
    ∃ T id, typeLookup (.type T) "__getitem__" = pure (some (.builtin id)) ∧ s.TypeIs v T ∧ wpAny (model X.prog X.w) X.A (getItem v (.ref sl)) (EP X pins σ Q) X.xe s
def tSl (r : V → Option Int → Option Int → Hp → VK → Prop) (te : TE) (tl th : TO) : TE := fun σ H Q => te σ H fun x H1 => tl σ H1 fun l H2 => th σ H2 fun u H3 => r x l u H3 Q
/-- a[lo:hi], any a -/
theorem pe_slice {r : V → Option Int → Option Int → Hp → VK → Prop} (hr : SlR X r) (he : PE X e te) (hl : PO X lo tl) (hu : PO X hi th) : PE X (.Subscript e (.Slice lo hi none p2) pos) (tSl r te tl th) := by
  intro pins s σ H Q I h
  refine Subscript_ (thn (he pins s σ H _ I h) fun v s1 ⟨x, H1, I1, r1, q1⟩ => ?_)
  refine wpAny_Slice (thn (hl pins s1 σ H1 _ I1 q1) fun vl s2 ⟨l, H2, I2, pl, q2⟩ => thn (hu pins s2 σ H2 _ I2 q2) fun vu s3 ⟨u, H3, I3, pu, q3⟩ => ?_)
  rw [evalPart_none]
  refine wpAny_pure ?_
  have I4 : Inv X pins σ H3 { s3 with heap := s3.heap.push { cls := .type "slice", data := .fields #[vl, vu, .none] } } := I3.kept (t' := s3.toks) fun b ob q => Heap.get?_push_of_some _ q
  obtain ⟨T, id, hT, ht, hg⟩ := hr pins { s3 with heap := s3.heap.push { cls := .type "slice", data := .fields #[vl, vu, .none] } } σ H3 x v vl vu l u s3.heap.objs.size Q I4 r1 (Heap.IsSliceOf.new ..) pl pu q3
  show wpAny (model X.prog X.w) X.A (subscriptTail e (.Slice lo hi none p2) v (.ref s3.heap.objs.size)) (EP X pins σ Q) X.xe { s3 with heap := s3.heap.push { cls := .type "slice", data := .fields #[vl, vu, .none] } }
  exact tail_any (ops := [.ref s3.heap.objs.size, v]) ht hT hg (by with_unfolding_all rfl)

/-- the items of xs[lo:hi] -/
def cutV (xs : List V) (lo hi : Option Int) : List V := (xs.drop (HT.sIx xs.length 0 lo)).take (HT.sIx xs.length xs.length hi - HT.sIx xs.length 0 lo)
theorem cutV_length (xs : List V) (lo hi : Option Int) : (cutV xs lo hi).length ≤ xs.length := by
  unfold cutV
  rw [List.length_take, List.length_drop]
  omega
/-- t[lo:hi], not the whole of it (the whole would be t itself) -/
def rSlT (K : PySem.W.Frag) : V → Option Int → Option Int → Hp → VK → Prop := fun x lo hi H Q => ∃ a xs, x = .ref a ∧ SqT K H a xs ∧
  ¬ (HT.sIx xs.length 0 lo = 0 ∧ HT.sIx xs.length xs.length hi = xs.length) ∧ ∀ p, H p = none → Q (.ref p) (upd H p (.tup (cutV xs lo hi)))
theorem sl_tup : SlR X (rSlT X.K) := by
  intro pins s σ H x v vl vu lo hi sl Q I rx hs pl pu h
  obtain ⟨a, xs, rfl, hx, hw, q⟩ := h
  cases rx
  obtain ⟨its, r, ht, hz⟩ := I.tuple hx
  have hlen : its.toArray.size = xs.length := by rw [List.size_toArray]; exact r.length.symm
  refine ⟨"tuple", _, PyProof.Rows.slot_tuple_getitem.lookup, ht.typeIs, ?_⟩
  refine HT.getItem_tuple_cut ht hs pl pu (by rw [hlen]; exact hw) ?_ (by rw [hlen]; exact hz)
  rw [hlen]
  refine ⟨.ref s.heap.objs.size, _, I.laid (t' := s.toks) (o := .tup (cutV xs lo hi)) (fun b ob q => Heap.get?_push_of_some _ q) (Nat.le_refl _) ?_, rfl, q _ (I.hok.fresh (Nat.le_refl _))⟩
  exact ⟨Nat.le_trans (cutV_length xs lo hi) hz, _, (r.drop (HT.sIx xs.length 0 lo)).take (HT.sIx xs.length xs.length hi - HT.sIx xs.length 0 lo), IsTup.new _ _⟩

/-! ### t < u, t + u -/
def rLtT (K : PySem.W.Frag) : R2 := fun x y H Q => ∃ a b ns ms, x = .ref a ∧ y = .ref b ∧ SqT K H a (ns.map V.int) ∧ SqT K H b (ms.map V.int) ∧ Q (.bl (HT.lexLt ns ms)) H
theorem op_ltT (hu : X.A.units < cLine) : OpR X (compareOp .Lt) (rLtT X.K) := by
  intro pins s σ H x y v u Q I rx ry h
  obtain ⟨a, b, ns, ms, rfl, rfl, ha, hb, q⟩ := h
  cases rx
  cases ry
  obtain ⟨its, r1, p1, _⟩ := I.tuple ha
  obtain ⟨its2, r2, p2, _⟩ := I.tuple hb
  have i1 : IntsAre its.toArray.toList ns := intsAre_of r1
  have i2 : IntsAre its2.toArray.toList ms := intsAre_of r2
  exact HT.lt_tupInts p1 p2 i1 i2 hu ⟨.bl (HT.lexLt ns ms), H, I, rfl, q⟩
/-- t + u, t not empty: u empty gives t itself -/
def rCatT (K : PySem.W.Frag) : R2 := fun x y H Q => ∃ a b xs ys, x = .ref a ∧ y = .ref b ∧ SqT K H a xs ∧ SqT K H b ys ∧ xs ≠ [] ∧ xs.length + ys.length ≤ sizeLine ∧
  (ys = [] → Q (.ref a) H) ∧ (ys ≠ [] → ∀ p, H p = none → Q (.ref p) (upd H p (.tup (xs ++ ys))))
end
end L2

namespace L2
open PySem PySem.Spec PyProof.Rows

/-! ### places -/
/-- the place that an index of any sign means -/
def ixN (n : Nat) (i : Int) : Option Nat := if 0 ≤ i then (if i < n then some i.toNat else none) else if -(n : Int) ≤ i then some (i + n).toNat else none
def atI {α : Type} (xs : List α) (i : Int) : Option α := (ixN xs.length i).bind fun j => xs[j]?
theorem ixN_seq {n : Nat} {i : Int} {j : Nat} (h : ixN n i = some j) : seqIndex? i n = some j ∧ j < n ∧ -(n : Int) ≤ i ∧ i < n := by
  unfold ixN at h
  by_cases h0 : 0 ≤ i
  · rw [if_pos h0] at h
    by_cases h1 : i < n
    · rw [if_pos h1] at h
      have e : i.toNat = j := Option.some.inj h
      exact ⟨by rw [seqIndex_of h0 h1, e], by omega, by omega, h1⟩
    · rw [if_neg h1] at h; cases h
  · rw [if_neg h0] at h
    by_cases h1 : -(n : Int) ≤ i
    · rw [if_pos h1] at h
      have e : (i + n).toNat = j := Option.some.inj h
      exact ⟨by rw [seqIndex_neg (by omega) h1, e], by omega, h1, by omega⟩
    · rw [if_neg h1] at h; cases h
theorem atI_get {α : Type} {xs : List α} {i : Int} {v : α} (h : atI xs i = some v) : ∃ j, seqIndex? i xs.length = some j ∧ xs[j]? = some v ∧ j < xs.length ∧ -(xs.length : Int) ≤ i ∧ i < xs.length := by
  unfold atI at h
  cases e : ixN xs.length i with
  | none => rw [e] at h; cases h
  | some j =>
    rw [e] at h
    obtain ⟨h1, h2, h3, h4⟩ := ixN_seq e
    exact ⟨j, h1, h, h2, h3, h4⟩
theorem atI_nat {α : Type} {xs : List α} {j : Nat} {v : α} (h : xs[j]? = some v) : atI xs (j : Int) = some v := by
  have hj : j < xs.length := (List.getElem?_eq_some_iff.mp h).1
  have e : ixN xs.length (j : Int) = some j := by
    unfold ixN
    rw [if_pos (by omega), if_pos (by omega)]; simp
  unfold atI; rw [e]; exact h

/-! ### what may be subscripted -/
/-- what stands as an index of a plain subscript -/
def PlainIx (b : Expr) : Prop := ∀ o i, subscripted b false o i = operate [o, i] (getItem o i)
/-- a subscript by values -/
def IxR (X : Cx) (r : R2) : Prop :=
  ∀ (value slice : Expr) (pins : List (Addr × Obj)) (s : Shared) (σ : St) (H : Hp) (x y : V) (v u : Value) (Q : VK), Inv X pins σ H s → RelV x v → RelV y u → r x y H Q →
    subscripted slice false v u = operate [v, u] (getItem v u) → wpAny (model X.prog X.w) X.A (subscriptTail value slice v u) (EP X pins σ Q) X.xe s
/-- a call of a builtin's method by values: the receiver, the arguments -/
def MtR (X : Cx) (id : String) (r : V → List V → Hp → VK → Prop) : Prop :=
  ∀ (pins : List (Addr × Obj)) (s : Shared) (σ : St) (H : Hp) (x : V) (xs : List V) (v : Value) (us : List Value) (Q : VK), Inv X pins σ H s → RelV x v → Vals xs us → r x xs H Q →
    wpAny (model X.prog X.w) X.A (call (.builtin id) (v :: us)) (EP X pins σ Q) X.xe s
section
variable {X : Cx} {a b : Expr} {ta tb : TE} {pos : Pos}
/-- a[b] -/
theorem pe_ix {r : R2} (hr : IxR X r) (ha : PE X a ta) (hb : PE X b tb) (hs : PlainIx b) : PE X (.Subscript a b pos) (tOp r ta tb) := by
  intro pins s σ H Q I h
  exact Subscript_ (binT ha hb I h fun v u s2 x y H2 I2 rx ry q => hr a b pins s2 σ H2 x y v u Q I2 rx ry q (hs _ _))

def rIxL (K : PySem.W.Frag) : R2 := fun x y H Q => ∃ p xs i v, x = .ref p ∧ y = .int i ∧ SqL K H p xs ∧ atI xs i = some v ∧ Q v H
def rIxT (K : PySem.W.Frag) : R2 := fun x y H Q => ∃ p xs i v, x = .ref p ∧ y = .int i ∧ SqT K H p xs ∧ atI xs i = some v ∧ Q v H
def rIxS : R2 := fun x y H Q => ∃ z i c, x = .str z ∧ y = .int i ∧ z.length ≤ sizeLine ∧ atI z.cps.toList i = some c ∧ Q (.str ⟨#[c]⟩) H
theorem ix_list : IxR X (rIxL X.K) := by
  intro value slice pins s σ H x y v u Q I rx ry h hs
  obtain ⟨p, xs, i, z, rfl, rfl, hq, he, q⟩ := h
  cases rx
  obtain ⟨t, rfl⟩ := ry
  obtain ⟨its, r, pl, hz⟩ := I.list hq
  obtain ⟨j, h1, h2, h3, h4, h5⟩ := atI_get he
  obtain ⟨w, ew, rw'⟩ := r.get h2
  have hl := r.length
  have hn := line63
  have fin : EP X pins σ Q w s := ⟨z, H, I, rw', q⟩
  by_cases h0 : 0 ≤ i
  · have hj : i.toNat = j := by
      rw [seqIndex_of h0 h5] at h1
      exact Option.some.inj h1
    exact item_listR pl.isList h0 (by omega) (by rw [hj]; simpa using ew) fin hs
  · have hj : (i + (its.toArray.size : Int)).toNat = j := by
      rw [seqIndex_neg (by omega) h4] at h1
      rw [List.size_toArray, ← hl]
      exact Option.some.inj h1
    exact subscriptTail_builtinR (x := w) pl.isList.typeIs slot_list_getitem.lookup
      (wpAny_getItem_list_neg (Q := fun r s' => r = w ∧ EP X pins σ Q r s') pl.isList (by omega) (by rw [List.size_toArray] <;> omega) (by omega) (by rw [hj]; simpa using ew) ⟨rfl, fin⟩) hs
theorem ix_tup : IxR X (rIxT X.K) := by
  intro value slice pins s σ H x y v u Q I rx ry h hs
  obtain ⟨p, xs, i, z, rfl, rfl, hq, he, q⟩ := h
  cases rx
  obtain ⟨t, rfl⟩ := ry
  obtain ⟨its, r, pl, hz⟩ := I.tuple hq
  obtain ⟨j, h1, h2, h3, h4, h5⟩ := atI_get he
  obtain ⟨w, ew, rw'⟩ := r.get h2
  have hl := r.length
  have hn := line63
  have fin : EP X pins σ Q w s := ⟨z, H, I, rw', q⟩
  exact subscriptTail_builtinR (x := w) pl.typeIs slot_tuple_getitem.lookup
    (getItem_tuple (j := j) (Q := fun r s' => r = w ∧ EP X pins σ Q r s') pl (by omega) (by omega) (by rw [List.size_toArray, ← hl]; exact h1) (by simpa using ew) ⟨rfl, fin⟩) hs
/-- list, tuple or str -/
def rIx (K : PySem.W.Frag) : R2 := fun x y H Q => rIxL K x y H Q ∨ rIxT K x y H Q ∨ rIxS x y H Q

/-! ### xs[i] = v, any sign -/
/-- the list's object behind a store -/
theorem mapSeq_set (its : List Value) (n j : Nat) (u : Value) : Obj.mapSeq (·.setIfInBounds j u) { cls := .type "list", data := .seq its.toArray n } = { cls := .type "list", data := .seq (its.set j u).toArray n } := by
  simp [Obj.mapSeq]
theorem Inv.lst {pins : List (Addr × Obj)} {σ : St} {H : Hp} {s : Shared} {p : Addr} {xs : List V} (I : Inv X pins σ H s) (h : H p = some (.lst xs)) :
    ∃ (its : List Value) (n : Nat), Vals xs its ∧ s.heap.get? p = some { cls := .type "list", data := .seq its.toArray n } ∧ xs.length ≤ sizeLine := by
  obtain ⟨z, its, n, r, e⟩ := I.hok p _ h
  exact ⟨its, n, r, e, z⟩
/-- the list at p is written by an update of its object -/
theorem Inv.lstUpd {pins : List (Addr × Obj)} {σ : St} {H : Hp} {s : Shared} {p : Addr} {xs ys : List V} {its its' : List Value} {n n' : Nat} {f : Obj → Obj} (I : Inv X pins σ H s) (h : H p = some (.lst xs))
    (ho : s.heap.get? p = some { cls := .type "list", data := .seq its.toArray n }) (hf : f { cls := .type "list", data := .seq its.toArray n } = { cls := .type "list", data := .seq its'.toArray n' }) (r : Vals ys its') (hz : ys.length ≤ sizeLine) (t : Nat) :
    Inv X pins σ (upd H p (.lst ys)) { s with heap := s.heap.update p f, toks := t } := by
  have e : (s.heap.update p f).get? p = some { cls := .type "list", data := .seq its'.toArray n' } := by
    rw [Heap.get?_update_self f ho (by rw [hf] <;> rfl), hf]
  refine I.write (x := p) (e := p) (by rw [h]; trivial) (.inl rfl) (fun b u hb q => (Heap.get?_update_other _ _ (Ne.symm hb)).trans q) ⟨_, e⟩ ?_
  exact ⟨hz, its', n', r, e⟩
def rSetL : V → V → V → Hp → (Hp → Prop) → Prop := fun o i v H Q => ∃ p xs k j, o = .ref p ∧ i = .int k ∧ H p = some (.lst xs) ∧ ixN xs.length k = some j ∧ Q (upd H p (.lst (xs.set j v)))
theorem set_list : PSet X rSetL := by
  intro pins s σ H o i v ov iv u Q I ro ri rv h
  obtain ⟨p, xs, k, j, rfl, rfl, hp, hj, q⟩ := h
  cases ro
  obtain ⟨t, rfl⟩ := ri
  obtain ⟨its, n, r, ho, hz⟩ := I.lst hp
  obtain ⟨h1, h2, h3, h4⟩ := ixN_seq hj
  have hl := r.length
  have hn := line63
  have I' : Inv X pins σ (upd H p (.lst (xs.set j v))) { s with heap := s.heap.update p (Obj.mapSeq (·.setIfInBounds j u)) } :=
    I.lstUpd hp ho (mapSeq_set its n j u) (r.set rv j) (by rw [List.length_set]; exact hz) s.toks
  by_cases h0 : 0 ≤ k
  · have hk : k.toNat = j := by
      rw [seqIndex_of h0 h4] at h1
      exact Option.some.inj h1
    exact PySem.W.ki_setAt ho h0 (by omega) (by rw [List.size_toArray, ← hl]; exact h4) (by rw [hk]; exact ⟨_, I', q⟩)
  · have hk : (k + (its.toArray.size : Int)).toNat = j := by
      rw [seqIndex_neg (by omega) h3] at h1
      rw [List.size_toArray, ← hl]
      exact Option.some.inj h1
    exact PySem.W.ki_setBack ho (by omega) (by rw [List.size_toArray, ← hl]; exact h3) (by omega) (by rw [hk]; exact ⟨_, I', q⟩)

/-! ### slices -/
theorem slice_bounds (lo hi : Option Int) (n : Nat) : (sliceBounds lo hi none n).1 = ((HT.sIx n 0 lo : Nat) : Int) ∧ (sliceBounds lo hi none n).2.1 = ((HT.sIx n n hi : Nat) : Int) ∧ (sliceBounds lo hi none n).2.2 = 1 := by
  refine ⟨?_, ?_, rfl⟩
  · cases lo with
    | none => simp [sliceBounds, HT.sIx]
    | some i =>
      simp only [sliceBounds, HT.sIx, Option.getD_none, show (1 : Int) > 0 by decide, if_true]
      by_cases h : i < 0
      · simp only [h, if_true] <;> omega
      · simp only [h, if_false] <;> omega
  · cases hi with
    | none => simp [sliceBounds, HT.sIx]
    | some i =>
      simp only [sliceBounds, HT.sIx, Option.getD_none, show (1 : Int) > 0 by decide, if_true]
      by_cases h : i < 0
      · simp only [h, if_true] <;> omega
      · simp only [h, if_false] <;> omega
theorem slicePick_cut (its : List Value) (lo hi : Option Int) : slicePick its.toArray lo hi none = ((its.drop (HT.sIx its.length 0 lo)).take (HT.sIx its.length its.length hi - HT.sIx its.length 0 lo)).toArray := by
  obtain ⟨h1, h2, h3⟩ := slice_bounds lo hi its.toArray.size
  unfold slicePick
  rw [h1, h2, h3]
  simp only [sliceRange_one, pick_run, List.size_toArray] <;> rfl
/-- xs[lo:hi] of a list: a new list -/
def rSlL (K : PySem.W.Frag) : V → Option Int → Option Int → Hp → VK → Prop := fun x lo hi H Q => ∃ a xs, x = .ref a ∧ SqL K H a xs ∧ ∀ p, H p = none → Q (.ref p) (upd H p (.lst (cutV xs lo hi)))
theorem sl_list : SlR X (rSlL X.K) := by
  intro pins s σ H x v vl vu lo hi sl Q I rx hs pl pu h
  obtain ⟨a, xs, rfl, hx, q⟩ := h
  cases rx
  obtain ⟨its, r, ht, hz⟩ := I.list hx
  have hlen := r.length
  refine ⟨"list", _, slot_list_getitem.lookup, ht.isList.typeIs, ?_⟩
  refine wpAny_getItem_list_slice ht.isList hs pl pu .none (by simp) ?_ (by rw [List.size_toArray] <;> omega)
  rw [slicePick_cut, ← hlen]
  refine ⟨.ref s.heap.objs.size, _, I.laid (t' := s.toks) (o := .lst (cutV xs lo hi)) (fun b ob q => Heap.get?_push_of_some _ q) (Nat.le_refl _) ?_, rfl, q _ (I.hok.fresh (Nat.le_refl _))⟩
  exact ⟨Nat.le_trans (cutV_length xs lo hi) hz, _, 0, (r.drop (HT.sIx xs.length 0 lo)).take (HT.sIx xs.length xs.length hi - HT.sIx xs.length 0 lo), Heap.get?_push_size _ rfl⟩

/-! ### in, not in: flat items -/
def flatV : V → Bool
  | .non => true
  | .bl _ => true
  | .int _ => true
  | .str _ => true
  | _ => false
/-- == of flat values -/
def eqV : V → V → Bool
  | .non, .non => true
  | .bl a, .bl b => a == b
  | .bl a, .int b => (if a then 1 else 0) == b
  | .int a, .bl b => a == (if b then 1 else 0)
  | .int a, .int b => a == b
  | .str a, .str b => a == b
  | _, _ => false
theorem eqAt_V {A : Around} {s : Shared} {y x : V} {u v : Value} (ry : RelV y u) (rx : RelV x v) (fy : flatV y = true) (fx : flatV x = true) : SeqAt.EqAt A s u v (eqV y x) := by
  cases y with
  | non =>
    cases ry
    cases x with
    | non => cases rx; exact SeqAt.EqAt.same _
    | bl b => cases rx; exact SeqAt.EqAt.none_bool b
    | int b => obtain ⟨t, rfl⟩ := rx; exact SeqAt.EqAt.none_int b t
    | str b => obtain ⟨t, rfl⟩ := rx; exact SeqAt.EqAt.none_str b t
    | _ => exact absurd (show false = true from fx) Bool.false_ne_true
  | bl a =>
    cases ry
    cases x with
    | non => cases rx; exact SeqAt.EqAt.bool_none a
    | bl b => cases rx; exact SeqAt.EqAt.bool_bool a b
    | int b => obtain ⟨t, rfl⟩ := rx; exact SeqAt.EqAt.bool_int a b t
    | str b => obtain ⟨t, rfl⟩ := rx; exact SeqAt.EqAt.bool_str a b t
    | _ => exact absurd (show false = true from fx) Bool.false_ne_true
  | int a =>
    obtain ⟨t', rfl⟩ := ry
    cases x with
    | non => cases rx; exact SeqAt.EqAt.int_none a t'
    | bl b => cases rx; exact SeqAt.EqAt.int_bool a t' b
    | int b => obtain ⟨t, rfl⟩ := rx; exact SeqAt.EqAt.int_int a t' b t
    | str b => obtain ⟨t, rfl⟩ := rx; exact SeqAt.EqAt.int_str a t' b t
    | _ => exact absurd (show false = true from fx) Bool.false_ne_true
  | str a =>
    obtain ⟨t', rfl⟩ := ry
    cases x with
    | non => cases rx; exact SeqAt.EqAt.str_none a t'
    | bl b => cases rx; exact SeqAt.EqAt.str_bool a t' b
    | int b => obtain ⟨t, rfl⟩ := rx; exact SeqAt.EqAt.str_int a t' b t
    | str b => obtain ⟨t, rfl⟩ := rx; exact SeqAt.EqAt.str_str a t' b t
    | _ => exact absurd (show false = true from fx) Bool.false_ne_true
  | _ => exact absurd (show false = true from fy) Bool.false_ne_true
/-- the items' answers, read off the values (a value's own answer does not lean on its token) -/
def eqU (x : V) (u : Value) : Bool := match u with
  | .none => eqV .non x
  | .bool b => eqV (.bl b) x
  | .int i _ => eqV (.int i) x
  | .str z _ => eqV (.str z) x
  | _ => false
theorem eqU_of {x y : V} {u : Value} (r : RelV y u) (f : flatV y = true) : eqU x u = eqV y x := by
  cases y with
  | non => cases r; rfl
  | bl b => cases r; rfl
  | int i => obtain ⟨t, rfl⟩ := r; rfl
  | str z => obtain ⟨t, rfl⟩ := r; rfl
  | _ => exact absurd (show false = true from f) Bool.false_ne_true
theorem any_eqU {x : V} : ∀ {xs : List V} {us : List Value}, Vals xs us → xs.all flatV = true → us.any (eqU x) = xs.any fun y => eqV y x
  | _, _, .nil, _ => rfl
  | y :: xs, u :: us, .cons r t, f => by
    rw [List.all_cons, Bool.and_eq_true] at f
    rw [List.any_cons, List.any_cons, eqU_of r f.1, any_eqU t f.2]
theorem mem_eqAt {A : Around} {s : Shared} {x : V} {v : Value} (rx : RelV x v) (fx : flatV x = true) : ∀ {xs : List V} {us : List Value}, Vals xs us → xs.all flatV = true → ∀ u ∈ us, SeqAt.EqAt A s u v (eqU x u)
  | _, _, .nil, _ => fun u hu => by cases hu
  | y :: xs, u :: us, .cons r t, f => fun u' hu => by
    rw [List.all_cons, Bool.and_eq_true] at f
    rcases List.mem_cons.mp hu with rfl | hu
    · rw [eqU_of r f.1]; exact eqAt_V r rx f.1 fx
    · exact mem_eqAt rx fx t f.2 u' hu
def inV (x : V) (xs : List V) : Bool := xs.any fun y => eqV y x
/-- x in a list or tuple of flat items -/
def rIn (K : PySem.W.Frag) (neg : Bool) : R2 := fun x y H Q => ∃ p xs, y = .ref p ∧ (SqL K H p xs ∨ SqT K H p xs) ∧ flatV x = true ∧ xs.all flatV = true ∧ Q (.bl (if neg then !inV x xs else inV x xs)) H
theorem op_in_seq : OpR X (compareOp .In) (rIn X.K false) := by
  intro pins s σ H x y v u Q I rx ry h
  obtain ⟨p, xs, rfl, hq, fx, fs, q⟩ := h
  cases ry
  rcases hq with hq | hq
  · obtain ⟨its, r, pl, hz⟩ := I.list hq
    refine SeqAt.in_listAt (eqU x) pl.isList (fun w hw => mem_eqAt rx fx r fs w (by simpa using hw)) ⟨.bl _, H, I, rfl, ?_⟩
    rw [show its.toArray.any (eqU x) = its.any (eqU x) by simp, any_eqU r fs]
    exact q
  · obtain ⟨its, r, pl, hz⟩ := I.tuple hq
    refine SeqAt.in_tupleAt (eqU x) pl (fun w hw => mem_eqAt rx fx r fs w (by simpa using hw)) ⟨.bl _, H, I, rfl, ?_⟩
    rw [show its.toArray.any (eqU x) = its.any (eqU x) by simp, any_eqU r fs]
    exact q
theorem op_notIn_seq : OpR X (compareOp .NotIn) (rIn X.K true) := by
  intro pins s σ H x y v u Q I rx ry h
  obtain ⟨p, xs, rfl, hq, fx, fs, q⟩ := h
  cases ry
  rcases hq with hq | hq
  · obtain ⟨its, r, pl, hz⟩ := I.list hq
    refine SeqAt.notIn_listAt (eqU x) pl.isList (fun w hw => mem_eqAt rx fx r fs w (by simpa using hw)) ⟨.bl _, H, I, rfl, ?_⟩
    rw [show its.toArray.any (eqU x) = its.any (eqU x) by simp, any_eqU r fs]
    exact q
  · obtain ⟨its, r, pl, hz⟩ := I.tuple hq
    refine SeqAt.notIn_tupleAt (eqU x) pl (fun w hw => mem_eqAt rx fx r fs w (by simpa using hw)) ⟨.bl _, H, I, rfl, ?_⟩
    rw [show its.toArray.any (eqU x) = its.any (eqU x) by simp, any_eqU r fs]
    exact q

/-! ### len, list(x), tuple(x) of any list or tuple that is read -/
theorem call_len_seq : CallR X (.builtin "len") (fun xs H Q => ∃ p ys, xs = [.ref p] ∧ (SqL X.K H p ys ∨ SqT X.K H p ys) ∧ Q (.int ys.length) H) := by
  intro pins s σ H xs us Q I r h
  obtain ⟨p, ys, rfl, hq, q⟩ := h
  obtain ⟨u, rfl, rx⟩ := vals1 r
  cases rx
  have hn := line63
  rcases hq with hq | hq
  · obtain ⟨its, r', pl, hz⟩ := I.list hq
    have hlen := r'.length
    exact Calls.call_len_list pl.isList (by simp only [List.size_toArray] <;> omega) ⟨.int ys.length, H, I.tok _, ⟨s.toks + 1, by rw [List.size_toArray, hlen]⟩, q⟩
  · obtain ⟨its, r', pl, hz⟩ := I.tuple hq
    have hlen := r'.length
    exact len_tuple pl (by simp only [List.size_toArray] <;> omega) ⟨.int ys.length, H, I.tok _, ⟨s.toks + 1, by rw [List.size_toArray, hlen]⟩, q⟩
theorem call_list_of : CallR X (.type "list") (fun xs H Q => ∃ p ys, xs = [.ref p] ∧ (SqL X.K H p ys ∨ SqT X.K H p ys) ∧ ∀ l, H l = none → Q (.ref l) (upd H l (.lst ys))) := by
  intro pins s σ H xs us Q I r h
  obtain ⟨p, ys, rfl, hq, q⟩ := h
  obtain ⟨u, rfl, rx⟩ := vals1 r
  cases rx
  have fin : ∀ (its : List Value), Vals ys its → ys.length ≤ sizeLine → ∀ (h' : Heap) (c' : Nat), (∀ b o', s.heap.get? b = some o' → h'.get? b = some o') →
      h'.get? s.heap.objs.size = some { cls := .type "list", dict := none, data := .seq its.toArray c', slots := #[] } → EP X pins σ Q (.ref s.heap.objs.size) { s with heap := h' } := fun its r' hz h' c' kp e =>
    ⟨.ref s.heap.objs.size, _, I.laid (t' := s.toks) kp (Nat.le_refl _) (show ObjOk X.prog X.w _ h' _ (.lst ys) from ⟨hz, its, c', r', e⟩), rfl, q _ (I.hok.fresh (Nat.le_refl _))⟩
  rcases hq with hq | hq
  · obtain ⟨its, r', pl, hz⟩ := I.list hq
    have hlen := r'.length
    obtain ⟨o, ho, hc, n, hd⟩ := pl.isList
    exact call_list_seq p (.inl rfl) ho hc hd (fun h' c' kp e => fin its r' hz h' c' kp e) (by simp only [List.size_toArray] <;> omega)
  · obtain ⟨its, r', pl, hz⟩ := I.tuple hq
    have hlen := r'.length
    obtain ⟨o, ho, hc, n, hd⟩ := pl
    exact call_list_seq p (.inr rfl) ho hc hd (fun h' c' kp e => fin its r' hz h' c' kp e) (by simp only [List.size_toArray] <;> omega)
theorem call_tuple_of : CallR X (.type "tuple") (fun xs H Q => ∃ p ys, xs = [.ref p] ∧ ((SqL X.K H p ys ∧ ∀ l, H l = none → Q (.ref l) (upd H l (.tup ys))) ∨ (SqT X.K H p ys ∧ Q (.ref p) H))) := by
  intro pins s σ H xs us Q I r h
  obtain ⟨p, ys, rfl, h⟩ := h
  obtain ⟨u, rfl, rx⟩ := vals1 r
  cases rx
  rcases h with ⟨hq, q⟩ | ⟨hq, q⟩
  · obtain ⟨its, r', pl, hz⟩ := I.list hq
    have hlen := r'.length
    refine call_tuple_list pl.isList (fun h' kp => ?_) (by simp only [List.size_toArray] <;> omega)
    have I1 : Inv X pins σ H { s with heap := h' } := I.kept (t' := s.toks) kp
    have I2 : Inv X pins σ (upd H h'.objs.size (.tup ys)) { s with heap := h'.push { cls := .type "tuple", data := .seq its.toArray } } :=
      I1.laid (t' := s.toks) (fun b o e => Heap.get?_push_of_some _ e) (Nat.le_refl _) (show ObjOk X.prog X.w _ _ _ (.tup ys) from ⟨hz, its, r', IsTup.new _ _⟩)
    exact ⟨.ref h'.objs.size, _, I2, rfl, q _ (I1.hok.fresh (Nat.le_refl _))⟩
  · obtain ⟨its, r', pl, hz⟩ := I.tuple hq
    exact call_tuple_same pl ⟨.ref p, H, I, rfl, q⟩

/-! ### the call of a builtin's method: o.m(..) -/
/-- the value is of that builtin type -/
def tyV (K : PySem.W.Frag) (T : String) (x : V) (H : Hp) : Prop := match x with
  | .str _ => T = "str"
  | .int _ => T = "int"
  | .ref p => (T = "list" ∧ ∃ xs, SqL K H p xs) ∨ (T = "tuple" ∧ ∃ o, K.lookup p = some o ∧ o.cls = .type "tuple" ∧ o.dict = none) ∨
      (T = "dict" ∧ ((∃ kvs, H p = some (.dK kvs)) ∨ ∃ kvs, H p = some (.dT kvs))) ∨ (T = "set" ∧ ∃ S n, H p = some (.set S n))
  | _ => False
theorem tyV_is {pins : List (Addr × Obj)} {σ : St} {H : Hp} {s : Shared} {T : String} {x : V} {v : Value} (I : Inv X pins σ H s) (r : RelV x v) (ty : tyV X.K T x H) :
    s.TypeIs v T ∧ ∀ a, v = .ref a → ∃ ob, s.heap.get? a = some ob ∧ ob.dict = none := by
  cases x with
  | str z =>
    obtain ⟨t, rfl⟩ := r
    cases (show T = "str" from ty)
    exact ⟨typeIs_str s z t, fun _ e => nomatch e⟩
  | int i =>
    obtain ⟨t, rfl⟩ := r
    cases (show T = "int" from ty)
    exact ⟨typeIs_int s i t, fun _ e => nomatch e⟩
  | ref p =>
    cases r
    rcases ty with ⟨rfl, xs, hq⟩ | ⟨rfl, o, hk, hc, hd⟩ | ⟨rfl, hk⟩ | ⟨rfl, S, n, hk⟩
    · obtain ⟨its, _, pl, _⟩ := I.list hq
      refine ⟨pl.isList.typeIs, fun a e => ?_⟩
      cases e
      obtain ⟨o, n, e, c, hd, _⟩ := pl
      exact ⟨o, e, hd⟩
    · refine ⟨⟨o, I.kIn p o hk, hc⟩, fun a e => ?_⟩
      cases e
      exact ⟨o, I.kIn _ o hk, hd⟩
    · have z : ∃ o, s.heap.get? p = some o ∧ o.ExactDict := by
        rcases hk with ⟨kvs, hk⟩ | ⟨kvs, hk⟩
        · obtain ⟨_, _, _, _, o, _, _, e, ex, _⟩ := I.hok p _ hk
          exact ⟨o, e, ex⟩
        · obtain ⟨_, _, _, _, o, _, _, e, ex, _⟩ := I.hok p _ hk
          exact ⟨o, e, ex⟩
      obtain ⟨o, e, ex⟩ := z
      refine ⟨⟨o, e, ex.1⟩, fun a e2 => ?_⟩
      cases e2
      exact ⟨o, e, ex.2.1⟩
    · obtain ⟨o, _, _, _, e, ex, _⟩ := I.hok p _ hk
      refine ⟨⟨o, e, ex.1⟩, fun a e2 => ?_⟩
      cases e2
      exact ⟨o, e, ex.2.1⟩
  | _ => exact False.elim ty
def tBM0 (K : PySem.W.Frag) (T : String) (r : V → List V → Hp → VK → Prop) (to : TE) : TE := fun σ H Q => to σ H fun x H1 => tyV K T x H1 ∧ r x [] H1 Q
def tBM (K : PySem.W.Frag) (T : String) (r : V → List V → Hp → VK → Prop) (to : TE) (t : TA) : TE := fun σ H Q => to σ H fun x H1 => tyV K T x H1 ∧ t σ H1 fun xs H2 => r x xs H2 Q
variable {o e : Expr} {es : List Expr} {to : TE} {t : TA} {name : Str} {apos cpos : Pos} {T id : String} {r : V → List V → Hp → VK → Prop}
theorem pe_bm (pa : PlainAttrs T) (slot : Slot T name id) (hty : typeOf (.builtin id) = pure (.type "method_descriptor")) (hm : MtR X id r) (ho : PE X o to) (ha : PA X (e :: es) t)
    (hbase : attributeBase o name X.env (eval o X.env) = eval o X.env := by rfl)
    (hfew : ((backTo cpos (starEach (e :: es) X.env)).all (fun x => !x.1) && (backToKw cpos (keywordEach [] X.env)).all (fun x => x.1.isSome)
      && decide ((e :: es).length + ([] : List Keyword).length + (if ([] : List Keyword).isEmpty then 0 else 1) < 30)) = true := by rfl)
    (hline : (apos.endLine == cpos.line) = true := by rfl) (hs : starEach (e :: es) X.env = (false, eval e X.env) :: starEach es X.env := by rfl) (hplain : (backTo cpos (starEach es X.env)).any (·.1) = false := by rfl) :
    PE X (.Call (.Attribute o name apos) (e :: es) [] cpos) (tBM X.K T r to t) := by
  intro pins s σ H Q I h
  refine wpAny_Call_method_late hbase hfew hline rfl (thn (ho pins s σ H _ I h) fun v s1 ⟨x, H1, I1, r1, ty, q1⟩ => ?_)
  obtain ⟨h1, h2⟩ := tyV_is I1 r1 ty
  refine ⟨T, id, pa, slot, hty, h1, h2, ?_⟩
  have hA := ha cpos pins s1 σ H1 _ I1 q1
  rw [hs] at hA ⊢
  refine Calls.callWith_builtin (by show (false || (backTo cpos (starEach es X.env)).any (·.1)) = false; rw [hplain] <;> rfl) (Calls.evalArgs_plain ?_)
  exact thn hA fun us s2 ⟨vs, H2, I2, r2, q2⟩ => hm pins s2 σ H2 x vs v us Q I2 r1 r2 q2
/- xs.append(e), list.index on a module's tuple .. are MtR facts of 06m -/
end
end L2

namespace L2
open PySem PySem.Spec PyProof.Rows

def MtM (X : Cx) (id : String) (r : V → List V → Hp → VK → Prop) : Prop :=
  ∀ (pins : List (Addr × Obj)) (s : Shared) (σ : St) (H : Hp) (x : V) (xs : List V) (v : Value) (us : List Value) (Q : VK), Inv X pins σ H s → RelV x v → Vals xs us → r x xs H Q →
    wpAny (model X.prog X.w) X.A (call (.builtin id) (v :: us)) (EP X pins σ Q) X.xe s

/-! ### lists of values -/

section
variable {X : Cx} {pins : List (Addr × Obj)} {σ : St} {H : Hp} {s : Shared} {l b : Addr} {xs ys zs : List V}

/-! ### the two steps: a tracked list is rewritten, a new list is laid -/
theorem Inv.lnew {its : List Value} {t' : Nat} (I : Inv X pins σ H s) (hv : Vals ys its) (hz : ys.length ≤ sizeLine) :
    Inv X pins σ (upd H s.heap.objs.size (.lst ys)) { s with heap := s.heap.push { cls := .type "list", data := .seq its.toArray }, toks := t' } :=
  I.laid (fun _ _ q => Heap.get?_push_of_some _ q) (Nat.le_refl _) ⟨hz, its, 0, hv, Heap.get?_push_size _ rfl⟩
theorem Inv.fresh (I : Inv X pins σ H s) : H s.heap.objs.size = none := I.hok.fresh (Nat.le_refl _)
theorem Inv.lstM (I : Inv X pins σ H s) (hH : H l = some (.lst xs)) : xs.length ≤ sizeLine ∧ ∃ (its : List Value) (n : Nat), Vals xs its ∧ xs.length = its.length ∧ s.heap.get? l = some { cls := .type "list", data := .seq its.toArray n } := by
  obtain ⟨z, its, n, r, e⟩ := I.hok l _ hH
  exact ⟨z, its, n, r, r.length, e⟩

end

section
variable {X : Cx}

/-! ### methods -/
def rAppend : V → List V → Hp → VK → Prop := fun x vs H Q => ∃ l xs y, x = .ref l ∧ vs = [y] ∧ H l = some (.lst xs) ∧ xs.length < sizeLine ∧ Q .non (upd H l (.lst (xs ++ [y])))

def rExtend : V → List V → Hp → VK → Prop := fun x vs H Q => ∃ l b xs zs, x = .ref l ∧ vs = [.ref b] ∧ H l = some (.lst xs) ∧ H b = some (.lst zs) ∧ xs.length + zs.length ≤ sizeLine ∧ Q .non (upd H l (.lst (xs ++ zs)))

def rPop : V → List V → Hp → VK → Prop := fun x vs H Q => ∃ l xs y, x = .ref l ∧ vs = [] ∧ H l = some (.lst xs) ∧ xs[xs.length - 1]? = some y ∧ Q y (upd H l (.lst xs.dropLast))

def rPopAt : V → List V → Hp → VK → Prop := fun x vs H Q => ∃ l xs i k y, x = .ref l ∧ vs = [.int i] ∧ H l = some (.lst xs) ∧ -(2 ^ 63) ≤ i ∧ i < 2 ^ 63 ∧ seqIndex? i xs.length = some k ∧ xs[k]? = some y ∧ Q y (upd H l (.lst (xs.eraseIdx k)))

def rReverse : V → List V → Hp → VK → Prop := fun x vs H Q => ∃ l xs, x = .ref l ∧ vs = [] ∧ H l = some (.lst xs) ∧ Q .non (upd H l (.lst xs.reverse))

def rClear : V → List V → Hp → VK → Prop := fun x vs H Q => ∃ l xs, x = .ref l ∧ vs = [] ∧ H l = some (.lst xs) ∧ Q .non (upd H l (.lst []))

/-! ### list + list, list += list, list * int -/
def rCat : R2 := fun x y H Q => ∃ l b xs zs, x = .ref l ∧ y = .ref b ∧ H l = some (.lst xs) ∧ H b = some (.lst zs) ∧ xs.length + zs.length ≤ sizeLine ∧ ∀ p, H p = none → Q (.ref p) (upd H p (.lst (xs ++ zs)))
theorem op_cat : OpR X (binaryOp .Add) rCat := by
  intro pins s σ H x y v u Q I rx ry h
  obtain ⟨l, b, xs, zs, rfl, rfl, hH, hB, hz, q⟩ := h
  cases rx
  cases ry
  obtain ⟨z, its, n, r, hl, e⟩ := I.lstM hH
  obtain ⟨z2, its2, n2, r2, hl2, e2⟩ := I.lstM hB
  refine PySem.P.add_list e e2 ?_ (by rw [List.size_toArray, List.size_toArray]; omega)
  have ea : its.toArray ++ its2.toArray = (its ++ its2).toArray := by simp
  rw [ea]
  exact ⟨.ref _, _, I.lnew (t' := s.toks) (r.append r2) (by rw [List.length_append]; omega), rfl, q _ I.fresh⟩
/-- a list times an int (a negative one is nothing) -/
def rRep : R2 := fun x y H Q => ∃ l k xs, x = .ref l ∧ y = .int k ∧ H l = some (.lst xs) ∧ -(2 ^ 63) ≤ k ∧ k < 2 ^ 63 ∧ xs.length * k.toNat ≤ sizeLine ∧
  ∀ p, H p = none → Q (.ref p) (upd H p (.lst (List.replicate k.toNat xs).flatten))

/-! ### del xs[i] -/
end

/-! ### xs[a:b] = ys -/
section
variable {prog : Program} {w : World} {A : Around} {E : Value → Shared → Prop} {s : Shared}
set_option maxRecDepth 100000 in
end

section
variable {X : Cx}
end
end L2

namespace L2
open PySem PySem.Spec PyProof.Rows

theorem Vals.ints : ∀ {ns : List Int} {us : List Value}, Vals (ns.map V.int) us → IntsAre us ns
  | [], us, h => by
    rw [List.map_nil] at h
    cases h
    exact IntsAre.nil
  | n :: ns, us, h => by
    rw [List.map_cons] at h
    cases h with
    | cons r t =>
      obtain ⟨k, rfl⟩ := r
      exact IntsAre.cons n k (Vals.ints t)
theorem Vals.bls : ∀ {bs : List Bool} {us : List Value}, Vals (bs.map V.bl) us → us = bs.map Value.bool
  | [], us, h => by
    rw [List.map_nil] at h
    cases h
    rfl
  | b :: bs, us, h => by
    rw [List.map_cons] at h
    cases h with
    | cons r t =>
      cases r
      rw [Vals.bls t, List.map_cons]
theorem Vals.ref1 {a : Addr} {us : List Value} (r : Vals [V.ref a] us) : us = [Value.ref a] := by
  cases r with
  | cons r t =>
    cases t
    cases r
    rfl

/-! ### the library's walks over a list of ints, kept objects alone -/
section
variable {prog : Program} {w : World} {A : Around} {E : Value → Shared → Prop} {s : Shared} {l : Addr} {its : List Value} {ns : List Int} {Q : Value → Shared → Prop}
theorem sum_raw (hh : A.handled = none) (hl : s.heap.IsList l its.toArray) (hi : IntsAre its ns)
    (h : ∀ h' tk t', (∀ b o, s.heap.get? b = some o → h'.get? b = some o) → Q (.int ns.sum t') { s with heap := h', toks := tk }) : wpAny (model prog w) A (call (.builtin "sum") [.ref l]) Q E s := by
  obtain ⟨xs, e⟩ := hi.allInts.items
  have hn : numsOf (intItems xs).toList = ns := by rw [← e]; exact hi.numsOf
  rw [nums_intItems] at hn
  rw [e] at hl
  refine PySem.sum_intListG hh hl fun h' tk t' hk => ?_
  have := h h' tk t' hk
  rw [preSum_eq, List.take_of_length_le (by simp), hn]; exact this
theorem max_raw (hh : A.handled = none) (hl : s.heap.IsList l its.toArray) (hi : IntsAre its ns) (hne : 0 < ns.length)
    (h : ∀ h' tk M t', (∀ b o, s.heap.get? b = some o → h'.get? b = some o) → M ∈ ns → (∀ a, a ∈ ns → a ≤ M) → Q (.int M t') { s with heap := h', toks := tk }) : wpAny (model prog w) A (call (.builtin "max") [.ref l]) Q E s := by
  obtain ⟨xs, e⟩ := hi.allInts.items
  have hn : numsOf (intItems xs).toList = ns := by rw [← e]; exact hi.numsOf
  rw [nums_intItems] at hn
  subst hn
  rw [e] at hl
  have hsz : 0 < xs.size := by simpa using hne
  refine PySem.max_intList hh hl hsz fun v h' tk hv hk => ?_
  obtain ⟨t, rfl⟩ := intItems_at hv
  obtain ⟨h1, h2⟩ := argBest_gt (numAt xs) (xs.size - 1)
  refine h h' tk _ t hk ?_ fun a ha => ?_
  · rw [numAt_eq]; exact PySem.getD_mem (by rw [List.length_map, Array.length_toList]; omega)
  · obtain ⟨j, hj, rfl⟩ := mem_getD ha
    rw [List.length_map, Array.length_toList] at hj
    rw [← numAt_eq]; exact h2 j (by omega)
theorem min_raw (hh : A.handled = none) (hl : s.heap.IsList l its.toArray) (hi : IntsAre its ns) (hne : 0 < ns.length)
    (h : ∀ h' tk M t', (∀ b o, s.heap.get? b = some o → h'.get? b = some o) → M ∈ ns → (∀ a, a ∈ ns → M ≤ a) → Q (.int M t') { s with heap := h', toks := tk }) : wpAny (model prog w) A (call (.builtin "min") [.ref l]) Q E s := by
  obtain ⟨xs, e⟩ := hi.allInts.items
  have hn : numsOf (intItems xs).toList = ns := by rw [← e]; exact hi.numsOf
  rw [nums_intItems] at hn
  subst hn
  rw [e] at hl
  have hsz : 0 < xs.size := by simpa using hne
  refine PySem.min_intList hh hl hsz fun v h' tk hv hk => ?_
  obtain ⟨t, rfl⟩ := intItems_at hv
  obtain ⟨h1, h2⟩ := argBest_lt (numAt xs) (xs.size - 1)
  refine h h' tk _ t hk ?_ fun a ha => ?_
  · rw [numAt_eq]; exact PySem.getD_mem (by rw [List.length_map, Array.length_toList]; omega)
  · obtain ⟨j, hj, rfl⟩ := mem_getD ha
    rw [List.length_map, Array.length_toList] at hj
    rw [← numAt_eq]; exact h2 j (by omega)
end

/-! ### the calls, by values (CallR of 03t; MtR of 06l) -/
section
variable {X : Cx}
/-- sum(xs) of a list of ints -/
def rSum (K : PySem.W.Frag) : List V → Hp → VK → Prop := fun vs H Q => ∃ (a : Addr) (ns : List Int), vs = [V.ref a] ∧ SqL K H a (ns.map V.int) ∧ Q (.int ns.sum) H
/-- max(xs), min(xs) of a list of ints -/
def rMax (K : PySem.W.Frag) : List V → Hp → VK → Prop := fun vs H Q => ∃ (a : Addr) (ns : List Int), vs = [V.ref a] ∧ SqL K H a (ns.map V.int) ∧ 0 < ns.length ∧ ∀ m, m ∈ ns → (∀ y, y ∈ ns → y ≤ m) → Q (.int m) H
def rMin (K : PySem.W.Frag) : List V → Hp → VK → Prop := fun vs H Q => ∃ (a : Addr) (ns : List Int), vs = [V.ref a] ∧ SqL K H a (ns.map V.int) ∧ 0 < ns.length ∧ ∀ m, m ∈ ns → (∀ y, y ∈ ns → m ≤ y) → Q (.int m) H
theorem cr_sum (hc : X.calm = true) : CallR X (.builtin "sum") (rSum X.K) := by
  intro pins s σ H vs us Q I r h
  obtain ⟨a, ns, rfl, hs, q⟩ := h
  obtain ⟨its, rv, hl, _⟩ := I.list hs
  rw [Vals.ref1 r]
  exact sum_raw (I.ok.hd hc) hl.isList rv.ints fun h' tk t' hk => ⟨.int _, H, I.kept hk, ⟨_, rfl⟩, q⟩
theorem cr_max (hc : X.calm = true) : CallR X (.builtin "max") (rMax X.K) := by
  intro pins s σ H vs us Q I r h
  obtain ⟨a, ns, rfl, hs, hne, q⟩ := h
  obtain ⟨its, rv, hl, _⟩ := I.list hs
  rw [Vals.ref1 r]
  exact max_raw (I.ok.hd hc) hl.isList rv.ints hne fun h' tk m t' hk h1 h2 => ⟨.int _, H, I.kept hk, ⟨_, rfl⟩, q m h1 h2⟩
theorem cr_min (hc : X.calm = true) : CallR X (.builtin "min") (rMin X.K) := by
  intro pins s σ H vs us Q I r h
  obtain ⟨a, ns, rfl, hs, hne, q⟩ := h
  obtain ⟨its, rv, hl, _⟩ := I.list hs
  rw [Vals.ref1 r]
  exact min_raw (I.ok.hd hc) hl.isList rv.ints hne fun h' tk m t' hk h1 h2 => ⟨.int _, H, I.kept hk, ⟨_, rfl⟩, q m h1 h2⟩

/-! sorted, sort (fewer than 64 items: the library's own bound) -/
def rSorted (K : PySem.W.Frag) : List V → Hp → VK → Prop := fun vs H Q => ∃ (a : Addr) (ns : List Int), vs = [V.ref a] ∧ SqL K H a (ns.map V.int) ∧ ns.length < 64 ∧
  ∀ (ns' : List Int) (p : Addr), ns'.Perm ns → ns'.Pairwise (· ≤ ·) → H p = none → Q (.ref p) (upd H p (.lst (ns'.map V.int)))
def rSortedS (K : PySem.W.Frag) : List V → Hp → VK → Prop := fun vs H Q => ∃ (a : Addr) (xs : List Str), vs = [V.ref a] ∧ SqL K H a (xs.map V.str) ∧ xs.length < 64 ∧
  ∀ (ys : List Str) (p : Addr), ys.Perm xs → sortedS ys = true → H p = none → Q (.ref p) (upd H p (.lst (ys.map V.str)))
/-- xs.sort(), ints -/
def rSort : V → List V → Hp → VK → Prop := fun x xs H Q => ∃ (a : Addr) (ns : List Int), x = V.ref a ∧ xs = [] ∧ H a = some (.lst (ns.map V.int)) ∧ ns.length < 64 ∧
  ∀ ns' : List Int, ns'.Perm ns → ns'.Pairwise (· ≤ ·) → Q .non (upd H a (.lst (ns'.map V.int)))
end

/-! ### list.index, flat items -/
section
variable {X : Cx}
def rIndex (K : PySem.W.Frag) : V → List V → Hp → VK → Prop := fun x xs H Q => ∃ (a : Addr) (ys : List V) (y : V) (j : Nat) (z : V), x = V.ref a ∧ xs = [y] ∧ SqL K H a ys ∧ flatV y = true ∧ ys.all flatV = true ∧ ys[j]? = some z ∧ eqV z y = true ∧
  (∀ (m : Nat) (z' : V), m < j → ys[m]? = some z' → eqV z' y = false) ∧ Q (.int (j : Nat)) H
end

/-! ### type(x) of an own instance; is, is not of a module's class -/
section
variable {X : Cx}
end

/-! ### any(xs), all(xs) of a list of bools -/
theorem iter_any {prog : Program} {w : World} {A : Around} {E : Value → Shared → Prop} {s : Shared} {l : Addr} {items : Array Value} {Q : Value → Shared → Prop} (hl : s.heap.IsList l items)
    (h : ∀ s₂ : Shared, s₂ = { s with heap := s.heap.push { cls := .type "list_iterator", data := .fields #[.ref l, .int 0 0] } } →
      (s₂.heap.IsListIter s.heap.objs.size l 0 ∧ s₂.heap.IsList l items) → l ≠ s.heap.objs.size → Q (.ref s.heap.objs.size) s₂) : wpAny (model prog w) A (pyIter (.ref l)) Q E s := by
  have hlt : l < s.heap.objs.size := by obtain ⟨_, e, _⟩ := hl; exact Heap.lt_size e
  exact wpAny_pyIter_list hl (h _ rfl ⟨⟨_, Heap.get?_push_size _ rfl, rfl, rfl⟩, hl.push _⟩ (Nat.ne_of_lt hlt))
theorem truth_bools {prog : Program} {w : World} {A : Around} {bs : List Bool} {its : List Value} (e : its = bs.map Value.bool) :
    TruthOf prog w A (fun i v => its.toArray[i]? = some v) (fun i => bs.getD i false) := fun i v s Q E hv hq => by
  have hv' : its[i]? = some v := by simpa using hv
  rw [e, List.getElem?_map] at hv'
  obtain ⟨b, hb, rfl⟩ := Option.map_eq_some_iff.mp hv'
  have hg : bs.getD i false = b := by rw [List.getD_eq_getElem?_getD, hb] <;> rfl
  have hq' : Q (bs.getD i false) s := hq
  rw [hg] at hq'
  exact wpAny_truthy_bool hq'
theorem any_range : ∀ bs : List Bool, (List.range bs.length).any (fun i => bs.getD i false) = bs.any id
  | [] => rfl
  | b :: bs => by
    rw [List.length_cons, List.range_succ_eq_map, List.any_cons, List.any_map, List.any_cons, ← any_range bs]
    all_goals rfl
theorem all_range : ∀ bs : List Bool, (List.range bs.length).all (fun i => bs.getD i false) = bs.all id
  | [] => rfl
  | b :: bs => by
    rw [List.length_cons, List.range_succ_eq_map, List.all_cons, List.all_map, List.all_cons, ← all_range bs]
    all_goals rfl
section
variable {X : Cx}
def rAny (K : PySem.W.Frag) : List V → Hp → VK → Prop := fun vs H Q => ∃ (a : Addr) (bs : List Bool), vs = [V.ref a] ∧ SqL K H a (bs.map V.bl) ∧ Q (.bl (bs.any id)) H
def rAll (K : PySem.W.Frag) : List V → Hp → VK → Prop := fun vs H Q => ∃ (a : Addr) (bs : List Bool), vs = [V.ref a] ∧ SqL K H a (bs.map V.bl) ∧ Q (.bl (bs.all id)) H
theorem cr_any (hc : X.calm = true) : CallR X (.builtin "any") (rAny X.K) := by
  intro pins s σ H vs us Q I r h
  obtain ⟨a, bs, rfl, hs, q⟩ := h
  obtain ⟨its, rv, hl, _⟩ := I.list hs
  rw [Vals.ref1 r]
  have hb := rv.bls
  refine call_any_walk (iter_any hl.isList fun s₂ e2 st hne => ?_)
  subst e2
  refine ⟨_, _, _, _, _, _, _, rfl, Walks.list (A := X.A.in1) (I.ok.hd hc) _ a hne its.toArray, st, truth_bools hb, fun h' tk hk => ?_⟩
  refine ⟨.bl _, H, I.kept fun b o eo => hk b o (fun hmem => ?_) (Heap.get?_push_of_some _ eo), ?_, q⟩
  · rcases List.mem_cons.mp hmem with e1 | hmem
    · exact absurd (e1 ▸ Heap.lt_size eo) (Nat.lt_irrefl _)
    · cases hmem
  · show Value.bool _ = Value.bool _
    rw [← any_range, hb, List.size_toArray, List.length_map]
theorem cr_all (hc : X.calm = true) : CallR X (.builtin "all") (rAll X.K) := by
  intro pins s σ H vs us Q I r h
  obtain ⟨a, bs, rfl, hs, q⟩ := h
  obtain ⟨its, rv, hl, _⟩ := I.list hs
  rw [Vals.ref1 r]
  have hb := rv.bls
  refine call_all_walk (iter_any hl.isList fun s₂ e2 st hne => ?_)
  subst e2
  refine ⟨_, _, _, _, _, _, _, rfl, Walks.list (A := X.A.in1) (I.ok.hd hc) _ a hne its.toArray, st, truth_bools hb, fun h' tk hk => ?_⟩
  refine ⟨.bl _, H, I.kept fun b o eo => hk b o (fun hmem => ?_) (Heap.get?_push_of_some _ eo), ?_, q⟩
  · rcases List.mem_cons.mp hmem with e1 | hmem
    · exact absurd (e1 ▸ Heap.lt_size eo) (Nat.lt_irrefl _)
    · cases hmem
  · show Value.bool _ = Value.bool _
    rw [← all_range, hb, List.size_toArray, List.length_map]
end

/-! ### == and != of data at any depth: none, bools, ints, texts, lists, tuples -/
mutual
inductive Dp (K : PySem.W.Frag) (H : Hp) : V → PyData → Prop
  | non : Dp K H .non .none
  | bl (b : Bool) : Dp K H (.bl b) (.bool b)
  | int (i : Int) : Dp K H (.int i) (.int i)
  | str (x : Str) : Dp K H (.str x) (.str x)
  | lst {a : Addr} {xs : List V} {ds : List PyData} : SqL K H a xs → DpAll K H xs ds → Dp K H (.ref a) (.list ds)
  | tup {a : Addr} {xs : List V} {ds : List PyData} : SqT K H a xs → DpAll K H xs ds → Dp K H (.ref a) (.tuple ds)
inductive DpAll (K : PySem.W.Frag) (H : Hp) : List V → List PyData → Prop
  | nil : DpAll K H [] []
  | cons {v : V} {vs : List V} {d : PyData} {ds : List PyData} : Dp K H v d → DpAll K H vs ds → DpAll K H (v :: vs) (d :: ds)
end
section
variable {X : Cx} {pins : List (Addr × Obj)} {σ : St} {H : Hp} {s : Shared}
mutual
theorem Dp.reads (I : Inv X pins σ H s) : ∀ (d : PyData) (v : V) (u : Value), Dp X.K H v d → RelV v u → ∃ as, Reads s.heap u d as
  | .none, _, _, h, r => by
    cases h
    cases r
    exact ⟨_, Reads.none⟩
  | .bool b, _, _, h, r => by
    cases h
    cases r
    exact ⟨_, Reads.bool b⟩
  | .int i, _, _, h, r => by
    cases h
    obtain ⟨t, rfl⟩ := r
    exact ⟨_, Reads.int i t⟩
  | .str x, _, _, h, r => by
    cases h
    obtain ⟨t, rfl⟩ := r
    exact ⟨_, Reads.str x t⟩
  | .list ds, _, _, h, r => by
    cases h with
    | lst hs ha =>
      cases r
      obtain ⟨its, rv, ⟨o, n, ho, hc, _, hd⟩, _⟩ := I.list hs
      obtain ⟨as, hr⟩ := Dp.readsAll I ds _ its ha rv
      exact ⟨_, Reads.list ho hc hd hr⟩
  | .tuple ds, _, _, h, r => by
    cases h with
    | tup hs ha =>
      cases r
      obtain ⟨its, rv, ⟨o, ho, hc, n, hd⟩, _⟩ := I.tuple hs
      obtain ⟨as, hr⟩ := Dp.readsAll I ds _ its ha rv
      exact ⟨_, Reads.tuple ho hc hd hr⟩
  | .dict _, _, _, h, _ => by cases h
theorem Dp.readsAll (I : Inv X pins σ H s) : ∀ (ds : List PyData) (vs : List V) (us : List Value), DpAll X.K H vs ds → Vals vs us → ∃ as, ReadsAll s.heap us ds as
  | [], _, _, h, r => by
    cases h
    cases r
    exact ⟨_, ReadsAll.nil⟩
  | d :: ds, _, _, h, r => by
    cases h with
    | cons h1 h2 =>
      cases r with
      | cons r1 r2 =>
        obtain ⟨as, q1⟩ := Dp.reads I d _ _ h1 r1
        obtain ⟨bs, q2⟩ := Dp.readsAll I ds _ _ h2 r2
        exact ⟨_, ReadsAll.cons q1 q2⟩
end
end
section
variable {X : Cx}
def rEqD (K : PySem.W.Frag) : R2 := fun x y H Q => ∃ d e, Dp K H x d ∧ Dp K H y e ∧ SeqAt.shaped d = true ∧ SeqAt.shaped e = true ∧ Q (.bl (PyData.eqv d e)) H
def rNeD (K : PySem.W.Frag) : R2 := fun x y H Q => ∃ d e, Dp K H x d ∧ Dp K H y e ∧ SeqAt.shaped d = true ∧ SeqAt.shaped e = true ∧ Q (.bl (!PyData.eqv d e)) H
theorem op_eqD (hu : X.A.units + 64 < cLine) : OpR X (compareOp .Eq) (rEqD X.K) := by
  intro pins s σ H x y v u Q I rx ry h
  obtain ⟨d, e, hd, he, sd, se, q⟩ := h
  obtain ⟨as, r1⟩ := Dp.reads I d x v hd rx
  obtain ⟨bs, r2⟩ := Dp.reads I e y u he ry
  exact SeqAt.compareEq_shaped r1 r2 sd se hu ⟨.bl _, H, I, rfl, q⟩
theorem op_neD (hu : X.A.units + 64 < cLine) : OpR X (compareOp .NotEq) (rNeD X.K) := by
  intro pins s σ H x y v u Q I rx ry h
  obtain ⟨d, e, hd, he, sd, se, q⟩ := h
  obtain ⟨as, r1⟩ := Dp.reads I d x v hd rx
  obtain ⟨bs, r2⟩ := Dp.reads I e y u he ry
  exact SeqAt.compareNe_shaped r1 r2 sd se hu ⟨.bl _, H, I, rfl, q⟩
end
end L2

namespace L2
open PySem PySem.Spec PyProof.Rows
abbrev CellAt (h : Heap) (c : Addr) (v : Option Value) : Prop := h.IsCell c v
def relS (scope sc : Scope) : Scope :=
  { scope with names := scope.names.map fun (n, k) => if (k == .free && sc.kind == .function && sc.names.lookup n == some .cell) then (n, .cell) else (n, k) }

def cloFrom (cells : List (Str × Addr)) : List (Str × NameKind) → List (Str × Addr) → List (Str × Addr)
  | [], acc => acc
  | (n, k) :: r, acc => if k == .free then cloFrom cells r ((n, (cells.lookup n).getD 0) :: acc) else cloFrom cells r acc

theorem closure_loop (env : Env) (f : Str × NameKind → List (Str × Addr) → Sem (ForInStep (List (Str × Addr))))
    (hf : ∀ n k c, f (n, k) c = if k == .free then (do let a ← cellOf env n; pure (.yield ((n, a) :: c))) else pure (.yield c)) :
    ∀ (names : List (Str × NameKind)) (acc : List (Str × Addr)), (∀ y ∈ names, y.2 = .free → ∃ c, env.cells.lookup y.1 = some c) → forIn names acc f = pure (cloFrom env.cells names acc)
  | [], acc, _ => by rw [List.forIn_nil]; rfl
  | (n, k) :: r, acc, h => by
    rw [List.forIn_cons, hf]
    have ih := fun acc => closure_loop env f hf r acc fun y hy => h y (List.mem_cons_of_mem _ hy)
    unfold cloFrom
    by_cases hk : (k == NameKind.free) = true
    · rw [if_pos hk, if_pos hk]
      obtain ⟨c, hc⟩ := h (n, k) List.mem_cons_self (by simpa using hk)
      have e : cellOf env n = pure c := by unfold cellOf; rw [hc]
      rw [e]
      have e2 : (env.cells.lookup n).getD 0 = c := by rw [hc]; rfl
      rw [e2]
      exact ih _
    · rw [if_neg hk, if_neg hk]
      exact ih _
theorem closure_ok {scope : Scope} {env : Env} (h : ∀ y ∈ scope.names, y.2 = .free → ∃ c, env.cells.lookup y.1 = some c) : closureFor scope env = pure (cloFrom env.cells scope.names []) := by
  simp only [closureFor]
  rw [closure_loop env _ (fun n k c => rfl) scope.names [] h]
  rfl

theorem mem_lookup {α : Type} : ∀ {l : List (Str × α)} {n : Str} {c : α}, (n, c) ∈ l → ∃ c', l.lookup n = some c'
  | (k, v) :: r, n, c, h => by
    rw [List.lookup_cons]
    cases hb : n == k with
    | true => exact ⟨_, rfl⟩
    | false =>
      rcases List.mem_cons.mp h with e | h
      · cases e; simp at hb
      · exact mem_lookup h

theorem cloFrom_mem {cells : List (Str × Addr)} : ∀ {names : List (Str × NameKind)} {acc : List (Str × Addr)} {n : Str} {c : Addr}, (n, c) ∈ cloFrom cells names acc → (n, c) ∈ acc ∨ ((n, .free) ∈ names ∧ c = (cells.lookup n).getD 0)
  | [], _, _, _, h => .inl h
  | (m, k) :: r, acc, n, c, h => by
    unfold cloFrom at h
    split at h
    · rename_i hk
      have hk : k = .free := by simpa using hk
      rcases cloFrom_mem h with h | ⟨h1, h2⟩
      · rcases List.mem_cons.mp h with e | h
        · cases e; exact .inr ⟨hk ▸ List.mem_cons_self, rfl⟩
        · exact .inl h
      · exact .inr ⟨List.mem_cons_of_mem _ h1, h2⟩
    · rcases cloFrom_mem h with h | ⟨h1, h2⟩
      · exact .inl h
      · exact .inr ⟨List.mem_cons_of_mem _ h1, h2⟩
theorem cloFrom_acc {cells : List (Str × Addr)} : ∀ {names : List (Str × NameKind)} {acc : List (Str × Addr)} {p : Str × Addr}, p ∈ acc → p ∈ cloFrom cells names acc
  | [], _, _, h => h
  | (m, k) :: r, acc, p, h => by
    unfold cloFrom
    split
    · exact cloFrom_acc (List.mem_cons_of_mem _ h)
    · exact cloFrom_acc h
theorem cloFrom_has {cells : List (Str × Addr)} : ∀ {names : List (Str × NameKind)} {acc : List (Str × Addr)} {n : Str}, (n, .free) ∈ names → (n, (cells.lookup n).getD 0) ∈ cloFrom cells names acc
  | (m, k) :: r, acc, n, h => by
    unfold cloFrom
    rcases List.mem_cons.mp h with e | h
    · cases e
      exact cloFrom_acc List.mem_cons_self
    · split
      · exact cloFrom_has h
      · exact cloFrom_has h

theorem cells_mem : ∀ {names : List (Str × NameKind)} {h : Heap} {acc : List (Str × Addr)} {x : Str} {c : Addr}, (x, c) ∈ cellsFrom h.objs.size names acc →
    (x, c) ∈ acc ∨ ((x, .cell) ∈ names ∧ h.objs.size ≤ c ∧ CellAt (pushCells h names) c none)
  | [], _, _, _, _, h => .inl h
  | (n, k) :: r, h, acc, x, c, hm => by
    unfold cellsFrom at hm
    unfold pushCells
    split at hm
    · rename_i hk
      rw [if_pos hk]
      have hk : k = .cell := by simpa using hk
      rw [← Heap.size_push h { cls := .type "cell", data := .cell none }] at hm
      rcases cells_mem hm with hm | ⟨h1, h2, h3⟩
      · rcases List.mem_cons.mp hm with e | hm
        · cases e
          exact .inr ⟨hk ▸ List.mem_cons_self, Nat.le_refl _, _, pushCells_keeps r _ _ _ (Heap.get?_push_size _ rfl), rfl⟩
        · exact .inl hm
      · rw [Heap.size_push] at h2
        exact .inr ⟨List.mem_cons_of_mem _ h1, Nat.le_of_succ_le h2, h3⟩
    · rename_i hk
      rw [if_neg hk]
      rcases cells_mem hm with hm | ⟨h1, h2, h3⟩
      · exact .inl hm
      · exact .inr ⟨List.mem_cons_of_mem _ h1, h2, h3⟩
theorem cells_acc : ∀ {names : List (Str × NameKind)} {n : Nat} {acc : List (Str × Addr)} {p : Str × Addr}, p ∈ acc → p ∈ cellsFrom n names acc
  | [], _, _, _, h => h
  | (m, k) :: r, n, acc, p, h => by
    unfold cellsFrom
    split
    · exact cells_acc (List.mem_cons_of_mem _ h)
    · exact cells_acc h
theorem cells_has : ∀ {names : List (Str × NameKind)} {n : Nat} {acc : List (Str × Addr)} {x : Str}, (x, .cell) ∈ names → ∃ c, (x, c) ∈ cellsFrom n names acc
  | (m, k) :: r, n, acc, x, h => by
    unfold cellsFrom
    rcases List.mem_cons.mp h with e | h
    · cases e
      exact ⟨n, cells_acc List.mem_cons_self⟩
    · split
      · exact cells_has h
      · exact cells_has h
theorem cells_inj : ∀ {names : List (Str × NameKind)} {h : Heap} {acc : List (Str × Addr)} {x y : Str} {c : Addr}, (∀ p ∈ acc, p.2 < h.objs.size) → (∀ x y c, (x, c) ∈ acc → (y, c) ∈ acc → x = y) →
    (x, c) ∈ cellsFrom h.objs.size names acc → (y, c) ∈ cellsFrom h.objs.size names acc → x = y
  | [], _, _, _, _, _, _, hi, h1, h2 => hi _ _ _ h1 h2
  | (n, k) :: r, h, acc, x, y, c, hl, hi, h1, h2 => by
    unfold cellsFrom at h1 h2
    split at h1
    · rename_i hk
      rw [if_pos hk] at h2
      rw [← Heap.size_push h { cls := .type "cell", data := .cell none }] at h1 h2
      refine cells_inj (h := h.push _) (fun p hp => ?_) (fun x y c a b => ?_) h1 h2
      · rw [Heap.size_push]
        rcases List.mem_cons.mp hp with rfl | hp
        · exact Nat.lt_succ_self _
        · exact Nat.lt_succ_of_lt (hl p hp)
      · rcases List.mem_cons.mp a with e | a <;> rcases List.mem_cons.mp b with e' | b
        · cases e; cases e'; rfl
        · cases e; exact absurd (hl _ b) (Nat.lt_irrefl _)
        · cases e'; exact absurd (hl _ a) (Nat.lt_irrefl _)
        · exact hi _ _ _ a b
    · rename_i hk
      rw [if_neg hk] at h2
      exact cells_inj hl hi h1 h2

theorem newEnv_comp {M : Model} {A : Around} {E : Value → Shared → Prop} {s : Shared} {scope : Scope} {globals : Addr} {closure : List (Str × Addr)} {qual : Str} {func : Option Addr} {code : Value} {around : Env} {builtins : Addr} {Q : Env → Shared → Prop}
    (h : Q (newEnv scope s.heap.objs.size globals (cellsFrom (s.heap.objs.size + 1) scope.names closure) qual func code (some around) builtins)
      { s with heap := pushCells (s.heap.push { cls := .type "dict", data := .dict #[] }) scope.names }) :
    wpAny M A (newFunctionEnv scope globals closure [] qual func code (some around) builtins) Q E s := by
  simp only [newFunctionEnv, Option.isSome_some, if_true]
  refine wpAny_bind (wpAny_alloc ?_)
  refine wpAny_bind (wpAny_layCells _ (fun n k c => rfl) scope.names closure _ _ ?_)
  rw [show ({ s with heap := s.heap.push { cls := .type "dict", data := .dict #[] } } : Shared).heap.objs.size = s.heap.objs.size + 1 from Heap.size_push ..]
  rw [List.forIn_nil]
  exact wpAny_bind (wpAny_pure (wpAny_pure h))

/-- every name of the written scope, in the scope that runs -/
theorem lookup_relS {sc : Scope} : ∀ {names : List (Str × NameKind)} {x : Str} {k : NameKind},
    (names.map fun (n, k) => if (k == NameKind.free && sc.kind == .function && sc.names.lookup n == some .cell) then (n, NameKind.cell) else (n, k)).lookup x = some k →
    ∃ k', names.lookup x = some k' ∧ (k = k' ∨ (k' = .free ∧ k = .cell))
  | [], _, _, h => by simp at h
  | (n, k₀) :: r, x, k, h => by
    have ih := @lookup_relS sc r x k
    have h' : List.lookup x ((if (k₀ == NameKind.free && sc.kind == .function && sc.names.lookup n == some .cell) = true then (n, NameKind.cell) else (n, k₀)) :: (r.map _)) = some k := h
    cases hx : x == n with
    | true =>
      simp only [List.lookup_cons, hx]
      by_cases hc : (k₀ == NameKind.free && sc.kind == .function && sc.names.lookup n == some .cell) = true
      · rw [if_pos hc] at h'
        simp only [List.lookup_cons, hx] at h'
        cases h'
        simp only [Bool.and_eq_true, beq_iff_eq] at hc
        exact ⟨k₀, rfl, .inr ⟨hc.1.1, rfl⟩⟩
      · rw [if_neg hc] at h'
        simp only [List.lookup_cons, hx] at h'
        cases h'
        exact ⟨_, rfl, .inl rfl⟩
    | false =>
      simp only [List.lookup_cons, hx]
      by_cases hc : (k₀ == NameKind.free && sc.kind == .function && sc.names.lookup n == some .cell) = true
      · rw [if_pos hc] at h'
        simp only [List.lookup_cons, hx] at h'
        exact ih h'
      · rw [if_neg hc] at h'
        simp only [List.lookup_cons, hx] at h'
        exact ih h'



/-- the names of a comprehension's block: its own (with their places in N), or captured -/
structure BlkOk (N : List Str) (sc scope : Scope) (own : List (Str × Nat)) : Prop where
  kind : scope.kind = .function
  uniq : ∀ y ∈ scope.names, scope.names.lookup y.1 = some y.2
  ix : ∀ p ∈ own, N[p.2]? = some p.1
  free : ∀ y ∈ scope.names, y.2 = .free → sc.names.lookup y.1 = some .cell ∨ sc.names.lookup y.1 = some .free
  own : ∀ y ∈ scope.names, y.2 = .local ∨ y.2 = .cell → y.1 ∈ own.map (·.1) ∨ y.1 ∉ N
/-- the slots of the block's own names forgotten -/
def wipe (σ : St) : List Nat → St
  | [] => σ
  | v :: vs => (wipe σ vs).set v none
theorem wipe_length (σ : St) : ∀ vs : List Nat, (wipe σ vs).length = σ.length
  | [] => rfl
  | v :: vs => by unfold wipe; rw [List.length_set, wipe_length σ vs]
theorem wipe_some {σ : St} {i : Nat} {x : V} : ∀ {vs : List Nat}, (wipe σ vs)[i]? = some (some x) → σ[i]? = some (some x) ∧ i ∉ vs
  | [], h => ⟨h, by simp⟩
  | v :: vs, h => by
    unfold wipe at h
    by_cases hi : v = i
    · subst hi
      by_cases hv : v < (wipe σ vs).length
      · rw [List.getElem?_set_self hv] at h; cases h
      · rw [List.getElem?_eq_none (by simpa using hv)] at h; cases h
    · rw [List.getElem?_set_ne hi] at h
      obtain ⟨h1, h2⟩ := wipe_some h
      exact ⟨h1, by simp only [List.mem_cons, not_or]; exact ⟨fun e => hi e.symm, h2⟩⟩

/-- the context of a block that starts at s, its iterator's objects at fp -/
abbrev Cx.blk (X : Cx) (s : Shared) (H : Hp) (scope : Scope) (cenv : Env) (fp : List Addr) : Cx := { X with s_0 := s, H_0 := H, env := cenv, outer := X.stack, ex := fp, fn := fun x => scope.names.lookup x == some .cell, pn := [], xe := fun _ _ => False }
section
variable {X : Cx} {pins : List (Addr × Obj)} {σ : St} {H : Hp} {s : Shared}
theorem block_start {scope : Scope} {own : List (Str × Nat)} {fp : List Addr} (I : Inv X pins σ H s) (ok : BlkOk X.N X.env.scope scope own) (hN : X.N.Nodup) (hfp : ∀ b ∈ fp, FpOk X pins H b ∧ b < s.heap.objs.size) :
    Inv (X.blk s H scope (compEnvC scope (cellsFrom (s.heap.objs.size + 1) scope.names (cloFrom X.env.cells scope.names [])) s.heap.objs.size X.env) fp) [] (wipe σ (own.map (·.2))) H { s with heap := pushCells (s.heap.push { cls := .type "dict", data := .dict #[] }) scope.names } := by
  have hfree : ∀ y ∈ scope.names, y.2 = .free → ∃ c, X.env.cells.lookup y.1 = some c := fun y hy e => by
    rcases ok.free y hy e with k | k
    · exact I.ok.has _ (.inl k)
    · exact I.ok.has _ (.inr k)
  generalize hcenv : compEnvC scope (cellsFrom (s.heap.objs.size + 1) scope.names (cloFrom X.env.cells scope.names [])) s.heap.objs.size X.env = cenv
  have kp : ∀ b o, s.heap.get? b = some o → (pushCells (s.heap.push { cls := .type "dict", data := .dict #[] }) scope.names).get? b = some o := fun b o e => pushCells_keeps _ _ _ _ (Heap.get?_push_of_some _ e)
  have hL : cenv.locals = s.heap.objs.size := by rw [← hcenv]; rfl
  have hcl : cenv.cells = cellsFrom (s.heap.objs.size + 1) scope.names (cloFrom X.env.cells scope.names []) := by rw [← hcenv]; rfl
  have hsc : cenv.scope = relS scope X.env.scope := by rw [← hcenv]; rfl
  rw [← Heap.size_push s.heap { cls := .type "dict", data := .dict #[] }] at hcl
  have cm : ∀ {y c}, (y, c) ∈ cloFrom X.env.cells scope.names [] → X.env.cells.lookup y = some c ∧ c < s.heap.objs.size := fun {y c} hm => by
    rcases cloFrom_mem hm with hm | ⟨h1, rfl⟩
    · cases hm
    · obtain ⟨c, hc⟩ := hfree _ h1 rfl
      rw [hc]
      obtain ⟨w, z⟩ := I.cell _ _ hc
      exact ⟨rfl, z.lt⟩
  have mem : ∀ {y c}, cenv.cells.lookup y = some c → (X.env.cells.lookup y = some c ∧ c < s.heap.objs.size) ∨ (s.heap.objs.size + 1 ≤ c ∧ CellAt (pushCells (s.heap.push { cls := .type "dict", data := .dict #[] }) scope.names) c none) := fun {y c} e => by
    rw [hcl] at e
    rcases cells_mem (PySem.mem_of_lookup e) with hm | ⟨_, h2, h3⟩
    · exact .inl (cm hm)
    · rw [Heap.size_push] at h2; exact .inr ⟨h2, h3⟩
  have look : ∀ {y}, scope.names.lookup y = some .free → ∃ c, cenv.cells.lookup y = some c ∧ X.env.cells.lookup y = some c := fun {y} hl => by
    have hy : (y, NameKind.free) ∈ scope.names := PySem.mem_of_lookup hl
    obtain ⟨c', e'⟩ := mem_lookup (cells_acc (names := scope.names) (n := (s.heap.push { cls := .type "dict", data := .dict #[] }).objs.size) (cloFrom_has (cells := X.env.cells) (acc := []) hy))
    rw [← hcl] at e'
    refine ⟨c', e', ?_⟩
    rw [hcl] at e'
    rcases cells_mem (PySem.mem_of_lookup e') with hm | ⟨h1, _, _⟩
    · exact (cm hm).1
    · have := ok.uniq _ h1
      rw [hl] at this; cases this
  have okB : (X.blk s H scope cenv fp).Ok := by
    refine ⟨I.ok.mod, by show cenv.scope.kind = _; rw [hsc]; exact ok.kind, by show cenv.globals = _; rw [← hcenv]; exact I.ok.glob, by show cenv.builtins = _; rw [← hcenv]; exact I.ok.blt, by show s.heap.objs.size ≤ cenv.locals; rw [hL]; exact Nat.le_refl _,
      fun y z c e1 e2 => ?_, fun y hy => ?_, fun y c z e => ?_, I.ok.hd, I.ok.frames, .inl rfl, fun b hb => ⟨?_, fun y c e z => ?_⟩, I.bs, Nat.le_trans I.ok.bsz I.sz, fun b o e hb => ?_, fun b hb z => ?_, I.stack, I.stkFree⟩
    · have e1 : cenv.cells.lookup y = some c := e1
      have e2 : cenv.cells.lookup z = some c := e2
      rw [hcl] at e1 e2
      refine cells_inj (fun p hp => ?_) (fun y z c a b => I.ok.inj y z c (cm a).1 (cm b).1) (PySem.mem_of_lookup e1) (PySem.mem_of_lookup e2)
      rw [Heap.size_push]
      exact Nat.lt_succ_of_lt (cm (y := p.1) (c := p.2) hp).2
    · show ∃ c, cenv.cells.lookup y = some c
      have key : ∀ k, cenv.kindOf y = some k → (k = .cell ∨ k = .free) → ∃ c, cenv.cells.lookup y = some c := fun k hk hk' => by
        unfold Env.kindOf at hk
        rw [hsc] at hk
        obtain ⟨k', e, r⟩ := lookup_relS hk
        have : k' = .cell ∨ k' = .free := by
          rcases r with rfl | ⟨rfl, _⟩
          · exact hk'
          · exact .inr rfl
        rcases this with rfl | rfl
        · obtain ⟨c, hm⟩ := cells_has (n := (s.heap.push { cls := .type "dict", data := .dict #[] }).objs.size) (acc := cloFrom X.env.cells scope.names []) (PySem.mem_of_lookup e)
          obtain ⟨c', e'⟩ := mem_lookup hm
          exact ⟨c', by rw [hcl]; exact e'⟩
        · obtain ⟨c, h1, _⟩ := look e
          exact ⟨c, h1⟩
      rcases hy with hy | hy
      · exact key _ hy (.inl rfl)
      · exact key _ hy (.inr rfl)
    · have z : (scope.names.lookup y == some NameKind.cell) = true := z
      have z : scope.names.lookup y = some .cell := by simpa using z
      have e : cenv.cells.lookup y = some c := e
      rw [hcl] at e
      rcases cells_mem (PySem.mem_of_lookup e) with hm | ⟨_, h2, _⟩
      · rcases cloFrom_mem hm with hm | ⟨h1, _⟩
        · cases hm
        · have q := ok.uniq _ h1
          rw [z] at q; cases q
      · rw [Heap.size_push] at h2
        exact Nat.le_of_succ_le h2
    · show b ≠ cenv.locals
      rw [hL]; exact Nat.ne_of_lt (hfp b hb).2
    · have e : cenv.cells.lookup y = some c := e
      rcases mem e with ⟨h1, _⟩ | ⟨h1, _⟩
      · exact (hfp b hb).1.2.2.2.2.1 y c h1 z
      · have h2 : s.heap.objs.size + 1 ≤ b := by rw [← z]; exact h1
        exact absurd (Nat.lt_of_lt_of_le (hfp b hb).2 (Nat.le_of_succ_le h2)) (Nat.lt_irrefl _)
    · rcases (hfp b hb).1.2.2.2.1 with z | z
      · exact I.ok.noex b o e z
      · exact absurd (Nat.lt_of_lt_of_le (Heap.lt_size e) (Nat.le_trans I.ok.bsz z)) (Nat.lt_irrefl _)
    · rcases List.mem_cons.mp (I.stkSub b z) with z | z
      · exact (hfp b hb).1.2.1 z
      · exact (hfp b hb).1.2.2.1 z
  refine ⟨okB, rfl, I.bare, Un.kept kp, ⟨fun _ => none, ?_, fun i y av e1 e2 e3 => ?_⟩, fun y c e => ?_, ?_, fun y c e => ?_, fun p hp => ?_, I.hok.kept kp, by rw [wipe_length]; exact I.len⟩
  · show Heap.Ns _ cenv.locals _
    rw [hL]
    exact Heap.Ns.keeps (Heap.Ns.new ..) fun b o e => pushCells_keeps _ _ _ _ e
  · obtain ⟨e2, hne⟩ := wipe_some e2
    have hfr : scope.names.lookup y = some .free ∧ (cenv.kindOf y = some .cell ∨ cenv.kindOf y = some .free) := by
      have key : ∀ k, cenv.scope.names.lookup y = some k → k = .local ∨ k = .cell ∨ k = .free → scope.names.lookup y = some .free ∧ (cenv.kindOf y = some .cell ∨ cenv.kindOf y = some .free) := fun k hk hk' => by
        have hk0 := hk
        rw [hsc] at hk
        obtain ⟨k', e, r⟩ := lookup_relS hk
        have no : ¬ (k' = .local ∨ k' = .cell) := fun hh => by
          rcases ok.own _ (PySem.mem_of_lookup e) hh with e' | e'
          · obtain ⟨p, hp, hpy⟩ := List.mem_map.mp e'
            have e3 := ok.ix p hp
            have : p.1 = y := hpy
            rw [this] at e3
            exact hne (List.mem_map.mpr ⟨p, hp, nodup_ix hN e3 e1⟩)
          · exact e' (List.mem_of_getElem? e1)
        rcases r with rfl | ⟨rfl, rfl⟩
        · rcases hk' with rfl | rfl | rfl
          · exact absurd (.inl rfl) no
          · exact absurd (.inr rfl) no
          · exact ⟨e, .inr hk0⟩
        · exact ⟨e, .inl hk0⟩
      have e3 : Vis cenv.scope y := e3
      rcases e3 with e3 | e3 | e3
      · exact key _ e3 (.inl rfl)
      · exact key _ e3 (.inr (.inl rfl))
      · exact key _ e3 (.inr (.inr rfl))
    obtain ⟨m, hn, hl⟩ := I.loc
    have hvis : Vis X.env.scope y := (ok.free _ (PySem.mem_of_lookup hfr.1) rfl).elim (fun k => .inr (.inl k)) (fun k => .inr (.inr k))
    obtain ⟨w, r, q⟩ := hl i y av e1 e2 hvis
    refine ⟨w, r, .inr ⟨hfr.2, ?_⟩⟩
    obtain ⟨c, h1, h2⟩ := look hfr.1
    rcases q with ⟨k, _⟩ | ⟨_, c', e', z⟩
    · have k : X.env.scope.names.lookup y = some .local := k
      rcases ok.free _ (PySem.mem_of_lookup hfr.1) rfl with k' | k' <;> rw [show X.env.scope.names.lookup y = _ from k'] at k <;> cases k
    · rw [h2] at e'; cases e'
      exact ⟨c, h1, z.keeps kp⟩
  · have e : cenv.cells.lookup y = some c := e
    rcases mem e with ⟨h1, _⟩ | ⟨_, z⟩
    · obtain ⟨w, z⟩ := I.cell y c h1
      exact ⟨w, z.keeps kp⟩
    · exact ⟨_, z⟩
  · show H cenv.locals = none
    rw [hL]; exact I.hok.fresh (Nat.le_refl _)
  · have e : cenv.cells.lookup y = some c := e
    rcases mem e with ⟨h1, _⟩ | ⟨h1, _⟩
    · exact I.freeC y c h1
    · exact I.hok.fresh (Nat.le_of_succ_le h1)
  · exact absurd (show p ∈ ([] : List (Addr × Obj)) ++ [] from hp) (by simp)

/-- an item appended to a tracked list -/
theorem app_ok {E : Value → Shared → Prop} {D : Addr} {xs : List V} {y : V} {v : Value} {Q : Value → Shared → Prop} (I : Inv X pins σ H s) (hD : H D = some (.lst xs)) (hz : xs.length < sizeLine) (r : RelV y v)
    (h : ∀ s', Inv X pins σ (upd H D (.lst (xs ++ [y]))) s' → Q .none s') : wpAny (model X.prog X.w) X.A (call (.builtin "list.append") [.ref D, v]) Q E s := by
  obtain ⟨hz', its, n, ri, e⟩ := I.hok D _ hD
  have hl := ri.length
  refine append_at (hsz := by rw [List.size_toArray]; omega) e fun h' sb ho' => ?_
  refine h { s with heap := h' } (I.write (t' := s.toks) (by rw [hD]; trivial) (.inl rfl) (fun b u hb q => (sb.2 b hb).trans q) ⟨_, ho'⟩ ⟨by rw [List.length_append]; exact hz, its ++ [v], n + 1, ri.append (.cons r .nil), ?_⟩)
  rw [ho']
  simp

/-- a clause's tests -/
def PTs (X : Cx) (ifs : List Expr) (t : TT) : Prop :=
  ∀ (pins : List (Addr × Obj)) (s : Shared) (σ : St) (H : Hp) (Q : Bool → Hp → Prop), Inv X pins σ H s → t σ H Q →
    wpAny (model X.prog X.w) X.A (forIn ifs true fun c r => if r = true then do let ok ← isTrue c X.env (eval c X.env); pure (ForInStep.yield ok) else pure (ForInStep.yield r)) (TP X pins σ Q) X.xe s
def tYes : TT := fun _ H Q => Q true H
theorem pts_nil : PTs X [] tYes := fun _ _ _ H _ I h => wpAny_tests_nil ⟨H, I, h⟩
end

theorem thnF {α : Type} {t : Sem α} {Q Q' : α → Shared → Prop} {M : Model} {A : Around} {E : Value → Shared → Prop} {s : Shared} (h : wpAny M A t Q (fun _ _ => False) s) (hQ : ∀ a s, Q a s → Q' a s) : wpAny M A t Q' E s := wpAny_mono h hQ fun _ _ z => False.elim z

/-- the loop of a list comprehension's block, the target of any form (codeAny_compLoop_tests asks a target that no tuple goes to; statement and proof follow it, PyProof/CompMap.lean:41-61, with the step letOwnedTupleGo kept) -/
theorem compLoop_any {prog : Program} {w : World} {A : Around} {R : Result → Shared → Prop} {s : Shared} {elt target iter : Expr} {ifs : List Expr} {scope : Scope} {pos : Pos} {it acc : Value} {env : Env} (I : Nat → Shared → Prop)
    (turn : ∀ n s, I n s → wpAny (model prog w) A (pyNext it) (fun r s₁ => match r with
      | none => R (.ok .next) s₁
      | some v => wpAny (model prog w) A (letOwnedTupleGo target it v) (fun _ s₁' => wpAny (model prog w) A (assign target env v) (fun _ s₂ =>
          wpAny (model prog w) A (forIn ifs true fun c r => if r = true then do let ok ← isTrue c env (eval c env); pure (ForInStep.yield ok) else pure (ForInStep.yield r)) (fun ok s₃ =>
            if ok = true then wpAny (model prog w) A (eval elt env) (fun x s₄ =>
              wpAny (model prog w) A (call (.builtin "list.append") [acc, x]) (fun _ s₅ => ∃ m, m < n ∧ I m s₅) (notedBy (model prog w) A env fun e s' => R (.error e) s') s₄) (notedBy (model prog w) A env fun e s' => R (.error e) s') s₃
            else ∃ m, m < n ∧ I m s₃) (notedBy (model prog w) A env fun e s' => R (.error e) s') s₂) (notedBy (model prog w) A env fun e s' => R (.error e) s') s₁') (notedBy (model prog w) A env fun e s' => R (.error e) s') s₁) (notedBy (model prog w) A env fun e s' => R (.error e) s') s)
    (n : Nat) (h : I n s) :
    codeAny (model prog w) A (.compLoop (.ListComp elt [⟨target, iter, ifs, 0⟩] scope pos) 0 it acc env) R s := by
  refine codeAny_loop rfl I (fun n s hI => ?_) n h
  show wpAny _ A ((compTurn (.ListComp elt [⟨target, iter, ifs, 0⟩] scope pos) 0 it acc env).onRaise (fun x => do noteFrame x env; theTreesLotGoes x)) _ _ s
  refine wpAny_noted ?_
  rw [compTurn_list]
  refine wpAny_bind (wpAny_standAt (wpAny_bind (wpAny_mono (turn n s hI) (fun r s₁ h₁ => ?_) fun _ _ h' => h')))
  cases r with
  | none => exact wpAny_pure h₁
  | some v =>
    refine wpAny_bind (wpAny_mono h₁ (fun _ s₁' h₁' => ?_) fun _ _ h' => h')
    refine wpAny_bind (wpAny_mono h₁' (fun _ s₂ h₂ => wpAny_bind (wpAny_mono h₂ (fun ok s₃ h₃ => ?_) fun _ _ h' => h')) fun _ _ h' => h')
    cases ok with
    | false => exact wpAny_pure ⟨rfl, h₃⟩
    | true =>
      exact wpAny_bind (wpAny_bind (wpAny_mono h₃ (fun x s₄ h₄ => wpAny_bind (wpAny_mono h₄ (fun _ s₅ h₅ => wpAny_pure (wpAny_pure ⟨rfl, h₅⟩)) fun _ _ h' => h')) fun _ _ h' => h'))

section
variable {X : Cx}
/-- [elt for target in iter if ..]: D the new list; W by the turn and a measure, Nx what a turn is to reach -/
def tLc (wi : TI) (g : TG) (tt : TT) (te : TE) (vs : List Nat) : TE := fun σ H Q => wi σ H fun J H1 => ∀ D, H1 D = none → ∃ W : Nat → Nat → Hp → Prop, (∃ m, W 0 m (upd H1 D (.lst []))) ∧ ∀ i m H, W i m H →
  (J.stop i H ∧ Q (.ref D) H) ∨ (J.go i H ∧ ∃ Nx : Hp → Prop, (∀ H', Nx H' → ∃ m', m' < m ∧ W (i + 1) m' H') ∧ ∀ x H', J.yld i H x H' → g x (wipe σ vs) H' fun σ2 H2 => wipe σ2 vs = wipe σ vs ∧ tt σ2 H2 fun b H3 =>
    if b = true then te σ2 H3 fun y H4 => ∃ acc, H4 D = some (.lst acc) ∧ acc.length < sizeLine ∧ Nx (upd H4 D (.lst (acc ++ [y]))) else Nx H3)
theorem lc_core {pins : List (Addr × Obj)} {s : Shared} {σ : St} {H : Hp} {Q : VK} {elt tg iter : Expr} {ifs : List Expr} {scope : Scope} {own : List (Str × Nat)} {pos pos' : Pos} {wi : TI} {g : TG} {tt : TT} {te : TE} {use : Option (Value → Sem Unit)} {Qf : Value → Shared → Prop}
    (hc : X.calm = true) (hN : X.N.Nodup) (I : Inv X pins σ H s) (hi : PI X tg iter wi) (ok : BlkOk X.N X.env.scope scope own)
    (hg : ∀ (s : Shared) (H : Hp) (C : Addr) (cl : List (Str × Addr)) (fp : List Addr), PG (X.blk s H scope (compEnvC scope cl C X.env) fp) tg g) (ht : ∀ (s : Shared) (H : Hp) (C : Addr) (cl : List (Str × Addr)) (fp : List Addr), PTs (X.blk s H scope (compEnvC scope cl C X.env) fp) ifs tt)
    (he : ∀ (s : Shared) (H : Hp) (C : Addr) (cl : List (Str × Addr)) (fp : List Addr), PE (X.blk s H scope (compEnvC scope cl C X.env) fp) elt te) (hs : ∀ x, foldedSetIterable iter X.env x = pure x)
    (h : tLc wi g tt te (own.map (·.2)) σ H Q)
    (hRR : ∀ D C s' m H', Inv X pins σ H' s' → Q (.ref D) H' → s'.heap.Ns C m → FpOk X pins H' C → compPost (model X.prog X.w) X.A X.xe use Qf (.ref D) C (.ok .next) s') :
    wpAny (model X.prog X.w) X.A (comprehension (.ListComp elt [⟨tg, iter, ifs, 0⟩] scope pos) scope X.env pos' (newList []) false (eval iter X.env) use) Qf X.xe s := by
  have hfree : ∀ y ∈ scope.names, y.2 = .free → ∃ c, X.env.cells.lookup y.1 = some c := fun y hy e => by
    rcases ok.free y hy e with k | k
    · exact I.ok.has _ (.inl k)
    · exact I.ok.has _ (.inr k)
  refine wpAny_comprehension_free (use := use) rfl hs (closure_ok hfree) ok.kind (fun y hy e => by rw [ok.uniq y hy, e])
    (thn (hi pins s σ H _ I h) fun xv s1 hx => thn hx fun itv s2 h2 => ?_)
  obtain ⟨it, fp, tn, J, H2, e, I2, T, st2, f2, q⟩ := h2
  subst e
  refine wpAny_newObj_type (newEnv_comp ?_) (by show 0 ≤ sizeLine; decide)
  generalize hD : s2.heap.objs.size = D
  have hDn : H2 D = none := I2.hok.fresh (Nat.le_of_eq hD)
  obtain ⟨W, ⟨m0, w0⟩, turn⟩ := q D hDn
  -- the new list
  generalize hs3 : ({ s2 with heap := s2.heap.push { cls := .type "list", data := .seq ([] : List Value).toArray } } : Shared) = s3
  have I3 : Inv X pins σ (upd H2 D (.lst [])) s3 := by
    rw [← hs3]
    refine I2.laid (t' := s2.toks) (fun b o e => Heap.get?_push_of_some _ e) (Nat.le_of_eq hD) ⟨Nat.zero_le _, [], 0, .nil, ?_⟩
    rw [← hD]
    exact Heap.get?_push_size _ rfl
  have h3 : s3.heap = s2.heap.push { cls := .type "list", data := .seq ([] : List Value).toArray } := by rw [← hs3]
  have sz : ∀ b ∈ fp, b < s2.heap.objs.size := fun b hb => by
    obtain ⟨o, e, _⟩ := T.obj _ _ st2 b hb
    exact Heap.lt_size e
  have f3 : ∀ b ∈ fp, FpOk X pins (upd H2 D (.lst [])) b ∧ b < s3.heap.objs.size := fun b hb => by
    have hlt := sz b hb
    refine ⟨⟨?_, (f2 b hb).2⟩, by rw [h3, Heap.size_push]; exact Nat.lt_succ_of_lt hlt⟩
    rw [upd_ne (by rw [← hD]; exact Nat.ne_of_lt hlt)]
    exact (f2 b hb).1
  have st3 : tn 0 s3.heap := T.keep _ _ _ st2 fun b _ o e => by rw [h3]; exact Heap.get?_push_of_some _ e
  have I4 := block_start I3 ok hN f3
  have pg := hg s3 (upd H2 D (.lst [])) s3.heap.objs.size (cellsFrom (s3.heap.objs.size + 1) scope.names (cloFrom X.env.cells scope.names [])) fp
  have pt := ht s3 (upd H2 D (.lst [])) s3.heap.objs.size (cellsFrom (s3.heap.objs.size + 1) scope.names (cloFrom X.env.cells scope.names [])) fp
  have pe := he s3 (upd H2 D (.lst [])) s3.heap.objs.size (cellsFrom (s3.heap.objs.size + 1) scope.names (cloFrom X.env.cells scope.names [])) fp
  show codeAny _ _ (.compStart (.ListComp elt [⟨tg, iter, ifs, 0⟩] scope pos) 0 (.ref it) (.ref D) (compEnvC scope (cellsFrom (s3.heap.objs.size + 1) scope.names (cloFrom X.env.cells scope.names [])) s3.heap.objs.size X.env)) (compPost (model X.prog X.w) X.A X.xe use Qf (.ref D) s3.heap.objs.size) { s3 with heap := pushCells (s3.heap.push { cls := .type "dict", data := .dict #[] }) scope.names }
  have nfp : ∀ b ∈ fp, (upd H2 D (.lst [])) b = none := fun b hb => (f3 b hb).1.1
  generalize hce : compEnvC scope (cellsFrom (s3.heap.objs.size + 1) scope.names (cloFrom X.env.cells scope.names [])) s3.heap.objs.size X.env = ce at I4 pg pt pe ⊢
  have cL : ce.locals = s3.heap.objs.size := by subst hce; rfl
  generalize hH3 : upd H2 D (.lst []) = H3 at I3 I4 pg pt pe w0 nfp f3
  generalize hs4 : ({ s3 with heap := pushCells (s3.heap.push { cls := .type "dict", data := .dict #[] }) scope.names } : Shared) = s4 at I4 ⊢
  have st4 : tn 0 s4.heap := T.keep _ _ _ st3 fun b _ o e => by rw [← hs4]; exact pushCells_keeps _ _ _ _ (Heap.get?_push_of_some _ e)
  have stat : ∀ {σ' : St} {H' : Hp} {s' : Shared}, Inv (X.blk s3 H3 scope ce fp) [] σ' H' s' → (∀ b ∈ fp, H' b = none) → ∀ b ∈ fp, FpOk (X.blk s3 H3 scope ce fp) [] H' b := fun {σ' H' s'} I' hn b hb =>
    ⟨hn b hb, (I'.ok.exf b hb).1, I'.ok.exfs b hb, .inl hb, fun x c e => (I'.ok.exf b hb).2 x c e, fun p hp => absurd (show p ∈ ([] : List (Addr × Obj)) ++ [] from hp) (by simp)⟩
  have loop : codeAny (model X.prog X.w) X.A (.compLoop (.ListComp elt [⟨tg, iter, ifs, 0⟩] scope pos) 0 (.ref it) (.ref D) ce) (compPost (model X.prog X.w) X.A X.xe use Qf (.ref D) s3.heap.objs.size) s4 := by
    refine compLoop_any (fun n s' => ∃ i H', Inv (X.blk s3 H3 scope ce fp) [] (wipe σ (own.map (·.2))) H' s' ∧ tn i s'.heap ∧ (∀ b ∈ fp, H' b = none) ∧ W i n H') ?_ m0 ⟨0, H3, I4, st4, nfp, w0⟩
    rintro n s5 ⟨i, H5, I5, st5, n5, w5⟩
    rcases turn i n H5 w5 with ⟨stop, qq⟩ | ⟨go, Nx, hNx, step⟩
    · have td := T.done (X.blk s3 H3 scope ce fp) rfl rfl rfl hc i [] s5 _ H5 (fun _ _ => False) I5 (stat I5 n5) st5 stop
      refine thnF td fun r s6 ⟨hr, I6⟩ => ?_
      subst hr
      -- back in the def's context
      have I7 : Inv X pins σ H5 s6 := I3.call' (ch := fp) I6.os I6.base I6.hok I6.bare fun b hb => ⟨(f3 b hb).1.2.2.2.1, (f3 b hb).1.2.1, (f3 b hb).1.2.2.2.2.1, (f3 b hb).1.2.2.2.2.2⟩
      have nC : H5 s3.heap.objs.size = none := by
        have z : H5 ce.locals = none := I6.free
        rw [cL] at z
        exact z
      obtain ⟨m, hn, _⟩ := I6.loc
      have hn : s6.heap.Ns ce.locals m := hn
      rw [cL] at hn
      exact hRR D s3.heap.objs.size s6 m H5 I7 qq hn (I3.fpOk (Nat.le_refl _) nC)
    · have ti := T.item (X.blk s3 H3 scope ce fp) rfl rfl rfl hc i [] s5 _ H5 (fun _ _ => False) I5 (stat I5 n5) st5 go
      refine thnF ti fun r s6 ⟨u, hr, h6⟩ => ?_
      subst hr
      refine thnF h6 fun _ s7 ⟨x, H7, I7, r7, y7, st7, n7⟩ => ?_
      have I7' := I7.pinned (stat I7 n7) (T.obj _ _ st7)
      refine thnF (pg _ s7 _ H7 x u _ I7' r7 (step x H7 y7)) fun _ s8 ⟨σ8, H8, I8, hw8, q8⟩ => ?_
      refine thnF (pt _ s8 σ8 H8 _ I8 q8) fun b s9 ⟨H9, I9, q9⟩ => ?_
      -- the turn's end
      have fin : ∀ {s' : Shared} {H' : Hp}, Inv (X.blk s3 H3 scope ce fp) ([] ++ pinsAt fp s7.heap) σ8 H' s' → Nx H' → ∃ m, m < n ∧ ∃ i H', Inv (X.blk s3 H3 scope ce fp) [] (wipe σ (own.map (·.2))) H' s' ∧ tn i s'.heap ∧ (∀ b ∈ fp, H' b = none) ∧ W i m H' := fun {s' H'} I' nx => by
        obtain ⟨m', hm, w'⟩ := hNx H' nx
        have pin' : ∀ b ∈ fp, ∀ o, s7.heap.get? b = some o → s'.heap.get? b = some o ∧ H' b = none := fun b hb o e =>
          let z := I'.pin (b, o) (List.mem_append_right _ (List.mem_append_right _ (mem_pinsAt hb e)))
          ⟨z.1, z.2.1⟩
        have hl : (wipe σ (own.map (·.2))).length = σ8.length := by rw [← hw8, wipe_length]
        refine ⟨m', hm, i + 1, H', (I'.unpinned (pins := [])).weak hl (fun j v e => ?_), T.keep _ _ _ st7 fun b hb o e => (pin' b hb o e).1, fun b hb => ?_, w'⟩
        · rw [← hw8] at e
          exact (wipe_some e).1
        · obtain ⟨o, e, _⟩ := T.obj _ _ st7 b hb
          exact (pin' b hb o e).2
      cases b with
      | false =>
        simp only [Bool.false_eq_true, if_false] at q9 ⊢
        exact fin I9 q9
      | true =>
        simp only [if_true] at q9 ⊢
        refine thnF (pe _ s9 σ8 H9 _ I9 q9) fun z s10 ⟨yv, H10, I10, r10, acc, hD10, hz10, nx⟩ => ?_
        exact app_ok (X := X.blk s3 H3 scope ce fp) I10 hD10 hz10 r10 fun s11 I11 => fin I11 nx
  exact codeAny_compStart_list loop (T.self X.A 0 _ _ _ st4 loop)
/-- as a value -/
theorem pe_lc {elt tg iter : Expr} {ifs : List Expr} {scope : Scope} {own : List (Str × Nat)} {pos : Pos} {wi : TI} {g : TG} {tt : TT} {te : TE} (hc : X.calm = true) (hN : X.N.Nodup) (hi : PI X tg iter wi) (ok : BlkOk X.N X.env.scope scope own)
    (hg : ∀ (s : Shared) (H : Hp) (C : Addr) (cl : List (Str × Addr)) (fp : List Addr), PG (X.blk s H scope (compEnvC scope cl C X.env) fp) tg g) (ht : ∀ (s : Shared) (H : Hp) (C : Addr) (cl : List (Str × Addr)) (fp : List Addr), PTs (X.blk s H scope (compEnvC scope cl C X.env) fp) ifs tt)
    (he : ∀ (s : Shared) (H : Hp) (C : Addr) (cl : List (Str × Addr)) (fp : List Addr), PE (X.blk s H scope (compEnvC scope cl C X.env) fp) elt te) (hs : ∀ x, foldedSetIterable iter X.env x = pure x := by intro _; rfl) :
    PE X (.ListComp elt [⟨tg, iter, ifs, 0⟩] scope pos) (tLc wi g tt te (own.map (·.2))) := by
  intro pins s σ H Q I h
  rw [eval_ListComp]
  refine lc_core hc hN I hi ok hg ht he hs h fun D C s' m H' I' q hn f => ⟨m, hn, fun h'' sb => ?_⟩
  obtain ⟨f0, f1, f2, f3, f4, f5⟩ := f
  exact ⟨.ref D, H', I'.turned (t' := s'.toks) (fun b o hb e => (sb.2 b hb).trans e) f0 f1 f3 f4 f5, rfl, q⟩
end

/-! ### the forms one uses -/
/-- over a range: Pv by the turn and the heap (the new list at D within) -/
theorem lc_range {lo : Int} {n : Nat} {g : TG} {tt : TT} {te : TE} {vs : List Nat} {σ : St} {H1 : Hp} {D : Addr} {Qd : Hp → Prop} (Pv : Nat → Hp → Prop) (h0 : Pv 0 (upd H1 D (.lst [])))
    (hs : ∀ i H, i < n → Pv i H → g (.int (lo + i)) (wipe σ vs) H fun σ2 H2 => wipe σ2 vs = wipe σ vs ∧ tt σ2 H2 fun b H3 =>
      if b = true then te σ2 H3 fun y H4 => ∃ acc, H4 D = some (.lst acc) ∧ acc.length < sizeLine ∧ Pv (i + 1) (upd H4 D (.lst (acc ++ [y]))) else Pv (i + 1) H3) (hd : ∀ H, Pv n H → Qd H) :
    ∃ W : Nat → Nat → Hp → Prop, (∃ m, W 0 m (upd H1 D (.lst []))) ∧ ∀ i m H, W i m H →
      ((Itr lo n).stop i H ∧ Qd H) ∨ ((Itr lo n).go i H ∧ ∃ Nx : Hp → Prop, (∀ H', Nx H' → ∃ m', m' < m ∧ W (i + 1) m' H') ∧ ∀ x H', (Itr lo n).yld i H x H' → g x (wipe σ vs) H' fun σ2 H2 => wipe σ2 vs = wipe σ vs ∧ tt σ2 H2 fun b H3 =>
        if b = true then te σ2 H3 fun y H4 => ∃ acc, H4 D = some (.lst acc) ∧ acc.length < sizeLine ∧ Nx (upd H4 D (.lst (acc ++ [y]))) else Nx H3) := by
  refine ⟨fun i m H => m = n - i ∧ i ≤ n ∧ Pv i H, ⟨n, by simp, Nat.zero_le _, h0⟩, ?_⟩
  rintro i m H ⟨rfl, hi, p⟩
  by_cases hlt : i < n
  · refine .inr ⟨hlt, Pv (i + 1), fun H' p' => ⟨n - (i + 1), by omega, rfl, hlt, p'⟩, fun x H' y => ?_⟩
    obtain ⟨e, y⟩ := y
    subst e y
    exact hs i _ hlt p
  · have e : i = n := by omega
    subst e
    exact .inl ⟨Nat.le_refl _, hd H p⟩
def blkC (N : List Str) (sc scope : Scope) (own : List (Str × Nat)) : Bool :=
  (match scope.kind with | .function => true | _ => false) && (scope.names.all fun y => decide (scope.names.lookup y.1 = some y.2)) && (own.all fun p => decide (N[p.2]? = some p.1)) &&
    (scope.names.all fun y => match y.2 with
      | .free => (match sc.names.lookup y.1 with | some .cell => true | some .free => true | _ => false)
      | .local => decide (y.1 ∈ own.map (·.1)) || decide (y.1 ∉ N)
      | .cell => decide (y.1 ∈ own.map (·.1)) || decide (y.1 ∉ N)
      | _ => true)
theorem blkOk_by {N : List Str} {sc scope : Scope} {own : List (Str × Nat)} (h : blkC N sc scope own = true) : BlkOk N sc scope own := by
  unfold blkC at h
  simp only [Bool.and_eq_true, List.all_eq_true, decide_eq_true_eq] at h
  obtain ⟨⟨⟨h1, h2⟩, h3⟩, h4⟩ := h
  refine ⟨?_, h2, h3, fun y hy e => ?_, fun y hy e => ?_⟩
  · split at h1
    · assumption
    · cases h1
  · have q := h4 y hy
    simp only [e] at q
    split at q <;> first | exact .inl (by assumption) | exact .inr (by assumption) | cases q
  · have q := h4 y hy
    rcases e with e | e <;> (simp only [e, Bool.or_eq_true, decide_eq_true_eq] at q; exact q)
end L2

namespace L2
open PySem PySem.Spec PyProof.Rows


section
variable {prog : Program} {w : World} {A : Around} {R : Result → Shared → Prop} {s : Shared} {elt t0 i0 t1 i1 : Expr} {ifs0 ifs1 : List Expr} {scope : Scope} {pos : Pos} {it acc : Value} {env : Env}
end

section
variable {X : Cx}
/-- [elt for tg in iter if .. for tg1 in iter1 if ..]: behind the first clause's store and tests the second source's own loop, from which Nx is reached. vs: the block's names; vs1: those of the second target -/
def tLc2 (wi : TI) (g : TG) (tt : TT) (wi1 : TI) (g1 : TG) (tt1 : TT) (te : TE) (vs vs1 : List Nat) : TE := fun σ H Q => wi σ H fun J H1 => ∀ D, H1 D = none → ∃ W : Nat → Nat → Hp → Prop, (∃ m, W 0 m (upd H1 D (.lst []))) ∧ ∀ i m H, W i m H →
  (J.stop i H ∧ Q (.ref D) H) ∨ (J.go i H ∧ ∃ Nx : Hp → Prop, (∀ H', Nx H' → ∃ m', m' < m ∧ W (i + 1) m' H') ∧ ∀ x H', J.yld i H x H' → g x (wipe σ vs) H' fun σ2 H2 => wipe σ2 vs = wipe σ vs ∧ tt σ2 H2 fun b H3 =>
    if b = true then wi1 σ2 H3 fun J1 H4 => ∃ W1 : Nat → Nat → Hp → Prop, (∃ m, W1 0 m H4) ∧ ∀ j k H, W1 j k H →
      (J1.stop j H ∧ Nx H) ∨ (J1.go j H ∧ ∃ Nx1 : Hp → Prop, (∀ H', Nx1 H' → ∃ k', k' < k ∧ W1 (j + 1) k' H') ∧ ∀ x H', J1.yld j H x H' → g1 x (wipe σ2 vs1) H' fun σ3 H5 => wipe σ3 vs1 = wipe σ2 vs1 ∧ tt1 σ3 H5 fun b H6 =>
        if b = true then te σ3 H6 fun y H7 => ∃ acc, H7 D = some (.lst acc) ∧ acc.length < sizeLine ∧ Nx1 (upd H7 D (.lst (acc ++ [y]))) else Nx1 H6)
    else Nx H3)
end
end L2

namespace L2
open PySem PySem.Spec PyProof.Rows

/-! ### lists of pairs as tables -/
section
variable {κ : Type} [DecidableEq κ]
def valV (kvs : List (κ × V)) (k : κ) : Option V := (kvs.find? fun kv => decide (kv.1 = k)).map (·.2)
/-- in its place, or at the end -/
def putK (kvs : List (κ × V)) (k : κ) (v : V) : List (κ × V) :=
  if (kvs.any fun kv => decide (kv.1 = k)) = true then kvs.map (fun kv => if kv.1 = k then (kv.1, v) else kv) else kvs ++ [(k, v)]
def dropK (kvs : List (κ × V)) (k : κ) : List (κ × V) := kvs.filter fun kv => decide (kv.1 ≠ k)

theorem valV_pos {p : κ × V} {r : List (κ × V)} {k : κ} (e : p.1 = k) : valV (p :: r) k = some p.2 := by simp [valV, List.find?_cons, e]
theorem valV_neg {p : κ × V} {r : List (κ × V)} {k : κ} (e : ¬ p.1 = k) : valV (p :: r) k = valV r k := by simp [valV, List.find?_cons, e]
theorem valV_any (k : κ) : ∀ kvs : List (κ × V), (kvs.any fun kv => decide (kv.1 = k)) = (valV kvs k).isSome
  | [] => rfl
  | p :: r => by
    rw [List.any_cons]
    by_cases e : p.1 = k
    · simp only [valV_pos e, decide_eq_true e, Bool.true_or, Option.isSome_some]
    · rw [valV_neg e, decide_eq_false e, Bool.false_or]; exact valV_any k r
theorem valV_map (k j : κ) (y : V) : ∀ kvs : List (κ × V), valV (kvs.map fun kv => if kv.1 = k then (kv.1, y) else kv) j = (valV kvs j).map fun x => if j = k then y else x
  | [] => rfl
  | p :: r => by
    have ih := valV_map k j y r
    rw [List.map_cons]
    by_cases h : p.1 = k
    · rw [if_pos h]
      by_cases e : p.1 = j
      · rw [valV_pos (p := (p.1, y)) e, valV_pos e, Option.map_some, if_pos (e.symm.trans h)]
      · rw [valV_neg (p := (p.1, y)) e, valV_neg e, ih]
    · rw [if_neg h]
      by_cases e : p.1 = j
      · rw [valV_pos (p := p) e, valV_pos e, Option.map_some, if_neg (fun z => h (e.trans z))]
      · rw [valV_neg (p := p) e, valV_neg e, ih]
theorem valV_snoc (k j : κ) (y : V) : ∀ kvs : List (κ × V), valV kvs k = none → valV (kvs ++ [(k, y)]) j = if j = k then some y else valV kvs j
  | [], _ => by
    by_cases e : k = j
    · rw [if_pos e.symm]; exact valV_pos (p := (k, y)) e
    · rw [if_neg (fun z => e z.symm)]; exact valV_neg (p := (k, y)) e
  | p :: r, hn => by
    rw [List.cons_append]
    have hk : ¬ p.1 = k := fun z => by rw [valV_pos z] at hn; cases hn
    rw [valV_neg hk] at hn
    have ih := valV_snoc k j y r hn
    by_cases e : p.1 = j
    · rw [valV_pos e, valV_pos e, if_neg (fun z => hk (e.trans z))]
    · rw [valV_neg e, valV_neg e, ih]
theorem valV_put (kvs : List (κ × V)) (k j : κ) (y : V) : valV (putK kvs k y) j = if j = k then some y else valV kvs j := by
  unfold putK
  by_cases a : (kvs.any fun kv => decide (kv.1 = k)) = true
  · rw [if_pos a, valV_map]
    rw [valV_any] at a
    by_cases e : j = k
    · obtain ⟨x, hx⟩ := Option.isSome_iff_exists.mp a
      rw [if_pos e, e, hx, Option.map_some, if_pos rfl]
    · rw [if_neg e]
      cases valV kvs j with
      | none => rfl
      | some x => rw [Option.map_some, if_neg e]
  · rw [if_neg a]
    refine valV_snoc k j y kvs ?_
    rw [valV_any] at a
    cases q : valV kvs k with
    | none => rfl
    | some x => rw [q] at a; exact (a rfl).elim
theorem length_putK (kvs : List (κ × V)) (k : κ) (v : V) : (putK kvs k v).length ≤ kvs.length + 1 := by
  unfold putK
  split
  · rw [List.length_map]; omega
  · rw [List.length_append, List.length_cons, List.length_nil]; omega
theorem putK_new {kvs : List (κ × V)} {k : κ} (v : V) (h : valV kvs k = none) : putK kvs k v = kvs ++ [(k, v)] := by
  unfold putK
  rw [valV_any, h]
  exact if_neg (by decide)

theorem RelO.isSome_eq {o : Option V} {u : Option Value} (r : RelO o u) : o.isSome = u.isSome := by
  cases o with
  | none => cases u with
    | none => rfl
    | some _ => exact (show False from r).elim
  | some _ => cases u with
    | none => exact (show False from r).elim
    | some _ => rfl
theorem RelO.getD {o : Option V} {u : Option Value} {d : V} {d' : Value} (r : RelO o u) (rd : RelV d d') : RelV (o.getD d) (u.getD d') := by
  cases o with
  | none => cases u with
    | none => exact rd
    | some _ => exact (show False from r).elim
  | some _ => cases u with
    | none => exact (show False from r).elim
    | some _ => exact r

/-- raw tables of the same keys -/
theorem KV.val {kvs : List (κ × V)} {vs : List (κ × Value)} (r : KV kvs vs) (k : κ) : RelO (valV kvs k) (valueAt vs k) := by
  unfold KV at r
  induction r with
  | nil => exact True.intro
  | @cons p q ps qs h t ih =>
    obtain ⟨h1, h2⟩ := h
    by_cases e : p.1 = k
    · have e' : q.1 = k := h1.symm.trans e
      have b : valueAt (q :: qs) k = some q.2 := by simp [valueAt, List.find?_cons, e']
      rw [valV_pos e, b]; exact h2
    · have e' : ¬ q.1 = k := fun z => e (h1.trans z)
      have b : valueAt (q :: qs) k = valueAt qs k := by simp [valueAt, List.find?_cons, e']
      rw [valV_neg e, b]; exact ih
theorem KV.any {kvs : List (κ × V)} {vs : List (κ × Value)} (r : KV kvs vs) (k : κ) : (kvs.any fun kv => decide (kv.1 = k)) = vs.any fun kv => decide (kv.1 = k) := by
  unfold KV at r
  induction r with
  | nil => rfl
  | cons h t ih => rw [List.any_cons, List.any_cons, ih, h.1]
theorem KV.repl {kvs : List (κ × V)} {vs : List (κ × Value)} (r : KV kvs vs) (k : κ) {y : V} {u : Value} (ry : RelV y u) :
    KV (kvs.map fun kv => if kv.1 = k then (kv.1, y) else kv) (vs.map fun kv => if kv.1 = k then (kv.1, u) else kv) := by
  unfold KV at r ⊢
  induction r with
  | nil => exact .nil
  | @cons p q ps qs h t ih =>
    rw [List.map_cons, List.map_cons]
    refine .cons ?_ ih
    obtain ⟨h1, h2⟩ := h
    by_cases e : p.1 = k
    · rw [if_pos e, if_pos (h1.symm.trans e)]; exact ⟨h1, ry⟩
    · rw [if_neg e, if_neg (fun z => e (h1.trans z))]; exact ⟨h1, h2⟩
theorem KV.put {kvs : List (κ × V)} {vs : List (κ × Value)} (r : KV kvs vs) (k : κ) {y : V} {u : Value} (ry : RelV y u) : KV (putK kvs k y) (stored vs k u) := by
  unfold putK stored
  rw [r.any k]
  by_cases e : (vs.any fun kv => decide (kv.1 = k)) = true
  · rw [if_pos e, if_pos e]; exact r.repl k ry
  · rw [if_neg e, if_neg e]; exact Paired.snoc r ⟨rfl, ry⟩
theorem KV.length {kvs : List (κ × V)} {vs : List (κ × Value)} (r : KV kvs vs) : kvs.length = vs.length := Paired.length r
end


/-! ### a tracked dict, its keys ints and texts or tuples of these -/
theorem kV_is {P : Program} {w : World} {k : Key} {u : Value} (r : RelV (kV k) u) : (mixKind P w).is k u = true := by
  cases k with
  | inl i => obtain ⟨t, e⟩ := (show ∃ t, u = Value.int i t from r); subst e; exact mixKind_int P w i t
  | inr x => obtain ⟨t, e⟩ := (show ∃ t, u = Value.str x t from r); subst e; exact mixKind_str P w x t
theorem items_are {P : Program} {w : World} : ∀ {ks : List Key} {us : List Value}, Vals (ks.map kV) us → ItemsAre (mixKind P w) ks us
  | [], _, r => by rw [List.map_nil] at r; cases r; exact .nil
  | k :: ks, _, r => by
    rw [List.map_cons] at r
    cases r with
    | cons h t => exact .cons (kV_is h) (items_are t)

/-- raw entries of a dict with tuple keys -/
abbrev KT (H : Hp) : List (List Key × V) → List (List Key × Addr × Value) → Prop := Paired fun p q => p.1 = q.1 ∧ H q.2.1 = some (.tup (p.1.map kV)) ∧ RelV p.2 q.2.2
theorem KT.val {H : Hp} {kvs : List (List Key × V)} {xs : List (List Key × Addr × Value)} (r : KT H kvs xs) (k : List Key) : RelO (valV kvs k) ((atKey xs k).map (·.2)) := by
  induction r with
  | nil => exact True.intro
  | @cons p q ps qs h t ih =>
    obtain ⟨h1, _, h2⟩ := h
    by_cases e : p.1 = k
    · have e' : q.1 = k := h1.symm.trans e
      have b : atKey (q :: qs) k = some q.2 := by simp [atKey, List.find?_cons, e']
      rw [valV_pos e, b]; exact h2
    · have e' : ¬ q.1 = k := fun z => e (h1.trans z)
      have b : atKey (q :: qs) k = atKey qs k := by simp [atKey, List.find?_cons, e']
      rw [valV_neg e, b]; exact ih
theorem KT.repl {H : Hp} {kvs : List (List Key × V)} {xs : List (List Key × Addr × Value)} (r : KT H kvs xs) (k : List Key) {y : V} {u : Value} (ry : RelV y u) :
    KT H (kvs.map fun kv => if kv.1 = k then (kv.1, y) else kv) (xs.map (putAt k u)) := by
  induction r with
  | nil => exact .nil
  | @cons p q ps qs h t ih =>
    rw [List.map_cons, List.map_cons]
    refine .cons ?_ ih
    obtain ⟨h1, h2, h3⟩ := h
    unfold putAt
    by_cases e : p.1 = k
    · rw [if_pos e, if_pos (h1.symm.trans e)]; exact ⟨h1, h2, ry⟩
    · rw [if_neg e, if_neg (fun z => e (h1.trans z))]; exact ⟨h1, h2, h3⟩
theorem KT.put {H : Hp} {kvs : List (List Key × V)} {xs : List (List Key × Addr × Value)} (r : KT H kvs xs) (k : List Key) {b : Addr} {y : V} {u : Value} (hb : H b = some (.tup (k.map kV))) (ry : RelV y u) :
    KT H (putK kvs k y) (storedH xs k b u) := by
  have e : (kvs.any fun kv => decide (kv.1 = k)) = (atKey xs k).isSome := by
    rw [valV_any, (r.val k).isSome_eq, Option.isSome_map]
  unfold putK storedH
  rw [e]
  by_cases q : (atKey xs k).isSome = true
  · rw [if_pos q, if_pos q]; exact r.repl k ry
  · rw [if_neg q, if_neg q]; exact Paired.snoc r ⟨rfl, hb, ry⟩
theorem KT.keeps {H H' : Hp} {kvs : List (List Key × V)} {xs : List (List Key × Addr × Value)} (r : KT H kvs xs) (ht : ∀ b ys, H b = some (.tup ys) → H' b = some (.tup ys)) : KT H' kvs xs :=
  Paired.mapP r fun _ _ z => ⟨z.1, ht _ _ z.2.1, z.2.2⟩

section
variable {P : Program} {w : World} {H : Hp} {h : Heap} {a : Addr}
theorem rd_of {u : HO} (ok : HOk P w H h) (e : Rd H a u) : ObjOk P w H h a u := e.ok ok
theorem dk_rd {kvs : List (Key × V)} (ok : HOk P w H h) (e : Rd H a (.dK kvs)) : kvs.length ≤ sizeLine ∧ (a == sysModules) = false ∧ ∃ vs, KV kvs vs ∧ h.DictOf (mixKind P w) a vs :=
  show ObjOk P w H h a (.dK kvs) from rd_of ok e
theorem dk_of {kvs : List (Key × V)} (ok : HOk P w H h) (e : H a = some (.dK kvs)) : kvs.length ≤ sizeLine ∧ (a == sysModules) = false ∧ ∃ vs, KV kvs vs ∧ h.DictOf (mixKind P w) a vs := dk_rd ok (.inl e)
/-- a tracked tuple of ints and texts is a key -/
theorem key_of {ks : List Key} (ok : HOk P w H h) (e : H a = some (.tup (ks.map kV))) : (tupleKind (mixKind P w)).is h ks a := by
  obtain ⟨_, its, r, o, h1, h2, n, h3⟩ := (show ObjOk P w H h a (.tup (ks.map kV)) from ok a _ e)
  exact ⟨o, its.toArray, n, h1, h2, h3, by simpa using items_are r⟩
theorem dt_rd {kvs : List (List Key × V)} (ok : HOk P w H h) (e : Rd H a (.dT kvs)) : kvs.length ≤ sizeLine ∧ (a == sysModules) = false ∧
    ∃ xs, KT H kvs xs ∧ h.DictOfH (tupleKind (mixKind P w)) a xs := by
  obtain ⟨z, y, xs, r, o, es, ep, h1, h2, h3, h4, h5⟩ := (show ObjOk P w H h a (.dT kvs) from rd_of ok e)
  refine ⟨z, y, xs, r, o, es, ep, h1, h2, h3, h4, fun x hx => ?_, h5⟩
  have all : ∀ {l : List (List Key × V)} {m : List (List Key × Addr × Value)}, KT H l m → ∀ x ∈ m, (tupleKind (mixKind P w)).is h x.1 x.2.1 := by
    intro l m q
    induction q with
    | nil => intro x hx; exact nomatch hx
    | @cons p q ps qs hq t ih =>
      intro x hx
      rcases List.mem_cons.mp hx with e | hx
      · subst e
        exact key_of ok (by rw [← hq.1]; exact hq.2.1)
      · exact ih x hx
  exact all r x hx
theorem dt_of {kvs : List (List Key × V)} (ok : HOk P w H h) (e : H a = some (.dT kvs)) : kvs.length ≤ sizeLine ∧ (a == sysModules) = false ∧
    ∃ xs, KT H kvs xs ∧ h.DictOfH (tupleKind (mixKind P w)) a xs := dt_rd ok (.inl e)
end

/-- what the dict at a holds at the key y -/
def DGet (H : Hp) (a : Addr) (y : V) (r : Option V) : Prop :=
  (∃ kvs k, Rd H a (.dK kvs) ∧ y = kV k ∧ r = valV kvs k) ∨ ∃ kvs k b, Rd H a (.dT kvs) ∧ y = .ref b ∧ H b = some (.tup (k.map kV)) ∧ r = valV kvs k
/-- the heap behind a[y] = v -/
def DPut (H : Hp) (a : Addr) (y v : V) (H' : Hp) : Prop :=
  (∃ kvs k, H a = some (.dK kvs) ∧ y = kV k ∧ kvs.length < sizeLine ∧ H' = upd H a (.dK (putK kvs k v))) ∨
  ∃ kvs k b, H a = some (.dT kvs) ∧ y = .ref b ∧ H b = some (.tup (k.map kV)) ∧ kvs.length < sizeLine ∧ H' = upd H a (.dT (putK kvs k v))
theorem DGet.k {H : Hp} {a : Addr} {kvs : List (Key × V)} {k : Key} (e : H a = some (.dK kvs)) : DGet H a (kV k) (valV kvs k) := .inl ⟨kvs, k, .inl e, rfl, rfl⟩
theorem DGet.t {H : Hp} {a b : Addr} {kvs : List (List Key × V)} {k : List Key} (e : H a = some (.dT kvs)) (eb : H b = some (.tup (k.map kV))) : DGet H a (.ref b) (valV kvs k) := .inr ⟨kvs, k, b, .inl e, rfl, eb, rfl⟩
theorem DPut.k {H : Hp} {a : Addr} {kvs : List (Key × V)} {k : Key} {v : V} (e : H a = some (.dK kvs)) (hl : kvs.length < sizeLine) : DPut H a (kV k) v (upd H a (.dK (putK kvs k v))) := .inl ⟨kvs, k, e, rfl, hl, rfl⟩
theorem DPut.t {H : Hp} {a b : Addr} {kvs : List (List Key × V)} {k : List Key} {v : V} (e : H a = some (.dT kvs)) (eb : H b = some (.tup (k.map kV))) (hl : kvs.length < sizeLine) :
    DPut H a (.ref b) v (upd H a (.dT (putK kvs k v))) := .inr ⟨kvs, k, b, e, rfl, eb, hl, rfl⟩


section
variable {X : Cx} {pins : List (Addr × Obj)} {σ : St} {H : Hp} {s : Shared} {a : Addr} {y v : V} {u r : Value} {o : Option V} {A : Around} {E : Value → Shared → Prop}

theorem Inv.big (I : Inv X pins σ H s) : sysModules < s.heap.objs.size := by
  have h : mainGlobals < s.heap.objs.size := (I.mod.glob.keeps I.bk).lt
  exact Nat.lt_trans (by decide) h

/-- d[y], there -/
theorem d_getItem {Q : Value → Shared → Prop} (hu : A.units + 1 < cLine) (I : Inv X pins σ H s) (g : DGet H a y (some v)) (ry : RelV y u) (h : ∀ w' s', Inv X pins σ H s' → RelV v w' → Q w' s') :
    wpAny (model X.prog X.w) A (getItem (.ref a) u) Q E s := by
  rcases g with ⟨kvs, k, e, ey, l⟩ | ⟨kvs, k, b, e, ey, eb, l⟩
  · subst ey
    obtain ⟨z, hd, vs, rel, dd⟩ := dk_rd I.hok e
    obtain ⟨w', hw, rw'⟩ := RelO.some_of (v := v) (o := valueAt vs k) (by rw [l]; exact rel.val k)
    exact wpAny_getItem_of (kV_is ry) dd.mapOf hw (h w' _ (I.tok _) rw')
  · subst ey
    cases (show u = Value.ref b from ry)
    obtain ⟨z, hd, xs, rel, dd⟩ := dt_rd I.hok e
    obtain ⟨w', hw, rw'⟩ := RelO.some_of (v := v) (o := (atKey xs k).map (·.2)) (by rw [l]; exact rel.val k)
    obtain ⟨p, hp, hp2⟩ := Option.map_eq_some_iff.mp hw
    refine wpAny_getItem_heap (tupleKind_room_in1 hu) (key_of I.hok eb) dd hp ?_
    rw [hp2]
    exact h w' _ (I.tok _) rw'
/-- y in d -/
theorem d_in {Q : Value → Shared → Prop} (hu : A.units + 1 < cLine) (I : Inv X pins σ H s) (g : DGet H a y o) (ry : RelV y u) (h : ∀ s', Inv X pins σ H s' → Q (.bool o.isSome) s') :
    wpAny (model X.prog X.w) A (compareOp .In u (.ref a)) Q E s := by
  rcases g with ⟨kvs, k, e, ey, l⟩ | ⟨kvs, k, b, e, ey, eb, l⟩
  · subst ey
    obtain ⟨z, hd, vs, rel, dd⟩ := dk_rd I.hok e
    refine wpAny_in_of (kV_is ry) hd dd.mapOf ?_
    rw [← (rel.val k).isSome_eq, ← l]
    exact h _ (I.tok _)
  · subst ey
    cases (show u = Value.ref b from ry)
    obtain ⟨z, hd, xs, rel, dd⟩ := dt_rd I.hok e
    refine wpAny_in_heap (tupleKind_room_in1 hu) (key_of I.hok eb) hd dd ?_
    have q := (rel.val k).isSome_eq
    rw [Option.isSome_map] at q
    rw [← q, ← l]
    exact h _ (I.tok _)
theorem d_notIn {Q : Value → Shared → Prop} (hu : A.units + 1 < cLine) (I : Inv X pins σ H s) (g : DGet H a y o) (ry : RelV y u) (h : ∀ s', Inv X pins σ H s' → Q (.bool (!o.isSome)) s') :
    wpAny (model X.prog X.w) A (compareOp .NotIn u (.ref a)) Q E s := by
  rcases g with ⟨kvs, k, e, ey, l⟩ | ⟨kvs, k, b, e, ey, eb, l⟩
  · subst ey
    obtain ⟨z, hd, vs, rel, dd⟩ := dk_rd I.hok e
    refine wpAny_notIn_of (kV_is ry) hd dd.mapOf ?_
    rw [← (rel.val k).isSome_eq, ← l]
    exact h _ (I.tok _)
  · subst ey
    cases (show u = Value.ref b from ry)
    obtain ⟨z, hd, xs, rel, dd⟩ := dt_rd I.hok e
    refine wpAny_notIn_heap (tupleKind_room_in1 hu) (key_of I.hok eb) hd dd ?_
    have q := (rel.val k).isSome_eq
    rw [Option.isSome_map] at q
    rw [← q, ← l]
    exact h _ (I.tok _)
/-- a dict's object is replaced -/
theorem d_write {h' : Heap} {t' : Nat} {ob : HO} (I : Inv X pins σ H s) (mu : Mut (H a)) (hs : Heap.SameBut a s.heap h') (he : ∃ q, h'.get? a = some q) (new : ObjOk X.prog X.w (upd H a ob) h' a ob) :
    Inv X pins σ (upd H a ob) { s with heap := h', toks := t' } :=
  I.write (x := a) (e := a) mu (.inl rfl) (fun b q hb z => (hs.2 b hb).trans z) he new
theorem dk_new {P : Program} {w : World} {H' : Hp} {h' : Heap} {kvs : List (Key × V)} {vs : List (Key × Value)} (z : kvs.length ≤ sizeLine) (hd : (a == sysModules) = false) (rel : KV kvs vs) (dd : h'.DictOf (mixKind P w) a vs) :
    ObjOk P w H' h' a (.dK kvs) := ⟨z, hd, vs, rel, dd⟩
/-- d[y] = v -/
theorem d_setItem {H' : Hp} {Q : Unit → Shared → Prop} (hu : A.units + 1 < cLine) (I : Inv X pins σ H s) (g : DPut H a y v H') (ry : RelV y u) (rv : RelV v r) (h : ∀ s', Inv X pins σ H' s' → Q () s') :
    wpAny (model X.prog X.w) A (setItem (.ref a) u r) Q E s := by
  rcases g with ⟨kvs, k, e, ey, l, eH⟩ | ⟨kvs, k, b, e, ey, eb, l, eH⟩
  · subst ey eH
    obtain ⟨z, hd, vs, rel, dd⟩ := dk_of I.hok e
    have hz : vs.length ≤ sizeLine := by rw [← rel.length]; exact z
    have hl : (putK kvs k v).length ≤ sizeLine := by have := length_putK kvs k v; omega
    refine wpAny_setItem_pairs (hsz := hz) (kV_is ry) dd fun h' dd' hs => h _ ?_
    have he : ∃ q, h'.get? a = some q := let ⟨q, _, _, hq, _⟩ := dd'; ⟨q, hq⟩
    exact d_write I (by rw [e]; exact True.intro) hs he (dk_new hl hd (rel.put k rv) dd')
  · subst ey eH
    cases (show u = Value.ref b from ry)
    obtain ⟨z, hd, xs, rel, dd⟩ := dt_of I.hok e
    have hz : xs.length ≤ sizeLine := by rw [← Paired.length rel]; exact z
    have hl : (putK kvs k v).length ≤ sizeLine := by have := length_putK kvs k v; omega
    refine wpAny_setItem_heap (hsz := hz) (tupleKind_room_in1 hu) (key_of I.hok eb) dd fun h' dd' hs => h _ ?_
    obtain ⟨q, es, ep, hq, h2, h3, h4, _, h5⟩ := dd'
    refine d_write I (by rw [e]; exact True.intro) hs ⟨q, hq⟩ ⟨hl, hd, _, (rel.put k eb rv).keeps fun c ys ec => ?_, q, es, ep, hq, h2, h3, h4, h5⟩
    rw [upd_ne (ne_of ec e (fun z => nomatch z))]
    exact ec
end

section
variable {X : Cx} {pins : List (Addr × Obj)} {σ : St} {H : Hp} {s : Shared} {a : Addr} {kvs : List (Key × V)} {k : Key} {u : Value} {A : Around} {E : Value → Shared → Prop}
/-- len(d) -/
theorem d_len {Q : Value → Shared → Prop} (I : Inv X pins σ H s) (e : Rd H a (.dK kvs)) (h : ∀ t s', Inv X pins σ H s' → Q (.int kvs.length t) s') : wpAny (model X.prog X.w) A (call (.builtin "len") [.ref a]) Q E s := by
  obtain ⟨z, hd, vs, rel, dd⟩ := dk_rd I.hok e
  refine call_len_dict hd dd (by rw [← rel.length]; rw [sizeLine_eq] at z; omega) ?_
  rw [← rel.length]
  exact h _ _ (I.tok _)
end


/-! ### readings and rules -/
/-- the element of a subscription, not a slice -/
def NoSl (i : Expr) : Prop := ∀ ov iv, subscripted i false ov iv = operate [ov, iv] (getItem ov iv)
theorem subD_of {prog : Program} {w : World} {A : Around} {E : Value → Shared → Prop} {s : Shared} {env : Env} {value slice : Expr} {pos : Pos} {T id : String} {Q : Value → Shared → Prop}
    (hl : typeLookup (.type T) "__getitem__" = pure (some (.builtin id))) (hs : NoSl slice)
    (h : wpAny (model prog w) A (eval value env) (fun o s₁ => wpAny (model prog w) A (eval slice env) (fun i s₂ => s₂.TypeIs o T ∧ wpAny (model prog w) A (getItem o i) Q E s₂) E s₁) E s) :
    wpAny (model prog w) A (eval (.Subscript value slice pos) env) Q E s := by
  refine Subscript_ (wpAny_mono h (fun o s₁ h₁ => wpAny_mono h₁ (fun i s₂ h₂ => ?_) fun _ _ x => x) fun _ _ x => x)
  obtain ⟨hT, h₂⟩ := h₂
  unfold subscriptTail
  refine wpAny_bind ?_
  rw [getitemInPython_of_ne hT.not_modules]
  refine wpAny_bind (wpAny_specialOf hT hl ?_)
  have fin : wpAny (model prog w) A (subscripted slice false o i) (fun r s₃ => wpAny (model prog w) A (letTemporaryGo value o r >>= fun _ => pure r) Q E s₃) E s₂ := by
    rw [hs o i]
    exact wpAny_operating (wpAny_mono h₂ (fun r s₃ h₃ => wpAny_bind (wpAny_letTemporaryGo (wpAny_pure h₃))) fun _ _ x => x)
  first
    | exact wpAny_pure (wpAny_bind fin)
    | exact wpAny_bind (wpAny_pure (wpAny_bind fin))
    | exact wpAny_bind fin

theorem dict_typeIs {X : Cx} {pins : List (Addr × Obj)} {σ : St} {H : Hp} {s : Shared} {a : Addr} {y : V} {o : Option V} (I : Inv X pins σ H s) (g : DGet H a y o) : s.TypeIs (.ref a) "dict" := by
  rcases g with ⟨kvs, k, e, _, _⟩ | ⟨kvs, k, b, e, _, _, _⟩
  · obtain ⟨_, _, vs, _, dd⟩ := dk_rd I.hok e
    exact dd.typeIs
  · obtain ⟨_, _, xs, _, dd⟩ := dt_rd I.hok e
    exact dd.typeIs

/-- d[y] -/
def tDGet (td ty : TE) : TE := fun σ H Q => td σ H fun x H1 => ty σ H1 fun y H2 => ∃ a v, x = .ref a ∧ DGet H2 a y (some v) ∧ Q v H2
/-- y in d, y not in d -/
def tDIn (ty td : TE) : TE := fun σ H Q => ty σ H fun y H1 => td σ H1 fun x H2 => ∃ a o, x = .ref a ∧ DGet H2 a y o ∧ Q (.bl o.isSome) H2
def tDNotIn (ty td : TE) : TE := fun σ H Q => ty σ H fun y H1 => td σ H1 fun x H2 => ∃ a o, x = .ref a ∧ DGet H2 a y o ∧ Q (.bl (!o.isSome)) H2
/-- d[y] = v -/
def sDPut (td ty tv : TE) : TS := fun D σ H => tv σ H fun v H1 => td σ H1 fun x H2 => ty σ H2 fun y H3 => ∃ a H4, x = .ref a ∧ DPut H3 a y v H4 ∧ D.nx σ H4
/-- d[y] op= v -/
def sDAug (td ty tv : TE) (rd : V → V → Hp → VK → Prop) : TS := fun D σ H => td σ H fun x H1 => ty σ H1 fun y H2 => ∃ a v, x = .ref a ∧ DGet H2 a y (some v) ∧
  tv σ H2 fun y2 H3 => rd v y2 H3 fun z H4 => ∃ H5, DPut H4 a y z H5 ∧ D.nx σ H5
/-- del d[y] -/
def sDDel (td ty : TE) : TS := fun D σ H => td σ H fun x H1 => ty σ H1 fun y H2 => ∃ a kvs k, x = .ref a ∧ H2 a = some (.dK kvs) ∧ y = kV k ∧ (valV kvs k).isSome = true ∧ D.nx σ (upd H2 a (.dK (dropK kvs k)))

section
variable {X : Cx} {o i e value : Expr} {pos pos' tpos : Pos} {td ty tv : TE}
theorem pe_dget (hu : X.A.units + 1 < cLine) (ho : PE X o td) (hi : PE X i ty) (hs : NoSl i) : PE X (.Subscript o i pos) (tDGet td ty) := by
  intro pins s σ H Q I h
  refine subD_of PySem.F.slot_dict_getitem.lookup hs (thn (ho pins s σ H _ I h) fun u s1 ⟨x, H1, I1, rx, q1⟩ => thn (hi pins s1 σ H1 _ I1 q1) fun iv s2 ⟨y, H2, I2, ry, a, v, ex, g, q2⟩ => ?_)
  subst ex
  obtain rfl : u = Value.ref a := rx
  exact ⟨dict_typeIs I2 g, d_getItem hu I2 g ry fun w' s3 I3 rw' => ⟨v, H2, I3, rw', q2⟩⟩
theorem pc_din (hu : X.A.units + 1 < cLine) (hi : PE X i ty) (ho : PE X o td) : PC X .In i o (tDIn ty td) := by
  intro pins s σ H Q I h
  refine thn (hi pins s σ H _ I h) fun iv s1 ⟨y, H1, I1, ry, q1⟩ => thn (ho pins s1 σ H1 _ I1 q1) fun u s2 ⟨x, H2, I2, rx, a, ov, ex, g, q2⟩ => ?_
  subst ex
  obtain rfl : u = Value.ref a := rx
  exact d_in hu I2 g ry fun s3 I3 => ⟨.bl ov.isSome, H2, I3, rfl, q2⟩
theorem pc_dnotin (hu : X.A.units + 1 < cLine) (hi : PE X i ty) (ho : PE X o td) : PC X .NotIn i o (tDNotIn ty td) := by
  intro pins s σ H Q I h
  refine thn (hi pins s σ H _ I h) fun iv s1 ⟨y, H1, I1, ry, q1⟩ => thn (ho pins s1 σ H1 _ I1 q1) fun u s2 ⟨x, H2, I2, rx, a, ov, ex, g, q2⟩ => ?_
  subst ex
  obtain rfl : u = Value.ref a := rx
  exact d_notIn hu I2 g ry fun s3 I3 => ⟨.bl (!ov.isSome), H2, I3, rfl, q2⟩
theorem ps_dput (hu : X.A.units + 1 < cLine) (ho : PE X o td) (hi : PE X i ty) (hv : PE X value tv) (hs : swapsWith value (some (.Subscript o i pos')) pos.line X.env = pure false) :
    PS X (.Assign [.Subscript o i pos'] value pos) (sDPut td ty tv) := by
  intro pins s σ H D I h
  refine wpAny_Assign_Subscript (thn (hv pins s σ H _ I h) fun r s1 ⟨v, H1, I1, rv, q1⟩ => thn (ho pins s1 σ H1 _ I1 q1) fun u s2 ⟨x, H2, I2, rx, q2⟩ => thn (hi pins s2 σ H2 _ I2 q2) fun iv s3 ⟨y, H3, I3, ry, a, H4, ex, g, q3⟩ => ?_) hs
  subst ex
  obtain rfl : u = Value.ref a := rx
  exact d_setItem hu I3 g ry rv fun s4 I4 => ⟨σ, H4, I4, q3⟩
end


/-! ### displays -/
theorem dk_empty {P : Program} {w : World} {H : Hp} (h : Heap) (hb : sysModules < h.objs.size) : ObjOk P w H (h.push { cls := .type "dict", data := .dict #[] }) h.objs.size (.dK []) :=
  ⟨Nat.zero_le _, beq_eq_false_iff_ne.mpr (Ne.symm (Nat.ne_of_lt hb)), [], .nil, Heap.DictOf.new h⟩
theorem dt_empty {P : Program} {w : World} {H : Hp} (h : Heap) (hb : sysModules < h.objs.size) : ObjOk P w H (h.push { cls := .type "dict", data := .dict #[] }) h.objs.size (.dT []) :=
  ⟨Nat.zero_le _, beq_eq_false_iff_ne.mpr (Ne.symm (Nat.ne_of_lt hb)), [], .nil, _, #[], 0, Heap.get?_push_size _ rfl, ⟨rfl, rfl, rfl⟩, rfl, rfl, List.nodup_nil⟩
/-- {}, to be a dict of the kind that is wanted -/
def tDNewK : TE := fun _ H Q => ∀ p, H p = none → Q (.ref p) (upd H p (.dK []))
def tDNewT : TE := fun _ H Q => ∀ p, H p = none → Q (.ref p) (upd H p (.dT []))
section
variable {X : Cx} {pos : Pos}
theorem pe_dnewK : PE X (.Dict [] [] pos) tDNewK := fun pins s σ H Q I h =>
  wpAny_Dict_empty ⟨.ref s.heap.objs.size, _, I.laid (a := s.heap.objs.size) (o := .dK []) (t' := s.toks) (fun _ _ q => Heap.get?_push_of_some _ q) (Nat.le_refl _) (dk_empty s.heap I.big), rfl, h _ (I.hok.fresh (Nat.le_refl _))⟩
theorem pe_dnewT : PE X (.Dict [] [] pos) tDNewT := fun pins s σ H Q I h =>
  wpAny_Dict_empty ⟨.ref s.heap.objs.size, _, I.laid (a := s.heap.objs.size) (o := .dT []) (t' := s.toks) (fun _ _ q => Heap.get?_push_of_some _ q) (Nat.le_refl _) (dt_empty s.heap I.big), rfl, h _ (I.hok.fresh (Nat.le_refl _))⟩
end

/-- the pairs of a display, from the left -/
def tPairs : List (TE × TE) → St → Hp → (List (V × V) → Hp → Prop) → Prop
  | [], _, H, Q => Q [] H
  | (tk, tv) :: r, σ, H, Q => tk σ H fun x H1 => tv σ H1 fun y H2 => tPairs r σ H2 fun ps H3 => Q ((x, y) :: ps) H3
abbrev VV : List (V × V) → List (Value × Value) → Prop := Paired fun p q => RelV p.1 q.1 ∧ RelV p.2 q.2
def PPs (X : Cx) (pos : Pos) (keys : List (Option Expr)) (values : List Expr) (trs : List (TE × TE)) : Prop :=
  ∀ (pins : List (Addr × Obj)) (s : Shared) (σ : St) (H : Hp) (Q : List (V × V) → Hp → Prop), Inv X pins σ H s → tPairs trs σ H Q →
    wpAny (model X.prog X.w) X.A (evalPairs (pairTrees keys values X.env pos)) (fun vs s' => ∃ ps H', Inv X pins σ H' s' ∧ VV ps vs ∧ Q ps H') X.xe s
theorem pps_nil {X : Cx} {pos : Pos} : PPs X pos [] [] [] := fun pins s σ H Q I h => pairTrees_nil_walk ⟨[], H, I, .nil, h⟩
theorem pps_cons {X : Cx} {pos : Pos} {k v : Expr} {ks : List (Option Expr)} {vs : List Expr} {tk tv : TE} {trs : List (TE × TE)} (hk : PE X k tk) (hv : PE X v tv) (hr : PPs X pos ks vs trs) :
    PPs X pos (some k :: ks) (v :: vs) ((tk, tv) :: trs) := fun pins s σ H Q I h =>
  pairTrees_cons_walk (thn (hk pins s σ H _ I h) fun u s1 ⟨x, H1, I1, rx, q1⟩ => thn (hv pins s1 σ H1 _ I1 q1) fun w2 s2 ⟨y, H2, I2, ry, q2⟩ =>
    thn (hr pins s2 σ H2 _ I2 q2) fun ws s3 ⟨ps, H3, I3, rel, q3⟩ => ⟨(x, y) :: ps, H3, I3, .cons ⟨rx, ry⟩ rel, q3⟩)

def mergeK (kvs more : List (Key × V)) : List (Key × V) := more.foldl (fun acc kv => putK acc kv.1 kv.2) kvs
theorem KV.merge : ∀ {more : List (Key × V)} {rs : List (Key × Value)} {kvs : List (Key × V)} {vs : List (Key × Value)}, KV more rs → KV kvs vs → KV (mergeK kvs more) (merged vs rs) := by
  intro more rs kvs vs r
  unfold KV at r
  induction r generalizing kvs vs with
  | nil => intro q; exact q
  | @cons p q ps qs h t ih =>
    intro r0
    have e : KV (putK kvs p.1 p.2) (stored vs q.1 q.2) := by
      have := r0.put p.1 h.2
      rw [← h.1]; exact this
    exact ih e
theorem length_mergeK : ∀ (more kvs : List (Key × V)), (mergeK kvs more).length ≤ kvs.length + more.length
  | [], kvs => by show kvs.length ≤ kvs.length + 0; omega
  | p :: r, kvs => by
    have h1 := length_mergeK r (putK kvs p.1 p.2)
    have h2 := length_putK kvs p.1 p.2
    show (mergeK (putK kvs p.1 p.2) r).length ≤ _
    rw [List.length_cons]; omega
theorem carries_of {P : Program} {w : World} : ∀ {kvs : List (Key × V)} {ws : List (Value × Value)}, VV (kvs.map fun kv => (kV kv.1, kv.2)) ws → ∃ rs, Carries (mixKind P w) ws rs ∧ KV kvs rs
  | [], _, r => by rw [List.map_nil] at r; cases r; exact ⟨[], True.intro, .nil⟩
  | p :: kvs, _, r => by
    rw [List.map_cons] at r
    cases r with
    | @cons a b as bs h t =>
      obtain ⟨rs, c, q⟩ := carries_of (P := P) (w := w) t
      obtain ⟨b1, b2⟩ := b
      exact ⟨(p.1, b2) :: rs, ⟨kV_is h.1, rfl, c⟩, .cons ⟨rfl, h.2⟩ q⟩
/-- {k: v, ..} with keys ints and texts; the new dict stands empty while the pairs are made -/
def tDisp (trs : List (TE × TE)) : TE := fun σ H Q => ∀ p, H p = none → tPairs trs σ (upd H p (.dK [])) fun ps H2 => H2 p = some (.dK []) ∧ ∃ kvs : List (Key × V), ps = kvs.map (fun kv => (kV kv.1, kv.2)) ∧ kvs.length ≤ 15 ∧ Q (.ref p) (upd H2 p (.dK (mergeK [] kvs)))
theorem pe_disp {X : Cx} {pos : Pos} {keys : List (Option Expr)} {values : List Expr} {trs : List (TE × TE)} (h : PPs X pos keys values trs) (hall : keys.all (·.isSome) = true) (hl : keys.length = values.length) (h0 : keys ≠ [])
    (h15 : keys.length ≤ 15) : PE X (.Dict keys values pos) (tDisp trs) := by
  intro pins s σ H Q I q
  have hn := I.hok.fresh (Nat.le_refl s.heap.objs.size)
  have I1 := I.laid (a := s.heap.objs.size) (o := .dK []) (h' := s.heap.push { cls := .type "dict", data := .dict #[] }) (t' := s.toks) (fun _ _ q => Heap.get?_push_of_some _ q) (Nat.le_refl _) (dk_empty s.heap I.big)
  refine wpAny_Dict_walk (knd := mixKind X.prog X.w) hall hl h0 h15 (thn (h pins _ σ _ _ I1 (q _ hn)) fun ws s2 ⟨ps, H2, I2, rel, e, kvs, ep, lk, q2⟩ => ?_)
  subst ep
  obtain ⟨rs, c, rk⟩ := carries_of (P := X.prog) (w := X.w) rel
  obtain ⟨z, hd, vs0, r0, dd⟩ := dk_of I2.hok e
  cases r0
  refine ⟨rs, c, dd, fun h' dd' hs => ⟨.ref s.heap.objs.size, _, ?_, rfl, q2⟩⟩
  have hz : (mergeK [] kvs).length ≤ sizeLine := by
    have h1 := length_mergeK kvs []
    rw [List.length_nil] at h1
    rw [sizeLine_eq]; omega
  have he : ∃ q, h'.get? s.heap.objs.size = some q := let ⟨q, _, _, hq, _⟩ := dd'; ⟨q, hq⟩
  exact d_write I2 (by rw [e]; exact True.intro) hs he (dk_new hz hd (rk.merge .nil) dd')


/-! ### methods -/
/-- a method call o.m(e) of a built-in, with one argument: what must be seen of the text -/
structure M1 (X : Cx) (o : Expr) (m : Str) (apos : Pos) (e : Expr) (cpos : Pos) : Prop where
  base : attributeBase o m X.env (eval o X.env) = eval o X.env
  few : ((backTo cpos (starEach [e] X.env)).all (fun x => !x.1) && (backToKw cpos (keywordEach [] X.env)).all (fun x => x.1.isSome)
    && decide (([e] : List Expr).length + ([] : List Keyword).length + (if ([] : List Keyword).isEmpty then 0 else 1) < 30)) = true
  line : (apos.endLine == cpos.line) = true
  trees : backTo cpos (starEach [e] X.env) = [(false, eval e X.env)]
structure M2 (X : Cx) (o : Expr) (m : Str) (apos : Pos) (e f : Expr) (cpos : Pos) : Prop where
  base : attributeBase o m X.env (eval o X.env) = eval o X.env
  few : ((backTo cpos (starEach [e, f] X.env)).all (fun x => !x.1) && (backToKw cpos (keywordEach [] X.env)).all (fun x => x.1.isSome)
    && decide (([e, f] : List Expr).length + ([] : List Keyword).length + (if ([] : List Keyword).isEmpty then 0 else 1) < 30)) = true
  line : (apos.endLine == cpos.line) = true
  trees : backTo cpos (starEach [e, f] X.env) = [(false, eval e X.env), (false, eval f X.env)]

/-- a is a dict, whatever its keys -/
def IsD (H : Hp) (a : Addr) : Prop := (∃ kvs, Rd H a (.dK kvs)) ∨ ∃ kvs, Rd H a (.dT kvs)
theorem isD_at {X : Cx} {pins : List (Addr × Obj)} {σ : St} {H : Hp} {s : Shared} {a : Addr} (I : Inv X pins σ H s) (d : IsD H a) :
    s.TypeIs (.ref a) "dict" ∧ (∀ b, Value.ref a = .ref b → ∃ ob, s.heap.get? b = some ob ∧ ob.dict = none) ∧ (a == sysModules) = false := by
  rcases d with ⟨kvs, e⟩ | ⟨kvs, e⟩
  · obtain ⟨_, hd, vs, _, dd⟩ := dk_rd I.hok e
    refine ⟨dd.typeIs, fun b q => ?_, hd⟩
    cases q
    obtain ⟨ob, _, _, h1, h2, _⟩ := dd
    exact ⟨ob, h1, h2.2.1⟩
  · obtain ⟨_, hd, xs, _, dd⟩ := dt_rd I.hok e
    refine ⟨dd.typeIs, fun b q => ?_, hd⟩
    cases q
    obtain ⟨ob, _, _, h1, h2, _⟩ := dd
    exact ⟨ob, h1, h2.2.1⟩

section
variable {X : Cx} {pins : List (Addr × Obj)} {σ : St} {H : Hp} {s : Shared} {a : Addr} {y d : V} {u r : Value} {o : Option V} {A : Around} {E : Value → Shared → Prop}
/-- d.get(y, x) -/
theorem d_get2 {Q : Value → Shared → Prop} (hu : A.units + 1 < cLine) (I : Inv X pins σ H s) (g : DGet H a y o) (ry : RelV y u) (rd : RelV d r) (h : ∀ w' s', Inv X pins σ H s' → RelV (o.getD d) w' → Q w' s') :
    wpAny (model X.prog X.w) A (call (.builtin "dict.get") [.ref a, u, r]) Q E s := by
  rcases g with ⟨kvs, k, e, ey, l⟩ | ⟨kvs, k, b, e, ey, eb, l⟩
  · subst ey
    obtain ⟨z, hd, vs, rel, dd⟩ := dk_rd I.hok e
    refine call_meetsIn PySem.F.slot_dict_get dd.typeIs PySem.F.entry_dict_get (PySem.F.args_dict_get_3 _ _ _) (meets_dict_get_default (mixKind X.prog X.w) a (kV_is ry) hd r) ⟨_, dd.mapOf, h _ _ (I.tok _) ?_⟩
    rw [l]
    exact (rel.val k).getD rd
  · subst ey
    cases (show u = Value.ref b from ry)
    obtain ⟨z, hd, xs, rel, dd⟩ := dt_rd I.hok e
    refine call_meetsIn PySem.F.slot_dict_get dd.typeIs PySem.F.entry_dict_get (PySem.F.args_dict_get_3 _ _ _) (meetsH_dict_get_default (tupleKind (mixKind X.prog X.w)) a b hd r) ⟨tupleKind_room_in1 hu, k, xs, key_of I.hok eb, dd, h _ _ (I.tok _) ?_⟩
    rw [l]
    exact (rel.val k).getD rd
end

def tDGet1 (td ty : TE) : TE := fun σ H Q => td σ H fun x H1 => ∃ a, x = .ref a ∧ IsD H1 a ∧ ty σ H1 fun y H2 => ∃ o, DGet H2 a y o ∧ Q (o.getD .non) H2
def tDGet2 (td ty tx : TE) : TE := fun σ H Q => td σ H fun x H1 => ∃ a, x = .ref a ∧ IsD H1 a ∧ ty σ H1 fun y H2 => tx σ H2 fun z H3 => ∃ o, DGet H3 a y o ∧ Q (o.getD z) H3
/-- d.pop(k): there; d.pop(k, x): there or not -/
def tDPop1 (td ty : TE) : TE := fun σ H Q => td σ H fun x H1 => ∃ a, x = .ref a ∧ IsD H1 a ∧ ty σ H1 fun y H2 => ∃ kvs k v, H2 a = some (.dK kvs) ∧ y = kV k ∧ valV kvs k = some v ∧ Q v (upd H2 a (.dK (dropK kvs k)))
def tDPop2 (td ty tx : TE) : TE := fun σ H Q => td σ H fun x H1 => ∃ a, x = .ref a ∧ IsD H1 a ∧ ty σ H1 fun y H2 => tx σ H2 fun z H3 => ∃ kvs k, H3 a = some (.dK kvs) ∧ y = kV k ∧
  (∀ v, valV kvs k = some v → Q v (upd H3 a (.dK (dropK kvs k)))) ∧ (valV kvs k = none → Q z H3)
section
variable {X : Cx} {o e f : Expr} {apos cpos : Pos} {td ty tx : TE}
theorem pe_dget2 (hu : X.A.units + 1 < cLine) (ho : PE X o td) (he : PE X e ty) (hf : PE X f tx) (m : M2 X o "get" apos e f cpos) : PE X (.Call (.Attribute o "get" apos) [e, f] [] cpos) (tDGet2 td ty tx) := by
  intro pins s σ H Q I h
  refine wpAny_Call_method m.base m.few m.line PySem.F.plainAttrs_dict PySem.F.slot_dict_get PySem.F.type_dict_get (thn (ho pins s σ H _ I h) fun u s1 ⟨x, H1, I1, rx, a, ex, d, q1⟩ => ?_)
  subst ex
  obtain rfl : u = Value.ref a := rx
  obtain ⟨t1, t2, _⟩ := isD_at I1 d
  refine ⟨t1, t2, ?_⟩
  rw [m.trees]
  refine Calls.callWith_builtin rfl (Calls.evalArgs_plain (Calls.spliced_cons (thn (he pins s1 σ H1 _ I1 q1) fun iv s2 ⟨y, H2, I2, ry, q2⟩ =>
    Calls.spliced_cons (thn (hf pins s2 σ H2 _ I2 q2) fun fv s3 ⟨z, H3, I3, rz, ov, g, q3⟩ => Calls.spliced_nil ?_))))
  exact d_get2 hu I3 g ry rz fun w' s4 I4 rw' => ⟨_, H3, I4, rw', q3⟩
end

/-! ### dict(d): a copy -/
section
variable {X : Cx} {pins : List (Addr × Obj)} {σ : St} {H : Hp} {s : Shared} {a : Addr} {kvs : List (Key × V)} {A : Around} {E : Value → Shared → Prop}
end


section
variable {X : Cx} {pins : List (Addr × Obj)} {σ : St} {H : Hp} {s : Shared} {a : Addr} {y : V} {u : Value} {A : Around} {E : Value → Shared → Prop}
end
end L2

namespace L2
open PySem PySem.Spec PyProof.Rows


section
variable {prog : Program} {w : World} {A : Around} {E : Value → Shared → Prop}


end

section
variable {X : Cx}
end
end L2

namespace L2
open PySem PySem.Spec PyProof.Rows


section
variable {X : Cx} {pins : List (Addr × Obj)} {σ : St} {H : Hp} {s : Shared} {h' : Heap}
/-- .. and one new object is laid -/
theorem Inv.turnedNew {t' : Nat} {ch : List Addr} {T : Addr} {ob : HO} (I : Inv X pins σ H s) (k : ∀ b o, b ∉ ch → s.heap.get? b = some o → h'.get? b = some o) (hf : ∀ b ∈ ch, FpOk X pins H b) (hT : s.heap.objs.size ≤ T)
    (new : ObjOk X.prog X.w (upd H T ob) h' T ob) : Inv X pins σ (upd H T ob) { s with heap := h', toks := t' } := by
  have hn : H T = none := I.hok.fresh hT
  have nit : ∀ b u, H b = some u → b ∉ ch := fun b u e z => by
    have q := (hf b z).1
    rw [q] at e; cases e
  refine I.step (g' := s.gens) (d' := s.drawn) (ch := ch) (fun b hb => ⟨(hf b hb).2.2.2.1, (hf b hb).2.1, (hf b hb).2.2.2.2.1, (hf b hb).2.2.2.2.2⟩) (fun b o _ _ hc e _ => k b o hc e) (fun b o _ _ hc e _ => ⟨o.slots, k b o hc e⟩)
    (fun b o _ e n => ?_) (fun b o hc e => ⟨o, k b o hc e⟩) (fun b xs e => ?_) (fun b o u e => ?_) (fun b ps e => ⟨#[], ?_⟩) (fun m hm => ?_) (fun b u e => ?_) I.bare
  · rw [upd_ne (Nat.ne_of_lt (Nat.lt_of_lt_of_le (Heap.lt_size e) hT))]; exact n
  · rw [upd_ne (ne_of_none e hn)]; exact e
  · rw [upd_ne (ne_of_none e hn)]; exact e
  · rw [upd_ne (ne_of_none e hn), e]; simp
  · obtain ⟨o, es, ep, ho, r⟩ := hm
    exact ⟨o, es, ep, k _ o (fun z => (hf _ z).2.1 rfl) ho, r⟩
  · by_cases hb : b = T
    · subst hb
      rw [upd_same] at e
      cases e
      exact new
    · rw [upd_ne hb] at e
      refine (I.hok b u e).stay (fun c v hc q => k c v ?_ q) (fun c q => by rw [upd_ne (ne_of_none q hn)]; exact q) fun c xs q => by rw [upd_ne (ne_of_none q hn)]; exact q
      rcases hc with z | z
      · rw [z]; exact nit b u e
      · exact nit c _ z

/-! ### locking a thing while a statement runs -/
theorem Inv.lock {d : Addr} {u : HO} (I : Inv X pins σ H s) (h : H d = some u) (mu : Mut (some u)) : ∃ od, Inv X pins σ (upd H d (.frz od u)) s := by
  have x := I.hok d u h
  have ex : ∃ od, s.heap.get? d = some od := by
    cases u with
    | lst xs => obtain ⟨_, _, _, _, e⟩ := x; exact ⟨_, e⟩
    | dK kvs => obtain ⟨_, _, _, _, o, _, _, e, _⟩ := x; exact ⟨o, e⟩
    | dT kvs => obtain ⟨_, _, _, _, o, _, _, e, _⟩ := x; exact ⟨o, e⟩
    | set S n => obtain ⟨o, _, _, _, e, _⟩ := x; exact ⟨o, e⟩
    | ins C dx fs => obtain ⟨_, _, _, e, _⟩ := x; exact ⟨_, e⟩
    | ext φ => obtain ⟨_, ⟨_, e⟩, _⟩ := x; exact ⟨_, e⟩
    | _ => exact False.elim mu
  obtain ⟨od, e⟩ := ex
  have new : ObjOk X.prog X.w (upd H d (.frz od u)) s.heap d (.frz od u) := by
    refine ⟨e, x.stay (fun b v _ q => q) (fun b q => ?_) fun b xs q => ?_⟩
    · rw [upd_ne (fun z => by rw [z, h] at q; cases q; exact mu)]; exact q
    · rw [upd_ne (fun z => by rw [z, h] at q; cases q; exact mu)]; exact q
  exact ⟨od, I.write (x := d) (e := d) (t' := s.toks) (h' := s.heap) (by rw [h]; exact mu) (.inl rfl) (fun b v _ q => q) ⟨od, e⟩ new⟩
theorem Inv.nofrz {d : Addr} {u : HO} (I : Inv X pins σ H s) (h : H d = some u) (mu : Mut (some u)) : ∀ o' u', X.H_0 d ≠ some (.frz o' u') := fun o' u' e => by
  have q := I.base.frzs d o' u' e
  rw [h] at q
  cases q
  exact mu
theorem Inv.unlock {d : Addr} {od : Obj} {u : HO} (I : Inv X pins σ H s) (h : H d = some (.frz od u)) (hn : ∀ o' u', X.H_0 d ≠ some (.frz o' u')) : Inv X pins σ (upd H d u) s := by
  have neH : ∀ b o, H b = some o → (∀ o' u', o ≠ .frz o' u') → b ≠ d := fun b o e hne z => by
    rw [z, h] at e
    cases e
    exact hne _ _ rfl
  have neN : ∀ b, H b = none → b ≠ d := fun b e z => by rw [z, h] at e; cases e
  refine ⟨I.ok, I.os, I.bare, ⟨I.base.keep, I.base.slot, fun b o e n hx => ?_, I.base.there, fun b xs e => ?_, fun b o x e => ?_, fun b ps e => ?_⟩, I.loc, I.cell, ?_, fun x c e => ?_, fun p hp => ?_, fun b o e => ?_, I.len⟩
  · rw [upd_ne (neN b (I.base.free b o e n hx))]; exact I.base.free b o e n hx
  · have q := I.base.tups b xs e
    rw [upd_ne (neH b _ q (fun _ _ z => nomatch z))]; exact q
  · have q := I.base.frzs b o x e
    rw [upd_ne (fun z => by rw [z] at e; exact hn _ _ e)]; exact q
  · obtain ⟨m, q⟩ := I.base.tbls b ps e
    exact ⟨m, by rw [upd_ne (neH b _ q (fun _ _ z => nomatch z))]; exact q⟩
  · rw [upd_ne (neN _ I.free)]; exact I.free
  · rw [upd_ne (neN c (I.freeC x c e))]; exact I.freeC x c e
  · obtain ⟨e, n, r⟩ := I.pin p hp
    exact ⟨e, by rw [upd_ne (neN _ n)]; exact n, r⟩
  · by_cases hb : b = d
    · rw [hb, upd_same] at e
      cases e
      rw [hb]
      obtain ⟨_, x⟩ := I.hok d _ h
      exact x.stay (fun c v _ q => q) (fun c q => by rw [upd_ne (neH c _ q (fun _ _ z => nomatch z))]; exact q) fun c xs q => by rw [upd_ne (neH c _ q (fun _ _ z => nomatch z))]; exact q
    · rw [upd_ne hb] at e
      exact (I.hok b o e).stay (fun c v _ q => q) (fun c q => by rw [upd_ne (neH c _ q (fun _ _ z => nomatch z))]; exact q) fun c xs q => by rw [upd_ne (neH c _ q (fun _ _ z => nomatch z))]; exact q
end
/-- the statement runs while the thing at d is locked (read, not written); d and what stands there are the reading's choice -/
def tLock (t : TS) : TS := fun D σ H => ∃ d u, H d = some u ∧ Mut (some u) ∧ ∀ od, t ⟨fun σ' H' => H' d = some (.frz od u) ∧ D.nx σ' (upd H' d u), fun v H' => H' d = some (.frz od u) ∧ D.rt v (upd H' d u), fun σ' H' => H' d = some (.frz od u) ∧ D.bk σ' (upd H' d u), fun σ' H' => H' d = some (.frz od u) ∧ D.ct σ' (upd H' d u)⟩ σ (upd H d (.frz od u))
def tLockE (t : TE) : TE := fun σ H Q => ∃ d u, H d = some u ∧ Mut (some u) ∧ ∀ od, t σ (upd H d (.frz od u)) fun v H' => H' d = some (.frz od u) ∧ Q v (upd H' d u)
section
variable {X : Cx}
theorem ps_lock {st : Stmt} {t : TS} (h : PS X st t) : PS X st (tLock t) := by
  intro pins s σ H D I hw
  obtain ⟨d, u, hd, mu, hw⟩ := hw
  obtain ⟨od, I1⟩ := I.lock hd mu
  refine thn (h pins s σ _ _ I1 (hw od)) fun f s1 q => ?_
  cases f with
  | next => obtain ⟨σ', H', I2, e, q⟩ := q; exact ⟨σ', _, I2.unlock e (I.nofrz hd mu), q⟩
  | brk => obtain ⟨σ', H', I2, e, q⟩ := q; exact ⟨σ', _, I2.unlock e (I.nofrz hd mu), q⟩
  | cont => obtain ⟨σ', H', I2, e, q⟩ := q; exact ⟨σ', _, I2.unlock e (I.nofrz hd mu), q⟩
  | ret v => obtain ⟨x, σ', H', I2, r, e, q⟩ := q; exact ⟨x, σ', _, I2.unlock e (I.nofrz hd mu), r, q⟩

/-! ### one iterator just laid -/
theorem pi_one {tg : Expr} {pins : List (Addr × Obj)} {σ : St} {H : Hp} {s : Shared} {R : It → Hp → Prop} {J : It} {tn : Nat → Heap → Prop} {tk : Nat} (I : Inv X pins σ H s) (o : Obj)
    (T : Turn X.prog X.w X.K tg J [s.heap.objs.size] s.heap.objs.size tn) (st : tn 0 (s.heap.push o)) (q : R J H) : PIE X pins σ tg R (.ref s.heap.objs.size) { s with heap := s.heap.push o, toks := tk } := by
  refine ⟨s.heap.objs.size, [s.heap.objs.size], tn, J, H, rfl, I.kept fun b ob e => Heap.get?_push_of_some _ e, T, st, fun b hb => ?_, q⟩
  have e : b = s.heap.objs.size := by simpa using hb
  subst e
  exact I.fpOk (Nat.le_refl _) (I.hok.fresh (Nat.le_refl _))
end

/-! ### range with a step -/
/-- lo, lo + c, .. (n of them) -/
def Itc (lo c : Int) (n : Nat) : It := ⟨fun i _ => i < n, fun i H x H' => H' = H ∧ x = .int (lo + (i : Nat) * c), fun i _ => n ≤ i⟩
theorem turn_rangeC {P : Program} {w : World} {K : PySem.W.Frag} {tg : Expr} (it : Addr) (lo c : Int) (n : Nat) : Turn P w K tg (Itc lo c n) [it] it (fun i h => IsRangeIter h it (lo + (i : Nat) * c) ((n : Int) - (i : Nat)) c) where
  mem := by simp
  obj := fun i h st b hb => by
    have e : b = it := by simpa using hb
    subst e
    exact ⟨_, st, fun v z => nomatch z⟩
  keep := fun i h h' st k => k it (by simp) _ st
  item := by
    intro X hP hw hK hc i pins s σ H E I hf st hg
    subst hP hw hK
    obtain ⟨f0, f1, f2, f3, f4, f5⟩ := hf it (by simp)
    have W := Walks.range (prog := X.prog) (w := X.w) (I.ok.hd hc) it lo c n
    refine W.item i s _ _ hg st fun v h' tk hv st' kk => ?_
    obtain ⟨t, rfl⟩ := hv
    have I1 : Inv X pins σ H { s with heap := h', toks := tk } := I.turned (fun b o hb e => kk b o (by simpa using hb) e) f0 f1 f3 f4 f5
    exact ⟨_, rfl, go_of (s := { s with heap := h', toks := tk }) (n := "range_iterator") st' rfl rfl (by decide) ⟨.int (lo + (i : Nat) * c), H, I1, ⟨t, rfl⟩, ⟨rfl, rfl⟩, st', fun b hb => (hf b hb).1⟩⟩
  done := by
    intro X hP hw hK hc i pins s σ H E I hf st hg
    subst hP hw hK
    obtain ⟨f0, f1, f2, f3, f4, f5⟩ := hf it (by simp)
    exact wpAny_pyNext_range_end (I.ok.hd hc) st (by have : n ≤ i := hg; omega) fun h' eb => ⟨rfl, I.turned (t' := s.toks) (fun b o hb e => eb b o hb e) f0 f1 f3 f4 f5⟩
  self := fun A i s Q E st h => wpAny_pyIter_rangeiter st h
/-- range(i, j, c): small bounds, n items -/
def RgC (i j c : Int) (n : Nat) : Prop := c ≠ 0 ∧ c.natAbs < 1073741824 ∧ Builtin.Range.small i j c = true ∧ Builtin.Range.rangeSize i j c = n
def iRng3 (ta : TA) : TI := fun σ H R => ta σ H fun vs H1 => ∃ (i j c : Int) (n : Nat), vs = [.int i, .int j, .int c] ∧ RgC i j c n ∧ R (Itc i c n) H1
section
variable {X : Cx} {tg : Expr}
theorem pi_range3 {a b c : Expr} {ta : TA} {p pos : Pos} (hg : Gl X "range") (hm : X.mg "range" = none) (ha : PA X [a, b, c] ta)
    (hs : starEach [a, b, c] X.env = (false, eval a X.env) :: starEach [b, c] X.env := by rfl) (hpl : (backTo pos (starEach [b, c] X.env)).any (·.1) = false := by rfl) :
    PI X tg (.Call (.Name "range" p) [a, b, c] [] pos) (iRng3 ta) := by
  intro pins s σ H R I h
  refine Call_ (ld_blt I hg hm boot_range (PyProof.Rows.callWith_type1 (thn (ha pos pins s σ H _ I h) fun us s1 ⟨vs, H1, I1, r1, q1⟩ => ?_) hs hpl))
  obtain ⟨i, j, k, n, e, ⟨c0, c1, c2, c3⟩, q⟩ := q1
  subst e
  cases r1 with
  | cons r rr =>
    cases rr with
    | cons r' rr =>
      cases rr with
      | cons r'' rr =>
        cases rr
        obtain ⟨t, rfl⟩ := r
        obtain ⟨t', rfl⟩ := r'
        obtain ⟨t'', rfl⟩ := r''
        refine call_range_3 c0 ?_ (.inl (PyProof.noPylong_small c1))
        refine wpAny_pyIter_range (IsRange.new ..) c2 ?_
        have I2 : Inv X pins σ H1 { s1 with heap := s1.heap.push { cls := .type "range", data := .fields #[.int i t, .int j t', .int k t''] } } := I1.kept (t' := s1.toks) fun b o e => Heap.get?_push_of_some _ e
        refine pi_one (tk := s1.toks) I2 _ (turn_rangeC _ i k n) ?_ q
        have e1 : i + ((0 : Nat) : Int) * k = i := by simp
        have e2 : (n : Int) - ((0 : Nat) : Int) = Builtin.Range.rangeSize i j k := by rw [c3]; simp
        show IsRangeIter _ _ (i + ((0 : Nat) : Int) * k) ((n : Int) - ((0 : Nat) : Int)) k
        rw [e1, e2]
        exact Heap.get?_push_size _ rfl
end
/-- the turns of a step range, for the for loop -/
theorem for_rangeC {lo c : Int} {n : Nat} {g : TG} {tb : TS} {D : Ends} {σ : St} {H : Hp} (Pv : Nat → St → Hp → Prop) (h0 : Pv 0 σ H)
    (hs : ∀ i σ H, i < n → Pv i σ H → g (.int (lo + (i : Nat) * c)) σ H fun σ2 H2 => tb { D with nx := Pv (i + 1), ct := Pv (i + 1), bk := D.nx } σ2 H2) (hd : ∀ σ H, Pv n σ H → D.nx σ H) :
    ∃ W : Nat → Nat → St → Hp → Prop, (∃ m, W 0 m σ H) ∧ ∀ i m σ H, W i m σ H →
      ((Itc lo c n).stop i H ∧ D.nx σ H) ∨ ((Itc lo c n).go i H ∧ ∃ N : St → Hp → Prop, (∀ σ' H', N σ' H' → ∃ m', m' < m ∧ W (i + 1) m' σ' H') ∧ ∀ x H', (Itc lo c n).yld i H x H' → g x σ H' fun σ2 H2 => tb { D with nx := N, ct := N, bk := D.nx } σ2 H2) := by
  refine ⟨fun i m σ H => m = n - i ∧ i ≤ n ∧ Pv i σ H, ⟨n, by simp, Nat.zero_le _, h0⟩, ?_⟩
  rintro i m σ H ⟨rfl, hi, p⟩
  by_cases hlt : i < n
  · refine .inr ⟨hlt, Pv (i + 1), fun σ' H' p' => ⟨n - (i + 1), by omega, rfl, hlt, p'⟩, fun x H' y => ?_⟩
    obtain ⟨e, y⟩ := y
    subst e y
    exact hs i σ _ hlt p
  · have e : i = n := by omega
    subst e
    exact .inl ⟨Nat.le_refl _, hd σ H p⟩

/-! ### reversed(list) -/
/-- the list at a (n items at the start, which the loop leaves there), from its end -/
def Itv (K : PySem.W.Frag) (a : Addr) (n : Nat) : It :=
  ⟨fun i H => i < n ∧ ∃ (xs : List V) (x : V), SqL K H a xs ∧ xs[n - 1 - i]? = some x, fun i H x H' => H' = H ∧ ∀ xs, SqL K H a xs → xs[n - 1 - i]? = some x, fun i _ => n ≤ i⟩
def iRev (K : PySem.W.Frag) (ta : TA) : TI := fun σ H R => ta σ H fun vs H1 => ∃ (a : Addr) (xs : List V), vs = [.ref a] ∧ SqL K H1 a xs ∧ R (Itv K a xs.length) H1
section
variable {X : Cx} {tg : Expr}
end

/-! ### a str -/
def Its (x : Str) : It := ⟨fun i _ => i < x.cps.size, fun i H v H' => H' = H ∧ ∃ c, x.cps[i]? = some c ∧ v = .str ⟨#[c]⟩, fun i _ => x.cps.size ≤ i⟩
def iStr (te : TE) : TI := fun σ H R => te σ H fun v H1 => ∃ x, v = .str x ∧ R (Its x) H1

/-! ### a dict's keys: any dict's entries -/
section
variable {prog : Program} {w : World} {A : Around} {E : Value → Shared → Prop} {s : Shared}
end

/-! ### a locked dict -/
theorem kv_get {κ : Type} {kvs : List (κ × V)} {vs : List (κ × Value)} (h : KV kvs vs) : ∀ {i : Nat} {k : κ} {v : V}, kvs[i]? = some (k, v) → ∃ u, vs[i]? = some (k, u) ∧ RelV v u := by
  unfold KV at h
  induction h with
  | nil => intro i k v e; simp at e
  | @cons a b l₁ l₂ r t ih =>
    intro i k v e
    cases i with
    | zero =>
      simp only [List.getElem?_cons_zero, Option.some.injEq] at e
      subst e
      refine ⟨b.2, ?_, r.2⟩
      simp only [List.getElem?_cons_zero]
      exact congrArg some (Prod.ext r.1.symm rfl)
    | succ j =>
      simp only [List.getElem?_cons_succ] at e ⊢
      exact ih e
theorem relV_key {k : Key} {u : Value} (h : keyIs k u = true) : RelV (kV k) u := by
  rcases keyIs_shape h with ⟨i, t, rfl, rfl⟩ | ⟨x, t, rfl, rfl⟩
  · exact ⟨t, rfl⟩
  · exact ⟨t, rfl⟩
section
variable {X : Cx} {pins : List (Addr × Obj)} {σ : St} {H : Hp} {s : Shared} {d : Addr} {o : Obj}
theorem Inv.frzK {kvs : List (Key × V)} (I : Inv X pins σ H s) (h : H d = some (.frz o (.dK kvs))) :
    (d == sysModules) = false ∧ s.heap.get? d = some o ∧ o.ExactDict ∧ ∃ (es : Array DictEntry) (ep : Nat) (vs : List (Key × Value)), o.data = .dict es ep ∧ es.size = kvs.length ∧ KV kvs vs ∧ s.heap.DictAt (mixKind X.prog X.w) d vs ep := by
  obtain ⟨hd, z, hs, vs, kv, o', es, ep, ho, hx, hdt, r⟩ := I.hok d _ h
  rw [hd] at ho
  cases ho
  refine ⟨hs, hd, hx, es, ep, vs, hdt, ?_, kv, o, es, hd, hx, hdt, r⟩
  have l1 := r.2.1.length
  have l2 : kvs.length = vs.length := Paired.length kv
  rw [Array.length_toList] at l1
  omega
end

/-- the keys of the locked dict at d, in their order -/
def Itk (d : Addr) (o : Obj) (kvs : List (Key × V)) : It :=
  ⟨fun i H => H d = some (.frz o (.dK kvs)) ∧ i < kvs.length, fun i H x H' => H' = H ∧ ∃ k v, kvs[i]? = some (k, v) ∧ x = kV k, fun i H => H d = some (.frz o (.dK kvs)) ∧ kvs.length ≤ i⟩
/-- .. of tuple keys: the key's own tuple -/
def Itkt (d : Addr) (o : Obj) (kvs : List (List Key × V)) : It :=
  ⟨fun i H => H d = some (.frz o (.dT kvs)) ∧ i < kvs.length, fun i H x H' => H' = H ∧ ∃ (k : List Key) (v : V) (q : Addr), kvs[i]? = some (k, v) ∧ x = .ref q ∧ H q = some (.tup (k.map kV)), fun i H => H d = some (.frz o (.dT kvs)) ∧ kvs.length ≤ i⟩
/-- the values -/
def Itd (d : Addr) (o : Obj) (kvs : List (Key × V)) : It :=
  ⟨fun i H => H d = some (.frz o (.dK kvs)) ∧ i < kvs.length, fun i H x H' => H' = H ∧ ∃ k, kvs[i]? = some (k, x), fun i H => H d = some (.frz o (.dK kvs)) ∧ kvs.length ≤ i⟩
/-- the pairs, each a new tuple -/
def Iti (d : Addr) (o : Obj) (kvs : List (Key × V)) : It :=
  ⟨fun i H => H d = some (.frz o (.dK kvs)) ∧ i < kvs.length, fun i H x H' => ∃ T k v, kvs[i]? = some (k, v) ∧ x = .ref T ∧ H T = none ∧ H' = upd H T (.tup [kV k, v]), fun i H => H d = some (.frz o (.dK kvs)) ∧ kvs.length ≤ i⟩
theorem dict_ep {o : Obj} {es es' : Array DictEntry} {ep ep' : Nat} (h : o.data = .dict es ep) (h' : o.data = .dict es' ep') : es' = es ∧ ep' = ep := by
  rw [h] at h'
  cases h'
  exact ⟨rfl, rfl⟩
section
variable {P : Program} {w : World} {K : PySem.W.Frag} {tg : Expr} {d : Addr} {o : Obj} {es : Array DictEntry} {ep : Nat}
theorem turn_items {kvs : List (Key × V)} {elts : List Expr} {kk : Nat} {tpos : Pos} (it : Addr) (hod : o.data = .dict es ep) :
    Turn P w K (.Tuple elts kk tpos) (Iti d o kvs) [it] it (fun i h => ∃ ok ov, IsItemIter h it d i kvs.length ep ok ov) where
  mem := by simp
  obj := fun i h st b hb => by
    have e : b = it := by simpa using hb
    subst e
    obtain ⟨ok, ov, e⟩ := st
    exact ⟨_, e, fun v z => nomatch z⟩
  keep := fun i h h' st k => let ⟨ok, ov, e⟩ := st; ⟨ok, ov, k it (by simp) _ e⟩
  item := by
    intro X hP hw hK hc i pins s σ H E I hf st hg
    subst hP hw hK
    obtain ⟨hd, hi⟩ := hg
    obtain ⟨hs, hgd, hx, es', ep', vs, hdt, hsz, kv, hm⟩ := I.frzK hd
    obtain ⟨rfl, rfl⟩ := dict_ep hod hdt
    obtain ⟨⟨k, v⟩, hkv⟩ : ∃ p, kvs[i]? = some p := ⟨kvs[i], List.getElem?_eq_getElem hi⟩
    obtain ⟨u, hu, ru⟩ := kv_get kv hkv
    have hl : kvs.length = vs.length := Paired.length kv
    obtain ⟨ok, ov, he⟩ := st
    rw [hl] at he
    have hlt : it < s.heap.objs.size := Heap.lt_size he
    refine wpAny_pyNext_items_item he hm hu fun key h' hkey ho hT hz hk => ?_
    refine ⟨_, rfl, wpAny_letOwnedTupleGo_items (s := { s with heap := h' }) ho fun h'' he' sb => ?_⟩
    have hT2 : h''.get? s.heap.objs.size = some { cls := .type "tuple", data := .seq #[key, u] } := (sb.2 _ (Nat.ne_of_gt hlt)).trans hT
    have new : ObjOk X.prog X.w (upd H s.heap.objs.size (.tup [kV k, v])) h'' s.heap.objs.size (.tup [kV k, v]) :=
      ⟨by show 2 ≤ sizeLine; decide, [key, u], .cons (relV_key (show keyIs k key = true from hkey)) (.cons ru .nil), ⟨_, hT2, rfl, _, rfl⟩⟩
    have I1 : Inv X pins σ (upd H s.heap.objs.size (.tup [kV k, v])) { s with heap := h'' } :=
      I.turnedNew (t' := s.toks) (ch := [it]) (fun b ob hb e => (sb.2 b (by simpa using hb)).trans (hk b ob (by simpa using hb) e)) hf (Nat.le_refl _) new
    refine ⟨.ref s.heap.objs.size, _, I1, rfl, ⟨_, k, v, hkv, rfl, I.hok.fresh (Nat.le_refl _), rfl⟩, ⟨key, u, ?_⟩, fun b hb => ?_⟩
    · rw [hl]; exact he'
    · have e : b = it := by simpa using hb
      rw [e, upd_ne (Nat.ne_of_lt hlt)]
      exact (hf it (by simp)).1
  done := by
    intro X hP hw hK hc i pins s σ H E I hf st hg
    subst hP hw hK
    obtain ⟨hd, hi⟩ := hg
    obtain ⟨f0, f1, f2, f3, f4, f5⟩ := hf it (by simp)
    obtain ⟨hs, hgd, hx, es', ep', vs, hdt, hsz, kv, hm⟩ := I.frzK hd
    obtain ⟨rfl, rfl⟩ := dict_ep hod hdt
    have hl : kvs.length = vs.length := Paired.length kv
    obtain ⟨ok, ov, he⟩ := st
    rw [hl] at he
    exact wpAny_pyNext_items_end (I.ok.hd hc) he hm (List.getElem?_eq_none (by omega)) fun h' eb => ⟨rfl, I.turned (t' := s.toks) (fun b ob hb e => eb b ob hb e) f0 f1 f3 f4 f5⟩
  self := fun A i s Q E st h => let ⟨_, _, e⟩ := st; PySem.W.kcp_self e h
end

/-! ### for k in d, d.keys(), d.values(), d.items() -/
/-- the dict is locked (tLock, or by the caller) -/
def iKeys (td : TE) : TI := fun σ H R => td σ H fun x H1 => ∃ d o, x = .ref d ∧ ((∃ kvs, H1 d = some (.frz o (.dK kvs)) ∧ R (Itk d o kvs) H1) ∨ ∃ kvs, H1 d = some (.frz o (.dT kvs)) ∧ R (Itkt d o kvs) H1)
def iVals (td : TE) : TI := fun σ H R => td σ H fun x H1 => ∃ d o kvs, x = .ref d ∧ H1 d = some (.frz o (.dK kvs)) ∧ R (Itd d o kvs) H1
def iItems (td : TE) : TI := fun σ H R => td σ H fun x H1 => ∃ d o kvs, x = .ref d ∧ H1 d = some (.frz o (.dK kvs)) ∧ R (Iti d o kvs) H1
def iKeysM (td : TE) : TI := fun σ H R => td σ H fun x H1 => ∃ d o kvs, x = .ref d ∧ H1 d = some (.frz o (.dK kvs)) ∧ R (Itk d o kvs) H1
section
variable {X : Cx} {tg e : Expr} {td : TE} {apos cpos : Pos}
theorem pi_items {elts : List Expr} {kk : Nat} {tpos : Pos} (he : PE X e td) (hbase : attributeBase e "items" X.env (eval e X.env) = eval e X.env := by rfl) (hline : (apos.endLine == cpos.line) = true := by rfl) :
    PI X (.Tuple elts kk tpos) (.Call (.Attribute e "items" apos) [] [] cpos) (iItems td) := by
  intro pins s σ H R I h
  refine wpAny_Call_method (T := "dict") (id := "dict.items") hbase rfl hline F.plainAttrs_dict F.slot_dict_items F.type_dict_items (thn (he pins s σ H _ I h) fun u s1 ⟨x, H1, I1, rx, d, o, kvs, ex, hd, q⟩ => ?_)
  subst ex
  obtain rfl : u = Value.ref d := rx
  obtain ⟨hs, hgd, hx, es, ep, vs, hdt, hsz, kv, hm⟩ := I1.frzK hd
  have hl : kvs.length = vs.length := Paired.length kv
  refine ⟨hm.dictOf.typeIs, hm.dictOf.mapOf.noDict, ?_⟩
  have I2 : Inv X pins σ H1 { s1 with heap := s1.heap.push { cls := .type "dict_items", data := .fields #[.ref d] } } := I1.kept (t' := s1.toks) fun b ob q => Heap.get?_push_of_some _ q
  have fin : wpAny (model X.prog X.w) X.A (pyIter (.ref s1.heap.objs.size)) (PIE X pins σ (.Tuple elts kk tpos) R) X.xe { s1 with heap := s1.heap.push { cls := .type "dict_items", data := .fields #[.ref d] } } := by
    refine wpAny_pyIter_items (d := d) (knd := mixKind X.prog X.w) ⟨_, Heap.get?_push_size _ rfl, rfl, rfl⟩ (hm.push _) (pi_one (tk := s1.toks) I2 _ (turn_items _ hdt) ⟨.none, .none, ?_⟩ q)
    rw [hl]
    exact Heap.get?_push_size _ rfl
  show wpAny _ _ (callWith cpos (.builtin "dict.items") [.ref d] [] []) _ X.xe s1
  exact method_meetsIn F.slot_dict_items F.entry_dict_items rfl (PySem.evalArgs_none ⟨rfl, hm.dictOf.typeIs, F.args_dict_items_1 _, _, meets_dict_items (mixKind X.prog X.w) d hs, ⟨vs, hm.dictOf⟩, fin⟩)
end

/-! ### enumerate(list) -/
/-- the list at a as it stands at each turn, each item in a new pair -/
def Ite (K : PySem.W.Frag) (a : Addr) : It :=
  ⟨fun i H => ∃ (xs : List V) (x : V), SqL K H a xs ∧ xs[i]? = some x, fun i H v H' => ∃ T x, v = .ref T ∧ H T = none ∧ H' = upd H T (.tup [.int (i : Nat), x]) ∧ ∀ xs, SqL K H a xs → xs[i]? = some x, fun i H => ∃ xs : List V, SqL K H a xs ∧ xs.length ≤ i⟩
theorem turn_enum {P : Program} {w : World} {K : PySem.W.Frag} {elts : List Expr} {kk : Nat} {tpos : Pos} (a e it : Addr) :
    Turn P w K (.Tuple elts kk tpos) (Ite K a) [e, it] e (fun i h => (∃ old, IsEnum h e it ((i : Nat) : Int) old) ∧ h.IsListIter it a i ∧ e ≠ it) where
  mem := by simp
  obj := fun i h st b hb => by
    obtain ⟨⟨old, he⟩, ⟨o, ho, hc, hd⟩, _⟩ := st
    have e' : b = e ∨ b = it := by simpa using hb
    rcases e' with z | z
    · rw [z]; exact ⟨_, he, fun v q => nomatch q⟩
    · rw [z]; exact ⟨o, ho, fun v q => by rw [hd] at q; cases q⟩
  keep := fun i h h' st k => let ⟨⟨old, he⟩, hi, hne⟩ := st; ⟨⟨old, k e (by simp) _ he⟩, hi.at fun o q => k it (by simp) o q, hne⟩
  item := by
    intro X hP hw hK hc i pins s σ H E I hf st hg
    subst hP hw hK
    obtain ⟨⟨old, he⟩, hit, hne⟩ := st
    obtain ⟨xs, x, hq, hx⟩ := hg
    obtain ⟨its, rv, p, hz⟩ := I.list hq
    obtain ⟨u, hu, ru⟩ := rv.get hx
    have hel : e < s.heap.objs.size := Heap.lt_size he
    have hil : it < s.heap.objs.size := by obtain ⟨_, q, _⟩ := hit; exact Heap.lt_size q
    refine wpAny_pyNext_enum_item he hit p.isList (x := u) (by simpa using hu) hne fun h' ho hit' hT hsz hk => ?_
    refine ⟨_, rfl, wpAny_letOwnedTupleGo_enum (s := { s with heap := h', toks := s.toks + 1 }) ho fun h'' he' sb => ?_⟩
    have hT2 : h''.get? s.heap.objs.size = some { cls := .type "tuple", data := .seq #[.int i s.toks, u] } := (sb.2 _ (Nat.ne_of_gt hel)).trans hT
    have new : ObjOk X.prog X.w (upd H s.heap.objs.size (.tup [.int (i : Nat), x])) h'' s.heap.objs.size (.tup [.int (i : Nat), x]) :=
      ⟨by show 2 ≤ sizeLine; decide, [.int i s.toks, u], .cons ⟨_, rfl⟩ (.cons ru .nil), ⟨_, hT2, rfl, _, rfl⟩⟩
    have I1 : Inv X pins σ (upd H s.heap.objs.size (.tup [.int (i : Nat), x])) { s with heap := h'', toks := s.toks + 1 } :=
      I.turnedNew (ch := [e, it]) (fun b ob hb q => (sb.2 b (fun z => hb (by simp [z]))).trans (hk b ob (fun z => hb (by simp [z])) (fun z => hb (by simp [z])) q)) hf (Nat.le_refl _) new
    refine ⟨.ref s.heap.objs.size, _, I1, rfl, ⟨_, x, rfl, I.hok.fresh (Nat.le_refl _), rfl, fun ys hy => by rw [I.list_inj hy hq]; exact hx⟩, ⟨⟨u, ?_⟩, hit'.at fun o q => (sb.2 it (Ne.symm hne)).trans q, hne⟩, fun b hb => ?_⟩
    · have e1 : ((i + 1 : Nat) : Int) = (i : Int) + 1 := by omega
      rw [e1]; exact he'
    · have hb' : b < s.heap.objs.size := by
        have e' : b = e ∨ b = it := by simpa using hb
        rcases e' with z | z
        · rw [z]; exact hel
        · rw [z]; exact hil
      rw [upd_ne (Nat.ne_of_lt hb')]
      exact (hf b hb).1
  done := by
    intro X hP hw hK hc i pins s σ H E I hf st hg
    subst hP hw hK
    obtain ⟨⟨old, he⟩, hit, hne⟩ := st
    obtain ⟨xs, hq, hx⟩ := hg
    obtain ⟨its, rv, p, hz⟩ := I.list hq
    obtain ⟨f0, f1, f2, f3, f4, f5⟩ := hf it (by simp)
    have hl := rv.length
    exact wpAny_pyNext_enum_end (I.ok.hd hc) he hit p.isList (by simp; omega) fun h' eb => ⟨rfl, I.turned (t' := s.toks) (fun b o hb q => eb b o hb q) f0 f1 f3 f4 f5⟩
  self := fun A i s Q E st h => let ⟨⟨_, he⟩, _⟩ := st; wpAny_pyIter_enum he h
def iEnum (K : PySem.W.Frag) (ta : TA) : TI := fun σ H R => ta σ H fun vs H1 => ∃ a xs, vs = [.ref a] ∧ SqL K H1 a xs ∧ R (Ite K a) H1
theorem pi_enum {X : Cx} {e : Expr} {ta : TA} {p pos tpos : Pos} {elts : List Expr} {kk : Nat} (hg : Gl X "enumerate") (hm : X.mg "enumerate" = none) (ha : PA X [e] ta) (hs : starEach [e] X.env = [(false, eval e X.env)] := by rfl) :
    PI X (.Tuple elts kk tpos) (.Call (.Name "enumerate" p) [e] [] pos) (iEnum X.K ta) := by
  intro pins s σ H R I h
  refine Call_ (ld_blt I hg hm boot_enumerate (PyProof.Rows.callWith_type1 (thn (ha pos pins s σ H _ I h) fun us s1 ⟨vs, H1, I1, r1, q1⟩ => ?_) hs rfl))
  obtain ⟨a, xs, ex, hq, q⟩ := q1
  subst ex
  cases r1 with
  | cons r rr =>
    cases rr
    cases r
    obtain ⟨its, rv, p', hz⟩ := I1.list hq
    refine call_enumerate_list p'.isList fun h' he hit hsz hk => wpAny_pyIter_enum he ?_
    have I2 : Inv X pins σ H1 { s1 with heap := h' } := I1.kept (t' := s1.toks) hk
    refine ⟨s1.heap.objs.size + 1, [s1.heap.objs.size + 1, s1.heap.objs.size], _, _, H1, rfl, I2, turn_enum a (s1.heap.objs.size + 1) s1.heap.objs.size, ⟨⟨.none, he⟩, hit, Nat.succ_ne_self _⟩, fun b hb => ?_, q⟩
    have e' : b = s1.heap.objs.size + 1 ∨ b = s1.heap.objs.size := by simpa using hb
    have hle : s1.heap.objs.size ≤ b := by
      rcases e' with z | z
      · rw [z]; exact Nat.le_add_right _ _
      · rw [z]; exact Nat.le_refl _
    exact I1.fpOk hle (I1.hok.fresh hle)
/-! ### zip(list, list) -/
/-- the lists at a and b as they stand at each turn, the items in new pairs -/
def Itz (K : PySem.W.Frag) (a b : Addr) : It :=
  ⟨fun i H => ∃ (xs ys : List V) (x y : V), SqL K H a xs ∧ SqL K H b ys ∧ xs[i]? = some x ∧ ys[i]? = some y,
    fun i H v H' => ∃ T x y, v = .ref T ∧ H T = none ∧ H' = upd H T (.tup [x, y]) ∧ (∀ xs, SqL K H a xs → xs[i]? = some x) ∧ ∀ ys, SqL K H b ys → ys[i]? = some y,
    fun i H => ∃ xs ys : List V, SqL K H a xs ∧ SqL K H b ys ∧ (xs.length ≤ i ∨ ys.length ≤ i)⟩
def iZip (K : PySem.W.Frag) (ta : TA) : TI := fun σ H R => ta σ H fun vs H1 => ∃ a b xs ys, vs = [.ref a, .ref b] ∧ SqL K H1 a xs ∧ SqL K H1 b ys ∧ R (Itz K a b) H1
end L2

section 
namespace Bits
open PySem PyProof.Rows








end Bits
end 

section 
namespace TL
open PySem PySem.Builtin PySem.Builtin.Str PySem.StrLaws

abbrev tl (x : Str) : List Nat := x.cps.toList

/-! ### the list functions -/
/-- S stands at the head of l -/
def pre (S l : List Nat) : Bool := l.take S.length == S
/-- l cut at each S from the left; k signs are still to be passed over -/
def spl (S : List Nat) : Nat → List Nat → List Nat → List (List Nat)
  | _, acc, [] => [acc]
  | 0, acc, c :: r => if pre S (c :: r) = true then acc :: spl S (S.length - 1) [] r else spl S 0 (acc ++ [c]) r
  | k + 1, acc, _ :: r => spl S k acc r
/-- what stands before the first S, and behind it -/
def par (S : List Nat) : List Nat → List Nat → Option (List Nat × List Nat)
  | _, [] => none
  | acc, c :: r => if pre S (c :: r) = true then some (acc, (c :: r).drop S.length) else par S (acc ++ [c]) r




/-! ### the model's split and partition are these -/




/-! ### computing spl and par -/

/-- joined lists -/
def joinL (S : List Nat) : List (List Nat) → List Nat
  | [] => []
  | [p] => p
  | p :: q :: r => p ++ (S ++ joinL S (q :: r))

/-! ### digits -/
/-- the signs of a number -/
def numL (n : Nat) : List Nat := (Nat.toDigits 10 n).map Char.toNat

/-! ### words: x.split() -/
def wstep (st : List (List Nat) × List Nat) (c : Nat) : List (List Nat) × List Nat :=
  if Unicode.isSpace c = true then (if st.2 = [] then st else (st.1 ++ [st.2], [])) else (st.1, st.2 ++ [c])
def wfin (st : List (List Nat) × List Nat) : List (List Nat) := if st.2 = [] then st.1 else st.1 ++ [st.2]
end TL
end 

namespace L2
open PySem PySem.Spec PyProof.Rows



/-- a new list of texts, tracked -/
def rNewStrs (ys : List Str) : Hp → VK → Prop := fun H Q => ∀ p, H p = none → Q (.ref p) (upd H p (.lst (ys.map V.str)))

section
variable {X : Cx} {pins : List (Addr × Obj)} {σ : St} {H : Hp} {s : Shared} {Q : VK}
end

section
variable {X : Cx}





/-! ### of a text alone -/

/-! ### of a text and a text -/

end

section
variable {X : Cx} {o e : Expr} {to te : TE}
def tM0 (r : V → List V → Hp → VK → Prop) (to : TE) : TE := fun σ H Q => to σ H fun x H1 => (∃ a, x = .str a) ∧ r x [] H1 Q
def tM1 (r : V → List V → Hp → VK → Prop) (to te : TE) : TE := fun σ H Q => to σ H fun x H1 => (∃ a, x = .str a) ∧ te σ H1 fun y H2 => r x [y] H2 Q

end
end L2

namespace L2
open PySem PySem.Spec PyProof.Rows

section
variable {X : Cx}
end

/-! ### slices of a text -/

/-- a part, clipped, as the text's slice reckons it -/
def clipS (n d : Nat) : Option Int → Int
  | none => (d : Int)
  | some i => max 0 (min (if i < 0 then i + (n : Int) else i) (n : Int))

/-- z[lo:hi] -/
def cutS (z : Str) (lo hi : Option Int) : Str :=
  ⟨((z.cps.toList.drop (HT.sIx z.length 0 lo)).take (HT.sIx z.length z.length hi - HT.sIx z.length 0 lo)).toArray⟩
def rSlS : V → Option Int → Option Int → Hp → VK → Prop := fun x lo hi H Q => ∃ z, x = .str z ∧ z.length ≤ sizeLine ∧ Q (.str (cutS z lo hi)) H
end L2

namespace Att
open PySem PySem.W PySem.Calls PyProof.Rows

/-! ### the script -/



/-! ### the attachment: holds_open's last premise (the goal 'hc' behind k_head) from a wpAny of the law's body -/



/-! ### rules over ANY heap (no ledger) from facts about the written part K: the library's own take a ledger (News) for what they write -/
section
variable {prog : Program} {w : World} {A : Around} {E : Value → Shared → Prop} {s : Shared} {K : Frag}





/-! the whole heap as the ledger: makes every rule that writes through a ledger a rule over any heap -/
def noObjs (h : Heap) : Heap := { h with objs := #[] }
def ledger (h : Heap) (L d : Addr) : List (Addr × Obj) := (List.range h.objs.size).filterMap fun a => if a = L ∨ a = d then none else (h.get? a).map fun o => (a, o)

end
end Att

namespace L2
open PySem PySem.Spec PyProof.Rows


/-- nothing is tracked but the script, known to the object (or it is an object of the module) -/
def Only (H : Hp) : Prop := ∀ b, H b = none ∨ ∃ o xs, H b = some (.frz o (.lst xs))

end L2

namespace L2
open PySem PySem.Spec PyProof.Rows

abbrev KOf {K : PySem.W.Frag} {h : Heap} (_ : K.In h) : PySem.W.Frag := K

end L2

/- THE LAST THEOREM (shape; LID, My.* are yours):
   My.Adr: a structure of the addresses that your layer names (classes, functions); My.Txt K t: a structure (Prop) of the equations over K;
   My.txt_mk : {K} {implicit addresses ..} (e1 : nsIn K mainGlobals "law" = some (some (.ref f))) (e2 : K.lookup f = some ⟨oc, od, .func (fnOf "law" "law" params body scope dV kV doc pm an cdv ct), sl⟩) (e3 : codeIn K cdv "law" = true) .. : ∃ t, My.Txt K t

set_option maxRecDepth 100000 in
set_option maxHeartbeats 0 in
theorem PySem.Challenge.cw_LID_holds : PySem.Challenge.rw_LID.Holds := by
  w_on; o_law; k_head; (case hw => w_witness2)
  k_fill
  refine L2.walk_of (l := PySem.Challenge.rw_LID) (n := 63) (k := 40) (x := "script") (CX := fun w => ..) (sp := fun _ => My.sp_law) rfl (by decide) rfl ⟨rfl, by decide, by decide⟩ (fun w h Y => PySem.W.kIn_of Y) ?F ?S ?C
  case F =>
    intro w mg fa h KX G hmg
    have T : ∃ t, My.Txt (L2.KOf KX) t := by
      dsimp only [L2.KOf]                          -- K must stand as «<heap const> w.params» for k_is
      refine' My.txt_mk ?e1 ?e2 ?e3 ..
      (case e1 => PySem.W.k_is)                    -- in the order: a name -> its address -> its object -> its parts
      (case e2 => PySem.W.k_is)
      ..
    obtain ⟨t, T⟩ := T
    have e0 := hmg.symm.trans (PySem.W.mg_of KX G T.law)
    cases e0                                       -- fa is the law's own address
    exact ⟨_, fun s u => .of_eq rfl, fun base kb nb => My.law_fn T kb nb⟩     -- if «.of_eq rfl» comes too early: refine' ⟨_, ?b, fun base kb nb => My.law_fn T kb nb⟩; exact fun s u => .of_eq rfl
  case S => exact fun w H a ns hl hO hS => ..
  case C => exact ..
(the tactic k_is has no namespace: write k_is) -/

/-! SHORT WORDS over the layer: a def of the text, its body, what a loop and a test want. -/
namespace L2
open PySem PySem.Spec PyProof.Rows

/-! ### the text by places -/
/-- the j-th statement of a class's body -/
def inClass (s : Stmt) (j : Nat) : Stmt := match s with
  | .ClassDef _ _ _ body _ _ _ _ _ _ _ => body.getD j (.Pass ⟨0, 0, 0, 0⟩)
  | _ => .Pass ⟨0, 0, 0, 0⟩
def defArgs (s : Stmt) : Arguments := match s with
  | .FunctionDef _ a _ _ _ _ _ _ _ _ => a
  | _ => { posonlyargs := [], args := [], vararg := none, kwonlyargs := [], kw_defaults := [], kwarg := none, defaults := [] }
def defBody (s : Stmt) : List Stmt := match s with
  | .FunctionDef _ _ b _ _ _ _ _ _ _ => b
  | _ => []
def defScope (s : Stmt) : Scope := match s with
  | .FunctionDef _ _ _ _ _ _ sc _ _ _ => sc
  | _ => { kind := .function, names := [], isGenerator := false, isCoroutine := false }

/-! ### no exception leaves a def -/
abbrev CX0 : CXT := fun _ _ _ _ _ _ => False
abbrev E0 : XK := fun _ _ _ => False
theorem pass0 {X : Cx} : Passes CX0 X E0 := fun _ _ _ _ _ _ _ h => h.elim

/-! ### a def (or method) of the text as it stands behind the top -/
structure Fun (K : PySem.W.Frag) (x qual : Str) (st : Stmt) (f : Addr) (fd : FuncData) : Prop where
  ex : ∃ (oc : Value) (od : Option Addr) (kV doc pm : Value) (an : Option Addr) (cdv ct : Value) (osl : Array (Option Value)),
    fd = PySem.W.fnOf x qual (defArgs st) (defBody st) (defScope st) .none kV doc pm an cdv ct ∧ K.lookup f = some ⟨oc, od, .func fd, osl⟩ ∧ PySem.W.codeIn K cdv qual = true
  kp : PySem.W.keepIn K (.ref f) = true
section
variable {P : Program} {w : World} {K : PySem.W.Frag} {mg : Str → Option Value} {base : Heap}
/-- THE RULE for a def: its body as a term of rules, and the reading of that term -/
theorem Fun.ok {x qual : Str} {st : Stmt} {f : Addr} {fd : FuncData} {N ps : List Str} {k : Nat} {sp : Sp} (F : Fun K x qual st f fd) (S : FnScope N ps (defScope st)) (len : ∀ vs H Q E, sp vs H Q E → vs.length = ps.length)
    (hbody : ∀ (cdv : Value) (A : Around) (outer : List Env) (s : Shared) (H : Hp) (vs : List V) (Q : VK) (E : XK), Room k (A.deeper (envOfC qual (defScope st) s.heap.objs.size f cdv)) → sp vs H Q E →
      ∃ t, PSs (cxOf CX0 P w K mg base N qual (defScope st) f cdv A outer s H E).nox (defBody st) t ∧ t { nx := fun _ H' => Q .non H', rt := Q } (start N vs) H) : FnOk P w K mg base CX0 (k + 1) f fd ps sp := by
  obtain ⟨oc, od, kV, doc, pm, an, cdv, ct, osl, rfl, lk, hcd⟩ := F.ex
  refine fn_of lk hcd S len fun A outer s H vs Q E hr hsp => ?_
  obtain ⟨t, h, q⟩ := hbody cdv A outer s H vs Q E hr hsp
  exact ⟨t, h.nox, q⟩
theorem fun_mk {x qual : Str} {st : Stmt} {f : Addr} {oc : Value} {od an : Option Addr} {osl : Array (Option Value)} {kV doc pm cdv ct : Value} (l : K.lookup f = some ⟨oc, od, .func (PySem.W.fnOf x qual (defArgs st) (defBody st) (defScope st) .none kV doc pm an cdv ct), osl⟩)
    (c : PySem.W.codeIn K cdv qual = true) (k : PySem.W.keepIn K (.ref f) = true) : Fun K x qual st f (PySem.W.fnOf x qual (defArgs st) (defBody st) (defScope st) .none kV doc pm an cdv ct) := ⟨⟨oc, od, kV, doc, pm, an, cdv, ct, osl, rfl, l, c⟩, k⟩
end
theorem hu_of {A : Around} {k : Nat} (hr : Room k A) : A.units + 1 < cLine := Nat.lt_of_le_of_lt (Nat.add_le_add_left (by decide : 1 ≤ 64) _) hr.units
theorem small1000 {n : Nat} (h : n ≤ 1000) : n < sizeLine := Nat.lt_of_le_of_lt h (by decide)

/-! ### expressions in short: the name that stands in the i-th slot -/
section
variable {X : Cx}
theorem pv (i : Nat) {x : Str} {pos : Pos} (hN : X.N[i]? = some x := by rfl) (hv : Vis X.env.scope x := by first | exact Or.inl rfl | exact Or.inr (Or.inl rfl) | exact Or.inr (Or.inr rfl)) (hd : (x == ("__debug__" : Str)) = false := by decide)
    (hcd : (x == ("__classdict__" : Str)) = false := by decide) : PE X (.Name x pos) (tVar i) := pe_var hN hv hd hcd
/-- len of a dict -/
theorem call_lenD : CallR X (.builtin "len") (fun xs H Q => ∃ a kvs, xs = [V.ref a] ∧ H a = some (.dK kvs) ∧ Q (.int kvs.length) H) := by
  intro pins s σ H xs us Q I r h
  obtain ⟨a, kvs, rfl, ha, q⟩ := h
  obtain ⟨u, rfl, ru⟩ := vals1 r
  cases ru
  exact d_len I (.inl ha) fun t s' I' => ⟨.int kvs.length, H, I', ⟨t, rfl⟩, q⟩
end

/-! ### tests -/
theorem iteF {A B : Prop} (h : B) : if false = true then A else B := by
  rw [if_neg Bool.false_ne_true]
  exact h
theorem iteT {A B : Prop} (h : A) : if true = true then A else B := by
  rw [if_pos rfl]
  exact h
theorem ite2 {c A B : Prop} [Decidable c] (h1 : c → A) (h2 : ¬ c → B) : if c then A else B := by
  by_cases h : c
  · rw [if_pos h]
    exact h1 h
  · rw [if_neg h]
    exact h2 h

/-! ### heaps -/
/-- all that was tracked is as it was -/
def Same (H H' : Hp) : Prop := ∀ b o, H b = some o → H' b = some o
theorem Same.refl (H : Hp) : Same H H := fun _ _ h => h
theorem Same.trans {H H1 H2 : Hp} (a : Same H H1) (b : Same H1 H2) : Same H H2 := fun c o h => b c o (a c o h)
theorem Same.seq {K : PySem.W.Frag} {H H' : Hp} {a : Addr} {xs : List V} (e : Same H H') (h : SqL K H a xs) : SqL K H' a xs := by
  rcases h with (h | ⟨o, h⟩) | h
  · exact .inl (.inl (e _ _ h))
  · exact .inl (.inr ⟨o, e _ _ h⟩)
  · exact .inr h

/-! ### a dict's pairs: keys that differ -/
section
variable {κ : Type} [DecidableEq κ]
theorem valV_not {kvs : List (κ × V)} {k : κ} (h : valV kvs k = none) : ¬ k ∈ kvs.map (·.1) := by
  intro m
  obtain ⟨p, hp, e⟩ := List.mem_map.mp m
  have q : (kvs.any fun kv => decide (kv.1 = k)) = true := List.any_eq_true.mpr ⟨p, hp, decide_eq_true e⟩
  rw [valV_any, h] at q
  exact absurd q (by simp)
theorem valV_in {kvs : List (κ × V)} {k : κ} {v : V} (h : valV kvs k = some v) : k ∈ kvs.map (·.1) := by
  have q : (kvs.any fun kv => decide (kv.1 = k)) = true := by
    rw [valV_any, h]
    all_goals rfl
  obtain ⟨p, hp, e⟩ := List.any_eq_true.mp q
  exact List.mem_map.mpr ⟨p, hp, of_decide_eq_true e⟩
end
/-! ### lists -/
end L2

end
section
set_option Elab.async false
set_option linter.all false
set_option maxRecDepth 100000
set_option maxHeartbeats 2000000
namespace L2
open PySem PySem.Spec PyProof.Rows
open PySem.W (WData Codec OpenSpec Well WellAll ReadsW ReadsAllW)
/-! ### an answer as data -/
mutual
/-- x stands for the datum d, lists and tuples all the way -/
inductive Dw (K : PySem.W.Frag) (H : Hp) : V → WData → Prop
  | non : Dw K H .non .none
  | bl (b : Bool) : Dw K H (.bl b) (.bool b)
  | int (i : Int) : Dw K H (.int i) (.int i)
  | str (x : Str) : Dw K H (.str x) (.str x)
  | byt (b : Array UInt8) : Dw K H (.byt b) (.bytes b.toList)
  | lst {a : Addr} {xs : List V} {ds : List WData} : SqL K H a xs → DwAll K H xs ds → Dw K H (.ref a) (.list ds)
  | tup {a : Addr} {xs : List V} {ds : List WData} : SqT K H a xs → DwAll K H xs ds → Dw K H (.ref a) (.tuple ds)
inductive DwAll (K : PySem.W.Frag) (H : Hp) : List V → List WData → Prop
  | nil : DwAll K H [] []
  | cons {v : V} {vs : List V} {d : WData} {ds : List WData} : Dw K H v d → DwAll K H vs ds → DwAll K H (v :: vs) (d :: ds)
end
theorem dw_ints {K : PySem.W.Frag} {H : Hp} : ∀ ns : List Int, DwAll K H (ns.map V.int) (ns.map WData.int)
  | [] => .nil
  | n :: r => .cons (.int n) (dw_ints r)
theorem ints_dw {K : PySem.W.Frag} {H : Hp} : ∀ (ns : List Int) (xs : List V), DwAll K H xs (ns.map WData.int) → xs = ns.map V.int
  | [], xs, h => by
    cases h
    rfl
  | n :: r, xs, h => by
    cases h with
    | cons h1 h2 =>
      cases h1
      rw [ints_dw r _ h2] <;> rfl
section
variable {P : Program} {w : World} {K : PySem.W.Frag} {H : Hp} {h : Heap} {R : PySem.W.WRecords} {cl : Str → Option Addr}
theorem sqL_at {a : Addr} {xs : List V} (hok : HOk P w H h) (KX : K.In h) (q : SqL K H a xs) : ∃ (its : List Value) (o : Obj) (n : Nat), Vals xs its ∧ h.get? a = some o ∧ o.cls = .type "list" ∧ o.data = .seq its.toArray n := by
  rcases q with q | ⟨o, its, n, e, hc, _, hd, _, hv⟩
  · obtain ⟨_, its, n, hv, e⟩ := (show ObjOk P w H h a (.lst xs) from q.ok hok)
    exact ⟨its, _, n, hv, e, rfl, rfl⟩
  · exact ⟨its.toList, o, n, hv, KX _ _ e, hc, by simp [hd]⟩
theorem sqT_at {a : Addr} {xs : List V} (hok : HOk P w H h) (KX : K.In h) (q : SqT K H a xs) : ∃ (its : List Value) (o : Obj) (n : Nat), Vals xs its ∧ h.get? a = some o ∧ o.cls = .type "tuple" ∧ o.data = .seq its.toArray n := by
  rcases q with q | ⟨o, its, n, e, hc, hd, _, hv⟩
  · obtain ⟨_, its, hv, o, e, hc, n, hd⟩ := (show ObjOk P w H h a (.tup xs) from q.ok hok)
    exact ⟨its, o, n, hv, e, hc, hd⟩
  · exact ⟨its.toList, o, n, hv, KX _ _ e, hc, by simp [hd]⟩
mutual
theorem Dw.reads (hok : HOk P w H h) (KX : K.In h) : ∀ (d : WData) (v : V) (u : Value), Dw K H v d → RelV v u → ∃ as, ReadsW R cl h u d as
  | .none, _, _, x, r => by
    cases x
    cases r
    exact ⟨_, ReadsW.none⟩
  | .bool b, _, _, x, r => by
    cases x
    cases r
    exact ⟨_, ReadsW.bool b⟩
  | .int i, _, _, x, r => by
    cases x
    obtain ⟨t, rfl⟩ := r
    exact ⟨_, ReadsW.int i t⟩
  | .str s, _, _, x, r => by
    cases x
    obtain ⟨t, rfl⟩ := r
    exact ⟨_, ReadsW.str s t⟩
  | .bytes b, _, _, x, r => by
    cases x
    obtain ⟨t, rfl⟩ := r
    exact ⟨_, ReadsW.bytes _ t⟩
  | .list ds, _, _, x, r => by
    cases x with
    | lst hs ha =>
      cases r
      obtain ⟨its, o, n, rv, ho, hc, hd⟩ := sqL_at hok KX hs
      obtain ⟨as, hr⟩ := Dw.readsAll hok KX ds _ its ha rv
      exact ⟨_, ReadsW.list ho hc hd hr⟩
  | .tuple ds, _, _, x, r => by
    cases x with
    | tup hs ha =>
      cases r
      obtain ⟨its, o, n, rv, ho, hc, hd⟩ := sqT_at hok KX hs
      obtain ⟨as, hr⟩ := Dw.readsAll hok KX ds _ its ha rv
      exact ⟨_, ReadsW.tuple ho hc hd hr⟩
  | .float _, _, _, x, _ => by cases x
  | .dict _, _, _, x, _ => by cases x
  | .bytearray _, _, _, x, _ => by cases x
  | .set _, _, _, x, _ => by cases x
  | .frozenset _, _, _, x, _ => by cases x
  | .obj _ _, _, _, x, _ => by cases x
theorem Dw.readsAll (hok : HOk P w H h) (KX : K.In h) : ∀ (ds : List WData) (vs : List V) (us : List Value), DwAll K H vs ds → Vals vs us → ∃ as, ReadsAllW R cl h us ds as
  | [], _, _, x, r => by
    cases x
    cases r
    exact ⟨_, ReadsAllW.nil⟩
  | d :: ds, _, _, x, r => by
    cases x with
    | cons h1 h2 =>
      cases r with
      | cons r1 r2 =>
        obtain ⟨as, q1⟩ := Dw.reads hok KX d _ _ h1 r1
        obtain ⟨bs, q2⟩ := Dw.readsAll hok KX ds _ _ h2 r2
        exact ⟨_, ReadsAllW.cons q1 q2⟩
end
end
/-! ### the arguments -/
mutual
/-- data that a codec tells -/
def plW : WData → Bool
  | .none => true
  | .bool _ => true
  | .int _ => true
  | .str _ => true
  | .bytes _ => true
  | .list xs => plWs xs
  | .tuple xs => plWs xs
  | _ => false
def plWs : List WData → Bool
  | [] => true
  | x :: r => plW x && plWs r
end
theorem plWs_map {α : Type} {f : α → WData} (h : ∀ a, plW (f a) = true) : ∀ l : List α, plWs (l.map f) = true
  | [] => rfl
  | x :: r => by
    show (plW (f x) && plWs (r.map f)) = true
    rw [h x, plWs_map h r] <;> rfl
theorem pl_enc : ∀ (c : Codec) (a : c.denote), plW (c.enc a) = true
  | .unit, _ => rfl
  | .bool, _ => rfl
  | .int _ _, _ => rfl
  | .nat _ _, _ => rfl
  | .u8, _ => rfl
  | .bytes _ _, _ => rfl
  | .text _ _ _ _, _ => rfl
  | .list _ _ c, a => plWs_map (fun x => pl_enc c x) a
  | .pair c d, a => by
    show (plW (c.enc a.1) && (plW (d.enc a.2) && true)) = true
    rw [pl_enc c a.1, pl_enc d a.2] <;> rfl
  | .triple c d e, a => by
    show (plW (c.enc a.1) && (plW (d.enc a.2.1) && (plW (e.enc a.2.2) && true))) = true
    rw [pl_enc c a.1, pl_enc d a.2.1, pl_enc e a.2.2] <;> rfl
  | .option c, none => rfl
  | .option c, some x => pl_enc c x
theorem pl_encAll : ∀ (cs : List Codec) (a : Codec.denoteAll cs), plWs (Codec.encAll cs a) = true
  | [], _ => rfl
  | c :: cs, a => by
    show (plW (c.enc a.1) && plWs (Codec.encAll cs a.2)) = true
    rw [pl_enc c a.1, pl_encAll cs a.2] <;> rfl
theorem weight_mem : ∀ {xs : List WData} {d : WData}, d ∈ xs → d.weight ≤ WData.weightAll xs
  | [], d, h => absurd h (by simp)
  | x :: r, d, h => by
    show d.weight ≤ x.weight + 1 + WData.weightAll r
    rcases List.mem_cons.mp h with e | m
    · rw [e]
      omega
    · have z := weight_mem m
      omega
def toV : Value → V
  | .none => .non
  | .bool b => .bl b
  | .int i _ => .int i
  | .str x _ => .str x
  | .bytes b _ => .byt b
  | .ref a => .ref a
  | _ => .non
/-- a value of the arguments, its objects among A -/
def OkU (A : List Addr) : Value → Prop
  | .none => True
  | .bool _ => True
  | .int _ _ => True
  | .str _ _ => True
  | .bytes _ _ => True
  | .ref a => a ∈ A
  | _ => False
theorem OkU.mono {A B : List Addr} (h : ∀ a ∈ A, a ∈ B) : ∀ {u : Value}, OkU A u → OkU B u := fun {u} x => by
  cases u with
  | ref a => exact h a x
  | none => trivial
  | bool b => trivial
  | int i t => trivial
  | str s t => trivial
  | bytes b t => trivial
  | _ => exact False.elim x
theorem relV_toV {A : List Addr} {u : Value} (x : OkU A u) : RelV (toV u) u := by
  cases u with
  | ref a => rfl
  | none => rfl
  | bool b => rfl
  | int i t => exact ⟨t, rfl⟩
  | str s t => exact ⟨t, rfl⟩
  | bytes b t => exact ⟨t, rfl⟩
  | _ => exact False.elim x
theorem vals_toV {A : List Addr} : ∀ {vs : List Value}, (∀ u ∈ vs, OkU A u) → Vals (vs.map toV) vs
  | [], _ => .nil
  | u :: r, h => .cons (relV_toV (h u (List.mem_cons_self ..))) (vals_toV fun x hx => h x (List.mem_cons_of_mem _ hx))
/-- an object of the arguments -/
def ArgOb (h : Heap) (A : List Addr) (a : Addr) : Prop := ∃ vs : List Value, vs.length ≤ sizeLine ∧ (∀ u ∈ vs, OkU A u) ∧
  (h.get? a = some { cls := .type "list", data := .seq vs.toArray } ∨ h.get? a = some { cls := .type "tuple", data := .seq vs.toArray })
theorem ArgOb.mono {h : Heap} {A B : List Addr} {a : Addr} (k : ∀ a ∈ A, a ∈ B) (x : ArgOb h A a) : ArgOb h B a := by
  obtain ⟨vs, h1, h2, h3⟩ := x
  exact ⟨vs, h1, fun u hu => (h2 u hu).mono k, h3⟩
theorem wellAll_len {P : Params} {h : Heap} : ∀ {vs : List Value} {ds : List WData}, WellAll P h vs ds → vs.length = ds.length
  | _, _, .nil => rfl
  | _, _, .cons _ b => by
    show _ + 1 = _ + 1
    rw [wellAll_len b]
theorem well_list {P : Params} {h : Heap} {v : Value} {ds : List WData} (x : Well P h v (.list ds)) : ∃ (a : Addr) (vs : List Value), v = .ref a ∧ h.get? a = some { cls := .type "list", data := .seq vs.toArray } ∧ WellAll P h vs ds := by
  cases x with
  | list ho hall => exact ⟨_, _, rfl, ho, hall⟩
theorem well_tuple {P : Params} {h : Heap} {v : Value} {ds : List WData} (x : Well P h v (.tuple ds)) : ∃ (a : Addr) (vs : List Value), v = .ref a ∧ h.get? a = some { cls := .type "tuple", data := .seq vs.toArray } ∧ WellAll P h vs ds := by
  cases x with
  | tuple ho hall => exact ⟨_, _, rfl, ho, hall⟩
theorem well_cons {P : Params} {h : Heap} {us : List Value} {d : WData} {ds : List WData} (x : WellAll P h us (d :: ds)) : ∃ (v : Value) (vs : List Value), us = v :: vs ∧ Well P h v d ∧ WellAll P h vs ds := by
  cases x with
  | cons a b => exact ⟨_, _, rfl, a, b⟩
theorem line_of {n : Nat} (h : n ≤ 1048576) : n ≤ sizeLine := Nat.le_trans h (by decide)
section
variable {P : Params} {h : Heap}
mutual
theorem area_one : ∀ (d : WData) (v : Value), Well P h v d → plW d = true → d.weight ≤ 1048576 → ∃ A : List Addr, OkU A v ∧ ∀ a ∈ A, ArgOb h A a
  | .none, _, x, _, _ => by
    cases x
    exact ⟨[], trivial, fun a m => absurd m (by simp)⟩
  | .bool b, _, x, _, _ => by
    cases x
    exact ⟨[], trivial, fun a m => absurd m (by simp)⟩
  | .int i, _, x, _, _ => by
    cases x
    exact ⟨[], trivial, fun a m => absurd m (by simp)⟩
  | .str s, _, x, _, _ => by
    cases x
    exact ⟨[], trivial, fun a m => absurd m (by simp)⟩
  | .bytes b, _, x, _, _ => by
    cases x
    exact ⟨[], trivial, fun a m => absurd m (by simp)⟩
  | .list ds, _, x, p, z => by
    obtain ⟨a, vs, rfl, ho, hall⟩ := well_list x
    have z2 : WData.weightAll ds ≤ 1048576 := z
    obtain ⟨A, h1, h2⟩ := area_all ds _ hall p fun d hd => Nat.le_trans (weight_mem hd) z2
    have k : ∀ b ∈ A, b ∈ a :: A := fun b hb => List.mem_cons_of_mem _ hb
    refine ⟨a :: A, List.mem_cons_self .., fun b hb => ?_⟩
    rcases List.mem_cons.mp hb with e | m
    · rw [e]
      exact ⟨vs, line_of (by rw [wellAll_len hall]; exact Nat.le_trans (PySem.W.length_le_weightAllW ds) z2), fun u hu => (h1 u hu).mono k, .inl ho⟩
    · exact (h2 b m).mono k
  | .tuple ds, _, x, p, z => by
    obtain ⟨a, vs, rfl, ho, hall⟩ := well_tuple x
    have z2 : WData.weightAll ds ≤ 1048576 := z
    obtain ⟨A, h1, h2⟩ := area_all ds _ hall p fun d hd => Nat.le_trans (weight_mem hd) z2
    have k : ∀ b ∈ A, b ∈ a :: A := fun b hb => List.mem_cons_of_mem _ hb
    refine ⟨a :: A, List.mem_cons_self .., fun b hb => ?_⟩
    rcases List.mem_cons.mp hb with e | m
    · rw [e]
      exact ⟨vs, line_of (by rw [wellAll_len hall]; exact Nat.le_trans (PySem.W.length_le_weightAllW ds) z2), fun u hu => (h1 u hu).mono k, .inr ho⟩
    · exact (h2 b m).mono k
  | .float _, _, _, p, _ => Bool.noConfusion (show false = true from p)
  | .dict _, _, _, p, _ => Bool.noConfusion (show false = true from p)
  | .bytearray _, _, _, p, _ => Bool.noConfusion (show false = true from p)
  | .set _, _, _, p, _ => Bool.noConfusion (show false = true from p)
  | .frozenset _, _, _, p, _ => Bool.noConfusion (show false = true from p)
  | .obj _ _, _, _, p, _ => Bool.noConfusion (show false = true from p)
theorem area_all : ∀ (ds : List WData) (vs : List Value), WellAll P h vs ds → plWs ds = true → (∀ d ∈ ds, d.weight ≤ 1048576) → ∃ A : List Addr, (∀ u ∈ vs, OkU A u) ∧ ∀ a ∈ A, ArgOb h A a
  | [], _, x, _, _ => by
    cases x
    exact ⟨[], fun u m => absurd m (by simp), fun a m => absurd m (by simp)⟩
  | d :: ds, _, x, p, z => by
    obtain ⟨v, vs, rfl, x1, x2⟩ := well_cons x
    have q : plW d = true ∧ plWs ds = true := Bool.and_eq_true_iff.mp p
    obtain ⟨A, a1, a2⟩ := area_one d v x1 q.1 (z d (List.mem_cons_self ..))
    obtain ⟨B, b1, b2⟩ := area_all ds vs x2 q.2 fun e he => z e (List.mem_cons_of_mem _ he)
    have kA : ∀ b ∈ A, b ∈ A ++ B := fun b hb => List.mem_append.mpr (.inl hb)
    have kB : ∀ b ∈ B, b ∈ A ++ B := fun b hb => List.mem_append.mpr (.inr hb)
    refine ⟨A ++ B, fun u hu => ?_, fun b hb => ?_⟩
    · rcases List.mem_cons.mp hu with e | m
      · rw [e]
        exact a1.mono kA
      · exact (b1 u m).mono kB
    · rcases List.mem_append.mp hb with m | m
      · exact (a2 b m).mono kA
      · exact (b2 b m).mono kB
end
end
/-- what is tracked of an argument's object -/
def hoOf (o : Obj) : Option HO := match o.data with
  | .seq vs _ => if (o.cls == Value.type "list") = true then some (.frz o (.lst (vs.toList.map toV))) else some (.frz o (.tup (vs.toList.map toV)))
  | _ => none
def argH (K : PySem.W.Frag) (h : Heap) (A : List Addr) : Hp := fun b => if b ∈ A then (if (K.lookup b).isNone = true then (h.get? b).bind hoOf else none) else none
/-- nothing is tracked but what is known to the object -/
def OnlyF (H : Hp) : Prop := ∀ b, H b = none ∨ ∃ o u, H b = some (.frz o u)
theorem hoOf_lst (vs : List Value) : hoOf { cls := .type "list", data := .seq vs.toArray } = some (.frz { cls := .type "list", data := .seq vs.toArray } (.lst (vs.map toV))) := by
  show (if (Value.type "list" == Value.type "list") = true then some (HO.frz { cls := .type "list", data := .seq vs.toArray } (.lst (vs.toArray.toList.map toV))) else some (HO.frz { cls := .type "list", data := .seq vs.toArray } (.tup (vs.toArray.toList.map toV)))) = _
  rw [if_pos (beq_self_eq_true _)]
theorem hoOf_tup (vs : List Value) : hoOf { cls := .type "tuple", data := .seq vs.toArray } = some (.frz { cls := .type "tuple", data := .seq vs.toArray } (.tup (vs.map toV))) := by
  show (if (Value.type "tuple" == Value.type "list") = true then some (HO.frz { cls := .type "tuple", data := .seq vs.toArray } (.lst (vs.toArray.toList.map toV))) else some (HO.frz { cls := .type "tuple", data := .seq vs.toArray } (.tup (vs.toArray.toList.map toV)))) = _
  rw [if_neg (by decide)]
section
variable {P : Program} {w : World} {K : PySem.W.Frag} {h : Heap} {A : List Addr}
theorem argH_at {b : Addr} {o : Obj} (hb : b ∈ A) (hk : K.lookup b = none) (e : h.get? b = some o) : argH K h A b = hoOf o := by
  unfold argH
  rw [if_pos hb, hk, if_pos (show (none : Option Obj).isNone = true from rfl), e] <;> rfl
theorem of_argH {b : Addr} {u : HO} (q : argH K h A b = some u) : b ∈ A ∧ K.lookup b = none := by
  unfold argH at q
  by_cases hb : b ∈ A
  · rw [if_pos hb] at q
    cases hk : K.lookup b with
    | none => exact ⟨hb, rfl⟩
    | some o =>
      rw [hk, if_neg (by simp)] at q
      cases q
  · rw [if_neg hb] at q
    cases q
/-- what stands tracked -/
theorem argH_is (ar : ∀ a ∈ A, ArgOb h A a) {b : Addr} {u : HO} (q : argH K h A b = some u) : K.lookup b = none ∧ ∃ vs : List Value, vs.length ≤ sizeLine ∧ (∀ u ∈ vs, OkU A u) ∧
    ((h.get? b = some { cls := .type "list", data := .seq vs.toArray } ∧ u = .frz { cls := .type "list", data := .seq vs.toArray } (.lst (vs.map toV))) ∨
     (h.get? b = some { cls := .type "tuple", data := .seq vs.toArray } ∧ u = .frz { cls := .type "tuple", data := .seq vs.toArray } (.tup (vs.map toV)))) := by
  obtain ⟨hb, hk⟩ := of_argH q
  obtain ⟨vs, h1, h2, h3⟩ := ar b hb
  refine ⟨hk, vs, h1, h2, ?_⟩
  rcases h3 with e | e
  · rw [argH_at hb hk e, hoOf_lst] at q
    exact .inl ⟨e, (Option.some.inj q).symm⟩
  · rw [argH_at hb hk e, hoOf_tup] at q
    exact .inr ⟨e, (Option.some.inj q).symm⟩
theorem argH_only (ar : ∀ a ∈ A, ArgOb h A a) : OnlyF (argH K h A) := fun b => by
  cases q : argH K h A b with
  | none => exact .inl rfl
  | some u =>
    obtain ⟨_, vs, _, _, ⟨_, e⟩ | ⟨_, e⟩⟩ := argH_is ar q
    · exact .inr ⟨_, _, by rw [e]⟩
    · exact .inr ⟨_, _, by rw [e]⟩
theorem argH_ok (ar : ∀ a ∈ A, ArgOb h A a) : HOk P w (argH K h A) h := fun b u q => by
  obtain ⟨_, vs, h1, h2, ⟨e, rfl⟩ | ⟨e, rfl⟩⟩ := argH_is ar q
  · exact ⟨e, by rw [List.length_map]; exact h1, vs, _, vals_toV h2, e⟩
  · exact ⟨e, by rw [List.length_map]; exact h1, vs, vals_toV h2, _, e, rfl, _, rfl⟩
theorem seq_inj {c c' : Value} {vs us : List Value} (e : (some { cls := c, data := .seq vs.toArray } : Option Obj) = some { cls := c', data := .seq us.toArray }) : c = c' ∧ vs = us := by
  have e1 := Option.some.inj e
  have e2 : c = c' := congrArg Obj.cls e1
  have e3 : Data.seq vs.toArray = Data.seq us.toArray := congrArg Obj.data e1
  injection e3 with e4
  refine ⟨e2, ?_⟩
  have e5 := congrArg Array.toList e4
  simpa using e5
/-- a list argument -/
theorem argL (KX : K.In h) (ar : ∀ a ∈ A, ArgOb h A a) {a : Addr} {vs : List Value} (ha : a ∈ A) (e : h.get? a = some { cls := .type "list", data := .seq vs.toArray }) : (∀ u ∈ vs, OkU A u) ∧ SqL K (argH K h A) a (vs.map toV) := by
  obtain ⟨us, h1, h2, h3⟩ := ar a ha
  have hu : us = vs := by
    rcases h3 with q | q
    · rw [e] at q
      exact (seq_inj q).2.symm
    · rw [e] at q
      exact absurd (Value.type.inj (seq_inj q).1) (by decide)
  subst hu
  refine ⟨h2, ?_⟩
  cases hk : K.lookup a with
  | none => exact .inl (.inr ⟨_, by rw [argH_at ha hk e, hoOf_lst]⟩)
  | some o =>
    have e2 := KX a o hk
    rw [e] at e2
    obtain rfl := Option.some.inj e2
    exact .inr ⟨_, us.toArray, _, hk, rfl, rfl, rfl, by rw [List.size_toArray]; exact h1, by simpa using vals_toV h2⟩
theorem argT (KX : K.In h) (ar : ∀ a ∈ A, ArgOb h A a) {a : Addr} {vs : List Value} (ha : a ∈ A) (e : h.get? a = some { cls := .type "tuple", data := .seq vs.toArray }) : (∀ u ∈ vs, OkU A u) ∧ SqT K (argH K h A) a (vs.map toV) := by
  obtain ⟨us, h1, h2, h3⟩ := ar a ha
  have hu : us = vs := by
    rcases h3 with q | q
    · rw [e] at q
      exact absurd (Value.type.inj (seq_inj q).1) (by decide)
    · rw [e] at q
      exact (seq_inj q).2.symm
  subst hu
  refine ⟨h2, ?_⟩
  cases hk : K.lookup a with
  | none => exact .inl (.inr ⟨_, by rw [argH_at ha hk e, hoOf_tup]⟩)
  | some o =>
    have e2 := KX a o hk
    rw [e] at e2
    obtain rfl := Option.some.inj e2
    exact .inr ⟨_, us.toArray, _, hk, rfl, rfl, by rw [List.size_toArray]; exact h1, by simpa using vals_toV h2⟩
mutual
theorem dw_one {Pm : Params} (KX : K.In h) (ar : ∀ a ∈ A, ArgOb h A a) : ∀ (d : WData) (v : Value), Well Pm h v d → plW d = true → OkU A v → Dw K (argH K h A) (toV v) d
  | .none, _, x, _, _ => by
    cases x
    exact .non
  | .bool b, _, x, _, _ => by
    cases x
    exact .bl b
  | .int i, _, x, _, _ => by
    cases x
    exact .int i
  | .str s, _, x, _, _ => by
    cases x
    exact .str s
  | .bytes b, _, x, _, _ => by
    cases x
    have z := Dw.byt (K := K) (H := argH K h A) b.toArray
    exact z
  | .list ds, _, x, p, hu => by
    obtain ⟨a, vs, rfl, ho, hall⟩ := well_list x
    obtain ⟨h2, hs⟩ := argL KX ar hu ho
    exact .lst hs (dw_all KX ar ds _ hall p h2)
  | .tuple ds, _, x, p, hu => by
    obtain ⟨a, vs, rfl, ho, hall⟩ := well_tuple x
    obtain ⟨h2, hs⟩ := argT KX ar hu ho
    exact .tup hs (dw_all KX ar ds _ hall p h2)
  | .float _, _, _, p, _ => Bool.noConfusion (show false = true from p)
  | .dict _, _, _, p, _ => Bool.noConfusion (show false = true from p)
  | .bytearray _, _, _, p, _ => Bool.noConfusion (show false = true from p)
  | .set _, _, _, p, _ => Bool.noConfusion (show false = true from p)
  | .frozenset _, _, _, p, _ => Bool.noConfusion (show false = true from p)
  | .obj _ _, _, _, p, _ => Bool.noConfusion (show false = true from p)
theorem dw_all {Pm : Params} (KX : K.In h) (ar : ∀ a ∈ A, ArgOb h A a) : ∀ (ds : List WData) (vs : List Value), WellAll Pm h vs ds → plWs ds = true → (∀ u ∈ vs, OkU A u) → DwAll K (argH K h A) (vs.map toV) ds
  | [], _, x, _, _ => by
    cases x
    exact .nil
  | d :: ds, _, x, p, hu => by
    obtain ⟨v, vs, rfl, x1, x2⟩ := well_cons x
    have q : plW d = true ∧ plWs ds = true := Bool.and_eq_true_iff.mp p
    exact .cons (dw_one KX ar d v x1 q.1 (hu _ (List.mem_cons_self ..))) (dw_all KX ar ds vs x2 q.2 fun u m => hu u (List.mem_cons_of_mem _ m))
end
end
/-! ### the call -/
theorem spec_call {P : Program} {w : World} {K : PySem.W.Frag} {mg mb : Str → Option Value} {CX : CXT} {k : Nat} {fa : Addr} {fd : FuncData} {ps : List Str} {sp : Sp} {s₁ : Shared} {vals : List Value} {ds : List WData} {R : PySem.W.WRecords} {cl : Str → Option Addr} {d0 : WData}
    (KX : K.In s₁.heap) (hns : s₁.heap.Ns mainGlobals mg) (hb : s₁.heap.Ns builtinsNs mb) (hbb : ∀ x : Str, x ≠ "__name__" → mb x = bootBuiltins x) (hlim : s₁.heap.NoLimit) (hg : s₁.gens = #[])
    (hwl : WellAll w.params s₁.heap vals ds) (hpl : plWs ds = true) (hwt : ∀ d ∈ ds, d.weight ≤ 1048576) (hr : Room k callerA)
    (F : ∀ base : Heap, K.In base → base.Ns mainGlobals mg → FnOk P w K mg base CX k fa fd ps sp) (hbind : ∀ (s : Shared) (us : List Value), us.length = ps.length → BindsTo s fd ⟨us, []⟩ (ps.zip us)) (hlen : ds.length = ps.length)
    (hsp : ∀ (H : Hp) (xs : List V), OnlyF H → DwAll K H xs ds → sp xs H (fun v H' => Dw K H' v d0) fun _ _ _ => False)
    (hCX : ∀ H e s', CX [] H s₁ (fun _ _ _ => False) e s' → False) :
    codeAny (model P w) callerA (.call (.ref fa) ⟨vals, []⟩) (fun r s' => ∃ u as, r = .ok (.ret u) ∧ ReadsW R cl s'.heap u d0 as ∧ OldK s₁.heap s'.heap ∧ s'.os = s₁.os ∧ AllBare s'.gens) s₁ := by
  obtain ⟨A, ho, ar⟩ := area_all ds vals hwl hpl hwt
  have hO : OnlyF (argH K s₁.heap A) := argH_only ar
  have hok : HOk P w (argH K s₁.heap A) s₁.heap := argH_ok ar
  have hS := dw_all KX ar ds vals hwl hpl ho
  have hV := vals_toV ho
  have hK : ∀ b u, argH K s₁.heap A b = some u → K.lookup b = none := fun b u q => (argH_is ar q).1
  have noA : ∀ {b : Addr} {o : Obj} {es : Array DictEntry} {ep : Nat}, s₁.heap.get? b = some o → o.data = .dict es ep → argH K s₁.heap A b = none := fun {b o es ep} e d => by
    cases q : argH K s₁.heap A b with
    | none => rfl
    | some u =>
      obtain ⟨_, vs, _, _, ⟨e2, _⟩ | ⟨e2, _⟩⟩ := argH_is ar q
      · rw [e2] at e
        cases e
        have d' : Data.seq vs.toArray _ = Data.dict es ep := d
        cases d'
      · rw [e2] at e
        cases e
        have d' : Data.seq vs.toArray _ = Data.dict es ep := d
        cases d'
  generalize argH K s₁.heap A = H at hO hok hS hK noA
  have base_of : ∀ {b : Addr} {o : Obj}, s₁.heap.get? b = some o → H b = none → (hidT s₁.heap H).get? b = some o := fun e n => hidT_get e n
  have nsK : ∀ {b : Addr} {m : Str → Option Value}, s₁.heap.Ns b m → (hidT s₁.heap H).Ns b m := fun {b m} ⟨o, es, ep, e, d, r⟩ => ⟨o, es, ep, base_of e (noA e d), d, r⟩
  have nK : ∀ b o, K.lookup b = some o → H b = none := fun b o e => by
    cases q : H b with
    | none => rfl
    | some u =>
      rw [hK b u q] at e
      cases e
  have hKb : K.In (hidT s₁.heap H) := fun b o e => base_of (KX b o e) (nK b o e)
  have hM : Mod K mg (hidT s₁.heap H) := ⟨hKb, nsK hns, ⟨mb, nsK hb, hbb⟩, let ⟨mc, h1, h2⟩ := hlim; ⟨mc, nsK h1, h2⟩⟩
  have e0 : Env0 P w K mg (hidT s₁.heap H) callerA [] s₁ H := ⟨rfl, hM, fun b o e => of_hidT e, Nat.le_of_eq (hidT_size _ _), trivial, fun b hb => absurd (show b ∈ ([] : List Addr) from hb) (by simp), hok, .of_eq hg⟩
  have hl : vals.length = ps.length := by rw [wellAll_len hwl]; exact hlen
  refine codeAny_mono ((F _ hKb (nsK hns)).run callerA [] s₁ H ⟨vals, []⟩ vals (vals.map toV) _ _ hr e0 (hbind s₁ vals hl) hV (hsp H _ hO hS)) fun r s' x => ?_
  cases r with
  | error e => exact (hCX H e s' x).elim
  | ok fl =>
    cases fl with
    | next => exact False.elim x
    | brk => exact False.elim x
    | cont => exact False.elim x
    | ret u =>
      obtain ⟨v, H', os, bare, un, hok', r', q⟩ := x
      have kept : ∀ b o, s₁.heap.get? b = some o → s'.heap.get? b = some o := fun b o e => by
        cases q2 : H b with
        | none => exact un.keep b o e q2 (by intro z; exact absurd (show b ∈ ([] : List Addr) from z) (by simp)) (by simp)
        | some u2 =>
          rcases hO b with z | ⟨ob, u3, z⟩
          · rw [q2] at z
            cases z
          · have z2 := un.frzs b ob _ z
            obtain ⟨e1, _⟩ := hok b _ z
            obtain ⟨e2, _⟩ := hok' b _ z2
            rw [e] at e1
            cases e1
            exact e2
      have KX' : K.In s'.heap := fun b o e => kept b o (KX b o e)
      obtain ⟨as, hrd⟩ := Dw.reads (R := R) (cl := cl) hok' KX' d0 v u q r'
      exact ⟨u, as, rfl, hrd, OldK.of_keep kept, os, bare⟩
/-! ### the row -/
theorem layable_weight {ds : List WData} (h : WData.layableAll ds = true) : ∀ d ∈ ds, d.weight ≤ 1048576 := fun d hd =>
  (PySem.W.layableW_iff.mp (List.all_eq_true.mp h d hd)).2.2
theorem encAll_len : ∀ (cs : List Codec) (a : Codec.denoteAll cs), (Codec.encAll cs a).length = cs.length
  | [], _ => rfl
  | c :: cs, a => by
    show (Codec.encAll cs a.2).length + 1 = cs.length + 1
    rw [encAll_len cs a.2]
/-- the goal that k_headS leaves (case hc), from the promise of the row's def: whatever the arguments that the codecs let and the row asks for, the def gives what stands for enc (f ..) -/
theorem walk_spec {r : OpenSpec} {k : Nat} {q : Program} {loose : List Str} {XP : (Str → Option Value) → Heap → Prop} {YP : World → Heap → Prop} {d : DefRec} {K : Params → PySem.W.Frag} {CX : World → CXT} {ps : List Str} {sp : World → Sp}
    (hwell : r.wellSaid = true) (hdf : d.params.defaults = []) (hlen : r.args.length = ps.length) (hr : Room k callerA)
    (hY : ∀ (w : World) (h : Heap), YP w h → (K w.params).In h)
    (F : ∀ (w : World) (mg : Str → Option Value) (fa : Addr) (h : Heap), YP w h → (K w.params).In h → h.Ns mainGlobals mg → mg d.name = some (.ref fa) →
      ∃ fd : FuncData, (∀ (s : Shared) (us : List Value), us.length = ps.length → BindsTo s fd ⟨us, []⟩ (ps.zip us)) ∧
        ∀ base : Heap, (K w.params).In base → base.Ns mainGlobals mg → FnOk r.prog w (K w.params) mg base (CX w) k fa fd ps (sp w))
    (hsp : ∀ (w : World) (H : Hp) (xs : List V) (a : Codec.denoteAll r.args), OnlyF H → Codec.withinAll r.args a = true → Codec.app r.args r.asked a = true → DwAll (K w.params) H xs (Codec.encAll r.args a) →
      sp w xs H (fun v H' => Dw (K w.params) H' v (r.ret.enc (Codec.app r.args r.f a))) fun _ _ _ => False)
    (hCX : ∀ (w : World) (H : Hp) (s : Shared) (e : Value) (s' : Shared), CX w [] H s (fun _ _ _ => False) e s' → False) :
    PySem.W.WalkOS q loose XP YP r d [] (fun f vs => PySem.call f vs) := by
  intro w s_0 s₁ mg mb G Y fa o pm cd doc dV kV ho hd hcd hD hmg hg args vals as hpre hlay hrd hwl hlo
  obtain ⟨a, e1, e2⟩ := PySem.W.os_pre_some hpre
  obtain ⟨e3, hwi⟩ := Codec.encAll_of_decAll r.args args a e1
  subst e3
  have KX := hY w _ Y
  obtain ⟨fd, hb, hF⟩ := F w mg fa _ Y KX G.T.g hmg
  refine PySem.W.enter_call (codeAny_mono (spec_call (R := []) (cl := classAt s_0.heap) (d0 := r.ret.enc (Codec.app r.args r.f a)) KX G.T.g G.T.b G.T.builtins G.T.nolimit hg hwl (pl_encAll _ _) (layable_weight hlay) hr hF hb (by rw [encAll_len]; exact hlen)
    (fun H xs hO hS => hsp w H xs a hO hwi e2 hS) fun H e s' => hCX w H s₁ e s') fun r' s' hq => ?_)
  obtain ⟨u, as', rfl, h1, h2, h3, h4⟩ := hq
  exact ⟨.inl ⟨u, _, as', rfl, fun _ => rfl, h1, (OpenSpec.post_iff hwell hwi _ _).mpr rfl, fun z => Bool.noConfusion (show false = true from z)⟩, h2, h3, h4⟩
/-- the same where the promise hangs on the written part alone -/
theorem walk_specK {r : OpenSpec} {k : Nat} {q : Program} {loose : List Str} {XP : (Str → Option Value) → Heap → Prop} {YP : World → Heap → Prop} {d : DefRec} {K : Params → PySem.W.Frag} {CX : CXT} {ps : List Str} {sp : PySem.W.Frag → Sp}
    (hwell : r.wellSaid = true) (hdf : d.params.defaults = []) (hlen : r.args.length = ps.length) (hr : Room k callerA)
    (hY : ∀ (w : World) (h : Heap), YP w h → (K w.params).In h)
    (F : ∀ (w : World) (mg : Str → Option Value) (fa : Addr) (h : Heap), YP w h → (K w.params).In h → h.Ns mainGlobals mg → mg d.name = some (.ref fa) →
      ∃ fd : FuncData, (∀ (s : Shared) (us : List Value), us.length = ps.length → BindsTo s fd ⟨us, []⟩ (ps.zip us)) ∧
        ∀ base : Heap, (K w.params).In base → base.Ns mainGlobals mg → FnOk r.prog w (K w.params) mg base CX k fa fd ps (sp (K w.params)))
    (hsp : ∀ (K : PySem.W.Frag) (H : Hp) (xs : List V) (a : Codec.denoteAll r.args), OnlyF H → Codec.withinAll r.args a = true → Codec.app r.args r.asked a = true → DwAll K H xs (Codec.encAll r.args a) →
      sp K xs H (fun v H' => Dw K H' v (r.ret.enc (Codec.app r.args r.f a))) fun _ _ _ => False)
    (hCX : ∀ (H : Hp) (s : Shared) (e : Value) (s' : Shared), CX [] H s (fun _ _ _ => False) e s' → False) :
    PySem.W.WalkOS q loose XP YP r d [] (fun f vs => PySem.call f vs) :=
  walk_spec (K := K) (CX := fun _ => CX) (sp := fun w => sp (K w.params)) hwell hdf hlen hr hY F (fun w H xs a h1 h2 h3 h4 => hsp (K w.params) H xs a h1 h2 h3 h4) fun _ H s e s' => hCX H s e s'
end L2
-- rests on (row put in by the clerk, for the bench that shows a file only what it spells): KE.SpHead KE.OsShapes
end
set_option Elab.async false
/-! The book call's mathematics: plain lists and numbers; no model of Python. -/
namespace Bm
/-- the i-th number, 0 where there's none -/
def at0 (ns : List Int) (i : Nat) : Int := ns.getD i 0
def stepB (s n k : Int) : Bool := if n = 0 then (decide (s = 0) && decide (k = 0)) else (decide (s ≤ 31) && (decide (n ≤ 15) && decide (k ≤ 15)))
def stepAt (ns : List Int) (j : Nat) : Bool := stepB (at0 ns (3 + 3 * j)) (at0 ns (3 + 3 * j + 1)) (at0 ns (3 + 3 * j + 2))
def stepsB (ns : List Int) : Bool := (List.range ((ns.length - 3) / 3)).all (stepAt ns)
def headB (ns : List Int) : Bool := decide (at0 ns 0 ≤ 1) && (decide (at0 ns 1 ≤ 19) && decide (at0 ns 2 ≤ 19))
def lenB (n : Nat) : Bool := (decide (3 ≤ n) && decide (n ≤ 33)) && decide (n % 3 = 0)
def rowB (ns : List Int) : Bool := lenB ns.length && (headB ns && stepsB ns)

theorem range_all {n : Nat} {p : Nat → Bool} : (List.range n).all p = true ↔ ∀ j, j < n → p j = true := by
  rw [List.all_eq_true]
  exact ⟨fun h j hj => h j (List.mem_range.mpr hj), fun h j hj => h j (List.mem_range.mp hj)⟩
theorem stepsB_true {ns : List Int} (h : ∀ j, j < (ns.length - 3) / 3 → stepAt ns j = true) : stepsB ns = true := range_all.mpr h
theorem stepsB_false {ns : List Int} {j : Nat} (hj : j < (ns.length - 3) / 3) (h : stepAt ns j = false) : stepsB ns = false := by
  cases e : stepsB ns with
  | false => rfl
  | true =>
    have q := range_all.mp e j hj
    rw [h] at q
    cases q

/-! ### the specification's row -/
theorem nats_getD (ns : List Int) (i : Nat) : (BkNeutral.nats ns).getD i 0 = (at0 ns i).toNat := by
  unfold BkNeutral.nats at0
  rw [List.getD_eq_getElem?_getD, List.getD_eq_getElem?_getD, List.getElem?_map]
  cases ns[i]? <;> rfl
theorem nats_len (ns : List Int) : (BkNeutral.nats ns).length = ns.length := by
  unfold BkNeutral.nats
  rw [List.length_map]
theorem at0_nn {ns : List Int} (h : ∀ x ∈ ns, 0 ≤ x) (i : Nat) : 0 ≤ at0 ns i := by
  unfold at0
  rw [List.getD_eq_getElem?_getD]
  cases e : ns[i]? with
  | none => exact Int.le_refl 0
  | some x => exact h x (List.mem_of_getElem? e)

theorem by_take {k : Nat} (hk : 0 < k) : ∀ (n : Nat) (l : List Nat), l.length < n → l.length % k = 0 →
    Na.by_ k n l = (List.range (l.length / k)).map fun j => (l.drop (k * j)).take k
  | 0, l, h, _ => by omega
  | n + 1, l, h, h0 => by
    unfold Na.by_
    by_cases e : l = []
    · subst e
      simp
    · rw [if_neg e]
      have hp : 0 < l.length := List.length_pos_iff.mpr e
      have hkl : k ≤ l.length := by
        rcases Nat.lt_or_ge l.length k with q | q
        · rw [Nat.mod_eq_of_lt q] at h0; omega
        · exact q
      have hd : (l.drop k).length = l.length - k := List.length_drop ..
      have hm : (l.drop k).length % k = 0 := by
        rw [hd]
        have := Nat.sub_mul_mod (x := l.length) (k := 1) (n := k) (by omega)
        rw [Nat.mul_one] at this
        omega
      rw [by_take hk n (l.drop k) (by omega) hm, hd]
      have hq : l.length / k = (l.length - k) / k + 1 := by
        rw [Nat.div_eq_sub_div hk hkl]
      rw [hq, List.range_succ_eq_map, List.map_cons, List.map_map]
      congr 1
      refine List.map_congr_left fun j _ => ?_
      show ((l.drop k).drop (k * j)).take k = (l.drop (k * (j + 1))).take k
      rw [List.drop_drop, Nat.mul_add, Nat.mul_one, Nat.add_comm]
theorem groups_eq {k : Nat} (hk : 0 < k) {l : List Nat} (h0 : l.length % k = 0) : Na.groups k l = (List.range (l.length / k)).map fun j => (l.drop (k * j)).take k :=
  by_take hk _ l (Nat.lt_succ_self _) h0
theorem getD_take_drop {l : List Nat} {a k i : Nat} (h : i < k) : ((l.drop a).take k).getD i 0 = l.getD (a + i) 0 := by
  rw [List.getD_eq_getElem?_getD, List.getD_eq_getElem?_getD, List.getElem?_take_of_lt h, List.getElem?_drop]
theorem getD_drop {l : List Nat} {a i : Nat} : (l.drop a).getD i 0 = l.getD (a + i) 0 := by
  rw [List.getD_eq_getElem?_getD, List.getD_eq_getElem?_getD, List.getElem?_drop]

theorem move_eq {s n k : Int} (hs : 0 ≤ s) (hn : 0 ≤ n) (hk : 0 ≤ k) {l : List Nat} (e0 : l.getD 0 0 = s.toNat) (e1 : l.getD 1 0 = n.toNat) (e2 : l.getD 2 0 = k.toNat) : Na.moveGood l = stepB s n k := by
  unfold Na.moveGood stepB
  rw [e0, e1, e2]
  by_cases h : n = 0
  · rw [if_pos (by omega), if_pos h]
    have a1 : (s.toNat == 0) = decide (s = 0) := by rw [Bool.beq_eq_decide_eq]; exact decide_eq_decide.mpr (by omega)
    have a2 : (k.toNat == 0) = decide (k = 0) := by rw [Bool.beq_eq_decide_eq]; exact decide_eq_decide.mpr (by omega)
    rw [a1, a2]
  · rw [if_neg (by omega), if_neg h]
    have a1 : decide (s.toNat < Na.STROKES) = decide (s ≤ 31) := decide_eq_decide.mpr (by unfold Na.STROKES; omega)
    have a2 : decide (n.toNat ≤ 15) = decide (n ≤ 15) := decide_eq_decide.mpr (by omega)
    have a3 : decide (k.toNat ≤ 15) = decide (k ≤ 15) := decide_eq_decide.mpr (by omega)
    rw [a1, a2, a3]
theorem steps_eq {ns : List Int} (h : ∀ x ∈ ns, 0 ≤ x) (h3 : 3 ≤ ns.length) (hm : ns.length % 3 = 0) : (Na.groups 3 ((BkNeutral.nats ns).drop 3)).all Na.moveGood = stepsB ns := by
  have hl : ((BkNeutral.nats ns).drop 3).length = ns.length - 3 := by rw [List.length_drop, nats_len]
  rw [groups_eq (by decide) (by rw [hl]; omega), hl, List.all_map]
  unfold stepsB
  congr 1
  funext j
  show Na.moveGood _ = stepAt ns j
  unfold stepAt
  refine move_eq (at0_nn h _) (at0_nn h _) (at0_nn h _) ?_ ?_ ?_
  · rw [getD_take_drop (by decide), getD_drop, nats_getD]
    congr 2
  · rw [getD_take_drop (by decide), getD_drop, nats_getD]
    congr 2
  · rw [getD_take_drop (by decide), getD_drop, nats_getD]
    congr 2
theorem row_eq {ns : List Int} (h : ∀ x ∈ ns, 0 ≤ x) : Na.rowGood (BkNeutral.nats ns) = rowB ns := by
  unfold Na.rowGood rowB lenB headB
  have n0 := at0_nn h 0
  have n1 := at0_nn h 1
  have n2 := at0_nn h 2
  rw [nats_len, nats_getD, nats_getD, nats_getD]
  have b0 : decide ((at0 ns 0).toNat ≤ 1) = decide (at0 ns 0 ≤ 1) := decide_eq_decide.mpr (by omega)
  have b1 : decide ((at0 ns 1).toNat < Na.DIGITS) = decide (at0 ns 1 ≤ 19) := decide_eq_decide.mpr (by unfold Na.DIGITS; omega)
  have b2 : decide ((at0 ns 2).toNat < Na.DIGITS) = decide (at0 ns 2 ≤ 19) := decide_eq_decide.mpr (by unfold Na.DIGITS; omega)
  have b3 : (ns.length % 3 == 0) = decide (ns.length % 3 = 0) := Bool.beq_eq_decide_eq _ _
  have b4 : decide (ns.length ≤ 3 + 3 * Na.MOVES) = decide (ns.length ≤ 33) := decide_eq_decide.mpr (by unfold Na.MOVES; omega)
  rw [b0, b1, b2, b3, b4]
  by_cases c1 : 3 ≤ ns.length
  · by_cases c2 : ns.length % 3 = 0
    · rw [steps_eq h c1 c2]
      simp only [c1, c2, decide_true, Bool.true_and, Bool.and_true, Bool.and_assoc]
    · simp [c2]
  · simp [c1]

/-! ### the specification's book -/
/-- op, d, x of a row -/
def keyOf (ns : List Int) : List Int := [at0 ns 0, at0 ns 1, at0 ns 2]
/-- the first row that can't be: its number; behind rows of these keys -/
def bad : Nat → List (List Int) → List (List Int) → Option Nat
  | _, _, [] => none
  | i, ks, ns :: r => if rowB ns = false ∨ keyOf ns ∈ ks then some i else bad (i + 1) (ks ++ [keyOf ns]) r
def told (o : Option Nat) : List Int := match o with
  | none => [0]
  | some i => [-5, 9, (i : Int)]

theorem any_key {ns : List Int} (h : ∀ x ∈ ns, 0 ≤ x) : ∀ {b : Na.Book} {ks : List (List Int)}, b.map (fun r => [(r.op : Int), (r.d : Int), (r.x : Int)]) = ks →
    (b.any (fun (x : Na.Rule) => x.op == (Na.rowRule (BkNeutral.nats ns)).op && (x.d == (Na.rowRule (BkNeutral.nats ns)).d && x.x == (Na.rowRule (BkNeutral.nats ns)).x)) = true ↔ keyOf ns ∈ ks) := by
  intro b ks e
  subst e
  have n0 := at0_nn h 0
  have n1 := at0_nn h 1
  have n2 := at0_nn h 2
  have o0 : (Na.rowRule (BkNeutral.nats ns)).op = (at0 ns 0).toNat := nats_getD ns 0
  have o1 : (Na.rowRule (BkNeutral.nats ns)).d = (at0 ns 1).toNat := nats_getD ns 1
  have o2 : (Na.rowRule (BkNeutral.nats ns)).x = (at0 ns 2).toNat := nats_getD ns 2
  rw [List.any_eq_true, List.mem_map, o0, o1, o2]
  constructor
  · rintro ⟨r, hr, q⟩
    rw [Bool.and_eq_true, Bool.and_eq_true] at q
    obtain ⟨q0, q1, q2⟩ := q
    have q0 := eq_of_beq q0
    have q1 := eq_of_beq q1
    have q2 := eq_of_beq q2
    refine ⟨r, hr, ?_⟩
    unfold keyOf
    rw [q0, q1, q2, Int.toNat_of_nonneg n0, Int.toNat_of_nonneg n1, Int.toNat_of_nonneg n2]
  · rintro ⟨r, hr, q⟩
    unfold keyOf at q
    injection q with q0 q
    injection q with q1 q
    injection q with q2 q
    refine ⟨r, hr, ?_⟩
    rw [← q0, ← q1, ← q2, Int.toNat_natCast, Int.toNat_natCast, Int.toNat_natCast]
    simp
theorem from_eq : ∀ (l : List (List Int)) (i : Nat) (b : Na.Book) (ks : List (List Int)), (∀ ns ∈ l, ∀ x ∈ ns, 0 ≤ x) → b.map (fun r => [(r.op : Int), (r.d : Int), (r.x : Int)]) = ks →
    (match Na.bookFrom i b (BkNeutral.rows l) with | .error e => [-5, (e.rule : Int), (e.place : Int)] | .ok _ => [0]) = told (bad i ks l)
  | [], i, b, ks, _, _ => rfl
  | ns :: r, i, b, ks, h, e => by
    have hn := h ns (List.mem_cons_self ..)
    show (match Na.bookFrom i b (BkNeutral.nats ns :: BkNeutral.rows r) with | .error e => [-5, (e.rule : Int), (e.place : Int)] | .ok _ => [0]) = told (bad i ks (ns :: r))
    unfold Na.bookFrom bad
    have c : (Na.rowGood (BkNeutral.nats ns) = false ∨ b.any (fun (x : Na.Rule) => x.op == (Na.rowRule (BkNeutral.nats ns)).op && (x.d == (Na.rowRule (BkNeutral.nats ns)).d && x.x == (Na.rowRule (BkNeutral.nats ns)).x)) = true) ↔ (rowB ns = false ∨ keyOf ns ∈ ks) := by
      rw [row_eq hn, any_key hn e]
    by_cases q : rowB ns = false ∨ keyOf ns ∈ ks
    · rw [if_pos (c.mpr q), if_pos q]
      rfl
    · rw [if_neg (fun z => q (c.mp z)), if_neg q]
      refine from_eq r (i + 1) _ _ (fun m hm => h m (List.mem_cons_of_mem _ hm)) ?_
      rw [List.map_append, e]
      congr 1
      show [[((Na.rowRule (BkNeutral.nats ns)).op : Int), _, _]] = [keyOf ns]
      have n0 := at0_nn hn 0
      have n1 := at0_nn hn 1
      have n2 := at0_nn hn 2
      have o0 : (Na.rowRule (BkNeutral.nats ns)).op = (at0 ns 0).toNat := nats_getD ns 0
      have o1 : (Na.rowRule (BkNeutral.nats ns)).d = (at0 ns 1).toNat := nats_getD ns 1
      have o2 : (Na.rowRule (BkNeutral.nats ns)).x = (at0 ns 2).toNat := nats_getD ns 2
      rw [o0, o1, o2, Int.toNat_of_nonneg n0, Int.toNat_of_nonneg n1, Int.toNat_of_nonneg n2]
      rfl
/-- what is due -/
theorem book_eq (l : List (List Int)) (h : ∀ ns ∈ l, ∀ x ∈ ns, 0 ≤ x) : PyYqacca.book l = told (bad 0 [] l) := by
  rw [← from_eq l 0 [] [] h rfl]
  show BkNeutral.told (Bk.withBook (BkNeutral.rows l) fun _ => .nums []) = _
  unfold Bk.withBook Na.bookOf
  cases Na.bookFrom 0 [] (BkNeutral.rows l) <;> rfl
/-- the rest of the rows, one on -/
theorem bad_drop {l : List (List Int)} {i : Nat} {ns : List Int} {ks : List (List Int)} (h : l[i]? = some ns) : bad i ks (l.drop i) = if rowB ns = false ∨ keyOf ns ∈ ks then some i else bad (i + 1) (ks ++ [keyOf ns]) (l.drop (i + 1)) := by
  obtain ⟨hi, e⟩ := List.getElem?_eq_some_iff.mp h
  rw [List.drop_eq_getElem_cons hi, e]
  rfl
end Bm

set_option Elab.async false
/-! What the specification's own functions say, whatever the program: pushes, forms, the least way, a sum's fuel. Plain Lean. -/
namespace Sm
open Na
/-! ### pushes -/
def Fits : List Deck → Push → Prop
  | [], [] => True
  | d :: ds, k :: p => k ≤ d.beads ∧ Fits ds p
  | _, _ => False
theorem mem_pushes : ∀ {ds : List Deck} {p : Push}, p ∈ pushes ds ↔ Fits ds p
  | [], [] => by simp [pushes, Fits]
  | [], k :: p => by simp [pushes, Fits]
  | d :: ds, [] => by simp [pushes, Fits]
  | d :: ds, k :: p => by
    simp only [pushes, Fits, List.mem_flatMap, List.mem_range, List.mem_map]
    constructor
    · rintro ⟨a, ha, q, hq, e⟩
      cases e
      exact ⟨by omega, mem_pushes.mp hq⟩
    · rintro ⟨h1, h2⟩
      exact ⟨k, by omega, p, mem_pushes.mpr h2, rfl⟩
theorem Fits.len : ∀ {ds : List Deck} {p : Push}, Fits ds p → p.length = ds.length
  | [], [], _ => rfl
  | d :: ds, k :: p, h => by rw [List.length_cons, List.length_cons, Fits.len h.2]
  | [], _ :: _, h => h.elim
  | _ :: _, [], h => h.elim
theorem Fits.at_ : ∀ {ds : List Deck} {p : Push} {i : Nat} {d : Deck} {k : Nat}, Fits ds p → ds[i]? = some d → p[i]? = some k → k ≤ d.beads
  | [], [], i, d, k, _, e, _ => by simp at e
  | d' :: ds, k' :: p, 0, d, k, h, e1, e2 => by
    have e1 : d' = d := Option.some.inj e1
    have e2 : k' = k := Option.some.inj e2
    rw [← e1, ← e2]
    exact h.1
  | d' :: ds, k' :: p, i + 1, d, k, h, e1, e2 => Fits.at_ (i := i) h.2 e1 e2
  | [], _ :: _, _, _, _, h, _, _ => h.elim
  | _ :: _, [], _, _, _, h, _, _ => h.elim
theorem Fits.set : ∀ {ds : List Deck} {p : Push} {i : Nat} {d : Deck} {k : Nat}, Fits ds p → ds[i]? = some d → k ≤ d.beads → Fits ds (p.set i k)
  | [], [], i, d, k, h, _, _ => h
  | d' :: ds, k' :: p, 0, d, k, h, e1, hk => by
    have e1 : d' = d := Option.some.inj e1
    subst e1
    exact ⟨hk, h.2⟩
  | d' :: ds, k' :: p, i + 1, d, k, h, e1, hk => ⟨h.1, Fits.set (i := i) h.2 e1 hk⟩
  | [], _ :: _, _, _, _, h, _, _ => h.elim
  | _ :: _, [], _, _, _, h, _, _ => h.elim
theorem pushed_fits {ds : List Deck} {p q : Push} {x : Reach} {n : Nat} (h : Fits ds p) (e : pushed ds p x n = some q) : Fits ds q := by
  unfold pushed at e
  by_cases c : n < 1 ∨ x.most < n
  · rw [if_pos c] at e
    cases e
  · rw [if_neg c] at e
    cases ed : ds[x.deck]? with
    | none =>
      rw [ed] at e
      cases e
    | some d =>
      cases ep : p[x.deck]? with
      | none =>
        rw [ed, ep] at e
        cases e
      | some a =>
        rw [ed, ep] at e
        have ha := h.at_ ed ep
        dsimp only at e
        by_cases t : x.to_ = true
        · rw [if_pos t] at e
          by_cases z : a + n ≤ d.beads
          · rw [if_pos z] at e
            rw [← Option.some.inj e]
            exact h.set ed z
          · rw [if_neg z] at e
            cases e
        · rw [if_neg t] at e
          by_cases z : n ≤ a
          · rw [if_pos z] at e
            rw [← Option.some.inj e]
            exact h.set ed (by omega)
          · rw [if_neg z] at e
            cases e
theorem stroke_fits {ds : List Deck} {p q : Push} {s : Stroke} {n k : Nat} (h : Fits ds p) (e : strokeOn ds s n k p = some q) : Fits ds q := by
  unfold strokeOn at e
  cases e1 : pushed ds p s.first n with
  | none =>
    rw [e1] at e
    cases e
  | some q1 =>
    rw [e1] at e
    have h1 := pushed_fits h e1
    have e : (match s.second with | none => if k = 0 then some q1 else none | some y => pushed ds q1 y k) = some q := e
    cases s2 : s.second with
    | none =>
      rw [s2] at e
      dsimp only at e
      by_cases z : k = 0
      · rw [if_pos z] at e
        rw [← Option.some.inj e]
        exact h1
      · rw [if_neg z] at e
        cases e
    | some y =>
      rw [s2] at e
      exact pushed_fits h1 e
/-! ### the nicest -/
theorem below_irr : ∀ l : List Nat, below l l = false
  | [] => rfl
  | x :: l => by
    show (decide (x < x) || (x == x && below l l)) = false
    rw [below_irr l]
    simp
theorem below_trans : ∀ {a b c : List Nat}, below a b = true → below b c = true → below a c = true
  | [], _, _, h, _ => by simp [below] at h
  | _ :: _, [], _, h, _ => by simp [below] at h
  | _ :: _, _ :: _, [], _, h => by simp [below] at h
  | x :: a, y :: b, z :: c, h1, h2 => by
    simp only [below, Bool.or_eq_true, Bool.and_eq_true, decide_eq_true_eq, beq_iff_eq] at h1 h2 ⊢
    rcases h1 with h1 | ⟨rfl, h1⟩
    · rcases h2 with h2 | ⟨rfl, h2⟩
      · exact .inl (by omega)
      · exact .inl h1
    · rcases h2 with h2 | ⟨rfl, h2⟩
      · exact .inl h2
      · exact .inr ⟨rfl, below_trans h1 h2⟩
theorem below_tot : ∀ {a b : List Nat}, a.length = b.length → a ≠ b → below a b = true ∨ below b a = true
  | [], [], _, h => absurd rfl h
  | [], _ :: _, h, _ => by simp at h
  | _ :: _, [], h, _ => by simp at h
  | x :: a, y :: b, hl, h => by
    simp only [below, Bool.or_eq_true, Bool.and_eq_true, decide_eq_true_eq, beq_iff_eq]
    rcases Nat.lt_trichotomy x y with c | c | c
    · exact .inl (.inl c)
    · subst c
      have h' : a ≠ b := fun z => h (by rw [z])
      rcases below_tot (by simpa using hl) h' with q | q
      · exact .inl (.inr ⟨rfl, q⟩)
      · exact .inr (.inr ⟨rfl, q⟩)
    · exact .inr (.inl c)
theorem nicer_iff {p q : Push} : nicer p q = true ↔ total p < total q ∨ (total p = total q ∧ below q p = true) := by
  unfold nicer
  simp only [Bool.or_eq_true, Bool.and_eq_true, decide_eq_true_eq, beq_iff_eq]
theorem nicer_irr (p : Push) : nicer p p = false := by
  unfold nicer
  rw [below_irr p]
  simp
theorem nicer_trans {a b c : Push} (h1 : nicer a b = true) (h2 : nicer b c = true) : nicer a c = true := by
  rw [nicer_iff] at h1 h2 ⊢
  rcases h1 with h1 | ⟨e1, h1⟩
  · rcases h2 with h2 | ⟨e2, h2⟩
    · exact .inl (by omega)
    · exact .inl (by omega)
  · rcases h2 with h2 | ⟨e2, h2⟩
    · exact .inl (by omega)
    · exact .inr ⟨e1.trans e2, below_trans h2 h1⟩
theorem nicer_tot {a b : Push} (hl : a.length = b.length) (h : a ≠ b) : nicer a b = true ∨ nicer b a = true := by
  rw [nicer_iff, nicer_iff]
  rcases Nat.lt_trichotomy (total a) (total b) with c | c | c
  · exact .inl (.inl c)
  · rcases below_tot hl h with q | q
    · exact .inr (.inr ⟨c.symm, q⟩)
    · exact .inl (.inr ⟨c, q⟩)
  · exact .inr (.inl c)
theorem nicest_from : ∀ (l : List Push) (q : Push), (∀ x ∈ l, x.length = q.length) → ∃ p, l.foldl (fun (a : Option Push) (p : Push) => match a with
    | none => some p
    | some q => if nicer p q = true then some p else some q) (some q) = some p ∧ (p = q ∨ p ∈ l) ∧ nicer q p = false ∧ ∀ x ∈ l, nicer x p = false
  | [], q, _ => ⟨q, rfl, .inl rfl, nicer_irr q, fun x h => by simp at h⟩
  | y :: l, q, hl => by
    have hy := hl y (List.mem_cons_self ..)
    rw [List.foldl_cons]
    dsimp only
    by_cases c : nicer y q = true
    · rw [if_pos c]
      obtain ⟨p, e, hp, h1, h2⟩ := nicest_from l y fun x hx => (hl x (List.mem_cons_of_mem _ hx)).trans hy.symm
      refine ⟨p, e, ?_, ?_, fun x hx => ?_⟩
      · rcases hp with hp | hp
        · exact .inr (by rw [hp]; exact List.mem_cons_self ..)
        · exact .inr (List.mem_cons_of_mem _ hp)
      · refine Bool.eq_false_iff.mpr fun z => ?_
        rw [nicer_trans c z] at h1
        cases h1
      · rcases List.mem_cons.mp hx with hx | hx
        · rw [hx]
          exact h1
        · exact h2 x hx
    · rw [if_neg c]
      obtain ⟨p, e, hp, h1, h2⟩ := nicest_from l q fun x hx => hl x (List.mem_cons_of_mem _ hx)
      refine ⟨p, e, ?_, h1, fun x hx => ?_⟩
      · rcases hp with hp | hp
        · exact .inl hp
        · exact .inr (List.mem_cons_of_mem _ hp)
      · rcases List.mem_cons.mp hx with hx | hx
        · rw [hx]
          refine Bool.eq_false_iff.mpr fun z => ?_
          by_cases e : y = q
          · rw [e, h1] at z
            cases z
          · rcases nicer_tot hy e with k | k
            · exact c k
            · rw [nicer_trans k z] at h1
              cases h1
        · exact h2 x hx
theorem nicest_some {l : List Push} {n : Nat} (hl : ∀ x ∈ l, x.length = n) (hn : l ≠ []) : ∃ p, nicest l = some p ∧ p ∈ l ∧ ∀ x ∈ l, nicer x p = false := by
  cases l with
  | nil => exact absurd rfl hn
  | cons q l =>
    obtain ⟨p, e, hp, h1, h2⟩ := nicest_from l q fun x hx => (hl x (List.mem_cons_of_mem _ hx)).trans (hl q (List.mem_cons_self ..)).symm
    refine ⟨p, e, List.mem_cons.mpr hp, fun x hx => ?_⟩
    rcases List.mem_cons.mp hx with hx | hx
    · rw [hx]
      exact h1
    · exact h2 x hx
/-- the nicest is the one that none is nicer than -/
theorem nicest_is {l : List Push} {n : Nat} {p : Push} (hl : ∀ x ∈ l, x.length = n) (hp : p ∈ l) (h : ∀ x ∈ l, nicer x p = false) : nicest l = some p := by
  obtain ⟨q, e, hq, h2⟩ := nicest_some hl (List.ne_nil_of_mem hp)
  rw [e]
  congr 1
  refine Classical.byContradiction fun c => ?_
  rcases nicer_tot ((hl q hq).trans (hl p hp).symm) c with k | k
  · rw [h q hq] at k
    cases k
  · rw [h2 p hp] at k
    cases k
theorem form_of {r : Rod} {d : Nat} {p : Push} (hp : Fits r.decks p) (hw : worthOf r.decks p = d) (h : ∀ x, Fits r.decks x → worthOf r.decks x = d → nicer x p = false) : formOf r d = p := by
  unfold formOf
  rw [nicest_is (n := r.decks.length) (p := p)]
  · rfl
  · intro x hx
    exact (mem_pushes.mp (List.mem_filter.mp hx).1).len
  · exact List.mem_filter.mpr ⟨mem_pushes.mpr hp, by simpa using hw⟩
  · intro x hx
    obtain ⟨h1, h2⟩ := List.mem_filter.mp hx
    exact h x (mem_pushes.mp h1) (by simpa using h2)
/-- a digit that can be pushed has its form -/
theorem form_is {r : Rod} {d : Nat} (h : ∃ p, Fits r.decks p ∧ worthOf r.decks p = d) : Fits r.decks (formOf r d) ∧ worthOf r.decks (formOf r d) = d ∧ ∀ x, Fits r.decks x → worthOf r.decks x = d → nicer x (formOf r d) = false := by
  obtain ⟨p, h1, h2⟩ := h
  have hm : p ∈ (pushes r.decks).filter fun (p : Push) => worthOf r.decks p == d := List.mem_filter.mpr ⟨mem_pushes.mpr h1, by simpa using h2⟩
  obtain ⟨q, e, hq, hn⟩ := nicest_some (n := r.decks.length) (fun x hx => (mem_pushes.mp (List.mem_filter.mp hx).1).len) (List.ne_nil_of_mem hm)
  have ef : formOf r d = q := by
    unfold formOf
    rw [e]
    rfl
  obtain ⟨q1, q2⟩ := List.mem_filter.mp hq
  rw [ef]
  exact ⟨mem_pushes.mp q1, by simpa using q2, fun x hx hw => hn x (List.mem_filter.mpr ⟨mem_pushes.mpr hx, by simpa using hw⟩)⟩
theorem whole_iff {r : Rod} : r.whole = true ↔ ∀ d, d < r.ratio → ∃ p, Fits r.decks p ∧ worthOf r.decks p = d := by
  unfold Rod.whole
  rw [List.all_eq_true]
  constructor
  · intro h d hd
    obtain ⟨p, hp, e⟩ := List.any_eq_true.mp (h d (List.mem_range.mpr hd))
    exact ⟨p, mem_pushes.mp hp, by simpa using e⟩
  · intro h d hd
    obtain ⟨p, hp, e⟩ := h d (List.mem_range.mp hd)
    exact List.any_eq_true.mpr ⟨p, mem_pushes.mpr hp, by simpa using e⟩
/-! ### a sum's fuel -/
def weight : List Todo → Nat
  | [] => 0
  | .digit _ _ :: r => 2 + weight r
  | .moves _ _ :: r => 1 + weight r
def mu (u : Under) (l : List Todo) : Nat := 3 * (STEPS - u.steps) + weight l
section
variable {m : Make} {h : Hand} {b : Book} {op : Nat} {u : Under} {i d : Nat} {ms : List Move} {r : List Todo} {s n k : Nat}
theorem on_digit : onward m h b op u (.digit i d :: r) = if m.length ≤ i then .error .over else match shownAt m u.s i with
    | none => .error .wrong
    | some x => .ok (u, .moves i (ruleOf b op d x) :: r) := rfl
theorem on_nil : onward m h b op u (.moves i [] :: r) = .ok (u, r) := rfl
theorem on_carry : onward m h b op u (.moves i (.carry :: ms) :: r) = if STEPS ≤ u.steps then .error .long else .ok ({ u with steps := u.steps + 1 }, .digit (i + 1) 1 :: .moves i ms :: r) := rfl
theorem on_act : onward m h b op u (.moves i (.act s n k :: ms) :: r) = if STEPS ≤ u.steps then .error .long else match acted m h u.s ⟨i, s, n, k⟩ with
    | none => .error .wrong
    | some t => .ok (⟨t, ⟨i, s, n, k⟩ :: u.acts, u.steps + 1⟩, .moves i ms :: r) := rfl
end
theorem onward_less {m : Make} {h : Hand} {b : Book} {op : Nat} {u v : Under} {x : Todo} {l r : List Todo} (hu : u.steps ≤ STEPS) (e : onward m h b op u (x :: l) = .ok (v, r)) : mu v r < mu u (x :: l) ∧ v.steps ≤ STEPS := by
  unfold mu
  cases x with
  | digit i d =>
    rw [on_digit] at e
    by_cases c : m.length ≤ i
    · rw [if_pos c] at e
      cases e
    · rw [if_neg c] at e
      cases es : shownAt m u.s i with
      | none =>
        rw [es] at e
        cases e
      | some x =>
        rw [es] at e
        cases e
        exact ⟨by simp only [weight]; omega, hu⟩
  | moves i ms =>
    cases ms with
    | nil =>
      rw [on_nil] at e
      cases e
      exact ⟨by simp only [weight]; omega, hu⟩
    | cons mv ms =>
      cases mv with
      | carry =>
        rw [on_carry] at e
        by_cases c : STEPS ≤ u.steps
        · rw [if_pos c] at e
          cases e
        · rw [if_neg c] at e
          cases e
          exact ⟨by simp only [weight]; omega, by dsimp only; omega⟩
      | act s n k =>
        rw [on_act] at e
        by_cases c : STEPS ≤ u.steps
        · rw [if_pos c] at e
          cases e
        · rw [if_neg c] at e
          cases ea : acted m h u.s ⟨i, s, n, k⟩ with
          | none =>
            rw [ea] at e
            cases e
          | some t =>
            rw [ea] at e
            cases e
            exact ⟨by simp only [weight]; omega, by dsimp only; omega⟩
/-- with enough fuel one thing done leaves enough -/
theorem carried_fuel {m : Make} {h : Hand} {b : Book} {op : Nat} : ∀ (f g : Nat) (u : Under) (l : List Todo), u.steps ≤ STEPS → mu u l ≤ f → mu u l ≤ g → carried m h b op f u l = carried m h b op g u l
  | f, g, u, [], _, _, _ => by
    cases f <;> cases g <;> simp [carried]
  | 0, g, u, x :: l, _, hf, _ => by
    exfalso
    unfold mu at hf
    cases x <;> simp only [weight] at hf <;> omega
  | f + 1, 0, u, x :: l, _, _, hg => by
    exfalso
    unfold mu at hg
    cases x <;> simp only [weight] at hg <;> omega
  | f + 1, g + 1, u, x :: l, hu, hf, hg => by
    unfold carried
    cases e : onward m h b op u (x :: l) with
    | error e => rfl
    | ok vr =>
      obtain ⟨v, r⟩ := vr
      obtain ⟨h1, h2⟩ := onward_less hu e
      exact carried_fuel f g v r h2 (by omega) (by omega)
/-- a sum's run, without the fuel: one thing done -/
theorem carried_step {m : Make} {h : Hand} {b : Book} {op : Nat} {f : Nat} {u v : Under} {x : Todo} {l r : List Todo} (hu : u.steps ≤ STEPS) (hf : mu u (x :: l) ≤ f) (e : onward m h b op u (x :: l) = .ok (v, r)) :
    carried m h b op f u (x :: l) = carried m h b op f v r := by
  obtain ⟨h1, h2⟩ := onward_less hu e
  cases f with
  | zero => omega
  | succ f =>
    rw [show carried m h b op (f + 1) u (x :: l) = carried m h b op f v r by rw [carried, e]]
    exact carried_fuel f (f + 1) v r h2 (by omega) (by omega)
theorem carried_fail {m : Make} {h : Hand} {b : Book} {op : Nat} {f : Nat} {u : Under} {x : Todo} {l : List Todo} {k : Fail} (hf : 0 < f) (e : onward m h b op u (x :: l) = .error k) : carried m h b op f u (x :: l) = .error k := by
  cases f with
  | zero => omega
  | succ f => rw [carried, e]
end Sm

set_option Elab.async false
/-! Makes, hands, books as the specification reads them off lists: place by place. -/
namespace Mm
open Na Sm
/-! ### the first of a list -/
theorem find_none {α : Type} {p : α → Bool} {l : List α} (h : ∀ (i : Nat) (x : α), l[i]? = some x → p x = false) : l.findIdx? p = none := by
  rw [List.findIdx?_eq_none_iff]
  intro x hx
  obtain ⟨i, hi⟩ := List.getElem?_of_mem hx
  exact h i x hi
theorem find_some {α : Type} {p : α → Bool} {l : List α} {i : Nat} {x : α} (hi : l[i]? = some x) (hx : p x = true) (hb : ∀ (j : Nat) (y : α), j < i → l[j]? = some y → p y = false) : l.findIdx? p = some i := by
  obtain ⟨hl, e⟩ := List.getElem?_eq_some_iff.mp hi
  rw [List.findIdx?_eq_some_iff_getElem]
  refine ⟨hl, by rw [e]; exact hx, fun j hj => ?_⟩
  rw [hb j _ hj (List.getElem?_eq_getElem (by omega))]
  simp
theorem fs_drop {α β : Type} {f : α → Option β} {l : List α} {i : Nat} {x : α} (h : l[i]? = some x) : (l.drop i).findSome? f = (f x).or ((l.drop (i + 1)).findSome? f) := by
  obtain ⟨hi, e⟩ := List.getElem?_eq_some_iff.mp h
  rw [List.drop_eq_getElem_cons hi, e, List.findSome?_cons]
  cases f x <;> rfl
theorem fs_flat {α β γ : Type} {f : β → Option γ} {g : α → List β} : ∀ l : List α, (l.flatMap g).findSome? f = l.findSome? fun a => (g a).findSome? f
  | [] => rfl
  | a :: l => by
    rw [List.flatMap_cons, List.findSome?_append, List.findSome?_cons, fs_flat l]
    cases (g a).findSome? f <;> rfl
/-! ### groups -/
def grp (k : Nat) (l : List Nat) (j : Nat) : List Nat := (l.drop (k * j)).take k
theorem groups_is {k : Nat} (hk : 0 < k) {l : List Nat} (h0 : l.length % k = 0) : groups k l = (List.range (l.length / k)).map (grp k l) := Bm.groups_eq hk h0
theorem groups_at {k : Nat} (hk : 0 < k) {l : List Nat} (h0 : l.length % k = 0) {j : Nat} {g : List Nat} : (groups k l)[j]? = some g ↔ j < l.length / k ∧ g = grp k l j := by
  rw [groups_is hk h0, List.getElem?_map]
  by_cases c : j < l.length / k
  · rw [List.getElem?_range c]
    exact ⟨fun e => ⟨c, (Option.some.inj e).symm⟩, fun e => by rw [e.2]; rfl⟩
  · rw [List.getElem?_eq_none (by simpa using c)]
    exact ⟨fun e => (by cases e), fun e => absurd e.1 c⟩
theorem grp_get {k : Nat} {l : List Nat} {j i : Nat} (h : i < k) : (grp k l j).getD i 0 = l.getD (k * j + i) 0 := Bm.getD_take_drop h
/-! ### a make -/
def MakeLen (l : List Nat) : Prop := l.length % 7 = 0 ∧ l.length ≠ 0 ∧ l.length ≤ 448
theorem make_len {l : List Nat} (h : ¬ MakeLen l) : makeOf l = .error ⟨1, 0⟩ := by
  unfold makeOf
  rw [if_pos]
  unfold MakeLen at h
  have : RODS = 64 := rfl
  omega
theorem make_if {l : List Nat} (h : MakeLen l) : makeOf l = match (groups 7 l).findIdx? fun (g : List Nat) => rodWrong g != 0 with
    | some i => .error ⟨rodWrong ((groups 7 l).getD i []), i⟩
    | none => .ok ((groups 7 l).map rodOf) := by
  unfold makeOf
  rw [if_neg]
  · rfl
  · obtain ⟨h1, h2, h3⟩ := h
    have : RODS = 64 := rfl
    omega
theorem make_bad {l : List Nat} {j : Nat} (h : MakeLen l) (hj : j < l.length / 7) (hb : rodWrong (grp 7 l j) ≠ 0) (hg : ∀ i, i < j → rodWrong (grp 7 l i) = 0) : makeOf l = .error ⟨rodWrong (grp 7 l j), j⟩ := by
  have e := (groups_at (by decide) h.1).mpr ⟨hj, rfl⟩
  rw [make_if h, find_some e (by simpa using hb) fun i y hi ey => by
    rw [((groups_at (by decide) h.1).mp ey).2, hg i hi]
    rfl]
  show Except.error (⟨rodWrong ((groups 7 l).getD j []), j⟩ : Fault) = _
  rw [List.getD_eq_getElem?_getD, e]
  rfl
theorem make_ok {l : List Nat} (h : MakeLen l) (hg : ∀ i, i < l.length / 7 → rodWrong (grp 7 l i) = 0) : makeOf l = .ok ((List.range (l.length / 7)).map fun j => rodOf (grp 7 l j)) := by
  rw [make_if h, find_none fun i y ey => by
    obtain ⟨hi, e⟩ := (groups_at (by decide) h.1).mp ey
    rw [e, hg i hi]
    rfl]
  show Except.ok ((groups 7 l).map rodOf) = _
  rw [groups_is (by decide) h.1, List.map_map]
  rfl
/-! ### a rod's seven numbers -/
def DeckIn (b w : Nat) : Prop := 1 ≤ b ∧ b ≤ 15 ∧ 1 ≤ w ∧ w ≤ 63
def RodIn (q b0 w0 b1 w1 b2 w2 : Nat) : Prop := (2 ≤ q ∧ q ≤ 20) ∧ DeckIn b0 w0 ∧ ((b1 = 0 ∧ w1 = 0 ∧ b2 = 0 ∧ w2 = 0) ∨ (DeckIn b1 w1 ∧ ((b2 = 0 ∧ w2 = 0) ∨ DeckIn b2 w2)))
def decks3 (b0 w0 b1 w1 b2 w2 : Nat) : List Deck := if b1 = 0 then [⟨b0, w0⟩] else if b2 = 0 then [⟨b0, w0⟩, ⟨b1, w1⟩] else [⟨b0, w0⟩, ⟨b1, w1⟩, ⟨b2, w2⟩]
theorem deck_good {b w : Nat} : (⟨b, w⟩ : Deck).good = true ↔ DeckIn b w := by
  unfold Deck.good DeckIn
  simp only [Bool.and_eq_true, decide_eq_true_eq]
theorem rodOf_eq {l : List Nat} (h0 : l.getD 1 0 ≠ 0) (h1 : l.getD 3 0 ≠ 0 ∨ l.getD 5 0 = 0) : rodOf l = ⟨l.getD 0 0, decks3 (l.getD 1 0) (l.getD 2 0) (l.getD 3 0) (l.getD 4 0) (l.getD 5 0) (l.getD 6 0)⟩ := by
  unfold rodOf decks3
  congr 1
  rw [show List.range 3 = [0, 1, 2] by decide]
  have c0 : (l.getD (1 + 2 * 0) 0 != 0) = true := by simpa using h0
  by_cases c1 : l.getD 3 0 = 0
  · have c2 : l.getD 5 0 = 0 := by omega
    rw [List.filter_cons, if_pos c0, List.filter_cons, if_neg (by simpa using c1), List.filter_cons, if_neg (by simpa using c2), List.filter_nil, if_pos c1]
    rfl
  · by_cases c2 : l.getD 5 0 = 0
    · rw [List.filter_cons, if_pos c0, List.filter_cons, if_pos (by simpa using c1), List.filter_cons, if_neg (by simpa using c2), List.filter_nil, if_neg c1, if_pos c2]
      rfl
    · rw [List.filter_cons, if_pos c0, List.filter_cons, if_pos (by simpa using c1), List.filter_cons, if_pos (by simpa using c2), List.filter_nil, if_neg c1, if_neg c2]
      rfl
theorem rodGood_iff {l : List Nat} : rodGood l = true ↔ RodIn (l.getD 0 0) (l.getD 1 0) (l.getD 2 0) (l.getD 3 0) (l.getD 4 0) (l.getD 5 0) (l.getD 6 0) := by
  have start : rodGood l = true ↔ (l.getD 1 0 ≠ 0 ∧ ((l.getD 1 0 = 0 ↔ l.getD 2 0 = 0) ∧ (l.getD 3 0 = 0 ↔ l.getD 4 0 = 0) ∧ (l.getD 5 0 = 0 ↔ l.getD 6 0 = 0))) ∧ (l.getD 3 0 ≠ 0 ∨ l.getD 5 0 = 0) ∧ (rodOf l).formed_ = true := by
    unfold rodGood
    rw [show List.range 3 = [0, 1, 2] by decide]
    simp only [List.all_cons, List.all_nil, Bool.and_true, Bool.and_eq_true, Bool.or_eq_true, bne_iff_ne, beq_iff_eq]
    simp only [Nat.mul_zero, Nat.add_zero, Nat.mul_one, show 1 + 2 * 2 = 5 from rfl, show 2 + 2 * 2 = 6 from rfl, show 1 + 2 = 3 from rfl, show 2 + 2 = 4 from rfl]
    have b : ∀ x y : Nat, ((x == 0) = (y == 0)) ↔ (x = 0 ↔ y = 0) := fun x y => by
      rw [Bool.eq_iff_iff, beq_iff_eq, beq_iff_eq]
    rw [b, b, b]
  rw [start]
  generalize e0 : l.getD 0 0 = q at *
  generalize e1 : l.getD 1 0 = b0 at *
  generalize e2 : l.getD 2 0 = w0 at *
  generalize e3 : l.getD 3 0 = b1 at *
  generalize e4 : l.getD 4 0 = w1 at *
  generalize e5 : l.getD 5 0 = b2 at *
  generalize e6 : l.getD 6 0 = w2 at *
  by_cases h0 : b0 = 0
  · constructor
    · intro h
      exact absurd h0 h.1.1
    · intro h
      have := h.2.1.1
      omega
  · by_cases h1 : b1 ≠ 0 ∨ b2 = 0
    · have er : rodOf l = ⟨q, decks3 b0 w0 b1 w1 b2 w2⟩ := by
        rw [rodOf_eq (by rw [e1]; exact h0) (by rw [e3, e5]; exact h1), e0, e1, e2, e3, e4, e5, e6]
      have ef : (rodOf l).formed_ = true ↔ (2 ≤ q ∧ q ≤ 20) ∧ ∀ d ∈ decks3 b0 w0 b1 w1 b2 w2, d.good = true := by
        rw [er]
        unfold Rod.formed_
        simp only [Bool.and_eq_true, decide_eq_true_eq, List.all_eq_true]
        have hl : 1 ≤ (decks3 b0 w0 b1 w1 b2 w2).length ∧ (decks3 b0 w0 b1 w1 b2 w2).length ≤ 3 := by
          unfold decks3
          by_cases c1 : b1 = 0
          · rw [if_pos c1]
            simp
          · by_cases c2 : b2 = 0
            · rw [if_neg c1, if_pos c2]
              simp
            · rw [if_neg c1, if_neg c2]
              simp
        constructor
        · rintro ⟨a, b, _, _, c⟩
          exact ⟨⟨a, b⟩, c⟩
        · rintro ⟨⟨a, b⟩, c⟩
          exact ⟨a, b, hl.1, hl.2, c⟩
      rw [ef]
      unfold RodIn decks3
      by_cases c1 : b1 = 0
      · have c2 : b2 = 0 := by omega
        rw [if_pos c1]
        simp only [List.mem_singleton, forall_eq, deck_good]
        constructor
        · rintro ⟨⟨_, h3⟩, _, h4, h5⟩
          exact ⟨h4, h5, .inl ⟨c1, by omega, c2, by omega⟩⟩
        · rintro ⟨h4, h5, h6 | ⟨h6, _⟩⟩
          · exact ⟨⟨h0, ⟨by unfold DeckIn at h5; omega, by omega, by omega⟩⟩, h1, h4, h5⟩
          · unfold DeckIn at h6
            omega
      · by_cases c2 : b2 = 0
        · rw [if_neg c1, if_pos c2]
          simp only [List.mem_cons, List.not_mem_nil, or_false, forall_eq_or_imp, forall_eq, deck_good]
          constructor
          · rintro ⟨⟨_, h3⟩, _, h4, h5, h6⟩
            exact ⟨h4, h5, .inr ⟨h6, .inl ⟨c2, by omega⟩⟩⟩
          · rintro ⟨h4, h5, h6 | ⟨h6, h7⟩⟩
            · omega
            · refine ⟨⟨h0, ⟨by unfold DeckIn at h5; omega, by unfold DeckIn at h6; omega, ?_⟩⟩, h1, h4, h5, h6⟩
              rcases h7 with h7 | h7
              · omega
              · unfold DeckIn at h7
                omega
        · rw [if_neg c1, if_neg c2]
          simp only [List.mem_cons, List.not_mem_nil, or_false, forall_eq_or_imp, forall_eq, deck_good]
          constructor
          · rintro ⟨⟨_, h3⟩, _, h4, h5, h6, h7⟩
            exact ⟨h4, h5, .inr ⟨h6, .inr h7⟩⟩
          · rintro ⟨h4, h5, h6 | ⟨h6, h7⟩⟩
            · omega
            · rcases h7 with h7 | h7
              · omega
              · exact ⟨⟨h0, ⟨by unfold DeckIn at h5; omega, by unfold DeckIn at h6; omega, by unfold DeckIn at h7; omega⟩⟩, h1, h4, h5, h6, h7⟩
    · constructor
      · intro h
        exact absurd h.2.1 h1
      · rintro ⟨_, _, h | ⟨h, _⟩⟩
        · omega
        · unfold DeckIn at h
          omega
theorem rod_is {l : List Nat} (h : rodGood l = true) : rodOf l = ⟨l.getD 0 0, decks3 (l.getD 1 0) (l.getD 2 0) (l.getD 3 0) (l.getD 4 0) (l.getD 5 0) (l.getD 6 0)⟩ := by
  obtain ⟨_, h1, h2⟩ := rodGood_iff.mp h
  unfold DeckIn at h1 h2
  exact rodOf_eq (by omega) (by omega)
theorem most3 {q b0 w0 b1 w1 b2 w2 : Nat} (h : RodIn q b0 w0 b1 w1 b2 w2) : (⟨q, decks3 b0 w0 b1 w1 b2 w2⟩ : Rod).most = b0 * w0 + b1 * w1 + b2 * w2 := by
  unfold Rod.most decks3 total
  dsimp only
  by_cases c1 : b1 = 0
  · have c2 : b2 = 0 := by
      obtain ⟨_, _, h | h⟩ := h
      · exact h.2.2.1
      · have := h.1.1
        omega
    rw [if_pos c1, c1, c2]
    simp
  · by_cases c2 : b2 = 0
    · rw [if_neg c1, if_pos c2, c2]
      simp
    · rw [if_neg c1, if_neg c2]
      simp [Nat.add_assoc]
/-! ### a hand -/
def HandLen (l : List Nat) : Prop := l ≠ [] ∧ l.getD 0 0 ≤ 255 ∧ (l.length - 1) % 7 = 0 ∧ l.length - 1 ≤ 224
theorem hand_len {l : List Nat} (h : ¬ HandLen l) : handOf l = .error ⟨6, 0⟩ := by
  cases l with
  | nil => rfl
  | cons o r =>
    unfold handOf
    dsimp only
    rw [if_pos]
    have : STROKES = 32 := rfl
    have e : ¬ (o ≤ 255 ∧ r.length % 7 = 0 ∧ r.length ≤ 224) := fun z => h ⟨by simp, z.1, z.2.1, z.2.2⟩
    omega
theorem hand_if {l : List Nat} (h : HandLen l) : handOf l = match (groups 7 (l.drop 1)).findIdx? fun (g : List Nat) => !strokeGood g with
    | some i => .error ⟨7, i⟩
    | none => .ok ⟨l.getD 0 0, (groups 7 (l.drop 1)).map strokeOf⟩ := by
  cases l with
  | nil => exact absurd rfl h.1
  | cons o r =>
    obtain ⟨_, h1, h2, h3⟩ := h
    have h1 : o ≤ 255 := h1
    have h2 : r.length % 7 = 0 := h2
    have h3 : r.length ≤ 224 := h3
    unfold handOf
    dsimp only
    rw [if_neg]
    · rfl
    · have : STROKES = 32 := rfl
      omega
theorem hand_mod {l : List Nat} (h : HandLen l) : (l.drop 1).length % 7 = 0 := by
  rw [List.length_drop]
  exact h.2.2.1
theorem hand_bad {l : List Nat} {j : Nat} (h : HandLen l) (hj : j < (l.length - 1) / 7) (hb : strokeGood (grp 7 (l.drop 1) j) = false) (hg : ∀ i, i < j → strokeGood (grp 7 (l.drop 1) i) = true) : handOf l = .error ⟨7, j⟩ := by
  have e := (groups_at (k := 7) (by decide) (hand_mod h)).mpr ⟨by rw [List.length_drop]; exact hj, rfl⟩
  rw [hand_if h, find_some e (by rw [hb]; rfl) fun i y hi ey => by
    rw [((groups_at (by decide) (hand_mod h)).mp ey).2, hg i hi]
    rfl]
theorem hand_ok {l : List Nat} (h : HandLen l) (hg : ∀ i, i < (l.length - 1) / 7 → strokeGood (grp 7 (l.drop 1) i) = true) : handOf l = .ok ⟨l.getD 0 0, (List.range ((l.length - 1) / 7)).map fun j => strokeOf (grp 7 (l.drop 1) j)⟩ := by
  rw [hand_if h, find_none fun i y ey => by
    obtain ⟨hi, e⟩ := (groups_at (by decide) (hand_mod h)).mp ey
    rw [List.length_drop] at hi
    rw [e, hg i hi]
    rfl]
  show Except.ok (⟨l.getD 0 0, (groups 7 (l.drop 1)).map strokeOf⟩ : Hand) = _
  rw [groups_is (by decide) (hand_mod h), List.map_map, List.length_drop]
  rfl
theorem hgrp_get {l : List Nat} {j i : Nat} (h : i < 7) : (grp 7 (l.drop 1) j).getD i 0 = l.getD (1 + 7 * j + i) 0 := by
  rw [grp_get h, Bm.getD_drop, Nat.add_assoc]
def StrokeIn (a t m a2 t2 m2 c : Nat) : Prop := a ≤ 2 ∧ (1 ≤ t ∧ t ≤ 2) ∧ (1 ≤ m ∧ m ≤ 15) ∧ ((a2 = 0 ∧ t2 = 0 ∧ m2 = 0) ∨ (a2 ≤ 2 ∧ (1 ≤ t2 ∧ t2 ≤ 2) ∧ (1 ≤ m2 ∧ m2 ≤ 15) ∧ a2 ≠ a)) ∧ 1 ≤ c ∧ c ≤ 255
theorem strokeGood_iff {l : List Nat} : strokeGood l = true ↔ StrokeIn (l.getD 0 0) (l.getD 1 0) (l.getD 2 0) (l.getD 3 0) (l.getD 4 0) (l.getD 5 0) (l.getD 6 0) := by
  unfold strokeGood strokeOf Stroke.good Reach.good reachOf StrokeIn
  dsimp only
  rw [Bm.getD_drop, Bm.getD_drop, Bm.getD_drop]
  generalize l.getD 0 0 = a
  generalize l.getD 1 0 = t
  generalize l.getD 2 0 = m
  simp only [show 3 + 0 = 3 from rfl, show 3 + 1 = 4 from rfl, show 3 + 2 = 5 from rfl]
  generalize l.getD 3 0 = a2
  generalize l.getD 4 0 = t2
  generalize l.getD 5 0 = m2
  generalize l.getD 6 0 = c
  by_cases z : t2 = 0
  · rw [if_pos z]
    simp only [Bool.and_eq_true, Bool.or_eq_true, decide_eq_true_eq, bne_iff_ne, beq_iff_eq, and_true]
    omega
  · rw [if_neg z]
    simp only [Bool.and_eq_true, Bool.or_eq_true, decide_eq_true_eq, bne_iff_ne, beq_iff_eq]
    omega
/-! ### what isn't right first -/
theorem filter_range {n : Nat} : (List.range n).filter (fun (d : Nat) => d != 0) = List.range' 1 (n - 1) := by
  cases n with
  | zero => rfl
  | succ n =>
    rw [List.range_eq_range', List.range'_succ, List.filter_cons, if_neg (by simp)]
    rw [List.filter_eq_self.mpr]
    · rfl
    · intro x hx
      have := List.mem_range'_1.mp hx
      simp
      omega
theorem wrong_if {m : Make} {h : Hand} {b : Book} : bookWrong m h b = m.zipIdx.findSome? fun (y : Rod × Nat) => [0, 1].findSome? fun op => (List.range' 1 (y.1.ratio - 1)).findSome? fun d => (List.range y.1.ratio).findSome? fun x =>
    (ruleWrong y.1 h op d x (ruleOf b op d x)).map fun (w : Nat) => [y.2, op, d, x, w] := by
  unfold bookWrong Na.cases
  congr 1
  funext y
  rw [fs_flat]
  congr 1
  funext op
  rw [fs_flat, filter_range]
  congr 1
  funext d
  rw [List.findSome?_map]
  rfl
end Mm

set_option Elab.async false
/-! What right computes, on three numbers a rod, and what the specification says on one to three decks: the same. -/
namespace Rm
open Na Sm Mm
def pad (p : Push) : List Nat := [p.getD 0 0, p.getD 1 0, p.getD 2 0]
def Fit3 (b0 b1 b2 : Nat) (t : List Nat) : Prop := ∃ x y z, t = [x, y, z] ∧ x ≤ b0 ∧ y ≤ b1 ∧ z ≤ b2
def w3 (w0 w1 w2 : Nat) (t : List Nat) : Nat := t.getD 0 0 * w0 + t.getD 1 0 * w1 + t.getD 2 0 * w2
theorem pad_len (p : Push) : (pad p).length = 3 := rfl
theorem fits1 {d : Deck} {p : Push} : Fits [d] p ↔ ∃ x, p = [x] ∧ x ≤ d.beads := by
  constructor
  · intro h
    match p, h with
    | [x], h => exact ⟨x, rfl, h.1⟩
  · rintro ⟨x, rfl, h⟩
    exact ⟨h, trivial⟩
theorem fits2 {d e : Deck} {p : Push} : Fits [d, e] p ↔ ∃ x y, p = [x, y] ∧ x ≤ d.beads ∧ y ≤ e.beads := by
  constructor
  · intro h
    match p, h with
    | [x, y], h => exact ⟨x, y, rfl, h.1, h.2.1⟩
  · rintro ⟨x, y, rfl, h1, h2⟩
    exact ⟨h1, h2, trivial⟩
theorem fits3 {d e f : Deck} {p : Push} : Fits [d, e, f] p ↔ ∃ x y z, p = [x, y, z] ∧ x ≤ d.beads ∧ y ≤ e.beads ∧ z ≤ f.beads := by
  constructor
  · intro h
    match p, h with
    | [x, y, z], h => exact ⟨x, y, z, rfl, h.1, h.2.1, h.2.2.1⟩
  · rintro ⟨x, y, z, rfl, h1, h2, h3⟩
    exact ⟨h1, h2, h3, trivial⟩
section
variable {q b0 w0 b1 w1 b2 w2 : Nat}
/-- one, two or three decks -/
theorem decks_cases (h : RodIn q b0 w0 b1 w1 b2 w2) : (b1 = 0 ∧ w1 = 0 ∧ b2 = 0 ∧ w2 = 0 ∧ decks3 b0 w0 b1 w1 b2 w2 = [⟨b0, w0⟩]) ∨ (b1 ≠ 0 ∧ b2 = 0 ∧ w2 = 0 ∧ decks3 b0 w0 b1 w1 b2 w2 = [⟨b0, w0⟩, ⟨b1, w1⟩]) ∨
    (b1 ≠ 0 ∧ b2 ≠ 0 ∧ decks3 b0 w0 b1 w1 b2 w2 = [⟨b0, w0⟩, ⟨b1, w1⟩, ⟨b2, w2⟩]) := by
  obtain ⟨_, _, h | ⟨h1, h2⟩⟩ := h
  · obtain ⟨e1, e2, e3, e4⟩ := h
    exact .inl ⟨e1, e2, e3, e4, by unfold decks3; rw [if_pos e1]⟩
  · have n1 : b1 ≠ 0 := by have := h1.1; omega
    rcases h2 with ⟨e1, e2⟩ | h2
    · exact .inr (.inl ⟨n1, e1, e2, by unfold decks3; rw [if_neg n1, if_pos e1]⟩)
    · have n2 : b2 ≠ 0 := by have := h2.1; omega
      exact .inr (.inr ⟨n1, n2, by unfold decks3; rw [if_neg n1, if_neg n2]⟩)
theorem fits_pad (h : RodIn q b0 w0 b1 w1 b2 w2) {p : Push} (hp : Fits (decks3 b0 w0 b1 w1 b2 w2) p) : Fit3 b0 b1 b2 (pad p) := by
  rcases decks_cases h with ⟨_, _, _, _, e⟩ | ⟨_, _, _, e⟩ | ⟨_, _, e⟩ <;> rw [e] at hp
  · obtain ⟨x, rfl, hx⟩ := fits1.mp hp
    exact ⟨x, 0, 0, rfl, hx, Nat.zero_le _, Nat.zero_le _⟩
  · obtain ⟨x, y, rfl, hx, hy⟩ := fits2.mp hp
    exact ⟨x, y, 0, rfl, hx, hy, Nat.zero_le _⟩
  · obtain ⟨x, y, z, rfl, hx, hy, hz⟩ := fits3.mp hp
    exact ⟨x, y, z, rfl, hx, hy, hz⟩
theorem fits_of (h : RodIn q b0 w0 b1 w1 b2 w2) {t : List Nat} (ht : Fit3 b0 b1 b2 t) : ∃ p, Fits (decks3 b0 w0 b1 w1 b2 w2) p ∧ pad p = t := by
  obtain ⟨x, y, z, rfl, hx, hy, hz⟩ := ht
  rcases decks_cases h with ⟨e1, _, e2, _, e⟩ | ⟨_, e2, _, e⟩ | ⟨_, _, e⟩ <;> rw [e]
  · have : y = 0 := by omega
    have : z = 0 := by omega
    subst y z
    exact ⟨[x], fits1.mpr ⟨x, rfl, hx⟩, rfl⟩
  · have : z = 0 := by omega
    subst z
    exact ⟨[x, y], fits2.mpr ⟨x, y, rfl, hx, hy⟩, rfl⟩
  · exact ⟨[x, y, z], fits3.mpr ⟨x, y, z, rfl, hx, hy, hz⟩, rfl⟩
theorem worth_pad (h : RodIn q b0 w0 b1 w1 b2 w2) {p : Push} (hp : Fits (decks3 b0 w0 b1 w1 b2 w2) p) : worthOf (decks3 b0 w0 b1 w1 b2 w2) p = w3 w0 w1 w2 (pad p) := by
  rcases decks_cases h with ⟨_, _, _, _, e⟩ | ⟨_, _, _, e⟩ | ⟨_, _, e⟩ <;> rw [e] at hp ⊢
  · obtain ⟨x, rfl, hx⟩ := fits1.mp hp
    simp [worthOf, total, w3, pad]
  · obtain ⟨x, y, rfl, hx, hy⟩ := fits2.mp hp
    simp [worthOf, total, w3, pad]
  · obtain ⟨x, y, z, rfl, hx, hy, hz⟩ := fits3.mp hp
    simp [worthOf, total, w3, pad, Nat.add_assoc]
theorem pad_inj (h : RodIn q b0 w0 b1 w1 b2 w2) {p p' : Push} (hp : Fits (decks3 b0 w0 b1 w1 b2 w2) p) (hp' : Fits (decks3 b0 w0 b1 w1 b2 w2) p') (e : pad p = pad p') : p = p' := by
  rcases decks_cases h with ⟨_, _, _, _, e1⟩ | ⟨_, _, _, e1⟩ | ⟨_, _, e1⟩ <;> rw [e1] at hp hp'
  · obtain ⟨x, rfl, hx⟩ := fits1.mp hp
    obtain ⟨x', rfl, hx⟩ := fits1.mp hp'
    simp [pad] at e
    simp [e]
  · obtain ⟨x, y, rfl, hx⟩ := fits2.mp hp
    obtain ⟨x', y', rfl, hx⟩ := fits2.mp hp'
    simp [pad] at e
    simp [e]
  · obtain ⟨x, y, z, rfl, hx⟩ := fits3.mp hp
    obtain ⟨x', y', z', rfl, hx⟩ := fits3.mp hp'
    simp [pad] at e
    simp [e]
theorem nicer_pad (h : RodIn q b0 w0 b1 w1 b2 w2) {p p' : Push} (hp : Fits (decks3 b0 w0 b1 w1 b2 w2) p) (hp' : Fits (decks3 b0 w0 b1 w1 b2 w2) p') : nicer (pad p) (pad p') = nicer p p' := by
  rcases decks_cases h with ⟨_, _, _, _, e1⟩ | ⟨_, _, _, e1⟩ | ⟨_, _, e1⟩ <;> rw [e1] at hp hp'
  · obtain ⟨x, rfl, hx⟩ := fits1.mp hp
    obtain ⟨x', rfl, hx⟩ := fits1.mp hp'
    simp [pad, nicer, total, below]
    rfl
  · obtain ⟨x, y, rfl, hx⟩ := fits2.mp hp
    obtain ⟨x', y', rfl, hx⟩ := fits2.mp hp'
    simp [pad, nicer, total, below]
    rfl
  · obtain ⟨x, y, z, rfl, hx⟩ := fits3.mp hp
    obtain ⟨x', y', z', rfl, hx⟩ := fits3.mp hp'
    simp [pad, nicer, total, below]
    rfl
end
/-! ### pushes of one deck -/
def push3 (bs : List Nat) (t : List Nat) (j : Nat) (to_ : Bool) (most n : Nat) : Option (List Nat) :=
  if (1 ≤ n ∧ n ≤ most) ∧ n ≤ (if to_ = true then bs.getD j 0 - t.getD j 0 else t.getD j 0) then some (t.set j (if to_ = true then t.getD j 0 + n else t.getD j 0 - n)) else none
theorem push_eq (l : List Deck) (p : Push) (x : Reach) (n : Nat) {d : Deck} {a : Nat} (e1 : l[x.deck]? = some d) (e2 : p[x.deck]? = some a) :
    pushed l p x n = if (1 ≤ n ∧ n ≤ x.most) ∧ (if x.to_ = true then a + n ≤ d.beads else n ≤ a) then some (p.set x.deck (if x.to_ = true then a + n else a - n)) else none := by
  unfold pushed
  rw [e1, e2]
  by_cases c : n < 1 ∨ x.most < n
  · rw [if_pos c, if_neg (fun z => by have := z.1; omega)]
  · have c' : 1 ≤ n ∧ n ≤ x.most := by omega
    rw [if_neg c]
    dsimp only
    cases x.to_ with
    | true =>
      simp only [if_true]
      by_cases k : a + n ≤ d.beads
      · rw [if_pos k, if_pos ⟨c', k⟩]
      · rw [if_neg k, if_neg (fun z => k z.2)]
    | false =>
      simp only [Bool.false_eq_true, if_false]
      by_cases k : n ≤ a
      · rw [if_pos k, if_pos ⟨c', k⟩]
      · rw [if_neg k, if_neg (fun z => k z.2)]
theorem push_none (l : List Deck) (p : Push) (x : Reach) (n : Nat) (e1 : l[x.deck]? = none) : pushed l p x n = none := by
  unfold pushed
  rw [e1]
  by_cases c : n < 1 ∨ x.most < n
  · rw [if_pos c]
  · rw [if_neg c]
theorem push_one {l : List Deck} {p : Push} {x : Reach} {n : Nat} {d : Deck} {a : Nat} {bs t : List Nat} (e1 : l[x.deck]? = some d) (e2 : p[x.deck]? = some a) (hb : bs.getD x.deck 0 = d.beads) (ha : t.getD x.deck 0 = a) (hle : a ≤ d.beads)
    (hs : ∀ v, pad (p.set x.deck v) = t.set x.deck v) : push3 bs t x.deck x.to_ x.most n = (pushed l p x n).map pad := by
  rw [push_eq l p x n e1 e2]
  unfold push3
  rw [hb, ha]
  cases x.to_ with
  | true =>
    simp only [if_true]
    by_cases k : (1 ≤ n ∧ n ≤ x.most) ∧ a + n ≤ d.beads
    · rw [if_pos k, if_pos ⟨k.1, by have := k.2; omega⟩]
      simp only [Option.map_some, hs]
    · rw [if_neg k, if_neg (fun z => k ⟨z.1, by have := z.2; have := z.1.1; omega⟩)]
      rfl
  | false =>
    simp only [Bool.false_eq_true, if_false]
    by_cases k : (1 ≤ n ∧ n ≤ x.most) ∧ n ≤ a
    · rw [if_pos k, if_pos k]
      simp only [Option.map_some, hs]
    · rw [if_neg k, if_neg k]
      rfl
theorem push_out {l : List Deck} {p : Push} {x : Reach} {n : Nat} {bs t : List Nat} (e1 : l[x.deck]? = none) (hb : bs.getD x.deck 0 = 0) (ha : t.getD x.deck 0 = 0) : push3 bs t x.deck x.to_ x.most n = (pushed l p x n).map pad := by
  rw [push_none l p x n e1]
  unfold push3
  rw [hb, ha, if_neg]
  · rfl
  · rintro ⟨⟨h1, _⟩, h2⟩
    cases x.to_ <;> simp at h2 <;> omega
theorem push_pad {q b0 w0 b1 w1 b2 w2 : Nat} (h : RodIn q b0 w0 b1 w1 b2 w2) {p : Push} (hp : Fits (decks3 b0 w0 b1 w1 b2 w2) p) {x : Reach} (hx : x.deck ≤ 2) (n : Nat) :
    push3 [b0, b1, b2] (pad p) x.deck x.to_ x.most n = (pushed (decks3 b0 w0 b1 w1 b2 w2) p x n).map pad := by
  have hx : x.deck = 0 ∨ x.deck = 1 ∨ x.deck = 2 := by omega
  rcases decks_cases h with ⟨e1, _, e2, _, e⟩ | ⟨_, e2, _, e⟩ | ⟨_, _, e⟩ <;> rw [e] at hp ⊢
  · obtain ⟨a, rfl, ha⟩ := fits1.mp hp
    rcases hx with c | c | c
    · exact push_one (d := ⟨b0, w0⟩) (a := a) (by rw [c]; rfl) (by rw [c]; rfl) (by rw [c]; rfl) (by rw [c]; rfl) ha (fun v => by rw [c]; rfl)
    · exact push_out (by rw [c]; rfl) (by rw [c]; exact e1) (by rw [c]; rfl)
    · exact push_out (by rw [c]; rfl) (by rw [c]; exact e2) (by rw [c]; rfl)
  · obtain ⟨a, b, rfl, ha, hb⟩ := fits2.mp hp
    rcases hx with c | c | c
    · exact push_one (d := ⟨b0, w0⟩) (a := a) (by rw [c]; rfl) (by rw [c]; rfl) (by rw [c]; rfl) (by rw [c]; rfl) ha (fun v => by rw [c]; rfl)
    · exact push_one (d := ⟨b1, w1⟩) (a := b) (by rw [c]; rfl) (by rw [c]; rfl) (by rw [c]; rfl) (by rw [c]; rfl) hb (fun v => by rw [c]; rfl)
    · exact push_out (by rw [c]; rfl) (by rw [c]; exact e2) (by rw [c]; rfl)
  · obtain ⟨a, b, d, rfl, ha, hb, hd⟩ := fits3.mp hp
    rcases hx with c | c | c
    · exact push_one (d := ⟨b0, w0⟩) (a := a) (by rw [c]; rfl) (by rw [c]; rfl) (by rw [c]; rfl) (by rw [c]; rfl) ha (fun v => by rw [c]; rfl)
    · exact push_one (d := ⟨b1, w1⟩) (a := b) (by rw [c]; rfl) (by rw [c]; rfl) (by rw [c]; rfl) (by rw [c]; rfl) hb (fun v => by rw [c]; rfl)
    · exact push_one (d := ⟨b2, w2⟩) (a := d) (by rw [c]; rfl) (by rw [c]; rfl) (by rw [c]; rfl) (by rw [c]; rfl) hd (fun v => by rw [c]; rfl)
theorem push_len {bs t u : List Nat} {j : Nat} {to_ : Bool} {most n : Nat} (e : push3 bs t j to_ most n = some u) : u.length = t.length := by
  unfold push3 at e
  generalize (if to_ = true then t.getD j 0 + n else t.getD j 0 - n) = v at e
  by_cases c : (1 ≤ n ∧ n ≤ most) ∧ n ≤ (if to_ = true then bs.getD j 0 - t.getD j 0 else t.getD j 0)
  · rw [if_pos c] at e
    rw [← Option.some.inj e]
    simp
  · rw [if_neg c] at e
    cases e
/-! ### strokes, steps -/
def SIn (s : List Nat) : Prop := s.length = 7 ∧ StrokeIn (s.getD 0 0) (s.getD 1 0) (s.getD 2 0) (s.getD 3 0) (s.getD 4 0) (s.getD 5 0) (s.getD 6 0)
def stroke3 (bs : List Nat) (t : List Nat) (s : List Nat) (n k : Nat) : Option (List Nat) := (push3 bs t (s.getD 0 0) (s.getD 1 0 == 1) (s.getD 2 0) n).bind fun u =>
  if (s.getD 3 0 = 0 ∧ s.getD 4 0 = 0 ∧ s.getD 5 0 = 0) then (if k = 0 then some u else none) else push3 bs u (s.getD 3 0) (s.getD 4 0 == 1) (s.getD 5 0) k
theorem stroke_len {bs t u s : List Nat} {n k : Nat} (e : stroke3 bs t s n k = some u) : u.length = t.length := by
  unfold stroke3 at e
  cases e1 : push3 bs t (s.getD 0 0) (s.getD 1 0 == 1) (s.getD 2 0) n with
  | none =>
    rw [e1] at e
    cases e
  | some v =>
    rw [e1, Option.bind_some] at e
    by_cases c : s.getD 3 0 = 0 ∧ s.getD 4 0 = 0 ∧ s.getD 5 0 = 0
    · rw [if_pos c] at e
      by_cases k0 : k = 0
      · rw [if_pos k0] at e
        cases e
        exact push_len e1
      · rw [if_neg k0] at e
        cases e
    · rw [if_neg c] at e
      exact (push_len e).trans (push_len e1)
theorem stroke_pad {q b0 w0 b1 w1 b2 w2 : Nat} (h : RodIn q b0 w0 b1 w1 b2 w2) {p : Push} (hp : Fits (decks3 b0 w0 b1 w1 b2 w2) p) {s : List Nat} (hs : SIn s) (n k : Nat) :
    stroke3 [b0, b1, b2] (pad p) s n k = (strokeOn (decks3 b0 w0 b1 w1 b2 w2) (strokeOf s) n k p).map pad := by
  obtain ⟨_, s1, s2, s3, s4, s5⟩ := hs
  unfold stroke3 strokeOn
  have e1 := push_pad h hp (x := (strokeOf s).first) (show s.getD 0 0 ≤ 2 from s1) n
  have e1 : push3 [b0, b1, b2] (pad p) (s.getD 0 0) (s.getD 1 0 == 1) (s.getD 2 0) n = (pushed (decks3 b0 w0 b1 w1 b2 w2) p (strokeOf s).first n).map pad := e1
  rw [e1]
  cases e2 : pushed (decks3 b0 w0 b1 w1 b2 w2) p (strokeOf s).first n with
  | none => rfl
  | some u =>
    have hu := pushed_fits hp e2
    rw [Option.map_some, Option.bind_some, Option.bind_some]
    by_cases c : s.getD 4 0 = 0
    · have es : (strokeOf s).second = none := by
        unfold strokeOf
        dsimp only
        rw [if_pos c]
      rw [if_pos (by omega), es]
      dsimp only
      by_cases k0 : k = 0
      · rw [if_pos k0, if_pos k0]
        rfl
      · rw [if_neg k0, if_neg k0]
        rfl
    · have es : (strokeOf s).second = some (reachOf (s.drop 3)) := by
        unfold strokeOf
        dsimp only
        rw [if_neg c]
      rw [if_neg (by omega), es]
      dsimp only
      have g0 : (reachOf (s.drop 3)).deck = s.getD 3 0 := Bm.getD_drop
      have g1 : (reachOf (s.drop 3)).to_ = (s.getD 4 0 == 1) := by
        show ((s.drop 3).getD 1 0 == 1) = _
        rw [Bm.getD_drop]
      have g2 : (reachOf (s.drop 3)).most = s.getD 5 0 := Bm.getD_drop
      have e3 := push_pad h hu (x := reachOf (s.drop 3)) (by rw [g0]; omega) k
      rw [g0, g1, g2] at e3
      exact e3
abbrev Step := Nat × Nat × Nat
def mv (s : Step) : Move := if s.2.1 = 0 then .carry else .act s.1 s.2.1 s.2.2
def isC (s : Step) : Bool := s.1 == 0 && (s.2.1 == 0 && s.2.2 == 0)
def StepIn (s : Step) : Prop := s.2.1 = 0 → s.1 = 0 ∧ s.2.2 = 0
theorem isC_iff {s : Step} (h : StepIn s) : isC s = true ↔ s.2.1 = 0 := by
  unfold isC StepIn at *
  simp only [Bool.and_eq_true, beq_iff_eq]
  constructor
  · intro z
    exact z.2.1
  · intro z
    obtain ⟨h1, h2⟩ := h z
    exact ⟨h1, z, h2⟩
def done3 (bs : List Nat) (ss : List (List Nat)) : List Step → List Nat → Option (List Nat)
  | [], t => some t
  | s :: l, t => if isC s = true then done3 bs ss l t else match ss[s.1]? with
    | none => none
    | some g => (stroke3 bs t g s.2.1 s.2.2).bind (done3 bs ss l)
theorem done_pad {q b0 w0 b1 w1 b2 w2 : Nat} (h : RodIn q b0 w0 b1 w1 b2 w2) {ss : List (List Nat)} {o : Nat} (hs : ∀ s ∈ ss, SIn s) : ∀ (l : List Step) (p : Push), (∀ s ∈ l, StepIn s) → Fits (decks3 b0 w0 b1 w1 b2 w2) p →
    done3 [b0, b1, b2] ss l (pad p) = (rodDone ⟨q, decks3 b0 w0 b1 w1 b2 w2⟩ ⟨o, ss.map strokeOf⟩ (l.map mv) p).map pad ∧ ∀ u, rodDone ⟨q, decks3 b0 w0 b1 w1 b2 w2⟩ ⟨o, ss.map strokeOf⟩ (l.map mv) p = some u → Fits (decks3 b0 w0 b1 w1 b2 w2) u
  | [], p, _, hp => ⟨rfl, fun u e => by cases e; exact hp⟩
  | s :: l, p, hl, hp => by
    have hs1 := hl s (List.mem_cons_self ..)
    have hl' : ∀ s ∈ l, StepIn s := fun s h => hl s (List.mem_cons_of_mem _ h)
    rw [done3, List.map_cons]
    by_cases c : s.2.1 = 0
    · rw [if_pos ((isC_iff hs1).mpr c)]
      have em : mv s = .carry := if_pos c
      rw [em]
      exact done_pad h hs l p hl' hp
    · rw [if_neg (fun z => c ((isC_iff hs1).mp z))]
      have em : mv s = .act s.1 s.2.1 s.2.2 := if_neg c
      rw [em, rodDone]
      dsimp only
      rw [List.getElem?_map]
      cases e : ss[s.1]? with
      | none => exact ⟨rfl, fun u z => by cases z⟩
      | some g =>
        dsimp only [Option.map_some]
        rw [stroke_pad h hp (hs g (List.mem_of_getElem? e))]
        cases e2 : strokeOn (decks3 b0 w0 b1 w1 b2 w2) (strokeOf g) s.2.1 s.2.2 p with
        | none => exact ⟨rfl, fun u z => by cases z⟩
        | some u => exact done_pad h hs l u hl' (stroke_fits hp e2)
theorem done_len {bs : List Nat} {ss : List (List Nat)} : ∀ {l : List Step} {t u : List Nat}, done3 bs ss l t = some u → u.length = t.length
  | [], t, u, e => by
    cases e
    rfl
  | s :: l, t, u, e => by
    rw [done3] at e
    by_cases c : isC s = true
    · rw [if_pos c] at e
      exact done_len e
    · rw [if_neg c] at e
      cases e1 : ss[s.1]? with
      | none =>
        rw [e1] at e
        cases e
      | some g =>
        rw [e1] at e
        dsimp only at e
        cases e2 : stroke3 bs t g s.2.1 s.2.2 with
        | none =>
          rw [e2] at e
          cases e
        | some v =>
          rw [e2, Option.bind_some] at e
          exact (done_len e).trans (stroke_len e2)
theorem carries_eq : ∀ {l : List Step}, (∀ s ∈ l, StepIn s) → carries (l.map mv) = l.countP isC
  | [], _ => rfl
  | s :: l, hl => by
    have ih := carries_eq (l := l) fun s h => hl s (List.mem_cons_of_mem _ h)
    have hs1 := hl s (List.mem_cons_self ..)
    unfold carries at ih ⊢
    rw [List.map_cons, List.filter_cons, List.countP_cons]
    by_cases c : s.2.1 = 0
    · have em : mv s = .carry := if_pos c
      rw [em, if_pos (by simp), if_pos ((isC_iff hs1).mpr c), List.length_cons, ih]
    · have em : mv s = .act s.1 s.2.1 s.2.2 := if_neg c
      rw [em, if_neg (by simp), if_neg (fun z => c ((isC_iff hs1).mp z)), ih]
      rfl
/-! ### the ways below the ratio -/
abbrev Ways := List (Nat × List Nat)
def wrow (q b w : Nat) (cp : Nat × List Nat) : Ways := (List.range (b + 1)).filterMap fun m => if cp.1 + m * w < q then some (cp.1 + m * w, cp.2 ++ [m]) else none
def wstep (q b w : Nat) (ws : Ways) : Ways := ws.flatMap (wrow q b w)
theorem mem_wstep {q b w c : Nat} {t : List Nat} {ws : Ways} : (c, t) ∈ wstep q b w ws ↔ ∃ c0 t0 m, (c0, t0) ∈ ws ∧ m ≤ b ∧ c = c0 + m * w ∧ t = t0 ++ [m] ∧ c < q := by
  unfold wstep wrow
  simp only [List.mem_flatMap, List.mem_filterMap, List.mem_range]
  constructor
  · rintro ⟨⟨c0, t0⟩, h1, m, hm, e⟩
    by_cases z : c0 + m * w < q
    · rw [if_pos z] at e
      cases e
      exact ⟨c0, t0, m, h1, by omega, rfl, rfl, z⟩
    · rw [if_neg z] at e
      cases e
  · rintro ⟨c0, t0, m, h1, hm, rfl, rfl, z⟩
    exact ⟨(c0, t0), h1, m, by omega, by rw [if_pos z]⟩
theorem wrow_len (q b w : Nat) (cp : Nat × List Nat) : (wrow q b w cp).length ≤ b + 1 := by
  unfold wrow
  refine Nat.le_trans (List.length_filterMap_le ..) ?_
  simp
theorem wstep_len (q b w : Nat) : ∀ ws : Ways, (wstep q b w ws).length ≤ ws.length * (b + 1)
  | [] => by simp [wstep]
  | cp :: ws => by
    have e : wstep q b w (cp :: ws) = wrow q b w cp ++ wstep q b w ws := rfl
    rw [e, List.length_append, List.length_cons, Nat.add_mul, Nat.one_mul]
    have := wrow_len q b w cp
    have := wstep_len q b w ws
    omega
/-- behind so many decks -/
def wayN (q : Nat) (b w : Nat → Nat) : Nat → Ways
  | 0 => [(0, [])]
  | j + 1 => wstep q (b j) (w j) (wayN q b w j)
theorem wayN_len {q : Nat} {b w : Nat → Nat} (hb : ∀ j, b j ≤ 15) : ∀ j, (wayN q b w j).length ≤ 16 ^ j
  | 0 => Nat.le_refl _
  | j + 1 => by
    have h1 := wstep_len q (b j) (w j) (wayN q b w j)
    have h2 := wayN_len (q := q) (w := w) hb j
    have h3 := hb j
    show (wstep q (b j) (w j) (wayN q b w j)).length ≤ 16 ^ (j + 1)
    rw [Nat.pow_succ]
    exact Nat.le_trans h1 (Nat.mul_le_mul h2 (by omega))
theorem mem_way3 {q : Nat} {b w : Nat → Nat} {c : Nat} {t : List Nat} (_ : 0 < q) : (c, t) ∈ wayN q b w 3 ↔ Fit3 (b 0) (b 1) (b 2) t ∧ c = w3 (w 0) (w 1) (w 2) t ∧ c < q := by
  show (c, t) ∈ wstep q (b 2) (w 2) (wstep q (b 1) (w 1) (wstep q (b 0) (w 0) [(0, [])])) ↔ _
  rw [mem_wstep]
  constructor
  · rintro ⟨c2, t2, z, h2, hz, rfl, rfl, hc⟩
    obtain ⟨c1, t1, y, h1, hy, rfl, rfl, _⟩ := mem_wstep.mp h2
    obtain ⟨c0, t0, x, h0, hx, rfl, rfl, _⟩ := mem_wstep.mp h1
    rw [List.mem_singleton] at h0
    cases h0
    exact ⟨⟨x, y, z, rfl, hx, hy, hz⟩, by simp [w3], hc⟩
  · rintro ⟨⟨x, y, z, rfl, hx, hy, hz⟩, rfl, hc⟩
    have e : w3 (w 0) (w 1) (w 2) [x, y, z] = x * w 0 + y * w 1 + z * w 2 := rfl
    rw [e] at hc ⊢
    refine ⟨x * w 0 + y * w 1, [x, y], z, mem_wstep.mpr ⟨x * w 0, [x], y, mem_wstep.mpr ⟨0, [], x, List.mem_singleton.mpr rfl, hx, by simp, rfl, by omega⟩, hy, rfl, rfl, by omega⟩, hz, rfl, rfl, hc⟩
/-- the nicest of the ways to push a count -/
def formIn (ws : Ways) (d : Nat) : Option (List Nat) := nicest ((ws.filter fun (x : Nat × List Nat) => x.1 == d).map fun (x : Nat × List Nat) => x.2)
theorem nicest_snoc (l : List Push) (p : Push) : nicest (l ++ [p]) = match nicest l with
    | none => some p
    | some q => if nicer p q = true then some p else some q := by
  unfold nicest
  rw [List.foldl_append]
  rfl
theorem formIn_snoc (ws : Ways) (c : Nat) (p : List Nat) (d : Nat) : formIn (ws ++ [(c, p)]) d = if c = d then (match formIn ws d with
    | none => some p
    | some q => if nicer p q = true then some p else some q) else formIn ws d := by
  unfold formIn
  rw [List.filter_append, List.map_append]
  by_cases e : c = d
  · rw [if_pos e]
    refine Eq.trans (congrArg nicest ?_) (nicest_snoc _ _)
    rw [List.filter_cons, if_pos (by simpa using e)]
    rfl
  · rw [if_neg e, List.filter_cons, if_neg (by simpa using e)]
    simp
section
variable {q b0 w0 b1 w1 b2 w2 : Nat} {b w : Nat → Nat}
theorem form_some (h : RodIn q b0 w0 b1 w1 b2 w2) (hb : b 0 = b0 ∧ b 1 = b1 ∧ b 2 = b2) (hw : w 0 = w0 ∧ w 1 = w1 ∧ w 2 = w2) {d : Nat} (hd : d < q) (he : ∃ p, Fits (decks3 b0 w0 b1 w1 b2 w2) p ∧ worthOf (decks3 b0 w0 b1 w1 b2 w2) p = d) :
    formIn (wayN q b w 3) d = some (pad (formOf ⟨q, decks3 b0 w0 b1 w1 b2 w2⟩ d)) := by
  obtain ⟨f1, f2, f3⟩ := form_is (r := ⟨q, decks3 b0 w0 b1 w1 b2 w2⟩) he
  unfold formIn
  have hm : ∀ t : List Nat, t ∈ ((wayN q b w 3).filter fun (x : Nat × List Nat) => x.1 == d).map (fun (x : Nat × List Nat) => x.2) ↔ Fit3 b0 b1 b2 t ∧ w3 w0 w1 w2 t = d := by
    intro t
    rw [List.mem_map]
    constructor
    · rintro ⟨⟨c, u⟩, hx, rfl⟩
      obtain ⟨h1, h2⟩ := List.mem_filter.mp hx
      obtain ⟨k1, k2, k3⟩ := (mem_way3 (by omega)).mp h1
      rw [hb.1, hb.2.1, hb.2.2] at k1
      rw [hw.1, hw.2.1, hw.2.2] at k2
      exact ⟨k1, by rw [← k2]; simpa using h2⟩
    · rintro ⟨h1, h2⟩
      refine ⟨(d, t), List.mem_filter.mpr ⟨(mem_way3 (by omega)).mpr ⟨?_, ?_, hd⟩, by simp⟩, rfl⟩
      · rw [hb.1, hb.2.1, hb.2.2]
        exact h1
      · rw [hw.1, hw.2.1, hw.2.2]
        exact h2.symm
  refine nicest_is (n := 3) (fun x hx => ?_) ((hm _).mpr ⟨fits_pad h f1, ?_⟩) fun x hx => ?_
  · obtain ⟨⟨_, _, _, e, _⟩, _⟩ := (hm x).mp hx
    rw [e]
    rfl
  · rw [← worth_pad h f1]
    exact f2
  · obtain ⟨h1, h2⟩ := (hm x).mp hx
    obtain ⟨p, hp, rfl⟩ := fits_of h h1
    have e := nicer_pad h hp f1
    exact e.trans (f3 p hp (by rw [← h2]; exact worth_pad h hp))
theorem form_none (h : RodIn q b0 w0 b1 w1 b2 w2) (hb : b 0 = b0 ∧ b 1 = b1 ∧ b 2 = b2) (hw : w 0 = w0 ∧ w 1 = w1 ∧ w 2 = w2) {d : Nat} (he : ¬ (d < q ∧ ∃ p, Fits (decks3 b0 w0 b1 w1 b2 w2) p ∧ worthOf (decks3 b0 w0 b1 w1 b2 w2) p = d)) :
    formIn (wayN q b w 3) d = none := by
  unfold formIn
  have e : (wayN q b w 3).filter (fun (x : Nat × List Nat) => x.1 == d) = [] := by
    rw [List.filter_eq_nil_iff]
    rintro ⟨c, t⟩ hx z
    have z : c = d := by simpa using z
    have hq : 0 < q := by have := h.1.1; omega
    obtain ⟨k1, k2, k3⟩ := (mem_way3 hq).mp hx
    rw [hb.1, hb.2.1, hb.2.2] at k1
    rw [hw.1, hw.2.1, hw.2.2] at k2
    obtain ⟨p, hp, e⟩ := fits_of h k1
    exact he ⟨by omega, p, hp, by rw [worth_pad h hp, e, ← k2, z]⟩
  rw [e]
  rfl
end
/-! ### how many digits have a form -/
theorem pigeon : ∀ {n : Nat} {l : List Nat}, l.Nodup → (∀ x ∈ l, x < n) → l.length ≤ n
  | 0, [], _, _ => Nat.le_refl _
  | 0, x :: l, _, h => absurd (h x (List.mem_cons_self ..)) (by omega)
  | n + 1, l, hn, h => by
    have h1 : (l.filter fun x => decide (x ≠ n)).length ≤ n := pigeon (hn.filter _) fun x hx => by
      obtain ⟨a, b⟩ := List.mem_filter.mp hx
      have := h x a
      have := of_decide_eq_true b
      omega
    by_cases c : n ∈ l
    · have := hn.length_le_of_subset (l₂ := n :: l.filter fun x => decide (x ≠ n)) (fun x hx => by
        by_cases e : x = n
        · exact List.mem_cons.mpr (.inl e)
        · exact List.mem_cons.mpr (.inr (List.mem_filter.mpr ⟨hx, decide_eq_true e⟩)))
      rw [List.length_cons] at this
      omega
    · have e : l.filter (fun x => decide (x ≠ n)) = l := List.filter_eq_self.mpr fun x hx => decide_eq_true fun z => c (by rw [← z]; exact hx)
      rw [e] at h1
      omega
/-! ### what's wrong with a rod -/
def DeckOk (b w : Nat) : Prop := (b = 0 ∧ w = 0) ∨ DeckIn b w
theorem rodIn_iff {q b0 w0 b1 w1 b2 w2 : Nat} : RodIn q b0 w0 b1 w1 b2 w2 ↔ (2 ≤ q ∧ q ≤ 20) ∧ (DeckOk b0 w0 ∧ DeckOk b1 w1 ∧ DeckOk b2 w2) ∧ b0 ≠ 0 ∧ (b2 = 0 ∨ 0 < b1) := by
  unfold RodIn DeckOk DeckIn
  omega
/-- a rod's numbers may be a rod's -/
def RIn (g : List Nat) : Prop := RodIn (g.getD 0 0) (g.getD 1 0) (g.getD 2 0) (g.getD 3 0) (g.getD 4 0) (g.getD 5 0) (g.getD 6 0)
def bsOf (g : List Nat) : List Nat := [g.getD 1 0, g.getD 3 0, g.getD 5 0]
def mostOf (g : List Nat) : Nat := g.getD 1 0 * g.getD 2 0 + g.getD 3 0 * g.getD 4 0 + g.getD 5 0 * g.getD 6 0
def beOf (g : List Nat) (j : Nat) : Nat := g.getD (1 + 2 * j) 0
def woOf (g : List Nat) (j : Nat) : Nat := g.getD (2 + 2 * j) 0
def waysOf (g : List Nat) (j : Nat) : Ways := wayN (g.getD 0 0) (beOf g) (woOf g) j
/-- every digit can be pushed -/
def Whole (g : List Nat) : Prop := ∀ d, d < g.getD 0 0 → formIn (waysOf g 3) d ≠ none
def formR (g : List Nat) (d : Nat) : List Nat := pad (formOf (rodOf g) d)
theorem rod_eq {g : List Nat} (h : RIn g) : rodOf g = ⟨g.getD 0 0, decks3 (g.getD 1 0) (g.getD 2 0) (g.getD 3 0) (g.getD 4 0) (g.getD 5 0) (g.getD 6 0)⟩ := rod_is (rodGood_iff.mpr h)
theorem whole_is {g : List Nat} (h : RIn g) : (rodOf g).whole = true ↔ Whole g := by
  rw [rod_eq h, whole_iff]
  unfold Whole
  constructor
  · intro z d hd
    have e := form_some (b := beOf g) (w := woOf g) h ⟨rfl, rfl, rfl⟩ ⟨rfl, rfl, rfl⟩ hd (z d hd)
    intro k
    have k : formIn (wayN (g.getD 0 0) (beOf g) (woOf g) 3) d = none := k
    rw [e] at k
    cases k
  · intro z d hd
    refine Classical.byContradiction fun c => ?_
    exact z d hd (form_none (b := beOf g) (w := woOf g) h ⟨rfl, rfl, rfl⟩ ⟨rfl, rfl, rfl⟩ fun k => c k.2)
theorem form_at {g : List Nat} (h : RIn g) (hw : Whole g) {d : Nat} (hd : d < g.getD 0 0) : formIn (waysOf g 3) d = some (formR g d) := by
  have hz := (whole_is h).mpr hw
  rw [rod_eq h, whole_iff] at hz
  unfold formR
  rw [rod_eq h]
  exact form_some (b := beOf g) (w := woOf g) h ⟨rfl, rfl, rfl⟩ ⟨rfl, rfl, rfl⟩ hd (hz d hd)
theorem form_fits {g : List Nat} (h : RIn g) (hw : Whole g) {d : Nat} (hd : d < g.getD 0 0) : Fits (decks3 (g.getD 1 0) (g.getD 2 0) (g.getD 3 0) (g.getD 4 0) (g.getD 5 0) (g.getD 6 0)) (formOf (rodOf g) d) := by
  have hz := (whole_is h).mpr hw
  rw [rod_eq h, whole_iff] at hz
  have := (form_is (r := ⟨g.getD 0 0, decks3 (g.getD 1 0) (g.getD 2 0) (g.getD 3 0) (g.getD 4 0) (g.getD 5 0) (g.getD 6 0)⟩) (hz d hd)).1
  rw [rod_eq h]
  exact this
theorem wrong2 {g : List Nat} (h : ¬ RIn g) : rodWrong g = 2 := by
  unfold rodWrong
  rw [if_pos]
  exact Bool.eq_false_iff.mpr fun z => h (rodGood_iff.mp z)
theorem most_is {g : List Nat} (h : RIn g) : (rodOf g).most = mostOf g := by
  rw [rod_eq h]
  exact most3 h
theorem wrong3 {g : List Nat} (h : RIn g) (hm : 255 < mostOf g) : rodWrong g = 3 := by
  unfold rodWrong
  rw [if_neg (by rw [rodGood_iff.mpr h]; simp), if_pos (by rw [most_is h]; exact hm)]
theorem wrong4 {g : List Nat} (h : RIn g) (hm : ¬ 255 < mostOf g) (hw : ¬ Whole g) : rodWrong g = 4 := by
  unfold rodWrong
  rw [if_neg (by rw [rodGood_iff.mpr h]; simp), if_neg (by rw [most_is h]; exact hm), if_pos]
  exact Bool.eq_false_iff.mpr fun z => hw ((whole_is h).mp z)
theorem wrong0 {g : List Nat} (h : RIn g) (hm : ¬ 255 < mostOf g) (hw : Whole g) : rodWrong g = 0 := by
  unfold rodWrong
  rw [if_neg (by rw [rodGood_iff.mpr h]; simp), if_neg (by rw [most_is h]; exact hm), if_neg]
  rw [(whole_is h).mpr hw]
  simp
theorem right0 {g : List Nat} (h : rodWrong g = 0) : RIn g ∧ Whole g := by
  by_cases c : RIn g
  · by_cases m : 255 < mostOf g
    · rw [wrong3 c m] at h
      cases h
    · by_cases w : Whole g
      · exact ⟨c, w⟩
      · rw [wrong4 c m w] at h
        cases h
  · rw [wrong2 c] at h
    cases h
/-! ### what isn't right with a rule -/
def why3 (g : List Nat) (ss : List (List Nat)) (op d x : Nat) (l : List Step) : Option Nat := match done3 (bsOf g) ss l (formR g x) with
  | none => some 1
  | some t => if t ≠ formR g (after op (g.getD 0 0) d x) then some 2 else if l.countP isC ≠ (if over op (g.getD 0 0) d x = true then 1 else 0) then some 3 else none
theorem after_lt {op q d x : Nat} (h : 0 < q) : after op q d x < q := by
  unfold after
  by_cases e : op = 0
  · rw [if_pos e]
    exact Nat.mod_lt _ h
  · rw [if_neg e]
    exact Nat.mod_lt _ h
theorem rule_eq {g : List Nat} (h : RIn g) (hw : Whole g) {ss : List (List Nat)} {o : Nat} (hs : ∀ s ∈ ss, SIn s) {op d x : Nat} (hx : x < g.getD 0 0) {l : List Step} (hl : ∀ s ∈ l, StepIn s) :
    ruleWrong (rodOf g) ⟨o, ss.map strokeOf⟩ op d x (l.map mv) = why3 g ss op d x l := by
  have f1 := form_fits h hw hx
  have f2 := form_fits h hw (after_lt (op := op) (q := g.getD 0 0) (d := d) (x := x) (by omega))
  have hr : (rodOf g).ratio = g.getD 0 0 := rfl
  obtain ⟨e1, e2⟩ := done_pad h (o := o) hs l _ hl f1
  unfold ruleWrong why3 formR
  rw [hr]
  have e1 : done3 (bsOf g) ss l (pad (formOf (rodOf g) x)) = (rodDone (rodOf g) ⟨o, ss.map strokeOf⟩ (l.map mv) (formOf (rodOf g) x)).map pad := by
    conv => rhs; rw [rod_eq h]
    rw [show rodOf g = ⟨g.getD 0 0, decks3 (g.getD 1 0) (g.getD 2 0) (g.getD 3 0) (g.getD 4 0) (g.getD 5 0) (g.getD 6 0)⟩ from rod_eq h] at e1
    rw [rod_eq h]
    exact e1
  rw [← rod_eq h] at e2
  rw [e1]
  cases e : rodDone (rodOf g) ⟨o, ss.map strokeOf⟩ (l.map mv) (formOf (rodOf g) x) with
  | none => rfl
  | some p =>
    have hp := e2 p e
    rw [Option.map_some]
    dsimp only
    rw [carries_eq hl]
    by_cases c : p = formOf (rodOf g) (after op (g.getD 0 0) d x)
    · rw [if_neg (show ¬ (p ≠ formOf (rodOf g) (after op (g.getD 0 0) d x)) from fun z => z c), if_neg (show ¬ (pad p ≠ pad (formOf (rodOf g) (after op (g.getD 0 0) d x))) from fun z => z (by rw [c]))]
    · rw [if_pos c, if_pos (show pad p ≠ pad (formOf (rodOf g) (after op (g.getD 0 0) d x)) from fun z => c (pad_inj h hp f2 z))]
/-! ### a book's rules -/
def stepsOf (l : List Nat) : List Step := (List.range ((l.length - 3) / 3)).map fun j => (l.getD (3 + 3 * j) 0, l.getD (3 + 3 * j + 1) 0, l.getD (3 + 3 * j + 2) 0)
def key3 (l : List Nat) : List Nat := [l.getD 0 0, l.getD 1 0, l.getD 2 0]
theorem row_parts {l : List Nat} (h : rowGood l = true) : 3 ≤ l.length ∧ l.length % 3 = 0 ∧ l.length ≤ 33 ∧ (groups 3 (l.drop 3)).all moveGood = true := by
  unfold rowGood at h
  simp only [Bool.and_eq_true, decide_eq_true_eq, beq_iff_eq] at h
  exact ⟨h.1, h.2.1, h.2.2.1, h.2.2.2.2.2.2⟩
theorem steps_at {l : List Nat} (h : rowGood l = true) : groups 3 (l.drop 3) = (List.range ((l.length - 3) / 3)).map fun j => ((l.drop 3).drop (3 * j)).take 3 := by
  obtain ⟨h3, hm, _, _⟩ := row_parts h
  rw [Bm.groups_eq (by decide) (by rw [List.length_drop]; omega), List.length_drop]
theorem three {l : List Nat} {j i : Nat} (hi : i < 3) : (((l.drop 3).drop (3 * j)).take 3).getD i 0 = l.getD (3 + 3 * j + i) 0 := by
  rw [Bm.getD_take_drop hi, Bm.getD_drop, Nat.add_assoc]
theorem moves_eq {l : List Nat} (h : rowGood l = true) : (rowRule l).moves = (stepsOf l).map mv := by
  show (groups 3 (l.drop 3)).map moveOf = _
  rw [steps_at h]
  unfold stepsOf
  rw [List.map_map, List.map_map]
  refine List.map_congr_left fun j _ => ?_
  show moveOf (((l.drop 3).drop (3 * j)).take 3) = mv _
  unfold moveOf mv
  rw [three (by decide), three (by decide), three (by decide)]
  rfl
theorem steps_in {l : List Nat} (h : rowGood l = true) : ∀ s ∈ stepsOf l, StepIn s := by
  intro s hs
  obtain ⟨j, hj, rfl⟩ := List.mem_map.mp hs
  obtain ⟨_, _, _, ha⟩ := row_parts h
  rw [steps_at h] at ha
  have q := List.all_eq_true.mp ha _ (List.mem_map.mpr ⟨j, hj, rfl⟩)
  unfold moveGood at q
  rw [three (by decide), three (by decide), three (by decide)] at q
  intro z
  have z : l.getD (3 + 3 * j + 1) 0 = 0 := z
  rw [if_pos z] at q
  simpa using q
/-- the row for an op, a d, an x -/
def rowFor (rows : List (List Nat)) (op d x : Nat) : Option (List Nat) := rows.find? fun l => key3 l == [op, d, x]
def stepsFor (rows : List (List Nat)) (op d x : Nat) : List Step := ((rowFor rows op d x).map stepsOf).getD []
theorem ruleOf_eq {rows : List (List Nat)} (h : ∀ l ∈ rows, rowGood l = true) (op d x : Nat) : ruleOf (rows.map rowRule) op d x = (stepsFor rows op d x).map mv := by
  unfold ruleOf stepsFor rowFor
  rw [List.find?_map, Option.map_map]
  have e : ((fun (r : Rule) => r.op == op && (r.d == d && r.x == x)) ∘ rowRule) = fun l => key3 l == [op, d, x] := by
    funext l
    show (l.getD 0 0 == op && (l.getD 1 0 == d && l.getD 2 0 == x)) = ([l.getD 0 0, l.getD 1 0, l.getD 2 0] == [op, d, x])
    rw [Bool.eq_iff_iff]
    simp
  rw [e]
  cases e2 : rows.find? fun l => key3 l == [op, d, x] with
  | none => rfl
  | some l => exact moves_eq (h l (List.mem_of_find?_eq_some e2))
theorem stepsFor_in {rows : List (List Nat)} (h : ∀ l ∈ rows, rowGood l = true) (op d x : Nat) : ∀ s ∈ stepsFor rows op d x, StepIn s := by
  unfold stepsFor rowFor
  cases e2 : rows.find? fun l => key3 l == [op, d, x] with
  | none =>
    intro s hs
    simp at hs
  | some l => exact steps_in (h l (List.mem_of_find?_eq_some e2))
theorem from_ok : ∀ (l : List (List Nat)) (i : Nat) (b b' : Book), bookFrom i b l = .ok b' → b' = b ++ l.map rowRule
  | [], i, b, b', e => by
    cases e
    simp
  | r :: l, i, b, b', e => by
    unfold bookFrom at e
    by_cases c : rowGood r = false ∨ b.any (fun (x : Rule) => x.op == (rowRule r).op && (x.d == (rowRule r).d && x.x == (rowRule r).x)) = true
    · rw [if_pos c] at e
      cases e
    · rw [if_neg c] at e
      rw [from_ok l _ _ _ e, List.map_cons, List.append_assoc]
      rfl
theorem nats_ints (l : List Nat) : BkNeutral.nats (BkNeutral.ints l) = l := by
  unfold BkNeutral.nats BkNeutral.ints
  rw [List.map_map]
  exact List.map_id'' (fun _ => rfl) l
theorem ints_nats {l : List Int} (h : ∀ x ∈ l, 0 ≤ x) : BkNeutral.ints (BkNeutral.nats l) = l := by
  unfold BkNeutral.nats BkNeutral.ints
  rw [List.map_map]
  refine (List.map_congr_left fun x hx => ?_).trans (List.map_id l)
  exact Int.toNat_of_nonneg (h x hx)
theorem ints_nn (l : List Nat) : ∀ x ∈ BkNeutral.ints l, 0 ≤ x := by
  intro x hx
  obtain ⟨n, _, rfl⟩ := List.mem_map.mp hx
  exact Int.natCast_nonneg n
theorem rows_ints (rows : List (List Nat)) : BkNeutral.rows (rows.map BkNeutral.ints) = rows := by
  unfold BkNeutral.rows
  rw [List.map_map]
  exact List.map_id'' (fun l => nats_ints l) rows
theorem rows_nn (rows : List (List Nat)) : ∀ ns ∈ rows.map BkNeutral.ints, ∀ x ∈ ns, 0 ≤ x := by
  intro ns hn
  obtain ⟨l, _, rfl⟩ := List.mem_map.mp hn
  exact ints_nn l
theorem book_ok {rows : List (List Nat)} (h : Bm.bad 0 [] (rows.map BkNeutral.ints) = none) : bookOf rows = .ok (rows.map rowRule) := by
  have e := Bm.from_eq (rows.map BkNeutral.ints) 0 [] [] (rows_nn rows) rfl
  rw [h, rows_ints] at e
  unfold bookOf
  cases k : bookFrom 0 [] rows with
  | error f =>
    rw [k] at e
    cases e
  | ok b => rw [from_ok rows 0 [] b k]; rfl
theorem book_bad {rows : List (List Nat)} {i : Nat} (h : Bm.bad 0 [] (rows.map BkNeutral.ints) = some i) : bookOf rows = .error ⟨9, i⟩ := by
  have e := Bm.from_eq (rows.map BkNeutral.ints) 0 [] [] (rows_nn rows) rfl
  rw [h, rows_ints] at e
  unfold bookOf
  cases k : bookFrom 0 [] rows with
  | error f =>
    rw [k] at e
    obtain ⟨r, p⟩ := f
    have e : [(-5 : Int), (r : Int), (p : Int)] = [-5, 9, (i : Int)] := e
    injection e with _ e
    injection e with e1 e
    injection e with e2 e
    have e1 : r = 9 := by omega
    have e2 : p = i := by omega
    rw [e1, e2]
  | ok b =>
    rw [k] at e
    cases e
theorem bad_none : ∀ (l : List (List Int)) (i : Nat) (ks : List (List Int)), Bm.bad i ks l = none → (∀ ns ∈ l, Bm.rowB ns = true) ∧ ∀ j ns, l[j]? = some ns → ¬ Bm.keyOf ns ∈ ks ++ (l.take j).map Bm.keyOf
  | [], _, _, _ => ⟨fun _ h => by simp at h, fun j ns e => by simp at e⟩
  | r :: l, i, ks, h => by
    unfold Bm.bad at h
    by_cases c : Bm.rowB r = false ∨ Bm.keyOf r ∈ ks
    · rw [if_pos c] at h
      cases h
    · rw [if_neg c] at h
      obtain ⟨h1, h2⟩ := bad_none l _ _ h
      refine ⟨fun ns hn => ?_, fun j ns e => ?_⟩
      · rcases List.mem_cons.mp hn with rfl | hn
        · cases k : Bm.rowB ns with
          | true => rfl
          | false => exact absurd (.inl k) c
        · exact h1 ns hn
      · cases j with
        | zero =>
          cases e
          rw [List.take_zero, List.map_nil, List.append_nil]
          exact fun z => c (.inr z)
        | succ j =>
          have := h2 j ns e
          rw [List.take_succ_cons, List.map_cons]
          rwa [List.append_assoc] at this
theorem key_ints (l : List Nat) : Bm.keyOf (BkNeutral.ints l) = BkNeutral.ints (key3 l) := by
  have e : ∀ i, Bm.at0 (BkNeutral.ints l) i = ((l.getD i 0 : Nat) : Int) := fun i => by
    have q := Bm.nats_getD (BkNeutral.ints l) i
    rw [nats_ints] at q
    have := Bm.at0_nn (ints_nn l) i
    omega
  unfold Bm.keyOf
  rw [e, e, e]
  rfl
theorem at_ints (l : List Nat) (i : Nat) : Bm.at0 (BkNeutral.ints l) i = ((l.getD i 0 : Nat) : Int) := by
  have q := Bm.nats_getD (BkNeutral.ints l) i
  rw [nats_ints] at q
  have := Bm.at0_nn (ints_nn l) i
  omega
theorem good_rows {rows : List (List Nat)} (h : Bm.bad 0 [] (rows.map BkNeutral.ints) = none) : (∀ l ∈ rows, rowGood l = true) ∧ ∀ j l, rows[j]? = some l → ∀ l' ∈ rows.take j, key3 l' ≠ key3 l := by
  obtain ⟨h1, h2⟩ := bad_none _ _ _ h
  refine ⟨fun l hl => ?_, fun j l e l' hl' z => ?_⟩
  · have := Bm.row_eq (ints_nn l)
    rw [nats_ints] at this
    rw [this]
    exact h1 _ (List.mem_map.mpr ⟨l, hl, rfl⟩)
  · refine h2 j (BkNeutral.ints l) (by rw [List.getElem?_map, e]; rfl) ?_
    rw [List.nil_append, ← List.map_take, key_ints, ← z]
    exact List.mem_map.mpr ⟨BkNeutral.ints l', List.mem_map.mpr ⟨l', hl', rfl⟩, key_ints l'⟩
/-! ### what right is due -/
theorem map_fs {α β γ : Type} {f : α → Option β} {g : β → γ} : ∀ l : List α, (l.findSome? fun a => (f a).map g) = (l.findSome? f).map g
  | [] => rfl
  | a :: l => by
    rw [List.findSome?_cons, List.findSome?_cons]
    cases f a with
    | none => exact map_fs l
    | some b => rfl
/-- the first op, d, x of a rod -/
def onRod (g : List Nat) (ss rows : List (List Nat)) : Option (List Nat) := [0, 1].findSome? fun op => (List.range' 1 (g.getD 0 0 - 1)).findSome? fun d => (List.range (g.getD 0 0)).findSome? fun x => (why3 g ss op d x (stepsFor rows op d x)).map fun w => [op, d, x, w]
def onMake (gs ss rows : List (List Nat)) : Option (List Nat) := gs.zipIdx.findSome? fun y => (onRod y.1 ss rows).map fun l => y.2 :: l
theorem zipIdx_map {α β : Type} (f : α → β) : ∀ (l : List α) (k : Nat), (l.map f).zipIdx k = (l.zipIdx k).map fun y => (f y.1, y.2)
  | [], _ => rfl
  | a :: l, k => by
    rw [List.map_cons, List.zipIdx_cons, List.zipIdx_cons, List.map_cons, zipIdx_map f l (k + 1)]
theorem fs_congr {α β : Type} {f g : α → Option β} {l : List α} (h : ∀ a ∈ l, f a = g a) : l.findSome? f = l.findSome? g := by
  induction l with
  | nil => rfl
  | cons a l ih =>
    rw [List.findSome?_cons, List.findSome?_cons, h a (List.mem_cons_self ..), ih fun b hb => h b (List.mem_cons_of_mem _ hb)]
theorem mem_zipIdx {α : Type} {l : List α} {k : Nat} {y : α × Nat} (h : y ∈ l.zipIdx k) : y.1 ∈ l := by
  have := List.mem_map_of_mem (f := Prod.fst) h
  rwa [List.zipIdx_map_fst] at this
theorem wrong_eq {gs ss rows : List (List Nat)} {o : Nat} (hg : ∀ g ∈ gs, RIn g ∧ Whole g) (hs : ∀ s ∈ ss, SIn s) (hr : ∀ l ∈ rows, rowGood l = true) :
    bookWrong (gs.map rodOf) ⟨o, ss.map strokeOf⟩ (rows.map rowRule) = onMake gs ss rows := by
  rw [wrong_if]
  unfold onMake
  rw [zipIdx_map, List.findSome?_map]
  refine fs_congr fun y hy => ?_
  obtain ⟨h1, h2⟩ := hg y.1 (mem_zipIdx hy)
  unfold onRod
  rw [← map_fs]
  dsimp only [Function.comp]
  refine fs_congr fun op _ => ?_
  rw [← map_fs]
  refine fs_congr fun d _ => ?_
  rw [← map_fs]
  refine fs_congr fun x hx => ?_
  rw [ruleOf_eq hr, rule_eq h1 h2 hs (List.mem_range.mp hx) (stepsFor_in hr op d x), Option.map_map]
  rfl
/-- a fault told -/
def tellF (r p : Nat) : List Int := [-5, (r : Int), (p : Int)]
theorem right_make {m h : List Nat} {rows : List (List Nat)} {e : Fault} (h1 : makeOf m = .error e) : PyYqacca.right (BkNeutral.ints m) (BkNeutral.ints h) (rows.map BkNeutral.ints) = tellF e.rule e.place := by
  show BkNeutral.told (Bk.answer (.right (BkNeutral.nats (BkNeutral.ints m)) (BkNeutral.nats (BkNeutral.ints h)) (BkNeutral.rows (rows.map BkNeutral.ints)))) = _
  rw [nats_ints, nats_ints, rows_ints]
  unfold Bk.answer Bk.both
  dsimp only
  rw [h1]
  rfl
theorem right_hand {m h : List Nat} {rows : List (List Nat)} {x : Make} {e : Fault} (h1 : makeOf m = .ok x) (h2 : handOf h = .error e) : PyYqacca.right (BkNeutral.ints m) (BkNeutral.ints h) (rows.map BkNeutral.ints) = tellF e.rule e.place := by
  show BkNeutral.told (Bk.answer (.right (BkNeutral.nats (BkNeutral.ints m)) (BkNeutral.nats (BkNeutral.ints h)) (BkNeutral.rows (rows.map BkNeutral.ints)))) = _
  rw [nats_ints, nats_ints, rows_ints]
  unfold Bk.answer Bk.both
  dsimp only
  rw [h1, h2]
  rfl
theorem right_book {m h : List Nat} {rows : List (List Nat)} {x : Make} {y : Hand} {e : Fault} (h1 : makeOf m = .ok x) (h2 : handOf h = .ok y) (h3 : bookOf rows = .error e) : PyYqacca.right (BkNeutral.ints m) (BkNeutral.ints h) (rows.map BkNeutral.ints) = tellF e.rule e.place := by
  show BkNeutral.told (Bk.answer (.right (BkNeutral.nats (BkNeutral.ints m)) (BkNeutral.nats (BkNeutral.ints h)) (BkNeutral.rows (rows.map BkNeutral.ints)))) = _
  rw [nats_ints, nats_ints, rows_ints]
  unfold Bk.answer Bk.both Bk.withBook
  dsimp only
  rw [h1, h2]
  dsimp only
  rw [h3]
  rfl
def tellR (o : Option (List Nat)) : List Int := match o with
  | none => [1]
  | some l => 0 :: BkNeutral.ints l
theorem right_ok {m h : List Nat} {rows : List (List Nat)} {x : Make} {y : Hand} {b : Book} (h1 : makeOf m = .ok x) (h2 : handOf h = .ok y) (h3 : bookOf rows = .ok b) : PyYqacca.right (BkNeutral.ints m) (BkNeutral.ints h) (rows.map BkNeutral.ints) = tellR (bookWrong x y b) := by
  show BkNeutral.told (Bk.answer (.right (BkNeutral.nats (BkNeutral.ints m)) (BkNeutral.nats (BkNeutral.ints h)) (BkNeutral.rows (rows.map BkNeutral.ints)))) = _
  rw [nats_ints, nats_ints, rows_ints]
  unfold Bk.answer Bk.both Bk.withBook
  dsimp only
  rw [h1, h2]
  dsimp only
  rw [h3]
  dsimp only
  cases bookWrong x y b <;> rfl
end Rm

/-! The forms deck by deck: of each count only the nicest way is kept. -/
namespace Fo
open Na Sm Rm
theorem total_snoc : ∀ (l : List Nat) (m : Nat), total (l ++ [m]) = total l + m
  | [], m => by simp [total]
  | a :: l, m => by
    have := total_snoc l m
    show a + total (l ++ [m]) = a + total l + m
    omega
theorem below_snoc : ∀ (a b : List Nat) (m : Nat), a.length = b.length → below (a ++ [m]) (b ++ [m]) = below a b
  | [], [], m, _ => by simp [below]
  | x :: a, y :: b, m, h => by
    have := below_snoc a b m (by simpa using h)
    show (decide (x < y) || (x == y && below (a ++ [m]) (b ++ [m]))) = (decide (x < y) || (x == y && below a b))
    rw [this]
  | [], _ :: _, _, h => by simp at h
  | _ :: _, [], _, h => by simp at h
theorem nicer_snoc {a b : List Nat} (m : Nat) (h : a.length = b.length) : nicer (a ++ [m]) (b ++ [m]) = nicer a b := by
  unfold nicer
  rw [total_snoc, total_snoc, below_snoc b a m h.symm]
  congr 1
  · exact decide_eq_decide.mpr (by omega)
  · congr 1
    rw [Bool.eq_iff_iff]
    simp
/-- the ways to push d -/
def at_ (ws : Ways) (d : Nat) : List Push := (ws.filter fun (x : Nat × List Nat) => x.1 == d).map fun (x : Nat × List Nat) => x.2
theorem mem_at {ws : Ways} {d : Nat} {p : Push} : p ∈ at_ ws d ↔ (d, p) ∈ ws := by
  unfold at_
  rw [List.mem_map]
  constructor
  · rintro ⟨⟨c, q⟩, h, rfl⟩
    obtain ⟨h1, h2⟩ := List.mem_filter.mp h
    have e : c = d := by simpa using h2
    rw [← e]
    exact h1
  · intro h
    exact ⟨(d, p), List.mem_filter.mpr ⟨h, by simp⟩, rfl⟩
theorem form_none {ws : Ways} {d : Nat} : formIn ws d = none ↔ ∀ p, (d, p) ∉ ws := by
  constructor
  · intro h p hp
    have hm := mem_at.mpr hp
    have e : formIn ws d = nicest (at_ ws d) := rfl
    rw [e] at h
    unfold nicest at h
    obtain ⟨l1, l2, el⟩ := List.append_of_mem hm
    have : ∀ (l : List Push) (a : Option Push), a ≠ none → l.foldl (fun (a : Option Push) (p : Push) => match a with
      | none => some p
      | some q => if nicer p q = true then some p else some q) a ≠ none := by
      intro l
      induction l with
      | nil => intro a ha; exact ha
      | cons x l ih =>
        intro a ha
        rw [List.foldl_cons]
        refine ih _ ?_
        cases a with
        | none => simp
        | some q => dsimp only; split <;> simp
    rw [el, List.foldl_append, List.foldl_cons] at h
    refine this _ _ ?_ h
    split <;> (try split) <;> simp
  · intro h
    have e : at_ ws d = [] := by
      cases q : at_ ws d with
      | nil => rfl
      | cons p l => exact absurd (mem_at.mp (by rw [q]; exact List.mem_cons_self)) (h p)
    show nicest (at_ ws d) = none
    rw [e]
    rfl
theorem form_some {ws : Ways} {d n : Nat} {p : Push} (hl : ∀ x ∈ ws, x.2.length = n) : formIn ws d = some p ↔ (d, p) ∈ ws ∧ ∀ x, (d, x) ∈ ws → nicer x p = false := by
  have hl' : ∀ x ∈ at_ ws d, x.length = n := fun x hx => hl _ (mem_at.mp hx)
  constructor
  · intro h
    have hne : at_ ws d ≠ [] := fun z => by
      have e : formIn ws d = nicest (at_ ws d) := rfl
      rw [e, z] at h
      cases h
    obtain ⟨q, h1, h2, h3⟩ := nicest_some hl' hne
    have e : formIn ws d = nicest (at_ ws d) := rfl
    rw [e, h1] at h
    cases h
    exact ⟨mem_at.mp h2, fun x hx => h3 x (mem_at.mpr hx)⟩
  · rintro ⟨h1, h2⟩
    exact nicest_is hl' (mem_at.mpr h1) fun x hx => h2 x (mem_at.mp hx)
/-- of fl, each count once, the nicest of ws -/
structure Best (n : Nat) (fl ws : Ways) : Prop where
  len : ∀ x ∈ ws, x.2.length = n
  sub : ∀ x ∈ fl, formIn ws x.1 = some x.2
  all : ∀ d p, formIn ws d = some p → (d, p) ∈ fl
theorem Best.mem {n : Nat} {fl ws : Ways} (h : Best n fl ws) {x : Nat × List Nat} (hx : x ∈ fl) : x ∈ ws := ((form_some h.len).mp (h.sub x hx)).1
theorem step_len {n q b w : Nat} {ws : Ways} (h : ∀ x ∈ ws, x.2.length = n) : ∀ x ∈ wstep q b w ws, x.2.length = n + 1 := fun ⟨c, p⟩ hx => by
  obtain ⟨c0, t0, m, h0, _, _, rfl, _⟩ := mem_wstep.mp hx
  have := h _ h0
  show (t0 ++ [m]).length = n + 1
  rw [List.length_append]
  have e : t0.length = n := this
  rw [e]
  rfl
/-- a deck more: it's the same from the nicest alone -/
theorem form_step {n q b w : Nat} {fl ws : Ways} (h : Best n fl ws) (d : Nat) : formIn (wstep q b w fl) d = formIn (wstep q b w ws) d := by
  have hsub : ∀ c p, (c, p) ∈ wstep q b w fl → (c, p) ∈ wstep q b w ws := fun c p hx => by
    obtain ⟨c0, t0, m, h0, r⟩ := mem_wstep.mp hx
    exact mem_wstep.mpr ⟨c0, t0, m, h.mem h0, r⟩
  have l2 := step_len (q := q) (b := b) (w := w) h.len
  have l1 : ∀ x ∈ wstep q b w fl, x.2.length = n + 1 := fun ⟨c, p⟩ hx => l2 _ (hsub c p hx)
  cases e : formIn (wstep q b w ws) d with
  | none => exact form_none.mpr fun p hp => form_none.mp e p (hsub d p hp)
  | some P =>
    obtain ⟨h1, h2⟩ := (form_some l2).mp e
    refine (form_some l1).mpr ⟨?_, fun x hx => h2 x (hsub d x hx)⟩
    obtain ⟨c, p, m, h0, hm, rfl, rfl, hq⟩ := mem_wstep.mp h1
    cases e2 : formIn ws c with
    | none => exact absurd h0 (form_none.mp e2 p)
    | some p' =>
      obtain ⟨k1, k2⟩ := (form_some h.len).mp e2
      by_cases z : p = p'
      · rw [z]
        exact mem_wstep.mpr ⟨c, p', m, h.all c p' e2, hm, rfl, rfl, hq⟩
      · exfalso
        have hlen : p.length = p'.length := (h.len _ h0).trans (h.len _ k1).symm
        rcases nicer_tot hlen z with t | t
        · rw [k2 p h0] at t
          cases t
        · have := h2 (p' ++ [m]) (mem_wstep.mpr ⟨c, p', m, k1, hm, rfl, rfl, hq⟩)
          rw [nicer_snoc m hlen.symm, t] at this
          cases this
theorem best_one : Best 0 [(0, [])] [(0, [])] := by
  have hl : ∀ x ∈ ([(0, [])] : Ways), x.2.length = 0 := fun x hx => by rw [List.mem_singleton.mp hx]; rfl
  refine ⟨hl, fun x hx => ?_, fun d p h => ((form_some hl).mp h).1⟩
  rw [List.mem_singleton.mp hx]
  rfl
end Fo

set_option Elab.async false
set_option maxRecDepth 100000
set_option maxHeartbeats 2000000
/-! Words of mine over the hand layer, whatever the program: a def as its callers want it, loops, lists, ranges. -/
namespace Com
open PySem PySem.Spec PyProof.Rows L2
open PySem.W (WData)
/-! ### and, or of truth values -/
theorem andR {p r : Bool} {Q : VK} {H : Hp} {T : Prop} (k : Q (.bl (p && r)) H) (h1 : p = true → Q (.bl r) H → T) : if p = true then T else Q (.bl false) H := by
  cases p with
  | true => exact iteT (h1 rfl k)
  | false => exact iteF k
theorem orR {p r : Bool} {Q : VK} {H : Hp} {T : Prop} (k : Q (.bl (p || r)) H) (h1 : p = false → Q (.bl r) H → T) : if p = true then Q (.bl true) H else T := by
  cases p with
  | true => exact iteT k
  | false => exact iteF (h1 rfl k)
/-! ### Python's own names -/
theorem bt_len : bootBuiltins "len" = some (.builtin "len") := by decide +kernel
theorem bt_abs : bootBuiltins "abs" = some (.builtin "abs") := by decide +kernel
theorem bt_min : bootBuiltins "min" = some (.builtin "min") := by decide +kernel
theorem bt_max : bootBuiltins "max" = some (.builtin "max") := by decide +kernel
theorem bt_sum : bootBuiltins "sum" = some (.builtin "sum") := by decide +kernel
theorem bt_sorted : bootBuiltins "sorted" = some (.builtin "sorted") := by decide +kernel
theorem bt_divmod : bootBuiltins "divmod" = some (.builtin "divmod") := by decide +kernel
theorem bt_any : bootBuiltins "any" = some (.builtin "any") := by decide +kernel
theorem bt_all : bootBuiltins "all" = some (.builtin "all") := by decide +kernel
theorem bt_list : bootBuiltins "list" = some (.type "list") := by decide +kernel
theorem bt_tuple : bootBuiltins "tuple" = some (.type "tuple") := by decide +kernel
theorem bt_int : bootBuiltins "int" = some (.type "int") := by decide +kernel
theorem bt_bool : bootBuiltins "bool" = some (.type "bool") := by decide +kernel
theorem bt_str : bootBuiltins "str" = some (.type "str") := by decide +kernel
theorem bt_dict : bootBuiltins "dict" = some (.type "dict") := by decide +kernel
/-! ### a module's written ints -/
abbrev IntG (mg : Str → Option Value) (x : Str) (i : Int) : Prop := ∃ t, mg x = some (.int i t)
theorem pe_gi {X : Cx} {x : Str} {i : Int} {pos : Pos} (hg : Gl X x) (h : IntG X.mg x i) (hd : (x == ("__debug__" : Str)) = false := by decide) : PE X (.Name x pos) (tC (.int i)) := by
  obtain ⟨t, ht⟩ := h
  exact pe_glob hg ht ⟨t, rfl⟩ hd
/-! ### a module's written tuple of ints -/
abbrev TupG (K : PySem.W.Frag) (mg : Str → Option Value) (x : Str) (vs : List V) : Prop := ∃ a, mg x = some (.ref a) ∧ ∀ H : Hp, SqT K H a vs
theorem pe_gt {X : Cx} {x : Str} {vs : List V} {pos : Pos} (hg : Gl X x) (h : TupG X.K X.mg x vs) (hd : (x == ("__debug__" : Str)) = false := by decide) : PE X (.Name x pos) (fun _ H Q => ∀ a, SqT X.K H a vs → Q (.ref a) H) := by
  obtain ⟨a, ha, hs⟩ := h
  intro pins s σ H Q I q
  exact pe_glob (v := .ref a) hg ha rfl hd pins s σ H Q I (q a (hs H))
/-! ### xs[i] for xs[i] += e -/
theorem get_list {X : Cx} : PGet X (rIxL X.K) := by
  intro pins s σ H x y v u Q I rx ry h
  obtain ⟨p, xs, i, z, rfl, rfl, hq, he, q⟩ := h
  cases rx
  obtain ⟨t, rfl⟩ := ry
  obtain ⟨its, r, pl, hz⟩ := I.list hq
  obtain ⟨j, h1, h2, h3, h4, h5⟩ := atI_get he
  obtain ⟨w, ew, rw'⟩ := r.get h2
  have hl := r.length
  have hn := line63
  have fin : EP X pins σ Q w s := ⟨z, H, I, rw', q⟩
  by_cases h0 : 0 ≤ i
  · have hj : i.toNat = j := by
      rw [seqIndex_of h0 h5] at h1
      exact Option.some.inj h1
    exact wpAny_getItem_list pl.isList h0 (by omega) (by rw [hj]; simpa using ew) fin
  · have hj : (i + (its.toArray.size : Int)).toNat = j := by
      rw [seqIndex_neg (by omega) h4] at h1
      rw [List.size_toArray, ← hl]
      exact Option.some.inj h1
    exact wpAny_getItem_list_neg pl.isList (by omega) (by rw [List.size_toArray] <;> omega) (by omega) (by rw [hj]; simpa using ew) fin
/-! ### rules of the layer, the written part named (a comprehension's block has it by another way) -/
section
variable {X : Cx} (K : PySem.W.Frag)
def rLen : List V → Hp → VK → Prop := fun xs H Q => ∃ p ys, xs = [.ref p] ∧ (SqL K H p ys ∨ SqT K H p ys) ∧ Q (.int ys.length) H
def rListOf : List V → Hp → VK → Prop := fun xs H Q => ∃ p ys, xs = [.ref p] ∧ (SqL K H p ys ∨ SqT K H p ys) ∧ ∀ l, H l = none → Q (.ref l) (upd H l (.lst ys))
def rTupOf : List V → Hp → VK → Prop := fun xs H Q => ∃ p ys, xs = [.ref p] ∧ ((SqL K H p ys ∧ ∀ l, H l = none → Q (.ref l) (upd H l (.tup ys))) ∨ (SqT K H p ys ∧ Q (.ref p) H))
theorem ix_l (e : X.K = K := by rfl) : IxR X (rIxL K) := by subst e; exact ix_list
theorem ix_t (e : X.K = K := by rfl) : IxR X (rIxT K) := by subst e; exact ix_tup
theorem sl_l (e : X.K = K := by rfl) : SlR X (rSlL K) := by subst e; exact sl_list
theorem sl_t (e : X.K = K := by rfl) : SlR X (rSlT K) := by subst e; exact sl_tup
theorem len_s (e : X.K = K := by rfl) : CallR X (.builtin "len") (rLen K) := by subst e; exact call_len_seq
theorem list_o (e : X.K = K := by rfl) : CallR X (.type "list") (rListOf K) := by subst e; exact call_list_of
theorem tup_o (e : X.K = K := by rfl) : CallR X (.type "tuple") (rTupOf K) := by subst e; exact call_tuple_of
theorem sum_l (hc : X.calm = true) (e : X.K = K := by rfl) : CallR X (.builtin "sum") (rSum K) := by subst e; exact cr_sum hc
theorem max_l (hc : X.calm = true) (e : X.K = K := by rfl) : CallR X (.builtin "max") (rMax K) := by subst e; exact cr_max hc
theorem min_l (hc : X.calm = true) (e : X.K = K := by rfl) : CallR X (.builtin "min") (rMin K) := by subst e; exact cr_min hc
theorem any_l (hc : X.calm = true) (e : X.K = K := by rfl) : CallR X (.builtin "any") (rAny K) := by subst e; exact cr_any hc
theorem all_l (hc : X.calm = true) (e : X.K = K := by rfl) : CallR X (.builtin "all") (rAll K) := by subst e; exact cr_all hc
theorem in_s (e : X.K = K := by rfl) : OpR X (compareOp .In) (rIn K false) := by subst e; exact op_in_seq
theorem notin_s (e : X.K = K := by rfl) : OpR X (compareOp .NotIn) (rIn K true) := by subst e; exact op_notIn_seq
theorem eq_d (hu : X.A.units + 64 < cLine) (e : X.K = K := by rfl) : OpR X (compareOp .Eq) (rEqD K) := by subst e; exact op_eqD hu
theorem ne_d (hu : X.A.units + 64 < cLine) (e : X.K = K := by rfl) : OpR X (compareOp .NotEq) (rNeD K) := by subst e; exact op_neD hu
theorem lt_t (hu : X.A.units < cLine) (e : X.K = K := by rfl) : OpR X (compareOp .Lt) (rLtT K) := by subst e; exact op_ltT hu
end
/-! ### a def, as it stands and as its callers want it -/
structure DefAt (K : PySem.W.Frag) (mg : Str → Option Value) (x : Str) (st : Stmt) (ps : List Str) (f : Addr) (fd : FuncData) : Prop where
  fn : Fun K x x st f fd
  mg : mg x = some (.ref f)
  ba : ∀ us : List Value, us.length = ps.length → bindArgs fd ⟨us, []⟩ = pure (ps.zip us)
theorem DefAt.bd {K : PySem.W.Frag} {mg : Str → Option Value} {x : Str} {st : Stmt} {ps : List Str} {f : Addr} {fd : FuncData} (D : DefAt K mg x st ps f fd) : Binds K fd ps [] := .all D.ba
theorem DefAt.mk' {K : PySem.W.Frag} {mg : Str → Option Value} {h : Heap} {x : Str} {st : Stmt} {ps : List Str} {f : Addr} {oc : Value} {od an : Option Addr} {osl : Array (Option Value)} {kV doc pm cdv ct : Value} (X : K.In h) (G : h.Ns mainGlobals mg)
    (a : PySem.W.nsIn K mainGlobals x = some (some (.ref f))) (l : K.lookup f = some ⟨oc, od, .func (PySem.W.fnOf x x (defArgs st) (defBody st) (defScope st) .none kV doc pm an cdv ct), osl⟩) (c : PySem.W.codeIn K cdv x = true) (k : PySem.W.keepIn K (.ref f) = true)
    (b : ∀ (kV doc pm : Value) (an : Option Addr) (cdv ct : Value) (us : List Value), us.length = ps.length → bindArgs (PySem.W.fnOf x x (defArgs st) (defBody st) (defScope st) .none kV doc pm an cdv ct) ⟨us, []⟩ = pure (ps.zip us)) :
    ∃ f fd, DefAt K mg x st ps f fd := by
  have F := fun_mk (st := st) l c k
  exact ⟨f, _, F, PySem.W.mg_of X G a, b kV doc pm an cdv ct⟩
structure Callee (P : Program) (w : World) (K : PySem.W.Frag) (mg : Str → Option Value) (base : Heap) (k : Nat) (x : Str) (ps : List Str) (sp : Sp) : Prop where
  ex : ∃ (f : Addr) (fd : FuncData), FnOk P w K mg base CX0 k f fd ps sp ∧ mg x = some (.ref f) ∧ PySem.W.keepIn K (.ref f) = true ∧ Binds K fd ps []
theorem Callee.of {P : Program} {w : World} {K : PySem.W.Frag} {mg : Str → Option Value} {base : Heap} {k : Nat} {x : Str} {st : Stmt} {ps : List Str} {sp : Sp} (D : ∃ f fd, DefAt K mg x st ps f fd) (h : ∀ f fd, DefAt K mg x st ps f fd → FnOk P w K mg base CX0 k f fd ps sp) : Callee P w K mg base k x ps sp := by
  obtain ⟨f, fd, D⟩ := D
  exact ⟨f, fd, h f fd D, D.mg, D.fn.kp, D.bd⟩
theorem pe_c {X : Cx} {k j : Nat} {x : Str} {ps : List Str} {sp : Sp} {p pos : Pos} {e : Expr} {es : List Expr} {t : TA} (C : Callee X.prog X.w X.K X.mg X.base k x ps sp) (hr : Room j X.A) (hk : k ≤ j) (hg : Gl X x) (ha : PA X (e :: es) t)
    (hdb : (x == ("__debug__" : Str)) = false := by decide) (he : starEach (e :: es) X.env = (false, eval e X.env) :: starEach es X.env := by rfl) (hpl : (backTo pos (starEach es X.env)).any (·.1) = false := by rfl) :
    PE X (.Call (.Name x p) (e :: es) [] pos) (tCall sp [] E0 t) := by
  obtain ⟨f, fd, F, hm, kp, b⟩ := C.ex
  exact pe_call F (hr.mono hk) hg hm kp b .nil pass0 ha hdb he hpl
theorem pe_c0 {X : Cx} {k j : Nat} {x : Str} {ps : List Str} {sp : Sp} {p pos : Pos} (C : Callee X.prog X.w X.K X.mg X.base k x ps sp) (hr : Room j X.A) (hk : k ≤ j) (hg : Gl X x) (hdb : (x == ("__debug__" : Str)) = false := by decide) :
    PE X (.Call (.Name x p) [] [] pos) (tCall sp [] E0 tNil) := by
  obtain ⟨f, fd, F, hm, kp, b⟩ := C.ex
  exact pe_call0 F (hr.mono hk) hg hm kp b .nil pass0 hdb
/-! ### lists of ints -/
/-- the i-th number, 0 where there's none -/
def at0 (ns : List Int) (i : Nat) : Int := ns.getD i 0
theorem at0_of {ns : List Int} {i : Nat} {z : Int} (h : ns[i]? = some z) : at0 ns i = z := by
  unfold at0
  rw [List.getD_eq_getElem?_getD, h]
  rfl
theorem ints_get {ns : List Int} {j : Nat} (h : j < ns.length) : (ns.map V.int)[j]? = some (.int (at0 ns j)) := by
  rw [List.getElem?_map, List.getElem?_eq_getElem h]
  unfold at0
  rw [List.getD_eq_getElem?_getD, List.getElem?_eq_getElem h]
  rfl
theorem ints_at {ns : List Int} {j : Nat} {z : Int} (h : j < ns.length) (e : z = (j : Int) := by omega) : atI (ns.map V.int) z = some (.int (at0 ns j)) := by
  subst e
  exact atI_nat (ints_get h)
/-- an item of a mapped list -/
theorem map_at {α : Type} {g : α → V} {l : List α} {i : Nat} {y : V} (h : (l.map g)[i]? = some y) : ∃ c, l[i]? = some c ∧ y = g c := by
  rw [List.getElem?_map] at h
  cases e : l[i]? with
  | none =>
    rw [e] at h
    cases h
  | some c =>
    rw [e] at h
    exact ⟨c, rfl, (Option.some.inj h).symm⟩
theorem take_snoc {α : Type} {l : List α} {i : Nat} {x : α} (h : l[i]? = some x) : l.take (i + 1) = l.take i ++ [x] := by
  obtain ⟨hi, e⟩ := List.getElem?_eq_some_iff.mp h
  rw [List.take_add_one, h]
  rfl
/-! ### heaps -/
theorem Same.new {H H' : Hp} {p : Addr} {o : HO} (s : Same H H') (n : H' p = none) : Same H (upd H' p o) := fun b u e => by
  rw [upd_ne (ne_of_none (s b u e) n)]
  exact s b u e
/-- what is changed wasn't there -/
theorem Same.put {H H' : Hp} {p : Addr} {o : HO} (s : Same H H') (n : H p = none) : Same H (upd H' p o) := fun b u e => by
  rw [upd_ne (ne_of_none e n)]
  exact s b u e
theorem Same.seqT {K : PySem.W.Frag} {H H' : Hp} {a : Addr} {xs : List V} (e : Same H H') (h : SqT K H a xs) : SqT K H' a xs := by
  rcases h with (h | ⟨o, h⟩) | h
  · exact .inl (.inl (e _ _ h))
  · exact .inl (.inr ⟨o, e _ _ h⟩)
  · exact .inr h
/-! ### loops -/
theorem for_enum {K : PySem.W.Frag} {a : Addr} {xs : List V} {g : TG} {tb : TS} {D : Ends} {σ : L2.St} {H : Hp} (Pv : Nat → L2.St → Hp → Prop) (h0 : Pv 0 σ H) (hl : ∀ i σ H, i ≤ xs.length → Pv i σ H → SqL K H a xs)
    (hs : ∀ i x T σ H, xs[i]? = some x → H T = none → Pv i σ H → g (.ref T) σ (upd H T (.tup [.int (i : Nat), x])) fun σ2 H2 => tb { D with nx := Pv (i + 1), ct := Pv (i + 1), bk := D.nx } σ2 H2) (hd : ∀ σ H, Pv xs.length σ H → D.nx σ H) :
    ∃ W : Nat → Nat → L2.St → Hp → Prop, (∃ m, W 0 m σ H) ∧ ∀ i m σ H, W i m σ H →
      ((Ite K a).stop i H ∧ D.nx σ H) ∨ ((Ite K a).go i H ∧ ∃ N : L2.St → Hp → Prop, (∀ σ' H', N σ' H' → ∃ m', m' < m ∧ W (i + 1) m' σ' H') ∧ ∀ x H', (Ite K a).yld i H x H' → g x σ H' fun σ2 H2 => tb { D with nx := N, ct := N, bk := D.nx } σ2 H2) := by
  refine ⟨fun i m σ H => m = xs.length - i ∧ i ≤ xs.length ∧ Pv i σ H, ⟨xs.length, by simp, Nat.zero_le _, h0⟩, ?_⟩
  rintro i m σ H ⟨rfl, hi, p⟩
  have q := hl i σ H hi p
  by_cases hlt : i < xs.length
  · refine .inr ⟨⟨xs, xs[i], q, by simp [hlt]⟩, Pv (i + 1), fun σ' H' p' => ⟨xs.length - (i + 1), by omega, rfl, hlt, p'⟩, fun x H' y => ?_⟩
    obtain ⟨T, y, rfl, hT, rfl, hy⟩ := y
    exact hs i y T σ _ (hy xs q) hT p
  · have e : i = xs.length := by omega
    subst e
    exact .inl ⟨⟨xs, q, Nat.le_refl _⟩, hd σ H p⟩
/-- range(i, j, c), the step above 0, small numbers -/
theorem rgC {i j c : Int} {n : Nat} (hc : 0 < c) (hc2 : c < 1000000) (hi : -1000000 ≤ i) (hi2 : i ≤ 1000000) (hj : -1000000 ≤ j) (hj2 : j ≤ 1000000) (hn : (n : Int) = if i < j then (j - i - 1) / c + 1 else 0) : RgC i j c n := by
  have e : Builtin.Range.rangeSize i j c = (n : Int) := by
    unfold Builtin.Range.rangeSize
    rw [if_pos (by omega), hn]
  have b : (n : Int) ≤ 3000000 := by
    rw [hn]
    by_cases q : i < j
    · rw [if_pos q]
      have := Int.ediv_le_self (a := j - i - 1) c (by omega)
      omega
    · rw [if_neg q]
      decide
  have fit : ∀ z : Int, -4000000 ≤ z → z ≤ 4000000 → Builtin.Range.rangeFitsLong z = true := fun z h1 h2 => by
    unfold Builtin.Range.rangeFitsLong
    rw [Bool.and_eq_true, decide_eq_true_eq, decide_eq_true_eq]
    omega
  refine ⟨by omega, by omega, ?_, e⟩
  unfold Builtin.Range.small
  rw [e, fit i (by omega) (by omega), fit j (by omega) (by omega), fit c (by omega) (by omega), fit n (by omega) (by omega), if_pos (show c > 0 from hc), fit (j + (c - 1)) (by omega) (by omega), Bool.or_true]
  rfl
/-! ### the request: rows of numbers as they stand -/
theorem rows_dw {K : PySem.W.Frag} {H : Hp} : ∀ (rows : List (List Int)) (xs : List V), DwAll K H xs (rows.map fun r => WData.list (r.map WData.int)) →
    ∃ as : List Addr, xs = as.map V.ref ∧ as.length = rows.length ∧ ∀ (i : Nat) (a : Addr) (ns : List Int), as[i]? = some a → rows[i]? = some ns → SqL K H a (ns.map V.int)
  | [], xs, h => by
    cases h
    exact ⟨[], rfl, rfl, fun i a ns e => by simp at e⟩
  | r :: rows, xs, h => by
    cases h with
    | cons h1 h2 =>
      obtain ⟨as, e, hl, hr⟩ := rows_dw rows _ h2
      subst e
      cases h1 with
      | lst hs ha =>
        have e := ints_dw r _ ha
        subst e
        rename_i a
        refine ⟨a :: as, rfl, by rw [List.length_cons, List.length_cons, hl], fun i b ns e1 e2 => ?_⟩
        cases i with
        | zero =>
          cases e1
          cases e2
          exact hs
        | succ i => exact hr i b ns e1 e2
end Com

set_option Elab.async false
set_option maxRecDepth 100000
set_option maxHeartbeats 2000000
/-! More rules over the hand layer: a list above a list, how often a tuple stands in a list, comprehensions over a range with a step. -/
namespace Com
open PySem PySem.Spec PyProof.Rows L2
open PySem.W (WData)
theorem ints_item : ∀ {vs : List Value} {ns : List Int}, IntsAre vs ns → ∀ j, j < vs.length → ∃ t, vs[j]? = some (.int (ns.getD j 0) t) ∧ ns.drop j = ns.getD j 0 :: ns.drop (j + 1)
  | _, _, .nil, j, h => absurd h (Nat.not_lt_zero _)
  | _, _, .cons n t h, 0, _ => ⟨t, rfl, rfl⟩
  | _, _, .cons n t h, j + 1, hj => by
    obtain ⟨u, e1, e2⟩ := ints_item h j (Nat.lt_of_succ_lt_succ hj)
    exact ⟨u, e1, e2⟩
theorem rcGt_int (A : Around) (s : Shared) (a : Int) (t : Tok) (c : Int) (u : Tok) (prog : Program) (w : World) (E : Value → Shared → Prop) (Q : Value → Shared → Prop) (h : Q (.bool (decide (c < a))) s) :
    wpAny (model prog w) A (richCompare .Gt (.int a t) (.int c u)) Q E s :=
  (PyProof.Rows.gt_int h : wpAny (model prog w) A (compareOp .Gt (.int a t) (.int c u)) Q E s)
section
open PySem.SeqAt
open PySem.AutoSeq1 (wpAny_loadPart')
open PySem.MeetsSeq PySem.MeetsSeq2 PySem.MeetsSeq3 PySem.SeqRoads2
theorem gt_loopAt (l b : Addr) (items items2 : Array Value) (n n2 : Nat) (dd dd2 : Option Addr) (sl sl2 : Array (Option Value)) (hsz : items.size = items2.size) (ns ms : List Int) (hi : IntsAre items.toList ns) (hj : IntsAre items2.toList ms) (k : Nat) :
    ∀ i : Nat, items.size - i = k → Meets (Builtin.«list.__eq__.loop» ⟨[.ref l, .ref b, rawInt i, rawInt 4], []⟩)
      (fun _ R s => s.heap.get? l = some { cls := .type "list", dict := dd, data := .seq items n, slots := sl } ∧ s.heap.get? b = some { cls := .type "list", dict := dd2, data := .seq items2 n2, slots := sl2 } ∧
        R (.ok (.ret (.bool (HT.lexLt (ms.drop i) (ns.drop i))))) s) := by
  have z1 : items.size = ns.length := by rw [← hi.length]; simp
  have z2 : items2.size = ms.length := by rw [← hj.length]; simp
  induction k with
  | zero =>
    intro i hk prog w A R s h
    obtain ⟨hp, g, d, tk, os⟩ := s; obtain ⟨hl, hb, h⟩ := h
    wp_walk using wpAny_loadPart' hl, wpAny_loadPart' hb
    have hi1 : items[((i : Nat) : Int).toNat]? = none := by simp; omega
    have hi2 : items2[((i : Nat) : Int).toNat]? = none := by simp; omega
    rw [List.drop_eq_nil_of_le (by omega), List.drop_eq_nil_of_le (by omega), HT.lexLt_nil_nil] at h
    rw [hi1, hi2]
    wp_walk using wpAny_loadPart' hl, wpAny_loadPart' hb
    show R (.ok (.ret (.bool (decide (items.size > items2.size))))) _
    rw [hsz]
    simpa using h
  | succ k ih =>
    intro i hk prog w A R s h
    obtain ⟨hp, g, d, tk, os⟩ := s; obtain ⟨hl, hb, h⟩ := h
    wp_walk using wpAny_loadPart' hl, wpAny_loadPart' hb
    obtain ⟨t, e1, d1⟩ := ints_item hi i (by simp; omega)
    obtain ⟨u, e2, d2⟩ := ints_item hj i (by simp; omega)
    have hi1 : items[((i : Nat) : Int).toNat]? = some (.int (ns.getD i 0) t) := by
      rw [Int.toNat_natCast, ← e1]
      simp
    have hi2 : items2[((i : Nat) : Int).toNat]? = some (.int (ms.getD i 0) u) := by
      rw [Int.toNat_natCast, ← e2]
      simp
    have hc : ((i : Int) + 1) = ((i + 1 : Nat) : Int) := by push_cast; rfl
    rw [d1, d2, HT.lexLt_cons] at h
    rw [hi1, hi2]
    generalize ns.getD i 0 = a at *
    generalize ms.getD i 0 = c at *
    refine wpAny_bind (EqAt.int_int a t c u prog w _ _ ?_)
    cases hb' : (a == c) with
    | true =>
      have e : c = a := (eq_of_beq hb').symm
      rw [if_pos e] at h
      wp_walk
      rw [hc]
      exact ⟨plainId_quiet plain_eq_loop _, codeAny_builtin entry_eq_loop (by
        rw [Around.under_plainId plain_eq_loop _]
        exact ih (i + 1) (by omega) prog w A R _ ⟨hl, hb, h⟩)⟩
    | false =>
      have e : ¬ c = a := fun z => by rw [z] at hb'; simp at hb'
      rw [if_neg e] at h
      wp_walk using wpAny_loadPart' hl, wpAny_loadPart' hb
      rw [hi1, hi2]
      have hri := rcGt_int A.in1 ⟨hp, g, d, tk, os⟩ a t c u prog w
      wp_walk using hri
      exact h
theorem list_gt_ints (l b : Addr) (items items2 : Array Value) (n n2 : Nat) (dd dd2 : Option Addr) (sl sl2 : Array (Option Value)) (hsz : items.size = items2.size) (ns ms : List Int) (hi : IntsAre items.toList ns) (hj : IntsAre items2.toList ms) :
    Meets (Builtin.«list.__gt__» ⟨[.ref l, .ref b], []⟩)
      (fun _ R s => s.heap.get? l = some { cls := .type "list", dict := dd, data := .seq items n, slots := sl } ∧ s.heap.get? b = some { cls := .type "list", dict := dd2, data := .seq items2 n2, slots := sl2 } ∧
        R (.ok (.ret (.bool (HT.lexLt ms ns)))) s) := by
  intro prog w A R s h
  obtain ⟨hp, g, d, tk, os⟩ := s; obtain ⟨hl, hb, h⟩ := h
  have f3 := AutoSeq1.sub_list_list
  wp_walk using wpAny_loadPart' hl, wpAny_loadPart' hb
  exact ⟨plainId_quiet plain_eq_loop _, codeAny_builtin entry_eq_loop (by
    rw [Around.under_plainId plain_eq_loop _]
    exact gt_loopAt l b items items2 n n2 dd dd2 sl sl2 hsz ns ms hi hj _ 0 rfl prog w A R _ ⟨hl, hb, h⟩)⟩
end
/-- xs > ys, ints, as many -/
def rGtL (K : PySem.W.Frag) : R2 := fun x y H Q => ∃ a b ns ms, x = .ref a ∧ y = .ref b ∧ SqL K H a (ns.map V.int) ∧ SqL K H b (ms.map V.int) ∧ ns.length = ms.length ∧ Q (.bl (HT.lexLt ms ns)) H
theorem op_gtL {X : Cx} (hu : X.A.units < cLine) : OpR X (compareOp .Gt) (rGtL X.K) := by
  intro pins s σ H x y v u Q I rx ry h
  obtain ⟨a, b, ns, ms, rfl, rfl, ha, hb, hl, q⟩ := h
  cases rx
  cases ry
  obtain ⟨its, r1, ⟨⟨cls, dd, data, sl⟩, n, ho, hc, _, hd⟩, _⟩ := I.list ha
  obtain ⟨its2, r2, ⟨⟨cls2, dd2, data2, sl2⟩, n2, ho2, hc2, _, hd2⟩, _⟩ := I.list hb
  simp only at hc hd hc2 hd2
  subst hc hd hc2 hd2
  have i1 : IntsAre its.toArray.toList ns := intsAre_of r1
  have i2 : IntsAre its2.toArray.toList ms := intsAre_of r2
  have hsz : its.toArray.size = its2.toArray.size := by
    have h1 := i1.length
    have h2 := i2.length
    simp only [List.size_toArray]
    simp only at h1 h2
    omega
  exact richCompare_meets_room (op := .Gt) ⟨_, ho, rfl⟩ ⟨_, ho2, rfl⟩ PySem.F.slot_list_gt PySem.F.entry_list_gt (PySem.F.args_list_gt_2 _ _) (list_gt_ints a b its.toArray its2.toArray n n2 dd dd2 sl sl2 hsz ns ms i1 i2)
    ⟨ho, ho2, show Value.bool (HT.lexLt ms ns) ≠ Value.notImplemented ∧ EP X pins σ Q (.bool (HT.lexLt ms ns)) s from ⟨(fun x => nomatch x), ⟨.bl (HT.lexLt ms ns), H, I, rfl, q⟩⟩⟩ hu
theorem gt_l {X : Cx} (K : PySem.W.Frag) (hu : X.A.units < cLine) (e : X.K = K := by rfl) : OpR X (compareOp .Gt) (rGtL K) := by subst e; exact op_gtL hu
/-! ### how often 0 0 0 stands in a list of tuples of three -/
def isZ (H : Hp) : Value → Bool
  | .ref t => match H t with
    | some (.tup [.int a, .int b, .int c]) => a == 0 && (b == 0 && c == 0)
    | _ => false
  | _ => false
def rCountZ (K : PySem.W.Frag) : V → List V → Hp → VK → Prop := fun x xs H Q => ∃ (a c : Addr) (ts : List Addr), x = V.ref a ∧ xs = [V.ref c] ∧ SqL K H a (ts.map V.ref) ∧ SqT K H c [.int 0, .int 0, .int 0] ∧
  (∀ t ∈ ts, ∃ p q r : Int, H t = some (.tup [.int p, .int q, .int r])) ∧ Q (.int (ts.countP fun t => isZ H (.ref t) : Nat)) H
theorem vals_refs {X : Cx} {pins : List (Addr × Obj)} {σ : L2.St} {H : Hp} {s : Shared} (_ : Inv X pins σ H s) : ∀ {ts : List Addr} {us : List Value}, Vals (ts.map V.ref) us → us = ts.map Value.ref
  | [], _, h => by cases h; rfl
  | t :: ts, _, h => by
    cases h with
    | cons r rr =>
      cases r
      rw [vals_refs (by assumption) rr]
      rfl
theorem zero_at {X : Cx} {pins : List (Addr × Obj)} {σ : L2.St} {H : Hp} {s : Shared} (I : Inv X pins σ H s) {c t : Addr} {A : Around} (hu : A.units + 64 < cLine) (hc : SqT X.K H c [.int 0, .int 0, .int 0]) {p q r : Int} (ht : H t = some (.tup [.int p, .int q, .int r])) :
    SeqAt.EqAt A s (.ref t) (.ref c) (isZ H (.ref t)) := by
  have d1 : Dp X.K H (.ref t) (.tuple [.int p, .int q, .int r]) := .tup (SqT.of ht) (.cons (.int p) (.cons (.int q) (.cons (.int r) .nil)))
  have d2 : Dp X.K H (.ref c) (.tuple [.int 0, .int 0, .int 0]) := .tup hc (.cons (.int 0) (.cons (.int 0) (.cons (.int 0) .nil)))
  obtain ⟨as, r1⟩ := Dp.reads I _ _ (.ref t) d1 rfl
  obtain ⟨bs, r2⟩ := Dp.reads I _ _ (.ref c) d2 rfl
  have e : isZ H (.ref t) = PyData.eqv (.tuple [.int p, .int q, .int r]) (.tuple [.int 0, .int 0, .int 0]) := by
    unfold isZ
    dsimp only
    rw [ht]
    show (p == 0 && (q == 0 && r == 0)) = (p == 0 && (q == 0 && (r == 0 && true)))
    rw [Bool.and_true]
  rw [e]
  exact SeqAt.eqAt_reads _ _ A s _ _ as bs r1 r2 rfl rfl (SeqAt.room_of_shaped (by rfl) hu)
theorem mt_countZ {X : Cx} (hu : X.A.units + 70 < cLine) : MtR X "list.count" (rCountZ X.K) := by
  intro pins s σ H x xs v us Q I rx rxs h
  obtain ⟨a, c, ts, rfl, rfl, hs, hc, ht, q⟩ := h
  cases rx
  cases rxs with
  | cons ry rt =>
    cases ry
    cases rt
    obtain ⟨its, rv, ⟨⟨cls, dd, data, sl⟩, n, ho, hcl, _, hd⟩, _⟩ := I.list hs
    simp only at hcl hd
    subst hcl hd
    have e := vals_refs I rv
    subst e
    refine call_meets PySem.F.slot_list_count ⟨_, ho, rfl⟩ PySem.F.entry_list_count (PySem.F.args_list_count_2 _ _) (SeqAt.list_countAt a (ts.map Value.ref).toArray n dd sl (.ref c) (isZ H)) ⟨ho, fun y hy => ?_, ?_⟩
    · have hy : y ∈ ts.map Value.ref := by simpa using hy
      obtain ⟨t, hm, rfl⟩ := List.mem_map.mp hy
      obtain ⟨p, q, r, e⟩ := ht t hm
      exact zero_at I (by show X.A.units + 1 + 64 < cLine; omega) hc e
    · have e2 : (List.countP (isZ H) (ts.map Value.ref).toArray.toList) = ts.countP fun t => isZ H (.ref t) := by
        show List.countP (isZ H) (ts.map Value.ref) = _
        rw [List.countP_map]
        rfl
      rw [e2]
      exact ⟨.int _, H, I.tok _, ⟨_, rfl⟩, q⟩
theorem count_z {X : Cx} (K : PySem.W.Frag) (hu : X.A.units + 70 < cLine) (e : X.K = K := by rfl) : MtR X "list.count" (rCountZ K) := by subst e; exact mt_countZ hu
theorem hu70 {A : Around} {k : Nat} (hr : Room k A) : A.units + 70 < cLine := by have := hr.un; omega
/-! ### a comprehension over a range with a step -/
theorem lc_rangeC {lo c : Int} {n : Nat} {g : TG} {tt : TT} {te : TE} {vs : List Nat} {σ : L2.St} {H1 : Hp} {D : Addr} {Qd : Hp → Prop} (Pv : Nat → Hp → Prop) (h0 : Pv 0 (upd H1 D (.lst [])))
    (hs : ∀ i H, i < n → Pv i H → g (.int (lo + (i : Nat) * c)) (wipe σ vs) H fun σ2 H2 => wipe σ2 vs = wipe σ vs ∧ tt σ2 H2 fun b H3 =>
      if b = true then te σ2 H3 fun y H4 => ∃ acc, H4 D = some (.lst acc) ∧ acc.length < sizeLine ∧ Pv (i + 1) (upd H4 D (.lst (acc ++ [y]))) else Pv (i + 1) H3) (hd : ∀ H, Pv n H → Qd H) :
    ∃ W : Nat → Nat → Hp → Prop, (∃ m, W 0 m (upd H1 D (.lst []))) ∧ ∀ i m H, W i m H →
      ((Itc lo c n).stop i H ∧ Qd H) ∨ ((Itc lo c n).go i H ∧ ∃ Nx : Hp → Prop, (∀ H', Nx H' → ∃ m', m' < m ∧ W (i + 1) m' H') ∧ ∀ x H', (Itc lo c n).yld i H x H' → g x (wipe σ vs) H' fun σ2 H2 => wipe σ2 vs = wipe σ vs ∧ tt σ2 H2 fun b H3 =>
        if b = true then te σ2 H3 fun y H4 => ∃ acc, H4 D = some (.lst acc) ∧ acc.length < sizeLine ∧ Nx (upd H4 D (.lst (acc ++ [y]))) else Nx H3) := by
  refine ⟨fun i m H => m = n - i ∧ i ≤ n ∧ Pv i H, ⟨n, by simp, Nat.zero_le _, h0⟩, ?_⟩
  rintro i m H ⟨rfl, hi, p⟩
  by_cases hlt : i < n
  · refine .inr ⟨hlt, Pv (i + 1), fun H' p' => ⟨n - (i + 1), by omega, rfl, hlt, p'⟩, fun x H' y => ?_⟩
    obtain ⟨e, y⟩ := y
    subst e y
    exact hs i _ hlt p
  · have e : i = n := by omega
    subst e
    exact .inl ⟨Nat.le_refl _, hd H p⟩
end Com

/-! More words over the layer: d.items(), a dict made on the spot and walked, op= with * // |. -/
set_option Elab.async false
set_option maxRecDepth 100000
namespace Com
open PySem PySem.Spec PyProof.Rows L2
section
variable {X : Cx}
def ipC (c : Int → Int → Prop) (f : Int → Int → Int) : TIp := fun x y H Q => ∃ i j, x = .int i ∧ y = .int j ∧ c i j ∧ Q (.int (f i j)) H
theorem ip_mul : PIp X .Mult (ipC CMul fun i j => i * j) := by
  intro pins s σ H x y v u Q I r1 r2 h
  obtain ⟨i, j, e1, e2, c, q⟩ := h
  subst e1; subst e2
  obtain ⟨t, rfl⟩ := r1
  obtain ⟨t', rfl⟩ := r2
  exact imul_int ⟨.int _, H, I.tok _, ⟨_, rfl⟩, q⟩ c.ok
theorem ip_fdiv : PIp X .FloorDiv (ipC CDiv fun i j => i / j) := by
  intro pins s σ H x y v u Q I r1 r2 h
  obtain ⟨i, j, e1, e2, c, q⟩ := h
  subst e1; subst e2
  obtain ⟨t, rfl⟩ := r1
  obtain ⟨t', rfl⟩ := r2
  refine ifloordiv_int (by have := c.1; omega) ?_ (.inl (PyProof.noPylong_small (by have := c.1; have := c.2; omega)))
  rw [Int.fdiv_eq_ediv_of_nonneg _ (by have := c.1; omega)]
  exact ⟨.int _, H, I.tok _, ⟨_, rfl⟩, q⟩
theorem ip_or : PIp X .BitOr (ipI fun i j => Builtin.bitOr i j) := by
  intro pins s σ H x y v u Q I r1 r2 h
  obtain ⟨i, j, e1, e2, q⟩ := h
  subst e1; subst e2
  obtain ⟨t, rfl⟩ := r1
  obtain ⟨t', rfl⟩ := r2
  exact ior_int ⟨.int _, H, I.tok _, ⟨_, rfl⟩, q⟩
end
/-- the walk over a dict's pairs, the dict locked -/
theorem for_items {d : Addr} {od : Obj} {kvs : List (Key × V)} {g : TG} {tb : TS} {D : Ends} {σ : L2.St} {H : Hp} (Pv : Nat → L2.St → Hp → Prop) (h0 : Pv 0 σ H) (hl : ∀ i σ H, i ≤ kvs.length → Pv i σ H → H d = some (.frz od (.dK kvs)))
    (hs : ∀ i k v T σ H, kvs[i]? = some (k, v) → H T = none → Pv i σ H → g (.ref T) σ (upd H T (.tup [kV k, v])) fun σ2 H2 => tb { D with nx := Pv (i + 1), ct := Pv (i + 1), bk := D.nx } σ2 H2) (hd : ∀ σ H, Pv kvs.length σ H → D.nx σ H) :
    ∃ W : Nat → Nat → L2.St → Hp → Prop, (∃ m, W 0 m σ H) ∧ ∀ i m σ H, W i m σ H →
      ((Iti d od kvs).stop i H ∧ D.nx σ H) ∨ ((Iti d od kvs).go i H ∧ ∃ N : L2.St → Hp → Prop, (∀ σ' H', N σ' H' → ∃ m', m' < m ∧ W (i + 1) m' σ' H') ∧ ∀ x H', (Iti d od kvs).yld i H x H' → g x σ H' fun σ2 H2 => tb { D with nx := N, ct := N, bk := D.nx } σ2 H2) := by
  refine ⟨fun i m σ H => m = kvs.length - i ∧ i ≤ kvs.length ∧ Pv i σ H, ⟨kvs.length, by simp, Nat.zero_le _, h0⟩, ?_⟩
  rintro i m σ H ⟨rfl, hi, p⟩
  have q := hl i σ H hi p
  by_cases hlt : i < kvs.length
  · refine .inr ⟨⟨q, hlt⟩, Pv (i + 1), fun σ' H' p' => ⟨kvs.length - (i + 1), by omega, rfl, hlt, p'⟩, fun x H' y => ?_⟩
    obtain ⟨T, k, v, hk, rfl, hT, rfl⟩ := y
    exact hs i k v T σ _ hk hT p
  · have e : i = kvs.length := by omega
    subst e
    exact .inl ⟨⟨q, Nat.le_refl _⟩, hd σ H p⟩
/-- a dict made on the spot: it is locked from then on -/
def tFrz (td : TE) : TE := fun σ H Q => td σ H fun x H1 => ∃ d kvs, x = .ref d ∧ H1 d = some (.dK kvs) ∧ ∀ od, Q x (upd H1 d (.frz od (.dK kvs)))
theorem pe_frz {X : Cx} {e : Expr} {td : TE} (he : PE X e td) : PE X e (tFrz td) := by
  intro pins s σ H Q I h
  refine thn (he pins s σ H _ I h) fun u s1 ⟨x, H1, I1, rx, d, kvs, ex, hd, q⟩ => ?_
  obtain ⟨od, I2⟩ := I1.lock hd True.intro
  exact ⟨x, _, I2, rx, q od⟩
end Com

set_option Elab.async false
set_option maxRecDepth 100000
set_option maxHeartbeats 4000000
namespace Rg
open PySem PySem.Spec PyProof.Rows L2 Com
open PySem.W (Codec WData)
theorem ints_at0 {ns : List Int} {j : Nat} {z : Int} (h : j < ns.length) (e : z = (j : Int) := by omega) : atI (ns.map V.int) z = some (.int (Bm.at0 ns j)) := ints_at h e
/-! ### the rows, one behind another -/
def kOf (k : List Int) : List Key := k.map Sum.inl
def kvOf (ks : List (List Int)) : List (List Key × V) := ks.map fun k => (kOf k, V.bl true)
theorem kOf_inj {a b : List Int} (h : kOf a = kOf b) : a = b := by
  unfold kOf at h
  exact (List.map_inj_right (fun _ _ e => Sum.inl.inj e)).mp h
theorem val_in {ks : List (List Int)} {k : List Int} : (valV (kvOf ks) (kOf k)).isSome = decide (k ∈ ks) := by
  have e := valV_any (kvs := kvOf ks) (k := kOf k)
  rw [← e]
  unfold kvOf
  rw [List.any_map]
  by_cases h : k ∈ ks
  · rw [decide_eq_true h]
    exact List.any_eq_true.mpr ⟨k, h, decide_eq_true rfl⟩
  · rw [decide_eq_false h]
    refine Bool.eq_false_iff.mpr fun z => ?_
    obtain ⟨k', hk', e'⟩ := List.any_eq_true.mp z
    have e2 : kOf k' = kOf k := of_decide_eq_true e'
    rw [kOf_inj e2] at hk'
    exact h hk'
theorem put_new {ks : List (List Int)} {k : List Int} (h : ¬ k ∈ ks) : putK (kvOf ks) (kOf k) (V.bl true) = kvOf (ks ++ [k]) := by
  have e : valV (kvOf ks) (kOf k) = none := by
    have q := val_in (ks := ks) (k := k)
    rw [decide_eq_false h] at q
    exact Option.isNone_iff_eq_none.mp (by cases z : valV (kvOf ks) (kOf k) with
      | none => rfl
      | some v => rw [z] at q; cases q)
  rw [putK_new _ e]
  unfold kvOf
  rw [List.map_append]
  rfl
abbrev nz := BkNeutral.ints
/-- numbers as a list -/
abbrev NL (K : PySem.W.Frag) (H : Hp) (a : Addr) (g : List Nat) : Prop := SqL K H a ((nz g).map V.int)
abbrev lstN (g : List Nat) : HO := .lst ((nz g).map V.int)
theorem ints_len (g : List Nat) : (nz g).length = g.length := List.length_map ..
theorem vi_len (g : List Nat) : ((nz g).map V.int).length = g.length := by rw [List.length_map, ints_len]
theorem at_n {g : List Nat} {j : Nat} {z : Int} (h : j < g.length) (e : z = (j : Int) := by omega) : atI ((nz g).map V.int) z = some (.int ((g.getD j 0 : Nat) : Int)) := by
  rw [ints_at (ns := nz g) (j := j) (by rw [ints_len]; exact h) e]
  congr 2
  exact Rm.at_ints g j
theorem at_r {as : List Addr} {j : Nat} {a : Addr} {z : Int} (h : as[j]? = some a) (e : z = (j : Int) := by omega) : atI (as.map V.ref) z = some (.ref a) := by
  subst e
  exact atI_nat (by rw [List.getElem?_map, h]; rfl)
theorem cut_n {l : List Nat} {u v : Nat} {lo hi : Int} (h : u ≤ v) (hv : v ≤ l.length) (e1 : lo = (u : Int) := by omega) (e2 : hi = (v : Int) := by omega) : cutV ((nz l).map V.int) (some lo) (some hi) = (nz ((l.drop u).take (v - u))).map V.int := by
  subst e1 e2
  unfold cutV
  rw [HT.sIx_nat, HT.sIx_nat, vi_len, Nat.min_eq_left (show u ≤ l.length by omega), Nat.min_eq_left hv]
  unfold nz BkNeutral.ints
  rw [← List.map_drop, ← List.map_take, ← List.map_drop, ← List.map_take]
/-- lists of numbers at these addresses -/
def Lists (K : PySem.W.Frag) (H : Hp) (as : List Addr) (gs : List (List Nat)) : Prop := as.length = gs.length ∧ ∀ (j : Nat) (b : Addr) (g : List Nat), as[j]? = some b → gs[j]? = some g → NL K H b g
theorem Lists.keep {K : PySem.W.Frag} {H H' : Hp} {as : List Addr} {gs : List (List Nat)} (h : Lists K H as gs) (s : Same H H') : Lists K H' as gs := ⟨h.1, fun j b g e1 e2 => s.seq (h.2 j b g e1 e2)⟩
theorem get_snoc {α : Type} {l : List α} {x y : α} {j : Nat} (h : (l ++ [x])[j]? = some y) : (j < l.length ∧ l[j]? = some y) ∨ (j = l.length ∧ y = x) := by
  by_cases c : j < l.length
  · rw [List.getElem?_append_left c] at h
    exact .inl ⟨c, h⟩
  · rw [List.getElem?_append_right (by omega)] at h
    have hj : j - l.length < 1 := by
      have := (List.getElem?_eq_some_iff.mp h).1
      simpa using this
    have e : j = l.length := by omega
    rw [e, Nat.sub_self] at h
    exact .inr ⟨e, (Option.some.inj h).symm⟩
theorem line_of {n : Nat} (h : n ≤ 10000000) : n ≤ sizeLine := by rw [sizeLine_eq]; omega
theorem line_lt {n : Nat} (h : n ≤ 10000000) : n < sizeLine := by rw [sizeLine_eq]; omega
theorem getD_take {l : List Nat} {j k : Nat} (h : j < k) : (l.take k).getD j 0 = l.getD j 0 := by
  rw [List.getD_eq_getElem?_getD, List.getD_eq_getElem?_getD, List.getElem?_take_of_lt h]
/-- the ways, as tuples of a number and a list -/
def WaysAt (H : Hp) (ts : List Addr) (ws : Rm.Ways) : Prop := ts.length = ws.length ∧ ∀ (j : Nat) (t : Addr) (c : Nat) (p : List Nat), ts[j]? = some t → ws[j]? = some (c, p) → ∃ q, H t = some (.tup [.int (c : Nat), .ref q]) ∧ H q = some (lstN p)
theorem WaysAt.keep {H H' : Hp} {ts : List Addr} {ws : Rm.Ways} (h : WaysAt H ts ws) (s : Same H H') : WaysAt H' ts ws := ⟨h.1, fun j t c p e1 e2 => by
  obtain ⟨q, h1, h2⟩ := h.2 j t c p e1 e2
  exact ⟨q, s _ _ h1, s _ _ h2⟩⟩
theorem WaysAt.snoc {H : Hp} {ts : List Addr} {ws : Rm.Ways} (h : WaysAt H ts ws) {t q : Addr} {c : Nat} {p : List Nat} (h1 : H t = some (.tup [.int (c : Nat), .ref q])) (h2 : H q = some (lstN p)) : WaysAt H (ts ++ [t]) (ws ++ [(c, p)]) := by
  refine ⟨by rw [List.length_append, List.length_append, h.1]; rfl, fun j t' c' p' e1 e2 => ?_⟩
  rcases get_snoc e1 with ⟨k1, e1⟩ | ⟨k1, rfl⟩
  · rcases get_snoc e2 with ⟨k2, e2⟩ | ⟨k2, e2⟩
    · exact h.2 j t' c' p' e1 e2
    · have := h.1
      omega
  · rcases get_snoc e2 with ⟨k2, e2⟩ | ⟨k2, e2⟩
    · have := h.1
      omega
    · cases e2
      exact ⟨q, h1, h2⟩
/-- the forms, by digit -/
def Forms (H : Hp) (kvs : List (Key × V)) (ws : Rm.Ways) : Prop := ∀ d : Nat, match Rm.formIn ws d with
  | none => valV kvs (Sum.inl (d : Int)) = none
  | some p => ∃ q, valV kvs (Sum.inl (d : Int)) = some (.ref q) ∧ H q = some (lstN p)
/-- a rule's steps, as tuples of three numbers -/
def StepsAt (H : Hp) (ts : List Addr) (st : List Rm.Step) : Prop := ts.length = st.length ∧ ∀ (j : Nat) (t : Addr) (s : Rm.Step), ts[j]? = some t → st[j]? = some s → H t = some (.tup [.int (s.1 : Nat), .int (s.2.1 : Nat), .int (s.2.2 : Nat)])
theorem StepsAt.keep {H H' : Hp} {ts : List Addr} {st : List Rm.Step} (h : StepsAt H ts st) (s : Same H H') : StepsAt H' ts st := ⟨h.1, fun j t u e1 e2 => s _ _ (h.2 j t u e1 e2)⟩
/-- the rules, by op, d, x -/
def keyN (k : List Nat) : List Key := (nz k).map Sum.inl
def Rules (H : Hp) (kvs : List (List Key × V)) (rows : List (List Nat)) : Prop := ∀ op d x : Nat, match Rm.rowFor rows op d x with
  | none => valV kvs (keyN [op, d, x]) = none
  | some r => ∃ p ts, valV kvs (keyN [op, d, x]) = some (.ref p) ∧ H p = some (.lst (ts.map V.ref)) ∧ StepsAt H ts (Rm.stepsOf r)
def PartIn (p : List Nat) : Prop := p.getD 0 0 < 3 ∧ (1 ≤ p.getD 1 0 ∧ p.getD 1 0 ≤ 2) ∧ (1 ≤ p.getD 2 0 ∧ p.getD 2 0 ≤ 15)
theorem part1 {s : List Nat} (h : s.length = 7) : s.take 3 = [s.getD 0 0, s.getD 1 0, s.getD 2 0] := by
  match s, h with
  | [_, _, _, _, _, _, _], _ => rfl
theorem part2 {s : List Nat} (h : s.length = 7) : (s.drop 3).take 3 = [s.getD 3 0, s.getD 4 0, s.getD 5 0] := by
  match s, h with
  | [_, _, _, _, _, _, _], _ => rfl
theorem dp3 {K : PySem.W.Frag} {H : Hp} {a : Addr} {x y z : Int} (h : SqL K H a [.int x, .int y, .int z]) : Dp K H (.ref a) (.list [.int x, .int y, .int z]) := .lst h (.cons (.int x) (.cons (.int y) (.cons (.int z) .nil)))
theorem dpT {K : PySem.W.Frag} {H : Hp} {a : Addr} {x y z : Int} (h : SqT K H a [.int x, .int y, .int z]) : Dp K H (.ref a) (.tuple [.int x, .int y, .int z]) := .tup h (.cons (.int x) (.cons (.int y) (.cons (.int z) .nil)))
theorem eqv3 (x y z x' y' z' : Int) : PyData.eqv (.list [.int x, .int y, .int z]) (.list [.int x', .int y', .int z']) = decide (x = x' ∧ y = y' ∧ z = z') := by
  show (x == x' && (y == y' && (z == z' && true))) = _
  rw [Bool.and_true, Bool.eq_iff_iff]
  simp
theorem eqvT (x y z x' y' z' : Int) : PyData.eqv (.tuple [.int x, .int y, .int z]) (.tuple [.int x', .int y', .int z']) = decide (x = x' ∧ y = y' ∧ z = z') := by
  show (x == x' && (y == y' && (z == z' && true))) = _
  rw [Bool.and_true, Bool.eq_iff_iff]
  simp
abbrev kN (d : Nat) : Key := Sum.inl (d : Int)
theorem kN_inj {d e : Nat} (h : kN d = kN e) : d = e := by
  have := Sum.inl.inj h
  omega
/-- the forms, in the dict's order -/
def FDict (H : Hp) (kvs : List (Key × V)) (fl : Rm.Ways) : Prop := kvs.length = fl.length ∧ ∀ (j c : Nat) (p : List Nat), fl[j]? = some (c, p) → ∃ q, kvs[j]? = some (kN c, .ref q) ∧ H q = some (lstN p)
/-- the keys: digits, each once -/
def Keys (kvs : List (Key × V)) (n : Nat) : Prop := ∃ ds : List Nat, ds.Nodup ∧ kvs.map (·.1) = ds.map kN ∧ ∀ d ∈ ds, d < n
theorem SqL.keepX {K : PySem.W.Frag} {H H' : Hp} {a f : Addr} {xs : List V} {kvs : List (Key × V)} (hf : H f = some (.dK kvs)) (h : SqL K H a xs) (s : ∀ b o, b ≠ f → H b = some o → H' b = some o) : SqL K H' a xs := by
  rcases h with (h | ⟨o, h⟩) | h
  · exact .inl (.inl (s _ _ (ne_of h hf (by intro z; cases z)) h))
  · exact .inl (.inr ⟨o, s _ _ (ne_of h hf (by intro z; cases z)) h⟩)
  · exact .inr h
/-! ### the promises -/
def sp_ratio_of (K : PySem.W.Frag) : Sp := fun vs H Q _ => ∃ (a : Addr) (g : List Nat), vs = [.ref a] ∧ NL K H a g ∧ g.length = 7 ∧ Q (.int (g.getD 0 0 : Nat)) H
def sp_beads_of (K : PySem.W.Frag) : Sp := fun vs H Q _ => ∃ (a : Addr) (g : List Nat) (j : Nat), vs = [.ref a, .int (j : Nat)] ∧ NL K H a g ∧ g.length = 7 ∧ j < 3 ∧ Q (.int (Rm.beOf g j : Nat)) H
def sp_worth_of (K : PySem.W.Frag) : Sp := fun vs H Q _ => ∃ (a : Addr) (g : List Nat) (j : Nat), vs = [.ref a, .int (j : Nat)] ∧ NL K H a g ∧ g.length = 7 ∧ j < 3 ∧ Q (.int (Rm.woOf g j : Nat)) H
def sp_rods_of (K : PySem.W.Frag) : Sp := fun vs H Q _ => ∃ (a : Addr) (l : List Nat), vs = [.ref a] ∧ NL K H a l ∧ l.length % 7 = 0 ∧ l.length ≤ 500 ∧
  ∀ H' p as, Same H H' → H' p = some (.lst (as.map V.ref)) → Lists K H' as (Na.groups 7 l) → Q (.ref p) H'
def sp_strokes_of (K : PySem.W.Frag) : Sp := fun vs H Q _ => ∃ (a : Addr) (l : List Nat), vs = [.ref a] ∧ NL K H a l ∧ l.length ≠ 0 ∧ (l.length - 1) % 7 = 0 ∧ l.length ≤ 300 ∧
  ∀ H' p as, Same H H' → H' p = some (.lst (as.map V.ref)) → Lists K H' as (Na.groups 7 (l.drop 1)) → Q (.ref p) H'
def sp_worth_together (K : PySem.W.Frag) : Sp := fun vs H Q _ => ∃ (a : Addr) (g : List Nat), vs = [.ref a] ∧ NL K H a g ∧ g.length = 7 ∧ Rm.RIn g ∧ ∀ H', Same H H' → Q (.int (Rm.mostOf g : Nat)) H'
def sp_forms_with_deck (K : PySem.W.Frag) : Sp := fun vs H Q _ => ∃ (a f : Addr) (g : List Nat) (j : Nat) (kvs : List (Key × V)) (fl : Rm.Ways), vs = [.ref a, .int (j : Nat), .ref f] ∧ NL K H a g ∧ g.length = 7 ∧ Rm.RIn g ∧ j < 3 ∧
  H f = some (.dK kvs) ∧ FDict H kvs fl ∧ (∀ x ∈ fl, x.2.length = j) ∧
  ∀ H' f' kvs', Same H H' → H' f' = some (.dK kvs') → Forms H' kvs' (Rm.wstep (g.getD 0 0) (Rm.beOf g j) (Rm.woOf g j) fl) → Keys kvs' (g.getD 0 0) → Q (.ref f') H'
def sp_cost_of (K : PySem.W.Frag) : Sp := fun vs H Q _ => ∃ (a : Addr) (g : List Nat), vs = [.ref a] ∧ NL K H a g ∧ g.length = 7 ∧ Q (.int (g.getD 6 0 : Nat)) H
def sp_due_on (_ : PySem.W.Frag) : Sp := fun vs H Q _ => ∃ (op d x : Nat), vs = [.int (op : Nat), .int (d : Nat), .int (x : Nat)] ∧ (op = 0 → Q (.int ((x : Int) + d)) H) ∧ (op ≠ 0 → Q (.int ((x : Int) - d)) H)
def sp_goes_before (K : PySem.W.Frag) : Sp := fun vs H Q _ => ∃ (a b : Addr) (p q : List Nat), vs = [.ref a, .ref b] ∧ NL K H a p ∧ NL K H b q ∧ p.length = q.length ∧ Q (.bl (Na.nicer p q)) H
def sp_digit_forms (K : PySem.W.Frag) : Sp := fun vs H Q _ => ∃ (a : Addr) (g : List Nat), vs = [.ref a] ∧ NL K H a g ∧ g.length = 7 ∧ Rm.RIn g ∧
  ∀ H' f kvs, Same H H' → H' f = some (.dK kvs) → Forms H' kvs (Rm.waysOf g 3) → (kvs.length < g.getD 0 0 ↔ ¬ Rm.Whole g) → Q (.ref f) H'
def sp_first_part (K : PySem.W.Frag) : Sp := fun vs H Q _ => ∃ (a : Addr) (s : List Nat), vs = [.ref a] ∧ NL K H a s ∧ s.length = 7 ∧ ∀ H' p, Same H H' → H' p = some (lstN (s.take 3)) → Q (.ref p) H'
def sp_second_part (K : PySem.W.Frag) : Sp := fun vs H Q _ => ∃ (a : Addr) (s : List Nat), vs = [.ref a] ∧ NL K H a s ∧ s.length = 7 ∧ ∀ H' p, Same H H' → H' p = some (lstN ((s.drop 3).take 3)) → Q (.ref p) H'
def sp_behind_part (K : PySem.W.Frag) : Sp := fun vs H Q _ => ∃ (a b c : Addr) (g p t : List Nat) (n : Nat), vs = [.ref a, .ref b, .ref c, .int (n : Nat)] ∧ NL K H a g ∧ g.length = 7 ∧ NL K H b p ∧ p.length = 3 ∧ NL K H c t ∧ t.length = 3 ∧ t.getD 0 0 < 3 ∧
  (Rm.push3 (Rm.bsOf g) p (t.getD 0 0) (t.getD 1 0 == 1) (t.getD 2 0) n = none → Q .non H) ∧ ∀ u, Rm.push3 (Rm.bsOf g) p (t.getD 0 0) (t.getD 1 0 == 1) (t.getD 2 0) n = some u → ∀ H' r, Same H H' → H' r = some (lstN u) → Q (.ref r) H'
def sp_behind_act (K : PySem.W.Frag) : Sp := fun vs H Q _ => ∃ (a b c : Addr) (g p s : List Nat) (n k : Nat), vs = [.ref a, .ref b, .ref c, .int (n : Nat), .int (k : Nat)] ∧ NL K H a g ∧ g.length = 7 ∧ NL K H b p ∧ p.length = 3 ∧ NL K H c s ∧ Rm.SIn s ∧
  (Rm.stroke3 (Rm.bsOf g) p s n k = none → ∀ H', Same H H' → Q .non H') ∧ ∀ u, Rm.stroke3 (Rm.bsOf g) p s n k = some u → ∀ H' r, Same H H' → H' r = some (lstN u) → Q (.ref r) H'
def firstV : List V → V
  | [] => .non
  | .non :: r => firstV r
  | x :: _ => x
def sp_first_fault (K : PySem.W.Frag) : Sp := fun vs H Q _ => ∃ (a : Addr) (xs : List V), vs = [.ref a] ∧ SqL K H a xs ∧ Q (firstV xs) H
def sp_deck_can_be (_ : PySem.W.Frag) : Sp := fun vs H Q _ => ∃ b w : Nat, vs = [.int (b : Nat), .int (w : Nat)] ∧ ∀ k : Bool, (k = true ↔ Rm.DeckOk b w) → Q (.bl k) H
def sp_rod_can_be (K : PySem.W.Frag) : Sp := fun vs H Q _ => ∃ (a : Addr) (g : List Nat), vs = [.ref a] ∧ NL K H a g ∧ g.length = 7 ∧ ∀ k : Bool, (k = true ↔ Rm.RIn g) → Q (.bl k) H
def sp_rule_broken (K : PySem.W.Frag) : Sp := fun vs H Q _ => ∃ (a : Addr) (g : List Nat), vs = [.ref a] ∧ NL K H a g ∧ g.length = 7 ∧
  (Na.rodWrong g = 0 → ∀ H', Same H H' → Q .non H') ∧ ∀ w, Na.rodWrong g = w → w ≠ 0 → ∀ H', Same H H' → Q (.int (w : Nat)) H'
def sp_make_fault (K : PySem.W.Frag) : Sp := fun vs H Q _ => ∃ (a : Addr) (l : List Nat), vs = [.ref a] ∧ NL K H a l ∧ l.length ≤ 500 ∧
  (∀ m, Na.makeOf l = .ok m → ∀ H', Same H H' → Q .non H') ∧ ∀ r i, Na.makeOf l = .error ⟨r, i⟩ → ∀ H' p, Same H H' → H' p = some (.lst [.int (r : Nat), .int (i : Nat)]) → Q (.ref p) H'
def sp_hand_can_be (K : PySem.W.Frag) : Sp := fun vs H Q _ => ∃ (a : Addr) (l : List Nat), vs = [.ref a] ∧ NL K H a l ∧ l.length ≤ 300 ∧ ∀ k : Bool, (k = true ↔ Mm.HandLen l) → Q (.bl k) H
def sp_part_can_be (K : PySem.W.Frag) : Sp := fun vs H Q _ => ∃ (a : Addr) (p : List Nat), vs = [.ref a] ∧ NL K H a p ∧ p.length = 3 ∧ ∀ k : Bool, (k = true ↔ PartIn p) → Q (.bl k) H
def sp_stroke_can_be (K : PySem.W.Frag) : Sp := fun vs H Q _ => ∃ (a : Addr) (s : List Nat), vs = [.ref a] ∧ NL K H a s ∧ s.length = 7 ∧ ∀ (k : Bool) H', (k = true ↔ Na.strokeGood s = true) → Same H H' → Q (.bl k) H'
def sp_hand_fault (K : PySem.W.Frag) : Sp := fun vs H Q _ => ∃ (a : Addr) (l : List Nat), vs = [.ref a] ∧ NL K H a l ∧ l.length ≤ 300 ∧
  (∀ h, Na.handOf l = .ok h → ∀ H', Same H H' → Q .non H') ∧ ∀ r i, Na.handOf l = .error ⟨r, i⟩ → ∀ H' p, Same H H' → H' p = some (.lst [.int (r : Nat), .int (i : Nat)]) → Q (.ref p) H'
def sp_steps_of (K : PySem.W.Frag) : Sp := fun vs H Q _ => ∃ (a : Addr) (l : List Nat), vs = [.ref a] ∧ NL K H a l ∧ 3 ≤ l.length ∧ l.length ≤ 36 ∧ l.length % 3 = 0 ∧
  ∀ H' p ts, Same H H' → H' p = some (.lst (ts.map V.ref)) → StepsAt H' ts (Rm.stepsOf l) → Q (.ref p) H'
def sp_rules_of (K : PySem.W.Frag) : Sp := fun vs H Q _ => ∃ (a : Addr) (as : List Addr) (rows : List (List Nat)), vs = [.ref a] ∧ SqL K H a (as.map V.ref) ∧ Lists K H as rows ∧ rows.length ≤ 820 ∧ (∀ l ∈ rows, Na.rowGood l = true) ∧ (∀ j l, rows[j]? = some l → ∀ l' ∈ rows.take j, Rm.key3 l' ≠ Rm.key3 l) ∧
  ∀ H' f kvs, Same H H' → H' f = some (.dT kvs) → Rules H' kvs rows → Q (.ref f) H'
def sp_carries_due (_ : PySem.W.Frag) : Sp := fun vs H Q _ => ∃ e r : Int, vs = [.int e, .int r] ∧ Q (.int (if 0 ≤ e ∧ e < r then 0 else 1)) H
/-- what an act, a rule wants: strokes, steps -/
def sp_behind_acts (K : PySem.W.Frag) : Sp := fun vs H Q _ => ∃ (a b c e : Addr) (g p : List Nat) (as : List Addr) (ss : List (List Nat)) (ts : List Addr) (st : List Rm.Step), vs = [.ref a, .ref b, .ref c, .ref e] ∧ NL K H a g ∧ g.length = 7 ∧ NL K H b p ∧ p.length = 3 ∧
  SqL K H c (as.map V.ref) ∧ Lists K H as ss ∧ (∀ s ∈ ss, Rm.SIn s) ∧ SqL K H e (ts.map V.ref) ∧ StepsAt H ts st ∧
  (Rm.done3 (Rm.bsOf g) ss st p = none → ∀ H', Same H H' → Q .non H') ∧ ∀ u, Rm.done3 (Rm.bsOf g) ss st p = some u → ∀ H' r, Same H H' → NL K H' r u → Q (.ref r) H'
def sp_why_not_right (K : PySem.W.Frag) : Sp := fun vs H Q _ => ∃ (a f c e : Addr) (g : List Nat) (kvs : List (Key × V)) (as : List Addr) (ss : List (List Nat)) (ts : List Addr) (st : List Rm.Step) (op d x : Nat), vs = [.ref a, .ref f, .ref c, .int (op : Nat), .int (d : Nat), .int (x : Nat), .ref e] ∧
  NL K H a g ∧ g.length = 7 ∧ Rm.RIn g ∧ Rm.Whole g ∧ H f = some (.dK kvs) ∧ Forms H kvs (Rm.waysOf g 3) ∧ SqL K H c (as.map V.ref) ∧ Lists K H as ss ∧ (∀ s ∈ ss, Rm.SIn s) ∧ SqL K H e (ts.map V.ref) ∧ StepsAt H ts st ∧ op ≤ 1 ∧ d < g.getD 0 0 ∧ x < g.getD 0 0 ∧
  (Rm.why3 g ss op d x st = none → ∀ H', Same H H' → Q .non H') ∧ ∀ w, Rm.why3 g ss op d x st = some w → ∀ H', Same H H' → Q (.int (w : Nat)) H'
def sp_first_wrong_on_rod (K : PySem.W.Frag) : Sp := fun vs H Q _ => ∃ (a c f : Addr) (g : List Nat) (as : List Addr) (ss : List (List Nat)) (kvs : List (List Key × V)) (rows : List (List Nat)), vs = [.ref a, .ref c, .ref f] ∧ NL K H a g ∧ g.length = 7 ∧ Rm.RIn g ∧ Rm.Whole g ∧
  SqL K H c (as.map V.ref) ∧ Lists K H as ss ∧ (∀ s ∈ ss, Rm.SIn s) ∧ H f = some (.dT kvs) ∧ Rules H kvs rows ∧
  (Rm.onRod g ss rows = none → ∀ H', Same H H' → Q .non H') ∧ ∀ l, Rm.onRod g ss rows = some l → ∀ H' p, Same H H' → H' p = some (lstN l) → Q (.ref p) H'
def sp_first_wrong_rule (K : PySem.W.Frag) : Sp := fun vs H Q _ => ∃ (a b c : Addr) (m h : List Nat) (as : List Addr) (rows : List (List Nat)), vs = [.ref a, .ref b, .ref c] ∧ NL K H a m ∧ m.length % 7 = 0 ∧ m.length ≤ 500 ∧ (∀ g ∈ Na.groups 7 m, g.length = 7 ∧ Rm.RIn g ∧ Rm.Whole g) ∧
  NL K H b h ∧ h.length ≠ 0 ∧ (h.length - 1) % 7 = 0 ∧ h.length ≤ 300 ∧ (∀ s ∈ Na.groups 7 (h.drop 1), Rm.SIn s) ∧ SqL K H c (as.map V.ref) ∧ Lists K H as rows ∧ rows.length ≤ 820 ∧ (∀ l ∈ rows, Na.rowGood l = true) ∧ (∀ j l, rows[j]? = some l → ∀ l' ∈ rows.take j, Rm.key3 l' ≠ Rm.key3 l) ∧
  (Rm.onMake (Na.groups 7 m) (Na.groups 7 (h.drop 1)) rows = none → ∀ H', Same H H' → Q .non H') ∧ ∀ l, Rm.onMake (Na.groups 7 m) (Na.groups 7 (h.drop 1)) rows = some l → ∀ H' p, Same H H' → H' p = some (lstN l) → Q (.ref p) H'
def sp_right (K : PySem.W.Frag) : Sp := fun vs H Q _ => ∃ (a b c : Addr) (m h : List Nat) (as : List Addr) (rows : List (List Nat)), vs = [.ref a, .ref b, .ref c] ∧ NL K H a m ∧ m.length ≤ 500 ∧ NL K H b h ∧ h.length ≤ 300 ∧ SqL K H c (as.map V.ref) ∧ Lists K H as rows ∧ rows.length ≤ 820 ∧ (∀ l ∈ rows, l.length ≤ 36) ∧
  ∀ H' p, H' p = some (.lst ((PyYqacca.right (nz m) (nz h) (rows.map nz)).map V.int)) → Q (.ref p) H'
def sp_step_can_be (_ : PySem.W.Frag) : Sp := fun vs H Q _ => ∃ s n k : Int, vs = [.int s, .int n, .int k] ∧ Q (.bl (Bm.stepB s n k)) H
def sp_length_can_be (_ : PySem.W.Frag) : Sp := fun vs H Q _ => ∃ n : Nat, vs = [.int n] ∧ Q (.bl (Bm.lenB n)) H
def sp_head_can_be (K : PySem.W.Frag) : Sp := fun vs H Q _ => ∃ (a : Addr) (ns : List Int), vs = [.ref a] ∧ SqL K H a (ns.map V.int) ∧ 3 ≤ ns.length ∧ Q (.bl (Bm.headB ns)) H
def sp_steps_can_be (K : PySem.W.Frag) : Sp := fun vs H Q _ => ∃ (a : Addr) (ns : List Int), vs = [.ref a] ∧ SqL K H a (ns.map V.int) ∧ 3 ≤ ns.length ∧ ns.length ≤ 36 ∧ ns.length % 3 = 0 ∧ Q (.bl (Bm.stepsB ns)) H
def sp_row_can_be (K : PySem.W.Frag) : Sp := fun vs H Q _ => ∃ (a : Addr) (ns : List Int), vs = [.ref a] ∧ SqL K H a (ns.map V.int) ∧ ns.length ≤ 36 ∧ Q (.bl (Bm.rowB ns)) H
/-- the rows stand at these addresses -/
def RowsAt (K : PySem.W.Frag) (H : Hp) (as : List Addr) (rows : List (List Int)) : Prop := as.length = rows.length ∧ ∀ (i : Nat) (a : Addr) (ns : List Int), as[i]? = some a → rows[i]? = some ns → SqL K H a (ns.map V.int) ∧ ns.length ≤ 36
def sp_book_fault (K : PySem.W.Frag) : Sp := fun vs H Q _ => ∃ (a : Addr) (as : List Addr) (rows : List (List Int)), vs = [.ref a] ∧ SqL K H a (as.map V.ref) ∧ RowsAt K H as rows ∧ rows.length ≤ 820 ∧
  (Bm.bad 0 [] rows = none → ∀ H', Same H H' → Q .non H') ∧ ∀ i, Bm.bad 0 [] rows = some i → ∀ H' p, Same H H' → H' p = some (.lst [.int 9, .int (i : Nat)]) → Q (.ref p) H'
/-! ### the text by places -/
def top (i : Nat) : Stmt := PySem.Challenge.pw_abacusbooks_s02_right.main.body.getD i (.Pass ⟨0, 0, 0, 0⟩)
abbrev t_rods_of : Stmt := top 4
abbrev t_ratio_of : Stmt := top 5
abbrev t_beads_of : Stmt := top 6
abbrev t_worth_of : Stmt := top 7
abbrev t_goes_before : Stmt := top 9
abbrev t_strokes_of : Stmt := top 15
abbrev t_first_part : Stmt := top 16
abbrev t_second_part : Stmt := top 17
abbrev t_cost_of : Stmt := top 18
abbrev t_steps_of : Stmt := top 30
abbrev t_due_on : Stmt := top 34
abbrev t_carries_due : Stmt := top 35
abbrev t_first_fault : Stmt := top 56
abbrev t_deck_can_be : Stmt := top 60
abbrev t_hand_can_be : Stmt := top 62
abbrev t_part_can_be : Stmt := top 64
abbrev t_length_can_be : Stmt := top 67
abbrev t_head_can_be : Stmt := top 68
abbrev t_step_can_be : Stmt := top 70
abbrev t_worth_together : Stmt := top 8
abbrev t_forms_with_deck : Stmt := top 11
abbrev t_behind_part : Stmt := top 20
abbrev t_rules_of : Stmt := top 29
abbrev t_rod_can_be : Stmt := top 59
abbrev t_stroke_can_be : Stmt := top 63
abbrev t_steps_can_be : Stmt := top 69
abbrev t_digit_forms : Stmt := top 10
abbrev t_behind_act : Stmt := top 19
abbrev t_hand_fault : Stmt := top 61
abbrev t_row_can_be : Stmt := top 66
abbrev t_behind_acts : Stmt := top 36
abbrev t_rule_broken : Stmt := top 58
abbrev t_book_fault : Stmt := top 65
abbrev t_why_not_right : Stmt := top 33
abbrev t_make_fault : Stmt := top 57
abbrev t_first_wrong_on_rod : Stmt := top 32
abbrev t_first_wrong_rule : Stmt := top 31
abbrev t_right : Stmt := top 72
structure Txt (K : PySem.W.Frag) (mg : Str → Option Value) : Prop where
  v_ACT_CANNOT_BE_DONE : IntG mg "ACT_CANNOT_BE_DONE" 1
  v_ADD : IntG mg "ADD" 0
  v_BOOK_RULE : IntG mg "BOOK_RULE" 9
  v_CARRY : TupG K mg "CARRY" [.int 0, .int 0, .int 0]
  v_DECKS : IntG mg "DECKS" 3
  v_DIGITS_RULE : IntG mg "DIGITS_RULE" 4
  v_HAND_RULE : IntG mg "HAND_RULE" 6
  v_HIGHEST_COST : IntG mg "HIGHEST_COST" 255
  v_HIGHEST_DIGIT : IntG mg "HIGHEST_DIGIT" 19
  v_HIGHEST_DIRECTION : IntG mg "HIGHEST_DIRECTION" 2
  v_HIGHEST_OP : IntG mg "HIGHEST_OP" 1
  v_HIGHEST_RATIO : IntG mg "HIGHEST_RATIO" 20
  v_HIGHEST_STROKE : IntG mg "HIGHEST_STROKE" 31
  v_HIGHEST_WORTH : IntG mg "HIGHEST_WORTH" 63
  v_HIGHEST_WORTH_TOGETHER : IntG mg "HIGHEST_WORTH_TOGETHER" 255
  v_LOWEST_RATIO : IntG mg "LOWEST_RATIO" 2
  v_MAKE_LENGTH_RULE : IntG mg "MAKE_LENGTH_RULE" 1
  v_MOST_BEADS : IntG mg "MOST_BEADS" 15
  v_MOST_RODS : IntG mg "MOST_RODS" 64
  v_MOST_STEPS : IntG mg "MOST_STEPS" 10
  v_MOST_STROKES : IntG mg "MOST_STROKES" 32
  v_NUMBERS_A_ROD : IntG mg "NUMBERS_A_ROD" 7
  v_NUMBERS_A_STROKE : IntG mg "NUMBERS_A_STROKE" 7
  v_OTHER_CARRIES : IntG mg "OTHER_CARRIES" 3
  v_ROD_RULE : IntG mg "ROD_RULE" 2
  v_SHOWS_OTHERWISE : IntG mg "SHOWS_OTHERWISE" 2
  v_STROKE_RULE : IntG mg "STROKE_RULE" 7
  v_TAKE_AWAY : IntG mg "TAKE_AWAY" 1
  v_TO_THE_BEAM : IntG mg "TO_THE_BEAM" 1
  v_WORTH_TOGETHER_RULE : IntG mg "WORTH_TOGETHER_RULE" 3
  n_enumerate : mg "enumerate" = none
  n_len : mg "len" = none
  n_list : mg "list" = none
  n_min : mg "min" = none
  n_range : mg "range" = none
  n_sum : mg "sum" = none
  d_rods_of : ∃ f fd, DefAt K mg "rods_of" t_rods_of ["make"] f fd
  d_ratio_of : ∃ f fd, DefAt K mg "ratio_of" t_ratio_of ["rod"] f fd
  d_beads_of : ∃ f fd, DefAt K mg "beads_of" t_beads_of ["rod", "deck"] f fd
  d_worth_of : ∃ f fd, DefAt K mg "worth_of" t_worth_of ["rod", "deck"] f fd
  d_goes_before : ∃ f fd, DefAt K mg "goes_before" t_goes_before ["way", "other"] f fd
  d_strokes_of : ∃ f fd, DefAt K mg "strokes_of" t_strokes_of ["hand"] f fd
  d_first_part : ∃ f fd, DefAt K mg "first_part" t_first_part ["stroke"] f fd
  d_second_part : ∃ f fd, DefAt K mg "second_part" t_second_part ["stroke"] f fd
  d_cost_of : ∃ f fd, DefAt K mg "cost_of" t_cost_of ["stroke"] f fd
  d_steps_of : ∃ f fd, DefAt K mg "steps_of" t_steps_of ["row"] f fd
  d_due_on : ∃ f fd, DefAt K mg "due_on" t_due_on ["op", "d", "x"] f fd
  d_carries_due : ∃ f fd, DefAt K mg "carries_due" t_carries_due ["due", "ratio"] f fd
  d_first_fault : ∃ f fd, DefAt K mg "first_fault" t_first_fault ["faults"] f fd
  d_deck_can_be : ∃ f fd, DefAt K mg "deck_can_be" t_deck_can_be ["beads", "worth"] f fd
  d_hand_can_be : ∃ f fd, DefAt K mg "hand_can_be" t_hand_can_be ["hand"] f fd
  d_part_can_be : ∃ f fd, DefAt K mg "part_can_be" t_part_can_be ["part"] f fd
  d_length_can_be : ∃ f fd, DefAt K mg "length_can_be" t_length_can_be ["length"] f fd
  d_head_can_be : ∃ f fd, DefAt K mg "head_can_be" t_head_can_be ["row"] f fd
  d_step_can_be : ∃ f fd, DefAt K mg "step_can_be" t_step_can_be ["stroke", "n", "k"] f fd
  d_worth_together : ∃ f fd, DefAt K mg "worth_together" t_worth_together ["rod"] f fd
  d_forms_with_deck : ∃ f fd, DefAt K mg "forms_with_deck" t_forms_with_deck ["rod", "deck", "forms"] f fd
  d_behind_part : ∃ f fd, DefAt K mg "behind_part" t_behind_part ["rod", "pushed", "part", "number"] f fd
  d_rules_of : ∃ f fd, DefAt K mg "rules_of" t_rules_of ["book"] f fd
  d_rod_can_be : ∃ f fd, DefAt K mg "rod_can_be" t_rod_can_be ["rod"] f fd
  d_stroke_can_be : ∃ f fd, DefAt K mg "stroke_can_be" t_stroke_can_be ["stroke"] f fd
  d_steps_can_be : ∃ f fd, DefAt K mg "steps_can_be" t_steps_can_be ["row"] f fd
  d_digit_forms : ∃ f fd, DefAt K mg "digit_forms" t_digit_forms ["rod"] f fd
  d_behind_act : ∃ f fd, DefAt K mg "behind_act" t_behind_act ["rod", "pushed", "stroke", "n", "k"] f fd
  d_hand_fault : ∃ f fd, DefAt K mg "hand_fault" t_hand_fault ["hand"] f fd
  d_row_can_be : ∃ f fd, DefAt K mg "row_can_be" t_row_can_be ["row"] f fd
  d_behind_acts : ∃ f fd, DefAt K mg "behind_acts" t_behind_acts ["rod", "pushed", "strokes", "steps"] f fd
  d_rule_broken : ∃ f fd, DefAt K mg "rule_broken" t_rule_broken ["rod"] f fd
  d_book_fault : ∃ f fd, DefAt K mg "book_fault" t_book_fault ["book"] f fd
  d_why_not_right : ∃ f fd, DefAt K mg "why_not_right" t_why_not_right ["rod", "forms", "strokes", "op", "d", "x", "steps"] f fd
  d_make_fault : ∃ f fd, DefAt K mg "make_fault" t_make_fault ["make"] f fd
  d_first_wrong_on_rod : ∃ f fd, DefAt K mg "first_wrong_on_rod" t_first_wrong_on_rod ["rod", "strokes", "rules"] f fd
  d_first_wrong_rule : ∃ f fd, DefAt K mg "first_wrong_rule" t_first_wrong_rule ["make", "hand", "book"] f fd
  d_right : ∃ f fd, DefAt K mg "right" t_right ["make", "hand", "book"] f fd
section
variable {P : Program} {w : World} {K : PySem.W.Frag} {mg : Str → Option Value} {base : Heap} {f : Addr} {fd : FuncData}
theorem lists_snoc {K : PySem.W.Frag} {H : Hp} {as : List Addr} {gs : List (List Nat)} {b : Addr} {g : List Nat} (h : Lists K H as gs) (hb : H b = some (lstN g)) : Lists K H (as ++ [b]) (gs ++ [g]) := by
  refine ⟨by rw [List.length_append, List.length_append, h.1]; rfl, fun j b' g' e1 e2 => ?_⟩
  rcases get_snoc e1 with ⟨k1, e1⟩ | ⟨k1, rfl⟩
  · rcases get_snoc e2 with ⟨k2, e2⟩ | ⟨k2, e2⟩
    · exact h.2 j b' g' e1 e2
    · have := h.1
      omega
  · rcases get_snoc e2 with ⟨k2, e2⟩ | ⟨k2, e2⟩
    · have := h.1
      omega
    · rw [e2]
      exact SqL.of hb
/-- lists of numbers, each its own and none at D -/
def Own (D : Addr) (H : Hp) (as : List Addr) (gs : List (List Nat)) : Prop := as.length = gs.length ∧ ∀ (j : Nat) (b : Addr) (g : List Nat), as[j]? = some b → gs[j]? = some g → b ≠ D ∧ H b = some (lstN g)
theorem Own.lists {K : PySem.W.Frag} {D : Addr} {H : Hp} {as : List Addr} {gs : List (List Nat)} (h : Own D H as gs) : Lists K H as gs := ⟨h.1, fun j b g e1 e2 => SqL.of (h.2 j b g e1 e2).2⟩
theorem Own.snoc {D : Addr} {H H' : Hp} {as : List Addr} {gs : List (List Nat)} {b : Addr} {g : List Nat} (h : Own D H as gs) (s : ∀ b o, b ≠ D → H b = some o → H' b = some o) (hn : b ≠ D) (hb : H' b = some (lstN g)) : Own D H' (as ++ [b]) (gs ++ [g]) := by
  refine ⟨by rw [List.length_append, List.length_append, h.1]; rfl, fun j b' g' e1 e2 => ?_⟩
  rcases get_snoc e1 with ⟨k1, e1⟩ | ⟨k1, rfl⟩
  · rcases get_snoc e2 with ⟨k2, e2⟩ | ⟨k2, e2⟩
    · obtain ⟨h1, h2⟩ := h.2 j b' g' e1 e2
      exact ⟨h1, s _ _ h1 h2⟩
    · have := h.1
      omega
  · rcases get_snoc e2 with ⟨k2, e2⟩ | ⟨k2, e2⟩
    · have := h.1
      omega
    · rw [e2]
      exact ⟨hn, hb⟩
theorem range_snoc {α : Type} (f : Nat → α) (i : Nat) : (List.range (i + 1)).map f = (List.range i).map f ++ [f i] := by
  rw [List.range_succ, List.map_append]
  rfl
theorem grp_len {l : List Nat} {j : Nat} (hj : j < l.length / 7) : (Mm.grp 7 l j).length = 7 := by
  unfold Mm.grp
  rw [List.length_take, List.length_drop]
  omega
theorem be_le {g : List Nat} (h : Rm.RIn g) {j : Nat} (hj : j < 3) : Rm.beOf g j ≤ 15 := by
  obtain ⟨_, h1, h2⟩ := h
  have e : j = 0 ∨ j = 1 ∨ j = 2 := by omega
  unfold Mm.DeckIn at h1 h2
  unfold Rm.beOf
  rcases e with rfl | rfl | rfl
  · show g.getD 1 0 ≤ 15
    omega
  · show g.getD 3 0 ≤ 15
    omega
  · show g.getD 5 0 ≤ 15
    omega
theorem sc_rods_of : FnScope ["make", "start"] ["make"] (defScope t_rods_of) := ⟨rfl, rfl, rfl, by decide +kernel, rfl, by decide +kernel, by decide +kernel⟩
theorem ok_rods_of (T : Txt K mg) (D : DefAt K mg "rods_of" t_rods_of ["make"] f fd) : FnOk P w K mg base CX0 1 f fd ["make"] (sp_rods_of K) := by
  refine D.fn.ok sc_rods_of (fun vs H Q E h => ?_) (fun cdv A outer s H vs Q E hr h => ?_)
  · obtain ⟨a, l, rfl, hs, hm, hl, q⟩ := h
    rfl
  · obtain ⟨a, l, rfl, hs, hm, hl, q⟩ := h
    refine ⟨_, (pss_one (ps_ret (pe_lc rfl sc_rods_of.nd (pi_range3 rfl T.n_range (pa_cons pe_int (pa_cons (pe_callB (len_s K) (by rfl) T.n_len bt_len (pa_cons (pv 0) pa_nil)) (pa_cons (pe_gi rfl T.v_NUMBERS_A_ROD) pa_nil)))) (blkOk_by (N := ["make", "start"]) (sc := defScope t_rods_of) (own := [("start", 1)]) (by decide +kernel)) (fun _ _ _ _ _ => (pg_name (i := 1) sc_rods_of.nd rfl (by first | exact Or.inl rfl | exact Or.inr rfl))) (fun _ _ _ _ _ => pts_nil) (fun _ _ _ _ _ => (pe_slice (sl_l K) (pv 0) (po_some (pv 1)) (po_some (pe_op op_add (pv 1) (pe_gi rfl T.v_NUMBERS_A_ROD)))))))), ?_⟩
    refine ⟨_, rfl, a, _, rfl, .inl hs, 0, _, 7, _, rfl, (by rw [vi_len]; exact rgC (n := l.length / 7) (by decide) (by decide) (by decide) (by decide) (by omega) (by omega) (by split <;> omega)), fun D hD => ?_⟩
    refine lc_rangeC (lo := 0) (c := 7) (n := l.length / 7) (fun i H' => ∃ as : List Addr, Same H H' ∧ H' D = some (.lst (as.map V.ref)) ∧ Own D H' as ((List.range i).map (Mm.grp 7 l)))
      ⟨[], Same.new (Same.refl H) hD, upd_same, rfl, fun j b g e => by simp at e⟩ ?_ ?_
    · rintro i H' hi ⟨as, s1, hd, ho⟩
      refine ⟨rfl, ?_⟩
      refine ⟨_, rfl, _, rfl, _, rfl, _, rfl, _, _, rfl, rfl, _, rfl, a, _, rfl, s1.seq hs, fun p hp => ?_⟩
      have np : p ≠ D := fun z => by rw [z, hd] at hp; cases hp
      rw [cut_n (u := 7 * i) (v := 7 * i + 7) (by omega) (by omega)]
      refine ⟨_, (by rw [upd_ne (ne_of_none hd hp)]; exact hd), ?_, as ++ [p], ?_, ?_, ?_⟩
      · rw [List.length_map, ho.1, List.length_map, List.length_range]
        exact line_lt (by omega)
      · exact Same.put (Same.new s1 hp) hD
      · rw [List.map_append]
        exact upd_same
      · rw [range_snoc]
        refine ho.snoc (fun b o nb e => ?_) np ?_
        · rw [upd_ne nb, upd_ne (ne_of_none e hp)]
          exact e
        · rw [upd_ne np, upd_same]
          unfold Mm.grp
          rw [Nat.add_sub_cancel_left]
    · rintro H' ⟨as, s1, hd, ho⟩
      refine q _ D as s1 hd ?_
      rw [Mm.groups_is (by decide) hm]
      exact ho.lists
theorem c_rods_of (T : Txt K mg) : Callee P w K mg base 1 "rods_of" ["make"] (sp_rods_of K) := Callee.of T.d_rods_of fun _ _ D => ok_rods_of T D
theorem sc_ratio_of : FnScope ["rod"] ["rod"] (defScope t_ratio_of) := ⟨rfl, rfl, rfl, by decide +kernel, rfl, by decide +kernel, by decide +kernel⟩
theorem ok_ratio_of (T : Txt K mg) (D : DefAt K mg "ratio_of" t_ratio_of ["rod"] f fd) : FnOk P w K mg base CX0 1 f fd ["rod"] (sp_ratio_of K) := by
  refine D.fn.ok sc_ratio_of (fun vs H Q E h => ?_) (fun cdv A outer s H vs Q E hr h => ?_)
  · obtain ⟨a, g, rfl, hs, hl, q⟩ := h
    rfl
  · obtain ⟨a, g, rfl, hs, hl, q⟩ := h
    refine ⟨_, (pss_one (ps_ret (pe_ix (ix_l K) (pv 0) pe_int (fun _ _ => rfl)))), ?_⟩
    exact ⟨_, rfl, a, _, _, _, rfl, rfl, hs, at_n (j := 0) (by omega), q⟩
theorem c_ratio_of (T : Txt K mg) : Callee P w K mg base 1 "ratio_of" ["rod"] (sp_ratio_of K) := Callee.of T.d_ratio_of fun _ _ D => ok_ratio_of T D
theorem sc_beads_of : FnScope ["rod", "deck"] ["rod", "deck"] (defScope t_beads_of) := ⟨rfl, rfl, rfl, by decide +kernel, rfl, by decide +kernel, by decide +kernel⟩
theorem ok_beads_of (T : Txt K mg) (D : DefAt K mg "beads_of" t_beads_of ["rod", "deck"] f fd) : FnOk P w K mg base CX0 1 f fd ["rod", "deck"] (sp_beads_of K) := by
  refine D.fn.ok sc_beads_of (fun vs H Q E h => ?_) (fun cdv A outer s H vs Q E hr h => ?_)
  · obtain ⟨a, g, j, rfl, hs, hl, hj, q⟩ := h
    rfl
  · obtain ⟨a, g, j, rfl, hs, hl, hj, q⟩ := h
    refine ⟨_, (pss_one (ps_ret (pe_ix (ix_l K) (pv 0) (pe_op op_add pe_int (pe_op op_mul pe_int (pv 1))) (fun _ _ => rfl)))), ?_⟩
    exact ⟨_, rfl, _, rfl, _, _, rfl, rfl, .inl ⟨by decide, by decide⟩, _, _, rfl, rfl, a, _, _, _, rfl, rfl, hs, at_n (j := 1 + 2 * j) (by omega), q⟩
theorem c_beads_of (T : Txt K mg) : Callee P w K mg base 1 "beads_of" ["rod", "deck"] (sp_beads_of K) := Callee.of T.d_beads_of fun _ _ D => ok_beads_of T D
theorem sc_worth_of : FnScope ["rod", "deck"] ["rod", "deck"] (defScope t_worth_of) := ⟨rfl, rfl, rfl, by decide +kernel, rfl, by decide +kernel, by decide +kernel⟩
theorem ok_worth_of (T : Txt K mg) (D : DefAt K mg "worth_of" t_worth_of ["rod", "deck"] f fd) : FnOk P w K mg base CX0 1 f fd ["rod", "deck"] (sp_worth_of K) := by
  refine D.fn.ok sc_worth_of (fun vs H Q E h => ?_) (fun cdv A outer s H vs Q E hr h => ?_)
  · obtain ⟨a, g, j, rfl, hs, hl, hj, q⟩ := h
    rfl
  · obtain ⟨a, g, j, rfl, hs, hl, hj, q⟩ := h
    refine ⟨_, (pss_one (ps_ret (pe_ix (ix_l K) (pv 0) (pe_op op_add pe_int (pe_op op_mul pe_int (pv 1))) (fun _ _ => rfl)))), ?_⟩
    exact ⟨_, rfl, _, rfl, _, _, rfl, rfl, .inl ⟨by decide, by decide⟩, _, _, rfl, rfl, a, _, _, _, rfl, rfl, hs, at_n (j := 2 + 2 * j) (by omega), q⟩
theorem c_worth_of (T : Txt K mg) : Callee P w K mg base 1 "worth_of" ["rod", "deck"] (sp_worth_of K) := Callee.of T.d_worth_of fun _ _ D => ok_worth_of T D
theorem sum_ints : ∀ l : List Nat, (nz l).sum = ((Na.total l : Nat) : Int)
  | [] => rfl
  | x :: l => by
    show ((x : Int) :: nz l).sum = ((x + Na.total l : Nat) : Int)
    rw [List.sum_cons, sum_ints l]
    omega
theorem lex_below : ∀ {p q : List Nat}, p.length = q.length → HT.lexLt (nz p) (nz q) = Na.below p q
  | [], [], _ => rfl
  | x :: p, y :: q, h => by
    show HT.lexLt ((x : Int) :: nz p) ((y : Int) :: nz q) = (decide (x < y) || (x == y && Na.below p q))
    rw [HT.lexLt_cons, lex_below (by simpa using h)]
    by_cases e : x = y
    · subst e
      rw [if_pos rfl]
      simp
    · rw [if_neg (by omega)]
      have e2 : (x == y) = false := by simpa using e
      have e3 : decide ((x : Int) < (y : Int)) = decide (x < y) := decide_eq_decide.mpr (by omega)
      rw [e2, e3]
      simp
  | [], _ :: _, h => by simp at h
  | _ :: _, [], h => by simp at h
theorem sc_goes_before : FnScope ["way", "other"] ["way", "other"] (defScope t_goes_before) := ⟨rfl, rfl, rfl, by decide +kernel, rfl, by decide +kernel, by decide +kernel⟩
theorem ok_goes_before (T : Txt K mg) (D : DefAt K mg "goes_before" t_goes_before ["way", "other"] f fd) : FnOk P w K mg base CX0 1 f fd ["way", "other"] (sp_goes_before K) := by
  refine D.fn.ok sc_goes_before (fun vs H Q E h => ?_) (fun cdv A outer s H vs Q E hr h => ?_)
  · obtain ⟨a, b, p, q, rfl, ha, hb, hl, k⟩ := h
    rfl
  · obtain ⟨a, b, p, q, rfl, ha, hb, hl, k⟩ := h
    refine ⟨_, (pss_cons (ps_if (pt_cmp (pc_neI (pe_callB (sum_l K rfl) (by rfl) T.n_sum bt_sum (pa_cons (pv 0) pa_nil)) (pe_callB (sum_l K rfl) (by rfl) T.n_sum bt_sum (pa_cons (pv 1) pa_nil))))
        (pss_one (ps_ret (pe_cmp (pc_lt (pe_callB (sum_l K rfl) (by rfl) T.n_sum bt_sum (pa_cons (pv 0) pa_nil)) (pe_callB (sum_l K rfl) (by rfl) T.n_sum bt_sum (pa_cons (pv 1) pa_nil))))))
        pss_nil)
      (pss_one (ps_ret (pe_cmpR (gt_l K hr.units0) (pv 0) (pv 1) (nomark _))))), ?_⟩
    refine ⟨_, rfl, a, _, rfl, ha, _, rfl, b, _, rfl, hb, _, _, rfl, rfl, _, rfl, ite2 (fun e => ?_) (fun e => ?_)⟩
    · refine ⟨_, rfl, a, _, rfl, ha, _, rfl, b, _, rfl, hb, _, _, rfl, rfl, ?_⟩
      rw [sum_ints, sum_ints] at e ⊢
      have e : Na.total p ≠ Na.total q := by
        intro z
        rw [z] at e
        simp at e
      have e2 : Na.nicer p q = decide ((Na.total p : Int) < (Na.total q : Int)) := by
        unfold Na.nicer
        have e3 : (Na.total p == Na.total q) = false := by simpa using e
        rw [e3, Bool.false_and, Bool.or_false]
        exact decide_eq_decide.mpr (by omega)
      rw [e2] at k
      exact k
    · refine ⟨_, rfl, _, rfl, a, b, _, _, rfl, rfl, ha, hb, by rw [ints_len, ints_len]; exact hl, ?_⟩
      rw [sum_ints, sum_ints] at e
      have e : Na.total p = Na.total q := by
        refine Classical.byContradiction fun z => e ?_
        simp
        omega
      have e2 : Na.nicer p q = Na.below q p := by
        unfold Na.nicer
        rw [e]
        simp
      rw [lex_below hl.symm, ← e2]
      exact k
theorem c_goes_before (T : Txt K mg) : Callee P w K mg base 1 "goes_before" ["way", "other"] (sp_goes_before K) := Callee.of T.d_goes_before fun _ _ D => ok_goes_before T D
theorem sc_strokes_of : FnScope ["hand", "start"] ["hand"] (defScope t_strokes_of) := ⟨rfl, rfl, rfl, by decide +kernel, rfl, by decide +kernel, by decide +kernel⟩
theorem ok_strokes_of (T : Txt K mg) (D : DefAt K mg "strokes_of" t_strokes_of ["hand"] f fd) : FnOk P w K mg base CX0 1 f fd ["hand"] (sp_strokes_of K) := by
  refine D.fn.ok sc_strokes_of (fun vs H Q E h => ?_) (fun cdv A outer s H vs Q E hr h => ?_)
  · obtain ⟨a, l, rfl, hs, h0, hm, hl, q⟩ := h
    rfl
  · obtain ⟨a, l, rfl, hs, h0, hm, hl, q⟩ := h
    refine ⟨_, (pss_one (ps_ret (pe_lc rfl sc_strokes_of.nd (pi_range3 rfl T.n_range (pa_cons pe_int (pa_cons (pe_callB (len_s K) (by rfl) T.n_len bt_len (pa_cons (pv 0) pa_nil)) (pa_cons (pe_gi rfl T.v_NUMBERS_A_STROKE) pa_nil)))) (blkOk_by (N := ["hand", "start"]) (sc := defScope t_strokes_of) (own := [("start", 1)]) (by decide +kernel)) (fun _ _ _ _ _ => (pg_name (i := 1) sc_strokes_of.nd rfl (by first | exact Or.inl rfl | exact Or.inr rfl))) (fun _ _ _ _ _ => pts_nil) (fun _ _ _ _ _ => (pe_slice (sl_l K) (pv 0) (po_some (pv 1)) (po_some (pe_op op_add (pv 1) (pe_gi rfl T.v_NUMBERS_A_STROKE)))))))), ?_⟩
    refine ⟨_, rfl, a, _, rfl, .inl hs, 1, _, 7, _, rfl, (by rw [vi_len]; exact rgC (n := (l.length - 1) / 7) (by decide) (by decide) (by decide) (by decide) (by omega) (by omega) (by split <;> omega)), fun D hD => ?_⟩
    refine lc_rangeC (lo := 1) (c := 7) (n := (l.length - 1) / 7) (fun i H' => ∃ as : List Addr, Same H H' ∧ H' D = some (.lst (as.map V.ref)) ∧ Own D H' as ((List.range i).map (Mm.grp 7 (l.drop 1))))
      ⟨[], Same.new (Same.refl H) hD, upd_same, rfl, fun j b g e => by simp at e⟩ ?_ ?_
    · rintro i H' hi ⟨as, s1, hd, ho⟩
      refine ⟨rfl, ?_⟩
      refine ⟨_, rfl, _, rfl, _, rfl, _, rfl, _, _, rfl, rfl, _, rfl, a, _, rfl, s1.seq hs, fun p hp => ?_⟩
      have np : p ≠ D := fun z => by rw [z, hd] at hp; cases hp
      rw [cut_n (u := 1 + 7 * i) (v := 1 + 7 * i + 7) (by omega) (by omega)]
      refine ⟨_, (by rw [upd_ne (ne_of_none hd hp)]; exact hd), ?_, as ++ [p], ?_, ?_, ?_⟩
      · rw [List.length_map, ho.1, List.length_map, List.length_range]
        exact line_lt (by omega)
      · exact Same.put (Same.new s1 hp) hD
      · rw [List.map_append]
        exact upd_same
      · rw [range_snoc]
        refine ho.snoc (fun b o nb e => ?_) np ?_
        · rw [upd_ne nb, upd_ne (ne_of_none e hp)]
          exact e
        · rw [upd_ne np, upd_same]
          unfold Mm.grp
          rw [Nat.add_sub_cancel_left, List.drop_drop]
    · rintro H' ⟨as, s1, hd, ho⟩
      refine q _ D as s1 hd ?_
      rw [Mm.groups_is (by decide) (by rw [List.length_drop]; exact hm), List.length_drop]
      exact ho.lists
theorem c_strokes_of (T : Txt K mg) : Callee P w K mg base 1 "strokes_of" ["hand"] (sp_strokes_of K) := Callee.of T.d_strokes_of fun _ _ D => ok_strokes_of T D
theorem sc_first_part : FnScope ["stroke"] ["stroke"] (defScope t_first_part) := ⟨rfl, rfl, rfl, by decide +kernel, rfl, by decide +kernel, by decide +kernel⟩
theorem ok_first_part (T : Txt K mg) (D : DefAt K mg "first_part" t_first_part ["stroke"] f fd) : FnOk P w K mg base CX0 1 f fd ["stroke"] (sp_first_part K) := by
  refine D.fn.ok sc_first_part (fun vs H Q E h => ?_) (fun cdv A outer s H vs Q E hr h => ?_)
  · obtain ⟨a, s, rfl, hs, hl, q⟩ := h
    rfl
  · obtain ⟨a, s, rfl, hs, hl, q⟩ := h
    refine ⟨_, (pss_one (ps_ret (pe_slice (sl_l K) (pv 0) (po_some pe_int) (po_some pe_int)))), ?_⟩
    refine ⟨_, rfl, _, rfl, _, rfl, a, _, rfl, hs, fun p hp => q _ p (Same.new (Same.refl H) hp) ?_⟩
    rw [cut_n (u := 0) (v := 3) (by omega) (by omega)]
    exact upd_same
theorem c_first_part (T : Txt K mg) : Callee P w K mg base 1 "first_part" ["stroke"] (sp_first_part K) := Callee.of T.d_first_part fun _ _ D => ok_first_part T D
theorem sc_second_part : FnScope ["stroke"] ["stroke"] (defScope t_second_part) := ⟨rfl, rfl, rfl, by decide +kernel, rfl, by decide +kernel, by decide +kernel⟩
theorem ok_second_part (T : Txt K mg) (D : DefAt K mg "second_part" t_second_part ["stroke"] f fd) : FnOk P w K mg base CX0 1 f fd ["stroke"] (sp_second_part K) := by
  refine D.fn.ok sc_second_part (fun vs H Q E h => ?_) (fun cdv A outer s H vs Q E hr h => ?_)
  · obtain ⟨a, s, rfl, hs, hl, q⟩ := h
    rfl
  · obtain ⟨a, s, rfl, hs, hl, q⟩ := h
    refine ⟨_, (pss_one (ps_ret (pe_slice (sl_l K) (pv 0) (po_some pe_int) (po_some pe_int)))), ?_⟩
    refine ⟨_, rfl, _, rfl, _, rfl, a, _, rfl, hs, fun p hp => q _ p (Same.new (Same.refl H) hp) ?_⟩
    rw [cut_n (u := 3) (v := 6) (by omega) (by omega)]
    exact upd_same
theorem c_second_part (T : Txt K mg) : Callee P w K mg base 1 "second_part" ["stroke"] (sp_second_part K) := Callee.of T.d_second_part fun _ _ D => ok_second_part T D
theorem sc_cost_of : FnScope ["stroke"] ["stroke"] (defScope t_cost_of) := ⟨rfl, rfl, rfl, by decide +kernel, rfl, by decide +kernel, by decide +kernel⟩
theorem ok_cost_of (T : Txt K mg) (D : DefAt K mg "cost_of" t_cost_of ["stroke"] f fd) : FnOk P w K mg base CX0 1 f fd ["stroke"] (sp_cost_of K) := by
  refine D.fn.ok sc_cost_of (fun vs H Q E h => ?_) (fun cdv A outer s H vs Q E hr h => ?_)
  · obtain ⟨a, g, rfl, hs, hl, q⟩ := h
    rfl
  · obtain ⟨a, g, rfl, hs, hl, q⟩ := h
    refine ⟨_, (pss_one (ps_ret (pe_ix (ix_l K) (pv 0) pe_int (fun _ _ => rfl)))), ?_⟩
    exact ⟨_, rfl, a, _, _, _, rfl, rfl, hs, at_n (j := 6) (by omega), q⟩
theorem c_cost_of (T : Txt K mg) : Callee P w K mg base 1 "cost_of" ["stroke"] (sp_cost_of K) := Callee.of T.d_cost_of fun _ _ D => ok_cost_of T D
/-- steps, each its own and none at D -/
def StepsX (D : Addr) (H : Hp) (ts : List Addr) (st : List Rm.Step) : Prop := ts.length = st.length ∧ ∀ (j : Nat) (t : Addr) (s : Rm.Step), ts[j]? = some t → st[j]? = some s → t ≠ D ∧ H t = some (.tup [.int (s.1 : Nat), .int (s.2.1 : Nat), .int (s.2.2 : Nat)])
theorem StepsX.steps {D : Addr} {H : Hp} {ts : List Addr} {st : List Rm.Step} (h : StepsX D H ts st) : StepsAt H ts st := ⟨h.1, fun j t s e1 e2 => (h.2 j t s e1 e2).2⟩
theorem StepsX.snoc {D : Addr} {H H' : Hp} {ts : List Addr} {st : List Rm.Step} {t : Addr} {s : Rm.Step} (h : StepsX D H ts st) (k : ∀ b o, b ≠ D → H b = some o → H' b = some o) (hn : t ≠ D) (ht : H' t = some (.tup [.int (s.1 : Nat), .int (s.2.1 : Nat), .int (s.2.2 : Nat)])) : StepsX D H' (ts ++ [t]) (st ++ [s]) := by
  refine ⟨by rw [List.length_append, List.length_append, h.1]; rfl, fun j t' s' e1 e2 => ?_⟩
  rcases get_snoc e1 with ⟨k1, e1⟩ | ⟨k1, rfl⟩
  · rcases get_snoc e2 with ⟨k2, e2⟩ | ⟨k2, e2⟩
    · obtain ⟨h1, h2⟩ := h.2 j t' s' e1 e2
      exact ⟨h1, k _ _ h1 h2⟩
    · have := h.1
      omega
  · rcases get_snoc e2 with ⟨k2, e2⟩ | ⟨k2, e2⟩
    · have := h.1
      omega
    · rw [e2]
      exact ⟨hn, ht⟩
theorem sc_steps_of : FnScope ["row", "start"] ["row"] (defScope t_steps_of) := ⟨rfl, rfl, rfl, by decide +kernel, rfl, by decide +kernel, by decide +kernel⟩
theorem ok_steps_of (T : Txt K mg) (D : DefAt K mg "steps_of" t_steps_of ["row"] f fd) : FnOk P w K mg base CX0 1 f fd ["row"] (sp_steps_of K) := by
  refine D.fn.ok sc_steps_of (fun vs H Q E h => ?_) (fun cdv A outer s H vs Q E hr h => ?_)
  · obtain ⟨a, l, rfl, hs, h3, h36, hm, q⟩ := h
    rfl
  · obtain ⟨a, l, rfl, hs, h3, h36, hm, q⟩ := h
    refine ⟨_, (pss_one (ps_ret (pe_lc rfl sc_steps_of.nd (pi_range3 rfl T.n_range (pa_cons pe_int (pa_cons (pe_callB (len_s K) (by rfl) T.n_len bt_len (pa_cons (pv 0) pa_nil)) (pa_cons pe_int pa_nil)))) (blkOk_by (N := ["row", "start"]) (sc := defScope t_steps_of) (own := [("start", 1)]) (by decide +kernel)) (fun _ _ _ _ _ => (pg_name (i := 1) sc_steps_of.nd rfl (by first | exact Or.inl rfl | exact Or.inr rfl))) (fun _ _ _ _ _ => pts_nil) (fun _ _ _ _ _ => (pe_tup (pa_cons (pe_ix (ix_l K) (pv 0) (pv 1) (fun _ _ => rfl)) (pa_cons (pe_ix (ix_l K) (pv 0) (pe_op op_add (pv 1) pe_int) (fun _ _ => rfl)) (pa_cons (pe_ix (ix_l K) (pv 0) (pe_op op_add (pv 1) pe_int) (fun _ _ => rfl)) pa_nil)))))))), ?_⟩
    refine ⟨_, rfl, a, _, rfl, .inl hs, 3, _, 3, _, rfl, (by rw [vi_len]; exact rgC (n := (l.length - 3) / 3) (by decide) (by decide) (by decide) (by decide) (by omega) (by omega) (by split <;> omega)), fun D hD => ?_⟩
    refine lc_rangeC (lo := 3) (c := 3) (n := (l.length - 3) / 3) (fun i H' => ∃ ts : List Addr, Same H H' ∧ H' D = some (.lst (ts.map V.ref)) ∧ StepsX D H' ts ((List.range i).map fun j => (l.getD (3 + 3 * j) 0, l.getD (3 + 3 * j + 1) 0, l.getD (3 + 3 * j + 2) 0)))
      ⟨[], Same.new (Same.refl H) hD, upd_same, rfl, fun j b g e => by simp at e⟩ ?_ ?_
    · rintro i H' hi ⟨ts, s1, hd, ho⟩
      refine ⟨rfl, ?_⟩
      have S1 := s1.seq hs
      refine ⟨_, rfl, _, rfl, a, _, _, _, rfl, rfl, S1, at_n (j := 3 + 3 * i) (by omega), _, rfl, _, rfl, _, _, rfl, rfl, a, _, _, _, rfl, rfl, S1, at_n (j := 3 + 3 * i + 1) (by omega), _, rfl, _, rfl, _, _, rfl, rfl, a, _, _, _, rfl, rfl, S1, at_n (j := 3 + 3 * i + 2) (by omega), (by show 3 ≤ sizeLine; decide), fun t ht => ?_⟩
      have nt : t ≠ D := fun z => by rw [z, hd] at ht; cases ht
      refine ⟨_, (by rw [upd_ne (ne_of_none hd ht)]; exact hd), ?_, ts ++ [t], ?_, ?_, ?_⟩
      · rw [List.length_map, ho.1, List.length_map, List.length_range]
        exact line_lt (by omega)
      · exact Same.put (Same.new s1 ht) hD
      · rw [List.map_append]
        exact upd_same
      · rw [range_snoc]
        refine ho.snoc (fun b o nb e => ?_) nt ?_
        · rw [upd_ne nb, upd_ne (ne_of_none e ht)]
          exact e
        · rw [upd_ne nt]
          exact upd_same
    · rintro H' ⟨ts, s1, hd, ho⟩
      exact q _ D ts s1 hd ho.steps
theorem c_steps_of (T : Txt K mg) : Callee P w K mg base 1 "steps_of" ["row"] (sp_steps_of K) := Callee.of T.d_steps_of fun _ _ D => ok_steps_of T D
theorem sc_due_on : FnScope ["op", "d", "x"] ["op", "d", "x"] (defScope t_due_on) := ⟨rfl, rfl, rfl, by decide +kernel, rfl, by decide +kernel, by decide +kernel⟩
theorem ok_due_on (T : Txt K mg) (D : DefAt K mg "due_on" t_due_on ["op", "d", "x"] f fd) : FnOk P w K mg base CX0 1 f fd ["op", "d", "x"] (sp_due_on K) := by
  refine D.fn.ok sc_due_on (fun vs H Q E h => ?_) (fun cdv A outer s H vs Q E hr h => ?_)
  · obtain ⟨op, d, x, rfl, q0, q1⟩ := h
    rfl
  · obtain ⟨op, d, x, rfl, q0, q1⟩ := h
    refine ⟨_, (pss_one (ps_ret (pe_ifExp (pt_cmp (pc_eqI (pv 0) (pe_gi rfl T.v_ADD))) (pe_op op_add (pv 2) (pv 1)) (pe_op op_sub (pv 2) (pv 1))))), ?_⟩
    refine ⟨_, rfl, _, _, rfl, rfl, _, rfl, ite2 (fun eo => ?_) (fun eo => ?_)⟩
    · have eo := of_decide_eq_true eo
      exact ⟨_, rfl, _, rfl, _, _, rfl, rfl, q0 (by omega)⟩
    · exact ⟨_, rfl, _, rfl, _, _, rfl, rfl, q1 (fun z => eo (decide_eq_true (by omega)))⟩
theorem c_due_on (T : Txt K mg) : Callee P w K mg base 1 "due_on" ["op", "d", "x"] (sp_due_on K) := Callee.of T.d_due_on fun _ _ D => ok_due_on T D
theorem sc_carries_due : FnScope ["due", "ratio"] ["due", "ratio"] (defScope t_carries_due) := ⟨rfl, rfl, rfl, by decide +kernel, rfl, by decide +kernel, by decide +kernel⟩
theorem ok_carries_due (T : Txt K mg) (D : DefAt K mg "carries_due" t_carries_due ["due", "ratio"] f fd) : FnOk P w K mg base CX0 1 f fd ["due", "ratio"] (sp_carries_due K) := by
  refine D.fn.ok sc_carries_due (fun vs H Q E h => ?_) (fun cdv A outer s H vs Q E hr h => ?_)
  · obtain ⟨e, r, rfl, q⟩ := h
    rfl
  · obtain ⟨e, r, rfl, q⟩ := h
    refine ⟨_, (pss_one (ps_ret (pe_ifExp (pt_chain op_le op_lt pe_int (pv 0) (pv 1)) pe_int pe_int))), ?_⟩
    refine ⟨_, rfl, _, _, rfl, rfl, _, rfl, ite2 (fun e1 => ?_) (fun e1 => ?_)⟩
    · have e1 := of_decide_eq_true e1
      refine ⟨_, rfl, _, _, rfl, rfl, _, rfl, ite2 (fun e2 => ?_) (fun e2 => ?_)⟩
      · rw [if_pos ⟨e1, of_decide_eq_true e2⟩] at q
        exact q
      · rw [if_neg (fun z => e2 (decide_eq_true z.2))] at q
        exact q
    · rw [if_neg (fun z => e1 (decide_eq_true z.1))] at q
      exact ⟨_, rfl, iteF q⟩
theorem c_carries_due (T : Txt K mg) : Callee P w K mg base 1 "carries_due" ["due", "ratio"] (sp_carries_due K) := Callee.of T.d_carries_due fun _ _ D => ok_carries_due T D
theorem sc_first_fault : FnScope ["faults", "fault"] ["faults"] (defScope t_first_fault) := ⟨rfl, rfl, rfl, by decide +kernel, rfl, by decide +kernel, by decide +kernel⟩
theorem ok_first_fault (T : Txt K mg) (D : DefAt K mg "first_fault" t_first_fault ["faults"] f fd) : FnOk P w K mg base CX0 1 f fd ["faults"] (sp_first_fault K) := by
  refine D.fn.ok sc_first_fault (fun vs H Q E h => ?_) (fun cdv A outer s H vs Q E hr h => ?_)
  · obtain ⟨a, xs, rfl, hs, q⟩ := h
    rfl
  · obtain ⟨a, xs, rfl, hs, q⟩ := h
    refine ⟨_, (pss_cons (ps_for PassesOwn.never rfl (pi_list (pv 0)) (pg_name (i := 1) sc_first_fault.nd rfl (by first | exact Or.inl rfl | exact Or.inr rfl))
        (pss_one (ps_if (pt_cmp (pc_notN (pv 1)))
          (pss_one (ps_ret (pv 1)))
          pss_nil)))
      (pss_one (ps_ret pe_non))), ?_⟩
    refine ⟨_, rfl, a, rfl, ⟨_, hs⟩, for_list (a := a) (xs := xs) (fun i σ H' => ∃ v : Option V, σ = [some (.ref a), v] ∧ H' = H ∧ firstV xs = firstV (xs.drop i)) ⟨none, rfl, rfl, rfl⟩ (fun i σ H' _ ⟨_, _, e, _⟩ => by rw [e]; exact hs) ?_ ?_⟩
    · rintro i x σ H' hi ⟨v, rfl, rfl, he⟩
      obtain ⟨hil, hie⟩ := List.getElem?_eq_some_iff.mp hi
      rw [List.drop_eq_getElem_cons hil, hie] at he
      by_cases c : x = .non
      · subst c
        exact ⟨_, rfl, _, rfl, iteF ⟨_, rfl, rfl, he⟩⟩
      · have e : firstV xs = x := by
          rw [he]
          cases x <;> first | rfl | exact absurd rfl c
        rw [e] at q
        exact ⟨_, rfl, _, rfl, ite2 (fun _ => ⟨_, rfl, q⟩) (fun z => absurd (by rw [decide_eq_false c]; rfl) z)⟩
    · rintro σ H' ⟨v, rfl, rfl, he⟩
      rw [List.drop_length] at he
      rw [he] at q
      exact q
theorem c_first_fault (T : Txt K mg) : Callee P w K mg base 1 "first_fault" ["faults"] (sp_first_fault K) := Callee.of T.d_first_fault fun _ _ D => ok_first_fault T D
theorem sc_deck_can_be : FnScope ["beads", "worth"] ["beads", "worth"] (defScope t_deck_can_be) := ⟨rfl, rfl, rfl, by decide +kernel, rfl, by decide +kernel, by decide +kernel⟩
theorem ok_deck_can_be (T : Txt K mg) (D : DefAt K mg "deck_can_be" t_deck_can_be ["beads", "worth"] f fd) : FnOk P w K mg base CX0 1 f fd ["beads", "worth"] (sp_deck_can_be K) := by
  refine D.fn.ok sc_deck_can_be (fun vs H Q E h => ?_) (fun cdv A outer s H vs Q E hr h => ?_)
  · obtain ⟨b, w, rfl, q⟩ := h
    rfl
  · obtain ⟨b, w, rfl, q⟩ := h
    refine ⟨_, (pss_cons (ps_if (PW.pt (pw_or (pt_cmp (pc_eqI (pv 0) pe_int)) (pw_or1 (pt_cmp (pc_eqI (pv 1) pe_int)))))
        (pss_one (ps_ret (pe_cmp (pc_eqI (pv 0) (pv 1)))))
        pss_nil)
      (pss_one (ps_ret (pe_and (pe_cmp (pc_le (pv 0) (pe_gi rfl T.v_MOST_BEADS))) (pe_one (pe_cmp (pc_le (pv 1) (pe_gi rfl T.v_HIGHEST_WORTH)))))))), ?_⟩
    unfold Rm.DeckOk Mm.DeckIn at q
    refine ⟨_, rfl, _, _, rfl, rfl, _, rfl, ite2 (fun e0 => ?_) (fun e0 => ⟨_, rfl, _, _, rfl, rfl, _, rfl, ite2 (fun e1 => ?_) (fun e1 => ?_)⟩)⟩
    · have e0 := of_decide_eq_true e0
      refine ⟨_, rfl, _, rfl, _, _, rfl, rfl, q _ ?_⟩
      simp only [decide_eq_true_eq]
      omega
    · have e1 := of_decide_eq_true e1
      refine ⟨_, rfl, _, rfl, _, _, rfl, rfl, q _ ?_⟩
      simp only [decide_eq_true_eq]
      omega
    · have e0 : ¬ (b : Int) = 0 := fun z => e0 (decide_eq_true z)
      have e1 : ¬ (w : Int) = 0 := fun z => e1 (decide_eq_true z)
      refine ⟨_, rfl, _, _, rfl, rfl, _, rfl, ite2 (fun e2 => ?_) (fun e2 => ?_)⟩
      · have e2 := of_decide_eq_true e2
        refine ⟨_, rfl, _, _, rfl, rfl, q _ ?_⟩
        simp only [decide_eq_true_eq]
        omega
      · have e2 : ¬ (b : Int) ≤ 15 := fun z => e2 (decide_eq_true z)
        refine q _ ?_
        simp only [Bool.false_eq_true, false_iff]
        omega
theorem c_deck_can_be (T : Txt K mg) : Callee P w K mg base 1 "deck_can_be" ["beads", "worth"] (sp_deck_can_be K) := Callee.of T.d_deck_can_be fun _ _ D => ok_deck_can_be T D
theorem sc_hand_can_be : FnScope ["hand", "behind"] ["hand"] (defScope t_hand_can_be) := ⟨rfl, rfl, rfl, by decide +kernel, rfl, by decide +kernel, by decide +kernel⟩
theorem ok_hand_can_be (T : Txt K mg) (D : DefAt K mg "hand_can_be" t_hand_can_be ["hand"] f fd) : FnOk P w K mg base CX0 1 f fd ["hand"] (sp_hand_can_be K) := by
  refine D.fn.ok sc_hand_can_be (fun vs H Q E h => ?_) (fun cdv A outer s H vs Q E hr h => ?_)
  · obtain ⟨a, l, rfl, hs, hl, q⟩ := h
    rfl
  · obtain ⟨a, l, rfl, hs, hl, q⟩ := h
    refine ⟨_, (pss_cons (ps_if (PW.pt (pw_or (pt_cmp (pc_eqI (pe_callB (len_s K) (by rfl) T.n_len bt_len (pa_cons (pv 0) pa_nil)) pe_int)) (pw_or1 (pt_cmp (pc_gt (pe_ix (ix_l K) (pv 0) pe_int (fun _ _ => rfl)) (pe_gi rfl T.v_HIGHEST_COST))))))
        (pss_one (ps_ret pe_bl))
        pss_nil)
      (pss_cons (ps_set (i := 1) sc_hand_can_be.nd rfl (by first | exact Or.inl rfl | exact Or.inr rfl) (pe_op op_sub (pe_callB (len_s K) (by rfl) T.n_len bt_len (pa_cons (pv 0) pa_nil)) pe_int))
      (pss_one (ps_ret (pe_and (pe_cmp (pc_eqI (pe_op op_mod (pv 1) (pe_gi rfl T.v_NUMBERS_A_STROKE)) pe_int)) (pe_one (pe_cmp (pc_le (pe_op op_fdiv (pv 1) (pe_gi rfl T.v_NUMBERS_A_STROKE)) (pe_gi rfl T.v_MOST_STROKES))))))))), ?_⟩
    have no : ¬ Mm.HandLen l → Q (.bl false) H := fun z => q false (by simp only [Bool.false_eq_true, false_iff]; exact z)
    have ll := vi_len l
    refine ⟨_, rfl, a, _, rfl, .inl hs, _, _, rfl, rfl, _, rfl, ite2 (fun e0 => ?_) (fun e0 => ?_)⟩
    · have e0 := of_decide_eq_true e0
      refine no fun z => z.1 (List.eq_nil_of_length_eq_zero ?_)
      rw [ll] at e0
      omega
    · have e0 : ¬ l.length = 0 := fun z => e0 (decide_eq_true (by rw [ll]; omega))
      have el : l ≠ [] := fun z => e0 (by rw [z]; rfl)
      refine ⟨_, rfl, a, _, _, _, rfl, rfl, hs, at_n (j := 0) (by omega), _, _, rfl, rfl, _, rfl, ite2 (fun e1 => ?_) (fun e1 => ?_)⟩
      · have e1 := of_decide_eq_true e1
        exact no fun z => by have := z.2.1; omega
      · have e1 : ¬ (255 : Int) < (l.getD 0 0 : Nat) := fun z => e1 (decide_eq_true z)
        refine ⟨_, rfl, a, _, rfl, .inl hs, _, _, rfl, rfl, ?_⟩
        refine ⟨_, rfl, _, _, rfl, rfl, (by show (0 : Int) < 7; decide), _, _, rfl, rfl, _, rfl, ite2 (fun e2 => ?_) (fun e2 => ?_)⟩
        · have e2 := of_decide_eq_true e2
          refine ⟨_, rfl, _, _, rfl, rfl, ⟨by decide, by decide⟩, _, _, rfl, rfl, q _ ?_⟩
          rw [ll] at e2 ⊢
          simp only [decide_eq_true_eq]
          unfold Mm.HandLen
          constructor
          · intro z
            exact ⟨el, by omega, by omega, by omega⟩
          · rintro ⟨_, _, z1, z2⟩
            omega
        · refine no fun z => e2 (decide_eq_true ?_)
          rw [ll]
          have := z.2.2.1
          omega
theorem c_hand_can_be (T : Txt K mg) : Callee P w K mg base 1 "hand_can_be" ["hand"] (sp_hand_can_be K) := Callee.of T.d_hand_can_be fun _ _ D => ok_hand_can_be T D
theorem sc_part_can_be : FnScope ["part"] ["part"] (defScope t_part_can_be) := ⟨rfl, rfl, rfl, by decide +kernel, rfl, by decide +kernel, by decide +kernel⟩
theorem ok_part_can_be (T : Txt K mg) (D : DefAt K mg "part_can_be" t_part_can_be ["part"] f fd) : FnOk P w K mg base CX0 1 f fd ["part"] (sp_part_can_be K) := by
  refine D.fn.ok sc_part_can_be (fun vs H Q E h => ?_) (fun cdv A outer s H vs Q E hr h => ?_)
  · obtain ⟨a, p, rfl, hs, hl, q⟩ := h
    rfl
  · obtain ⟨a, p, rfl, hs, hl, q⟩ := h
    refine ⟨_, (pss_one (ps_ret (pe_and (pe_cmp (pc_lt (pe_ix (ix_l K) (pv 0) pe_int (fun _ _ => rfl)) (pe_gi rfl T.v_DECKS))) (pe_and (pe_chain op_le op_le pe_int (pe_ix (ix_l K) (pv 0) pe_int (fun _ _ => rfl)) (pe_gi rfl T.v_HIGHEST_DIRECTION)) (pe_one (pe_chain op_le op_le pe_int (pe_ix (ix_l K) (pv 0) pe_int (fun _ _ => rfl)) (pe_gi rfl T.v_MOST_BEADS))))))), ?_⟩
    unfold PartIn at q
    have no : ¬ (p.getD 0 0 < 3 ∧ (1 ≤ p.getD 1 0 ∧ p.getD 1 0 ≤ 2) ∧ (1 ≤ p.getD 2 0 ∧ p.getD 2 0 ≤ 15)) → Q (.bl false) H := fun z => q false (by simp only [Bool.false_eq_true, false_iff]; exact z)
    refine ⟨_, rfl, a, _, _, _, rfl, rfl, hs, at_n (j := 0) (by omega), _, _, rfl, rfl, _, rfl, ite2 (fun e0 => ?_) (fun e0 => no fun z => e0 (decide_eq_true (by omega)))⟩
    have e0 := of_decide_eq_true e0
    refine ⟨_, rfl, a, _, _, _, rfl, rfl, hs, at_n (j := 1) (by omega), _, _, rfl, rfl, _, rfl, ite2 (fun e1 => ?_) (fun e1 => ⟨_, rfl, iteF (no fun z => e1 (decide_eq_true (by omega)))⟩)⟩
    have e1 := of_decide_eq_true e1
    refine ⟨_, _, rfl, rfl, _, rfl, ite2 (fun e2 => ?_) (fun e2 => no fun z => e2 (decide_eq_true (by omega)))⟩
    have e2 := of_decide_eq_true e2
    refine ⟨_, rfl, a, _, _, _, rfl, rfl, hs, at_n (j := 2) (by omega), _, _, rfl, rfl, _, rfl, ite2 (fun e3 => ?_) (fun e3 => no fun z => e3 (decide_eq_true (by omega)))⟩
    have e3 := of_decide_eq_true e3
    refine ⟨_, _, rfl, rfl, q _ ?_⟩
    simp only [decide_eq_true_eq]
    omega
theorem c_part_can_be (T : Txt K mg) : Callee P w K mg base 1 "part_can_be" ["part"] (sp_part_can_be K) := Callee.of T.d_part_can_be fun _ _ D => ok_part_can_be T D
theorem sc_length_can_be : FnScope ["length"] ["length"] (defScope t_length_can_be) := ⟨rfl, rfl, rfl, by decide +kernel, rfl, by decide +kernel, by decide +kernel⟩
theorem ok_length_can_be (T : Txt K mg) (D : DefAt K mg "length_can_be" t_length_can_be ["length"] f fd) : FnOk P w K mg base CX0 1 f fd ["length"] (sp_length_can_be K) := by
  refine D.fn.ok sc_length_can_be (fun vs H Q E h => ?_) (fun cdv A outer s H vs Q E hr h => ?_)
  · obtain ⟨n, rfl, q⟩ := h
    rfl
  · obtain ⟨n, rfl, q⟩ := h
    refine ⟨_, (pss_one (ps_ret (pe_and (pe_chain op_le op_le pe_int (pv 0) (pe_op op_add pe_int (pe_op op_mul pe_int (pe_gi rfl T.v_MOST_STEPS)))) (pe_one (pe_cmp (pc_eqI (pe_op op_mod (pv 0) pe_int) pe_int)))))), ?_⟩
    have e : Bm.lenB n = ((decide ((3 : Int) ≤ (n : Int)) && decide ((n : Int) ≤ 3 + 3 * 10)) && decide ((n : Int) % 3 = 0)) := by
      unfold Bm.lenB
      have a1 : decide (3 ≤ n) = decide ((3 : Int) ≤ (n : Int)) := decide_eq_decide.mpr (by omega)
      have a2 : decide (n ≤ 33) = decide ((n : Int) ≤ 3 + 3 * 10) := decide_eq_decide.mpr (by omega)
      have a3 : decide (n % 3 = 0) = decide ((n : Int) % 3 = 0) := decide_eq_decide.mpr (by omega)
      rw [a1, a2, a3]
    rw [e] at q
    refine ⟨_, rfl, _, _, rfl, rfl, _, rfl, ite2 (fun e1 => ?_) (fun e1 => ?_)⟩
    · rw [e1, Bool.true_and] at q
      exact ⟨_, _, rfl, rfl, .inl ⟨by decide, by decide⟩, _, _, rfl, rfl, _, _, rfl, rfl, _, rfl, andR q fun _ q => ⟨_, rfl, _, _, rfl, rfl, (by show (0 : Int) < 3; decide), _, _, rfl, rfl, q⟩⟩
    · rw [show decide ((3 : Int) ≤ (n : Int)) = false from Bool.eq_false_iff.mpr e1, Bool.false_and, Bool.false_and] at q
      exact ⟨_, rfl, iteF q⟩
theorem c_length_can_be (T : Txt K mg) : Callee P w K mg base 1 "length_can_be" ["length"] (sp_length_can_be K) := Callee.of T.d_length_can_be fun _ _ D => ok_length_can_be T D
theorem sc_head_can_be : FnScope ["row"] ["row"] (defScope t_head_can_be) := ⟨rfl, rfl, rfl, by decide +kernel, rfl, by decide +kernel, by decide +kernel⟩
theorem ok_head_can_be (T : Txt K mg) (D : DefAt K mg "head_can_be" t_head_can_be ["row"] f fd) : FnOk P w K mg base CX0 1 f fd ["row"] (sp_head_can_be K) := by
  refine D.fn.ok sc_head_can_be (fun vs H Q E h => ?_) (fun cdv A outer s H vs Q E hr h => ?_)
  · obtain ⟨a, ns, rfl, hs, hl, q⟩ := h
    rfl
  · obtain ⟨a, ns, rfl, hs, hl, q⟩ := h
    refine ⟨_, (pss_one (ps_ret (pe_and (pe_cmp (pc_le (pe_ix (ix_l K) (pv 0) pe_int (fun _ _ => rfl)) (pe_gi rfl T.v_HIGHEST_OP))) (pe_and (pe_cmp (pc_le (pe_ix (ix_l K) (pv 0) pe_int (fun _ _ => rfl)) (pe_gi rfl T.v_HIGHEST_DIGIT))) (pe_one (pe_cmp (pc_le (pe_ix (ix_l K) (pv 0) pe_int (fun _ _ => rfl)) (pe_gi rfl T.v_HIGHEST_DIGIT)))))))), ?_⟩
    unfold Bm.headB at q
    exact ⟨_, rfl, a, _, _, _, rfl, rfl, hs, ints_at0 (j := 0) (by omega), _, _, rfl, rfl, _, rfl, andR q fun _ q =>
      ⟨_, rfl, a, _, _, _, rfl, rfl, hs, ints_at0 (j := 1) (by omega), _, _, rfl, rfl, _, rfl, andR q fun _ q =>
      ⟨_, rfl, a, _, _, _, rfl, rfl, hs, ints_at0 (j := 2) (by omega), _, _, rfl, rfl, q⟩⟩⟩
theorem c_head_can_be (T : Txt K mg) : Callee P w K mg base 1 "head_can_be" ["row"] (sp_head_can_be K) := Callee.of T.d_head_can_be fun _ _ D => ok_head_can_be T D
theorem sc_step_can_be : FnScope ["stroke", "n", "k"] ["stroke", "n", "k"] (defScope t_step_can_be) := ⟨rfl, rfl, rfl, by decide +kernel, rfl, by decide +kernel, by decide +kernel⟩
theorem ok_step_can_be (T : Txt K mg) (D : DefAt K mg "step_can_be" t_step_can_be ["stroke", "n", "k"] f fd) : FnOk P w K mg base CX0 1 f fd ["stroke", "n", "k"] (sp_step_can_be K) := by
  refine D.fn.ok sc_step_can_be (fun vs H Q E h => ?_) (fun cdv A outer s H vs Q E hr h => ?_)
  · obtain ⟨s, n, k, rfl, q⟩ := h
    rfl
  · obtain ⟨s, n, k, rfl, q⟩ := h
    refine ⟨_, (pss_cons (ps_if (pt_cmp (pc_eqI (pv 1) pe_int))
        (pss_one (ps_ret (pe_and (pe_cmp (pc_eqI (pv 0) pe_int)) (pe_one (pe_cmp (pc_eqI (pv 2) pe_int))))))
        pss_nil)
      (pss_one (ps_ret (pe_and (pe_cmp (pc_le (pv 0) (pe_gi rfl T.v_HIGHEST_STROKE))) (pe_and (pe_cmp (pc_le (pv 1) (pe_gi rfl T.v_MOST_BEADS))) (pe_one (pe_cmp (pc_le (pv 2) (pe_gi rfl T.v_MOST_BEADS))))))))), ?_⟩
    unfold Bm.stepB at q
    refine ⟨_, rfl, _, _, rfl, rfl, _, rfl, ite2 (fun e => ?_) (fun e => ?_)⟩
    · have e := of_decide_eq_true e
      rw [if_pos e] at q
      exact ⟨_, rfl, _, _, rfl, rfl, _, rfl, andR q fun _ q => ⟨_, rfl, _, _, rfl, rfl, q⟩⟩
    · have e : ¬ n = 0 := fun z => e (decide_eq_true z)
      rw [if_neg e] at q
      exact ⟨_, rfl, _, _, rfl, rfl, _, rfl, andR q fun _ q => ⟨_, rfl, _, _, rfl, rfl, _, rfl, andR q fun _ q => ⟨_, rfl, _, _, rfl, rfl, q⟩⟩⟩
theorem c_step_can_be (T : Txt K mg) : Callee P w K mg base 1 "step_can_be" ["stroke", "n", "k"] (sp_step_can_be K) := Callee.of T.d_step_can_be fun _ _ D => ok_step_can_be T D
theorem sc_worth_together : FnScope ["rod", "deck"] ["rod"] (defScope t_worth_together) := ⟨rfl, rfl, rfl, by decide +kernel, rfl, by decide +kernel, by decide +kernel⟩
theorem ok_worth_together (T : Txt K mg) (D : DefAt K mg "worth_together" t_worth_together ["rod"] f fd) : FnOk P w K mg base CX0 2 f fd ["rod"] (sp_worth_together K) := by
  refine D.fn.ok sc_worth_together (fun vs H Q E h => ?_) (fun cdv A outer s H vs Q E hr h => ?_)
  · obtain ⟨a, g, rfl, hs, hl, hR, q⟩ := h
    rfl
  · obtain ⟨a, g, rfl, hs, hl, hR, q⟩ := h
    refine ⟨_, (pss_one (ps_ret (pe_callB (sum_l K rfl) (by rfl) T.n_sum bt_sum (pa_cons (pe_lc rfl sc_worth_together.nd (pi_range1 rfl T.n_range (pa_cons (pe_gi rfl T.v_DECKS) pa_nil)) (blkOk_by (N := ["rod", "deck"]) (sc := defScope t_worth_together) (own := [("deck", 1)]) (by decide +kernel)) (fun _ _ _ _ _ => (pg_name (i := 1) sc_worth_together.nd rfl (by first | exact Or.inl rfl | exact Or.inr rfl))) (fun _ _ _ _ _ => pts_nil) (fun _ _ _ _ _ => (pe_op op_mul (pe_c (c_beads_of T) hr (by decide) rfl (pa_cons (pv 0) (pa_cons (pv 1) pa_nil))) (pe_c (c_worth_of T) hr (by decide) rfl (pa_cons (pv 0) (pa_cons (pv 1) pa_nil)))))) pa_nil)))), ?_⟩
    refine ⟨3, rfl, by decide, by decide, fun D hD => ?_⟩
    refine lc_range (lo := 0) (n := 3) (fun i H' => Same H H' ∧ H' D = some (.lst (((List.range i).map fun j => ((Rm.beOf g j * Rm.woOf g j : Nat) : Int)).map V.int)))
      ⟨Same.new (Same.refl H) hD, upd_same⟩ ?_ ?_
    · rintro i H' hi ⟨s1, hd⟩
      have hb := be_le hR hi
      refine ⟨rfl, ?_⟩
      refine ⟨_, rfl, _, rfl, a, g, i, by rw [Int.zero_add]; rfl, s1.seq hs, hl, hi, _, rfl, _, rfl, a, g, i, by rw [Int.zero_add]; rfl, s1.seq hs, hl, hi, _, _, rfl, rfl, .inl ⟨by omega, by omega⟩, ?_⟩
      refine ⟨_, hd, line_lt (by rw [List.length_map, List.length_map, List.length_range]; omega), Same.put s1 hD, ?_⟩
      rw [upd_same, range_snoc, List.map_append]
      congr 2
    · rintro H' ⟨s1, hd⟩
      refine ⟨D, _, rfl, SqL.of hd, ?_⟩
      have e : ((List.range 3).map fun j => ((Rm.beOf g j * Rm.woOf g j : Nat) : Int)).sum = ((Rm.mostOf g : Nat) : Int) := by
        show ((Rm.beOf g 0 * Rm.woOf g 0 : Nat) : Int) + (((Rm.beOf g 1 * Rm.woOf g 1 : Nat) : Int) + (((Rm.beOf g 2 * Rm.woOf g 2 : Nat) : Int) + 0)) = _
        unfold Rm.mostOf Rm.beOf Rm.woOf
        simp only [Nat.mul_zero, Nat.add_zero, Nat.mul_one, show 1 + 2 * 2 = 5 from rfl, show 2 + 2 * 2 = 6 from rfl, show 1 + 2 = 3 from rfl, show 2 + 2 = 4 from rfl]
        omega
      rw [e]
      exact q H' s1
theorem c_worth_together (T : Txt K mg) : Callee P w K mg base 2 "worth_together" ["rod"] (sp_worth_together K) := Callee.of T.d_worth_together fun _ _ D => ok_worth_together T D
theorem upd_self {H : Hp} {a : Addr} {o : HO} (h : H a = some o) : upd H a o = H := by
  funext b
  by_cases e : b = a
  · rw [e, upd_same, h]
  · rw [upd_ne e]
theorem putK_keys {kvs : List (Key × V)} {k : Key} {v y : V} (h : valV kvs k = some v) : (putK kvs k y).map (·.1) = kvs.map (·.1) := by
  unfold putK
  rw [valV_any, h, if_pos (show (some v).isSome = true from rfl), List.map_map]
  refine List.map_congr_left fun kv _ => ?_
  show (if kv.1 = k then (kv.1, y) else kv).1 = kv.1
  split <;> rfl
/-- one more way, better than what there was -/
theorem forms_put {H : Hp} {kvs : List (Key × V)} {ws : Rm.Ways} {c : Nat} {p : List Nat} {q0 : Addr} (h : Forms H kvs ws) (h2 : H q0 = some (lstN p)) (hb : Rm.formIn (ws ++ [(c, p)]) c = some p) : Forms H (putK kvs (kN c) (.ref q0)) (ws ++ [(c, p)]) := by
  intro d
  by_cases e : c = d
  · subst e
    rw [hb]
    exact ⟨q0, by rw [valV_put, if_pos rfl], h2⟩
  · have hd := h d
    rw [Rm.formIn_snoc, if_neg e]
    cases e2 : Rm.formIn ws d with
    | none =>
      rw [e2] at hd
      show valV _ _ = none
      rw [valV_put, if_neg (fun z => e (kN_inj z).symm)]
      exact hd
    | some p' =>
      rw [e2] at hd
      obtain ⟨q, k1, k2⟩ := hd
      exact ⟨q, by rw [valV_put, if_neg (fun z => e (kN_inj z).symm)]; exact k1, k2⟩
theorem forms_stay {H : Hp} {kvs : List (Key × V)} {ws : Rm.Ways} {c : Nat} {p p' : List Nat} (h : Forms H kvs ws) (h1 : Rm.formIn ws c = some p') (h2 : Na.nicer p p' = false) : Forms H kvs (ws ++ [(c, p)]) := by
  intro d
  have hd := h d
  rw [Rm.formIn_snoc]
  by_cases e : c = d
  · subst e
    rw [if_pos rfl]
    rw [h1] at hd ⊢
    dsimp only at hd ⊢
    rw [h2]
    exact hd
  · rw [if_neg e]
    exact hd
theorem formIn_new {ws : Rm.Ways} {c : Nat} {p : List Nat} (h : Rm.formIn ws c = none) : Rm.formIn (ws ++ [(c, p)]) c = some p := by
  rw [Rm.formIn_snoc, if_pos rfl, h]
theorem formIn_old {ws : Rm.Ways} {c : Nat} {p p' : List Nat} (h : Rm.formIn ws c = some p') (h2 : Na.nicer p p' = true) : Rm.formIn (ws ++ [(c, p)]) c = some p := by
  rw [Rm.formIn_snoc, if_pos rfl, h]
  dsimp only
  rw [if_pos h2]
theorem Keys.new {kvs : List (Key × V)} {n c : Nat} {y : V} (h : Keys kvs n) (hc : c < n) (hv : valV kvs (kN c) = none) : Keys (putK kvs (kN c) y) n := by
  obtain ⟨ds, h1, h2, h3⟩ := h
  have hn : ¬ c ∈ ds := fun z => valV_not hv (by rw [h2]; exact List.mem_map.mpr ⟨c, z, rfl⟩)
  refine ⟨ds ++ [c], ?_, ?_, ?_⟩
  · rw [List.nodup_append]
    refine ⟨h1, by simp, fun a ha b hb => ?_⟩
    rw [List.mem_singleton] at hb
    rw [hb]
    exact fun z => hn (by rw [← z]; exact ha)
  · rw [putK_new _ hv, List.map_append, List.map_append, h2]
    rfl
  · intro d hd
    rcases List.mem_append.mp hd with hd | hd
    · exact h3 d hd
    · rw [List.mem_singleton.mp hd]
      exact hc
theorem Keys.old {kvs : List (Key × V)} {n c : Nat} {v y : V} (h : Keys kvs n) (hv : valV kvs (kN c) = some v) : Keys (putK kvs (kN c) y) n := by
  obtain ⟨ds, h1, h2, h3⟩ := h
  exact ⟨ds, h1, by rw [putK_keys hv]; exact h2, h3⟩
theorem Keys.len {kvs : List (Key × V)} {n : Nat} (h : Keys kvs n) : kvs.length ≤ n := by
  obtain ⟨ds, h1, h2, h3⟩ := h
  have := congrArg List.length h2
  rw [List.length_map, List.length_map] at this
  rw [this]
  exact Rm.pigeon h1 h3
theorem keys_whole {H : Hp} {g : List Nat} {kvs : List (Key × V)} (h : Keys kvs (g.getD 0 0)) (hf : Forms H kvs (Rm.waysOf g 3)) : kvs.length < g.getD 0 0 ↔ ¬ Rm.Whole g := by
  obtain ⟨ds, h1, h2, h3⟩ := h
  have hl := congrArg List.length h2
  rw [List.length_map, List.length_map] at hl
  have hmem : ∀ d : Nat, Rm.formIn (Rm.waysOf g 3) d ≠ none ↔ d ∈ ds := fun d => by
    have hd := hf d
    cases e : Rm.formIn (Rm.waysOf g 3) d with
    | none =>
      rw [e] at hd
      have k := valV_not hd
      rw [h2] at k
      constructor
      · intro z
        exact absurd rfl z
      · intro z
        exact absurd (List.mem_map.mpr ⟨d, z, rfl⟩) k
    | some p =>
      rw [e] at hd
      obtain ⟨q, hq, _⟩ := hd
      have k := valV_in hq
      rw [h2] at k
      obtain ⟨d', hd', ed⟩ := List.mem_map.mp k
      have := kN_inj ed
      constructor
      · intro _
        rw [← this]
        exact hd'
      · intro _ z
        cases z
  constructor
  · intro hlt hw
    have : g.getD 0 0 ≤ ds.length := by
      have := (List.nodup_range (n := g.getD 0 0)).length_le_of_subset (l₂ := ds) fun d hd => (hmem d).mp (hw d (List.mem_range.mp hd))
      rwa [List.length_range] at this
    omega
  · intro hw
    refine Classical.byContradiction fun hlt => hw fun d hd => ?_
    refine (hmem d).mpr (Classical.byContradiction fun hn => ?_)
    have := Rm.pigeon (n := g.getD 0 0) (l := d :: ds) (List.nodup_cons.mpr ⟨hn, h1⟩) fun x hx => by
      rcases List.mem_cons.mp hx with rfl | hx
      · exact hd
      · exact h3 x hx
    rw [List.length_cons] at this
    omega
theorem wstep_snoc (q b w : Nat) (ws : Rm.Ways) (cp : Nat × List Nat) : Rm.wstep q b w (ws ++ [cp]) = Rm.wstep q b w ws ++ Rm.wrow q b w cp := by
  unfold Rm.wstep
  rw [List.flatMap_append]
  simp
def wpart (q w : Nat) (cp : Nat × List Nat) (m : Nat) : Rm.Ways := (List.range m).filterMap fun m => if cp.1 + m * w < q then some (cp.1 + m * w, cp.2 ++ [m]) else none
theorem wpart_yes {q w m : Nat} {cp : Nat × List Nat} (h : cp.1 + m * w < q) : wpart q w cp (m + 1) = wpart q w cp m ++ [(cp.1 + m * w, cp.2 ++ [m])] := by
  unfold wpart
  rw [List.range_succ, List.filterMap_append]
  congr 1
  simp [h]
theorem wpart_no {q w m : Nat} {cp : Nat × List Nat} (h : ¬ cp.1 + m * w < q) : wpart q w cp (m + 1) = wpart q w cp m := by
  unfold wpart
  rw [List.range_succ, List.filterMap_append]
  simp [h]
theorem wpart_len (q w m : Nat) (cp : Nat × List Nat) : (wpart q w cp m).length ≤ m := by
  unfold wpart
  refine Nat.le_trans (List.length_filterMap_le ..) ?_
  simp
theorem wpart_stop {q w m : Nat} {cp : Nat × List Nat} (h : ¬ cp.1 + m * w < q) : ∀ n, m ≤ n → wpart q w cp n = wpart q w cp m
  | 0, hn => by
    have : m = 0 := by omega
    rw [this]
  | n + 1, hn => by
    by_cases e : m = n + 1
    · rw [e]
    · have h2 : ¬ cp.1 + n * w < q := fun z => h (Nat.lt_of_le_of_lt (Nat.add_le_add_left (Nat.mul_le_mul_right w (by omega)) _) z)
      rw [wpart_no h2]
      exact wpart_stop h n (by omega)
theorem Forms.keep {H H' : Hp} {kvs : List (Key × V)} {ws : Rm.Ways} (h : Forms H kvs ws) (k : ∀ q p, H q = some (lstN p) → H' q = some (lstN p)) : Forms H' kvs ws := by
  intro d
  have hd := h d
  cases e : Rm.formIn ws d with
  | none =>
    rw [e] at hd
    exact hd
  | some p =>
    rw [e] at hd
    obtain ⟨q, k1, k2⟩ := hd
    exact ⟨q, k1, k q p k2⟩
theorem Forms.same {H : Hp} {kvs : List (Key × V)} {ws ws' : Rm.Ways} (h : Forms H kvs ws) (e : ∀ d, Rm.formIn ws' d = Rm.formIn ws d) : Forms H kvs ws' := by
  intro d
  rw [e d]
  exact h d
theorem forms_get {H : Hp} {kvs : List (Key × V)} {ws : Rm.Ways} (h : Forms H kvs ws) {d : Nat} {v : V} (e : valV kvs (kN d) = some v) : ∃ p q, Rm.formIn ws d = some p ∧ v = .ref q ∧ H q = some (lstN p) := by
  have hd := h d
  cases z : Rm.formIn ws d with
  | none =>
    rw [z] at hd
    rw [show valV kvs (kN d) = none from hd] at e
    cases e
  | some p =>
    rw [z] at hd
    obtain ⟨q, k1, k2⟩ := hd
    rw [show valV kvs (kN d) = some (.ref q) from k1] at e
    exact ⟨p, q, rfl, (Option.some.inj e).symm, k2⟩
theorem forms_no {H : Hp} {kvs : List (Key × V)} {ws : Rm.Ways} (h : Forms H kvs ws) {d : Nat} (e : valV kvs (kN d) = none) : Rm.formIn ws d = none := by
  have hd := h d
  cases z : Rm.formIn ws d with
  | none => rfl
  | some p =>
    rw [z] at hd
    obtain ⟨q, k1, _⟩ := hd
    rw [show valV kvs (kN d) = some (.ref q) from k1] at e
    cases e
theorem snoc_len {ws : Rm.Ways} {n c : Nat} {p : List Nat} (h : ∀ d p', Rm.formIn ws d = some p' → p'.length = n) (hp : p.length = n) : ∀ d p', Rm.formIn (ws ++ [(c, p)]) d = some p' → p'.length = n := fun d p' e => by
  rw [Rm.formIn_snoc] at e
  by_cases z : c = d
  · subst z
    rw [if_pos rfl] at e
    cases y : Rm.formIn ws c with
    | none =>
      rw [y] at e
      cases e
      exact hp
    | some p2 =>
      rw [y] at e
      dsimp only at e
      by_cases x : Na.nicer p p2 = true
      · rw [if_pos x] at e
        cases e
        exact hp
      · rw [if_neg x] at e
        cases e
        exact h c _ y
  · rw [if_neg z] at e
    exact h d p' e
theorem val_at : ∀ {kvs : List (Key × V)} {j : Nat} {k : Key} {v : V}, (kvs.map (·.1)).Nodup → kvs[j]? = some (k, v) → valV kvs k = some v
  | [], j, k, v, _, h => by simp at h
  | p :: r, 0, k, v, _, h => by
    cases h
    exact valV_pos rfl
  | p :: r, j + 1, k, v, nd, h => by
    have nd2 := List.nodup_cons.mp nd
    have h : r[j]? = some (k, v) := h
    have hk : k ∈ r.map (·.1) := List.mem_map.mpr ⟨(k, v), List.mem_of_getElem? h, rfl⟩
    rw [valV_neg (fun z => nd2.1 (by rw [show (fun x : Key × V => x.1) p = k from z]; exact hk))]
    exact val_at nd2.2 h
/-- of a dict of forms: its entries in order -/
theorem fdict_of {H : Hp} {kvs : List (Key × V)} {ws : Rm.Ways} {n l : Nat} (hF : Forms H kvs ws) (hK : Keys kvs n) (hl : ∀ x ∈ ws, x.2.length = l) : ∃ fl, FDict H kvs fl ∧ Fo.Best l fl ws := by
  obtain ⟨ds, h1, h2, h3⟩ := hK
  have hlen := congrArg List.length h2
  rw [List.length_map, List.length_map] at hlen
  have key : ∀ (j d : Nat), ds[j]? = some d → ∃ v, kvs[j]? = some (kN d, v) ∧ valV kvs (kN d) = some v := fun j d e => by
    have hj : j < kvs.length := by
      have := (List.getElem?_eq_some_iff.mp e).1
      omega
    have e2 : (kvs.map (·.1))[j]? = some (kN d) := by rw [h2, List.getElem?_map, e]; rfl
    rw [List.getElem?_map, List.getElem?_eq_getElem hj] at e2
    have e3 : (kvs[j]).1 = kN d := Option.some.inj e2
    refine ⟨(kvs[j]).2, by rw [List.getElem?_eq_getElem hj, ← e3], ?_⟩
    have nd : (kvs.map (·.1)).Nodup := by
      rw [h2]
      exact List.Pairwise.map kN (fun a b hab z => hab (kN_inj z)) h1
    exact val_at nd (by rw [List.getElem?_eq_getElem hj, ← e3])
  have get : ∀ d ∈ ds, ∃ p q, Rm.formIn ws d = some p ∧ valV kvs (kN d) = some (.ref q) ∧ H q = some (lstN p) := fun d hd => by
    obtain ⟨j, hj⟩ := List.getElem?_of_mem hd
    obtain ⟨v, _, hv⟩ := key j d hj
    obtain ⟨p, q, k1, rfl, k2⟩ := forms_get hF hv
    exact ⟨p, q, k1, hv, k2⟩
  refine ⟨ds.map fun d => (d, (Rm.formIn ws d).getD []), ⟨by rw [List.length_map]; exact hlen, fun j c p e => ?_⟩, hl, fun x hx => ?_, fun d p e => ?_⟩
  · rw [List.getElem?_map] at e
    obtain ⟨d, hd, ed⟩ := Option.map_eq_some_iff.mp e
    cases ed
    obtain ⟨v, hv, hv2⟩ := key j c hd
    obtain ⟨p, q, k1, k2, k3⟩ := get c (List.mem_of_getElem? hd)
    rw [hv2] at k2
    cases k2
    refine ⟨q, hv, ?_⟩
    rw [k1]
    exact k3
  · obtain ⟨d, hd, rfl⟩ := List.mem_map.mp hx
    obtain ⟨p, q, k1, k2, k3⟩ := get d hd
    show Rm.formIn ws d = some ((Rm.formIn ws d).getD [])
    rw [k1]
    rfl
  · have hd := hF d
    rw [e] at hd
    obtain ⟨q, k1, k2⟩ := hd
    have hin := valV_in k1
    rw [h2] at hin
    obtain ⟨d', hd', ed⟩ := List.mem_map.mp hin
    have := kN_inj ed
    subst this
    refine List.mem_map.mpr ⟨d', hd', ?_⟩
    rw [e]
    rfl
theorem sc_forms_with_deck : FnScope ["rod", "deck", "forms", "longer", "digit", "form", "more", "grown", "way"] ["rod", "deck", "forms"] (defScope t_forms_with_deck) := ⟨rfl, rfl, rfl, by decide +kernel, rfl, by decide +kernel, by decide +kernel⟩
theorem ok_forms_with_deck (T : Txt K mg) (D : DefAt K mg "forms_with_deck" t_forms_with_deck ["rod", "deck", "forms"] f fd) : FnOk P w K mg base CX0 2 f fd ["rod", "deck", "forms"] (sp_forms_with_deck K) := by
  refine D.fn.ok sc_forms_with_deck (fun vs H Q E h => ?_) (fun cdv A outer s H vs Q E hr h => ?_)
  · obtain ⟨a, f, g, j, kvs, fl, rfl, hs, hl, hR, hj, hf, hfd, hlen, q⟩ := h
    rfl
  · obtain ⟨a, f, g, j, kvs, fl, rfl, hs, hl, hR, hj, hf, hfd, hlen, q⟩ := h
    have hu := hu_of hr
    refine ⟨_, (pss_cons (ps_set (i := 3) sc_forms_with_deck.nd rfl (by first | exact Or.inl rfl | exact Or.inr rfl) pe_dnewK)
      (pss_cons (ps_lock (ps_for PassesOwn.never rfl (pi_items (pv 2)) (pg_tup rfl (pgs_cons (pg_name (i := 4) sc_forms_with_deck.nd rfl (by first | exact Or.inl rfl | exact Or.inr rfl)) (pgs_cons (pg_name (i := 5) sc_forms_with_deck.nd rfl (by first | exact Or.inl rfl | exact Or.inr rfl)) pgs_nil)))
        (pss_one (ps_for PassesOwn.never rfl (pi_range1 rfl T.n_range (pa_cons (pe_op op_add (pe_c (c_beads_of T) hr (by decide) rfl (pa_cons (pv 0) (pa_cons (pv 1) pa_nil))) pe_int) pa_nil)) (pg_name (i := 6) sc_forms_with_deck.nd rfl (by first | exact Or.inl rfl | exact Or.inr rfl))
          (pss_cons (ps_set (i := 7) sc_forms_with_deck.nd rfl (by first | exact Or.inl rfl | exact Or.inr rfl) (pe_op op_add (pv 4) (pe_op op_mul (pv 6) (pe_c (c_worth_of T) hr (by decide) rfl (pa_cons (pv 0) (pa_cons (pv 1) pa_nil))))))
          (pss_cons (ps_if (pt_cmp (pc_ge (pv 7) (pe_c (c_ratio_of T) hr (by decide) rfl (pa_cons (pv 0) pa_nil))))
            (pss_one ps_break)
            pss_nil)
          (pss_cons (ps_set (i := 8) sc_forms_with_deck.nd rfl (by first | exact Or.inl rfl | exact Or.inr rfl) (pe_op op_cat (pv 5) (pe_lst (pa_cons (pv 6) pa_nil))))
          (pss_one (ps_if (PW.pt (pw_or (pt_cmp (pc_dnotin hu (pv 7) (pv 3)) rfl) (pw_or1 (pt_val (pe_c (c_goes_before T) hr (by decide) rfl (pa_cons (pv 8) (pa_cons (pe_dget hu (pv 3) (pv 7) (fun _ _ => rfl)) pa_nil)))))))
            (pss_one (ps_dput hu (pv 3) (pv 7) (pv 8) rfl))
            pss_nil)))))))))
      (pss_one (ps_ret (pv 3))))), ?_⟩
    intro L hL
    have nfL : f ≠ L := ne_of_none hf hL
    have hbl := be_le hR hj
    refine ⟨f, .dK kvs, by rw [upd_ne nfL]; exact hf, True.intro, fun od => ?_⟩
    refine ⟨_, rfl, f, od, kvs, rfl, upd_same, for_items (d := f) (od := od) (kvs := kvs) (fun i σ H' => ∃ (v4 v5 v6 v7 v8 : Option V) (ks : List (Key × V)), σ = [some (.ref a), some (.int (j : Nat)), some (.ref f), some (.ref L), v4, v5, v6, v7, v8] ∧ (∀ b o, b ≠ f → H b = some o → H' b = some o) ∧ H' f = some (.frz od (.dK kvs)) ∧ H' L = some (.dK ks) ∧
      Forms H' ks (Rm.wstep (g.getD 0 0) (Rm.beOf g j) (Rm.woOf g j) (fl.take i)) ∧ Keys ks (g.getD 0 0) ∧ ∀ d p', Rm.formIn (Rm.wstep (g.getD 0 0) (Rm.beOf g j) (Rm.woOf g j) (fl.take i)) d = some p' → p'.length = j + 1)
      ⟨none, none, none, none, none, [], rfl, fun b o nb e => by rw [upd_ne nb, upd_ne (ne_of_none e hL)]; exact e, upd_same, by rw [upd_ne (Ne.symm nfL)]; exact upd_same, fun d => by rw [List.take_zero]; exact rfl, ⟨[], List.nodup_nil, rfl, fun d h => by simp at h⟩, fun d p e => by rw [List.take_zero] at e; cases e⟩
      (fun i σ H' _ ⟨_, _, _, _, _, _, _, _, h, _⟩ => h) ?_ ?_⟩
    · rintro i k v T σ H2 hi hT ⟨v4, v5, v6, v7, v8, ks, rfl, s2, hf2, hL2, hF, hK, h3⟩
      have hil : i < fl.length := by
        have := (List.getElem?_eq_some_iff.mp hi).1
        rw [hfd.1] at this
        exact this
      obtain ⟨⟨c, p⟩, hcp⟩ : ∃ cp, fl[i]? = some cp := ⟨_, List.getElem?_eq_getElem hil⟩
      obtain ⟨q0, h1, h2⟩ := hfd.2 i c p hcp
      rw [hi] at h1
      cases h1
      have hpl : p.length = j := hlen _ (List.mem_of_getElem? hcp)
      have nq0 : q0 ≠ f := ne_of h2 hf (by intro z; cases z)
      have T2 : Same H2 (upd H2 T (.tup [kV (kN c), .ref q0])) := Same.new (Same.refl H2) hT
      have fin : ∀ (m : Nat) (H3 : Hp) (v6 v7 v8 : Option V) (ks : List (Key × V)), wpart (g.getD 0 0) (Rm.woOf g j) (c, p) m = wpart (g.getD 0 0) (Rm.woOf g j) (c, p) (Rm.beOf g j + 1) → (∀ b o, b ≠ f → H b = some o → H3 b = some o) → H3 f = some (.frz od (.dK kvs)) → H3 L = some (.dK ks) →
        Forms H3 ks (Rm.wstep (g.getD 0 0) (Rm.beOf g j) (Rm.woOf g j) (fl.take i) ++ wpart (g.getD 0 0) (Rm.woOf g j) (c, p) m) → Keys ks (g.getD 0 0) → (∀ d p', Rm.formIn (Rm.wstep (g.getD 0 0) (Rm.beOf g j) (Rm.woOf g j) (fl.take i) ++ wpart (g.getD 0 0) (Rm.woOf g j) (c, p) m) d = some p' → p'.length = j + 1) →
        ∃ (v4 v5 v6' v7' v8' : Option V) (ks : List (Key × V)), [some (.ref a), some (.int (j : Nat)), some (.ref f), some (.ref L), some (.int (c : Nat)), some (.ref q0), v6, v7, v8] = [some (.ref a), some (.int (j : Nat)), some (.ref f), some (.ref L), v4, v5, v6', v7', v8'] ∧ (∀ b o, b ≠ f → H b = some o → H3 b = some o) ∧ H3 f = some (.frz od (.dK kvs)) ∧ H3 L = some (.dK ks) ∧
        Forms H3 ks (Rm.wstep (g.getD 0 0) (Rm.beOf g j) (Rm.woOf g j) (fl.take (i + 1))) ∧ Keys ks (g.getD 0 0) ∧ ∀ d p', Rm.formIn (Rm.wstep (g.getD 0 0) (Rm.beOf g j) (Rm.woOf g j) (fl.take (i + 1))) d = some p' → p'.length = j + 1 := by
        intro m H3 v6 v7 v8 ks em k1 k2 k3 k4 k5 k6
        have ew : Rm.wstep (g.getD 0 0) (Rm.beOf g j) (Rm.woOf g j) (fl.take (i + 1)) = Rm.wstep (g.getD 0 0) (Rm.beOf g j) (Rm.woOf g j) (fl.take i) ++ wpart (g.getD 0 0) (Rm.woOf g j) (c, p) m := by
          rw [take_snoc hcp, wstep_snoc, em]
          rfl
        rw [ew]
        exact ⟨_, _, _, _, _, ks, rfl, k1, k2, k3, k4, k5, k6⟩
      refine ⟨T, _, rfl, SqT.of upd_same, rfl, _, _, rfl, _, _, rfl, rfl, ?_⟩
      have nTf : f ≠ T := ne_of_none hf2 hT
      have nTL : L ≠ T := ne_of_none hL2 hT
      refine ⟨_, rfl, _, rfl, a, g, j, rfl, T2.seq (SqL.keepX hf hs s2), hl, hj, _, _, rfl, rfl, _, rfl, by omega, by omega, for_range (fun m σ H3 => ∃ (v6 v7 v8 : Option V) (ks : List (Key × V)), σ = [some (.ref a), some (.int (j : Nat)), some (.ref f), some (.ref L), some (.int (c : Nat)), some (.ref q0), v6, v7, v8] ∧ (∀ b o, b ≠ f → H b = some o → H3 b = some o) ∧ H3 f = some (.frz od (.dK kvs)) ∧ H3 L = some (.dK ks) ∧
        Forms H3 ks (Rm.wstep (g.getD 0 0) (Rm.beOf g j) (Rm.woOf g j) (fl.take i) ++ wpart (g.getD 0 0) (Rm.woOf g j) (c, p) m) ∧ Keys ks (g.getD 0 0) ∧ ∀ d p', Rm.formIn (Rm.wstep (g.getD 0 0) (Rm.beOf g j) (Rm.woOf g j) (fl.take i) ++ wpart (g.getD 0 0) (Rm.woOf g j) (c, p) m) d = some p' → p'.length = j + 1)
        ⟨v6, v7, v8, ks, rfl, fun b o nb e => T2 _ _ (s2 b o nb e), T2 _ _ hf2, T2 _ _ hL2, ?_, hK, ?_⟩ ?_ ?_⟩
      · unfold wpart
        rw [List.range_zero, List.filterMap_nil, List.append_nil]
        exact hF.keep fun r u e => T2 _ _ e
      · unfold wpart
        rw [List.range_zero, List.filterMap_nil, List.append_nil]
        exact h3
      · rintro m σ H3 hm ⟨v6, v7, v8, ks, rfl, s3, hf3, hL3, hF3, hK3, h33⟩
        have hm : m ≤ Rm.beOf g j := by omega
        have ec : ((c : Nat) : Int) + (0 + (m : Int)) * (Rm.woOf g j : Nat) = ((c + m * Rm.woOf g j : Nat) : Int) := by
          rw [Int.zero_add]
          push_cast
          rfl
        have ek : (Sum.inl (((c : Nat) : Int) + (0 + (m : Int)) * (Rm.woOf g j : Nat)) : Key) = kN (c + m * Rm.woOf g j) := congrArg Sum.inl ec
        refine ⟨_, rfl, _, rfl, _, rfl, _, rfl, a, g, j, rfl, SqL.keepX hf hs s3, hl, hj, _, _, rfl, rfl, .inl ⟨by omega, by omega⟩, _, _, rfl, rfl, ?_⟩
        refine ⟨_, rfl, _, rfl, a, g, rfl, SqL.keepX hf hs s3, hl, _, _, rfl, rfl, _, rfl, ite2 (fun e => ?_) (fun e => ?_)⟩
        · rw [ec] at e
          have e : ¬ c + m * Rm.woOf g j < g.getD 0 0 := by
            have := of_decide_eq_true e
            omega
          exact fin m H3 _ _ _ ks (wpart_stop (cp := (c, p)) e _ (by omega)).symm s3 hf3 hL3 hF3 hK3 h33
        · rw [ec] at e
          have e : c + m * Rm.woOf g j < g.getD 0 0 := by
            refine Classical.byContradiction fun z => e (decide_eq_true ?_)
            omega
          have hq3 := s3 _ _ nq0 h2
          refine ⟨_, rfl, _, rfl, (by show 1 ≤ sizeLine; decide), fun M hM => ?_⟩
          have s4 : Same H3 (upd H3 M (.lst [.int (0 + (m : Int))])) := Same.new (Same.refl H3) hM
          refine ⟨q0, M, _, _, rfl, rfl, s4 _ _ hq3, upd_same, line_of (by rw [vi_len]; simp only [List.length_cons, List.length_nil]; omega), fun R hR' => ?_⟩
          have s5 : Same (upd H3 M (.lst [.int (0 + (m : Int))])) (upd (upd H3 M (.lst [.int (0 + (m : Int))])) R (.lst ((nz p).map V.int ++ [.int (0 + (m : Int))]))) := Same.new (Same.refl _) hR'
          have s45 := s4.trans s5
          have hRl : (upd (upd H3 M (.lst [.int (0 + (m : Int))])) R (.lst ((nz p).map V.int ++ [.int (0 + (m : Int))]))) R = some (lstN (p ++ [m])) := by
            refine upd_same.trans ?_
            congr 2
            rw [Int.zero_add]
            show (nz p).map V.int ++ [V.int (m : Int)] = (nz (p ++ [m])).map V.int
            unfold nz BkNeutral.ints
            rw [List.map_append, List.map_append]
            rfl
          generalize upd (upd H3 M (.lst [.int (0 + (m : Int))])) R (.lst ((nz p).map V.int ++ [.int (0 + (m : Int))])) = H4 at s5 s45 hRl ⊢
          have hL4 := s45 _ _ hL3
          have hf4 := s45 _ _ hf3
          have hF4 : Forms H4 ks _ := hF3.keep fun r u e => s45 _ _ e
          have hklen : ks.length < sizeLine := line_lt (by have := hK3.len; have := hR.1.2; omega)
          have hp1 : (p ++ [m]).length = j + 1 := by rw [List.length_append, hpl]; rfl
          have put : ∀ ks', Forms H4 ks' (Rm.wstep (g.getD 0 0) (Rm.beOf g j) (Rm.woOf g j) (fl.take i) ++ wpart (g.getD 0 0) (Rm.woOf g j) (c, p) m ++ [(c + m * Rm.woOf g j, p ++ [m])]) → Keys ks' (g.getD 0 0) →
            ∃ (v6 v7 v8 : Option V) (ks : List (Key × V)), [some (.ref a), some (.int (j : Nat)), some (.ref f), some (.ref L), some (.int (c : Nat)), some (.ref q0), some (.int (0 + (m : Int))), some (.int (((c : Nat) : Int) + (0 + (m : Int)) * (Rm.woOf g j : Nat))), some (.ref R)] = [some (.ref a), some (.int (j : Nat)), some (.ref f), some (.ref L), some (.int (c : Nat)), some (.ref q0), v6, v7, v8] ∧ (∀ b o, b ≠ f → H b = some o → (upd H4 L (.dK ks')) b = some o) ∧ (upd H4 L (.dK ks')) f = some (.frz od (.dK kvs)) ∧ (upd H4 L (.dK ks')) L = some (.dK ks) ∧
            Forms (upd H4 L (.dK ks')) ks (Rm.wstep (g.getD 0 0) (Rm.beOf g j) (Rm.woOf g j) (fl.take i) ++ wpart (g.getD 0 0) (Rm.woOf g j) (c, p) (m + 1)) ∧ Keys ks (g.getD 0 0) ∧ ∀ d p', Rm.formIn (Rm.wstep (g.getD 0 0) (Rm.beOf g j) (Rm.woOf g j) (fl.take i) ++ wpart (g.getD 0 0) (Rm.woOf g j) (c, p) (m + 1)) d = some p' → p'.length = j + 1 := by
            intro ks' k1 k2
            rw [wpart_yes (cp := (c, p)) e, ← List.append_assoc]
            refine ⟨_, _, _, ks', rfl, fun b o nb eb => ?_, by rw [upd_ne nfL]; exact hf4, upd_same, k1.keep fun r u er => ?_, k2, snoc_len h33 hp1⟩
            · rw [upd_ne (ne_of_none eb hL)]
              exact s45 _ _ (s3 b o nb eb)
            · rw [upd_ne (ne_of er hL4 (by intro z; cases z))]
              exact er
          cases ev : valV ks (Sum.inl (((c : Nat) : Int) + (0 + (m : Int)) * (Rm.woOf g j : Nat))) with
          | none =>
            have ev2 := ev
            rw [ek] at ev2
            refine ⟨_, rfl, _, rfl, L, _, rfl, DGet.k (k := Sum.inl (((c : Nat) : Int) + (0 + (m : Int)) * (Rm.woOf g j : Nat))) hL4, _, rfl, ?_⟩
            rw [ev]
            refine iteT (iteT ⟨_, rfl, _, rfl, _, rfl, L, _, rfl, DPut.k (k := Sum.inl (((c : Nat) : Int) + (0 + (m : Int)) * (Rm.woOf g j : Nat))) hL4 hklen, ?_⟩)
            rw [ek]
            exact put _ (forms_put hF4 hRl (formIn_new (forms_no hF4 ev2))) (hK3.new e ev2)
          | some v =>
            have ev2 := ev
            rw [ek] at ev2
            obtain ⟨p', q', en, rfl, h2'⟩ := forms_get hF4 ev2
            refine ⟨_, rfl, _, rfl, L, _, rfl, DGet.k (k := Sum.inl (((c : Nat) : Int) + (0 + (m : Int)) * (Rm.woOf g j : Nat))) hL4, _, rfl, ?_⟩
            rw [ev]
            refine iteF ⟨_, rfl, _, rfl, _, rfl, L, .ref q', rfl, ?_, R, q', p ++ [m], p', rfl, SqL.of hRl, SqL.of h2', by rw [hp1, h33 _ p' en], _, rfl, ite2 (fun e2 => ?_) (fun e2 => ?_)⟩
            · have := DGet.k (k := Sum.inl (((c : Nat) : Int) + (0 + (m : Int)) * (Rm.woOf g j : Nat))) (a := L) (H := H4) hL4
              rw [ev] at this
              exact this
            · refine ⟨_, rfl, _, rfl, _, rfl, L, _, rfl, DPut.k (k := Sum.inl (((c : Nat) : Int) + (0 + (m : Int)) * (Rm.woOf g j : Nat))) hL4 hklen, ?_⟩
              rw [ek]
              exact put _ (forms_put hF4 hRl (formIn_old en e2)) (hK3.old ev2)
            · have e2 : Na.nicer (p ++ [m]) p' = false := Bool.eq_false_iff.mpr e2
              have z := put ks (forms_stay hF4 en e2) hK3
              rw [upd_self hL4] at z
              exact z
      · rintro σ H3 ⟨v6, v7, v8, ks, rfl, k1, k2, k3, k4, k5, k6⟩
        have en : (((Rm.beOf g j : Nat) : Int) + 1).toNat = Rm.beOf g j + 1 := by omega
        rw [en] at k4 k6
        exact fin _ H3 _ _ _ ks rfl k1 k2 k3 k4 k5 k6
    · rintro σ H2 ⟨v4, v5, v6, v7, v8, ks, rfl, s2, hf2, hL2, hF, hK, h3⟩
      rw [hfd.1, List.take_length] at hF
      refine ⟨hf2, _, rfl, q _ L ks ?_ ?_ (hF.keep fun r u e => ?_) hK⟩
      · intro b o e
        by_cases nb : b = f
        · rw [nb, upd_same]
          rw [nb, hf] at e
          exact e
        · rw [upd_ne nb]
          exact s2 b o nb e
      · rw [upd_ne (Ne.symm nfL)]
        exact hL2
      · rw [upd_ne (ne_of e hf2 (by intro z; cases z))]
        exact e
theorem c_forms_with_deck (T : Txt K mg) : Callee P w K mg base 2 "forms_with_deck" ["rod", "deck", "forms"] (sp_forms_with_deck K) := Callee.of T.d_forms_with_deck fun _ _ D => ok_forms_with_deck T D
theorem bs_at {g : List Nat} {j : Nat} (hj : j < 3) : (Rm.bsOf g).getD j 0 = Rm.beOf g j := by
  have e : j = 0 ∨ j = 1 ∨ j = 2 := by omega
  rcases e with rfl | rfl | rfl <;> rfl
theorem ints_set (l : List Nat) (j x : Nat) : ((nz l).map V.int).set j (.int (x : Nat)) = (nz (l.set j x)).map V.int := by
  unfold nz BkNeutral.ints
  rw [List.map_set, List.map_set]
theorem ix_n {l : List Nat} {j : Nat} (h : j < l.length) : ixN ((nz l).map V.int).length (j : Int) = some j := by
  unfold ixN
  rw [vi_len, if_pos (by omega), if_pos (by omega)]
  simp
theorem sc_behind_part : FnScope ["rod", "pushed", "part", "number", "deck", "to_the_beam", "ready", "behind"] ["rod", "pushed", "part", "number"] (defScope t_behind_part) := ⟨rfl, rfl, rfl, by decide +kernel, rfl, by decide +kernel, by decide +kernel⟩
theorem ok_behind_part (T : Txt K mg) (D : DefAt K mg "behind_part" t_behind_part ["rod", "pushed", "part", "number"] f fd) : FnOk P w K mg base CX0 2 f fd ["rod", "pushed", "part", "number"] (sp_behind_part K) := by
  refine D.fn.ok sc_behind_part (fun vs H Q E h => ?_) (fun cdv A outer s H vs Q E hr h => ?_)
  · obtain ⟨a, b, c, g, p, t, n, rfl, hg, hgl, hp, hpl, ht, htl, hd, kN, kS⟩ := h
    rfl
  · obtain ⟨a, b, c, g, p, t, n, rfl, hg, hgl, hp, hpl, ht, htl, hd, kN, kS⟩ := h
    refine ⟨_, (pss_cons (ps_set (i := 4) sc_behind_part.nd rfl (by first | exact Or.inl rfl | exact Or.inr rfl) (pe_ix (ix_l K) (pv 2) pe_int (fun _ _ => rfl)))
      (pss_cons (ps_set (i := 5) sc_behind_part.nd rfl (by first | exact Or.inl rfl | exact Or.inr rfl) (pe_cmp (pc_eqI (pe_ix (ix_l K) (pv 2) pe_int (fun _ _ => rfl)) (pe_gi rfl T.v_TO_THE_BEAM))))
      (pss_cons (ps_set (i := 6) sc_behind_part.nd rfl (by first | exact Or.inl rfl | exact Or.inr rfl) (pe_ifExp (pt_val (pv 5)) (pe_op op_sub (pe_c (c_beads_of T) hr (by decide) rfl (pa_cons (pv 0) (pa_cons (pv 4) pa_nil))) (pe_ix (ix_l K) (pv 1) (pv 4) (fun _ _ => rfl))) (pe_ix (ix_l K) (pv 1) (pv 4) (fun _ _ => rfl))))
      (pss_cons (ps_if (pt_not (pt_chain op_le op_le pe_int (pv 3) (pe_callB (call_min2 rfl) (by rfl) T.n_min bt_min (pa_cons (pe_ix (ix_l K) (pv 2) pe_int (fun _ _ => rfl)) (pa_cons (pv 6) pa_nil)))))
        (pss_one (ps_ret pe_non))
        pss_nil)
      (pss_cons (ps_set (i := 7) sc_behind_part.nd rfl (by first | exact Or.inl rfl | exact Or.inr rfl) (pe_callTy (list_o K) (by rfl) T.n_list bt_list (pa_cons (pv 1) pa_nil)))
      (pss_cons (ps_augS (pv 7) (pv 4) get_list (pe_ifExp (pt_val (pv 5)) (pv 3) (pe_un un_neg (pv 3))) ip_add set_list)
      (pss_one (ps_ret (pv 7))))))))), ?_⟩
    have hj : t.getD 0 0 < 3 := hd
    unfold Rm.push3 at kN kS
    rw [bs_at hj] at kN kS
    refine ⟨_, rfl, c, _, _, _, rfl, rfl, ht, at_n (j := 0) (by omega), ?_⟩
    refine ⟨_, rfl, c, _, _, _, rfl, rfl, ht, at_n (j := 1) (by omega), _, _, rfl, rfl, ?_⟩
    refine ⟨_, rfl, _, rfl, ite2 (fun eb => ?_) (fun eb => ?_)⟩
    · have t1 : (t.getD 1 0 == 1) = true := by
        have eb : ((t.getD 1 0 : Nat) : Int) = 1 := of_decide_eq_true eb
        have : t.getD 1 0 = 1 := by omega
        simpa using this
      rw [t1] at kN kS
      simp only [if_true] at kN kS
      refine ⟨_, rfl, _, rfl, a, g, t.getD 0 0, rfl, hg, hgl, hj, _, rfl, _, rfl, b, _, _, _, rfl, rfl, hp, at_n (j := t.getD 0 0) (by omega), _, _, rfl, rfl, ?_⟩
      refine ⟨_, rfl, _, _, rfl, rfl, _, rfl, ite2 (fun e1 => ?_) (fun e1 => ⟨_, rfl, kN (if_neg fun z => e1 (decide_eq_true (by have := z.1.1; omega)))⟩)⟩
      have e1 := of_decide_eq_true e1
      refine ⟨_, rfl, c, _, _, _, rfl, rfl, ht, at_n (j := 2) (by omega), _, rfl, _, _, rfl, _, _, rfl, rfl, _, rfl, ite2 (fun e2 => ?_) (fun e2 => ?_)⟩
      · have e2 : (!decide ((n : Int) ≤ if (((Rm.beOf g (t.getD 0 0) : Nat) : Int) - ((p.getD (t.getD 0 0) 0 : Nat) : Int)) < ((t.getD 2 0 : Nat) : Int) then (((Rm.beOf g (t.getD 0 0) : Nat) : Int) - ((p.getD (t.getD 0 0) 0 : Nat) : Int)) else ((t.getD 2 0 : Nat) : Int))) = true := e2
        refine kN (if_neg fun z => ?_)
        obtain ⟨⟨z1, z2⟩, z3⟩ := z
        rw [decide_eq_true (by split <;> omega)] at e2
        cases e2
      · have e2 : (n : Int) ≤ if (((Rm.beOf g (t.getD 0 0) : Nat) : Int) - ((p.getD (t.getD 0 0) 0 : Nat) : Int)) < ((t.getD 2 0 : Nat) : Int) then (((Rm.beOf g (t.getD 0 0) : Nat) : Int) - ((p.getD (t.getD 0 0) 0 : Nat) : Int)) else ((t.getD 2 0 : Nat) : Int) := by
          refine Classical.byContradiction fun z => e2 ?_
          show (!decide ((n : Int) ≤ if (((Rm.beOf g (t.getD 0 0) : Nat) : Int) - ((p.getD (t.getD 0 0) 0 : Nat) : Int)) < ((t.getD 2 0 : Nat) : Int) then (((Rm.beOf g (t.getD 0 0) : Nat) : Int) - ((p.getD (t.getD 0 0) 0 : Nat) : Int)) else ((t.getD 2 0 : Nat) : Int))) = true
          rw [decide_eq_false z]
          rfl
        have e3 : (1 ≤ n ∧ n ≤ t.getD 2 0) ∧ n ≤ (Rm.beOf g (t.getD 0 0) - p.getD (t.getD 0 0) 0) := by
          split at e2 <;> omega
        have e4 := kS _ (if_pos e3)
        refine ⟨_, rfl, b, _, rfl, .inl hp, fun B hB => ?_⟩
        refine ⟨_, rfl, _, rfl, B, _, _, _, rfl, rfl, SqL.of upd_same, at_n (j := t.getD 0 0) (by omega), _, rfl, _, rfl, ite2 (fun _ => ?_) (fun z => absurd eb z)⟩
        refine ⟨_, rfl, _, _, rfl, rfl, B, _, _, t.getD 0 0, rfl, rfl, upd_same, ix_n (by omega), ?_⟩
        refine ⟨_, rfl, e4 _ B (Same.put (Same.new (Same.refl H) hB) hB) ?_⟩
        rw [upd_same]
        congr 2
        rw [← ints_set]
        congr 2
    · have t1 : (t.getD 1 0 == 1) = false := by
        have eb : ¬ ((t.getD 1 0 : Nat) : Int) = 1 := fun z => eb (decide_eq_true z)
        have : ¬ t.getD 1 0 = 1 := by omega
        simpa using this
      rw [t1] at kN kS
      simp only [Bool.false_eq_true, if_false] at kN kS
      refine ⟨_, rfl, _, rfl, b, _, _, _, rfl, rfl, hp, at_n (j := t.getD 0 0) (by omega), ?_⟩
      refine ⟨_, rfl, _, _, rfl, rfl, _, rfl, ite2 (fun e1 => ?_) (fun e1 => ⟨_, rfl, kN (if_neg fun z => e1 (decide_eq_true (by have := z.1.1; omega)))⟩)⟩
      have e1 := of_decide_eq_true e1
      refine ⟨_, rfl, c, _, _, _, rfl, rfl, ht, at_n (j := 2) (by omega), _, rfl, _, _, rfl, _, _, rfl, rfl, _, rfl, ite2 (fun e2 => ?_) (fun e2 => ?_)⟩
      · have e2 : (!decide ((n : Int) ≤ if ((p.getD (t.getD 0 0) 0 : Nat) : Int) < ((t.getD 2 0 : Nat) : Int) then ((p.getD (t.getD 0 0) 0 : Nat) : Int) else ((t.getD 2 0 : Nat) : Int))) = true := e2
        refine kN (if_neg fun z => ?_)
        obtain ⟨⟨z1, z2⟩, z3⟩ := z
        rw [decide_eq_true (by split <;> omega)] at e2
        cases e2
      · have e2 : (n : Int) ≤ if ((p.getD (t.getD 0 0) 0 : Nat) : Int) < ((t.getD 2 0 : Nat) : Int) then ((p.getD (t.getD 0 0) 0 : Nat) : Int) else ((t.getD 2 0 : Nat) : Int) := by
          refine Classical.byContradiction fun z => e2 ?_
          show (!decide ((n : Int) ≤ if ((p.getD (t.getD 0 0) 0 : Nat) : Int) < ((t.getD 2 0 : Nat) : Int) then ((p.getD (t.getD 0 0) 0 : Nat) : Int) else ((t.getD 2 0 : Nat) : Int))) = true
          rw [decide_eq_false z]
          rfl
        have e3 : (1 ≤ n ∧ n ≤ t.getD 2 0) ∧ n ≤ p.getD (t.getD 0 0) 0 := by
          split at e2 <;> omega
        have e4 := kS _ (if_pos e3)
        refine ⟨_, rfl, b, _, rfl, .inl hp, fun B hB => ?_⟩
        refine ⟨_, rfl, _, rfl, B, _, _, _, rfl, rfl, SqL.of upd_same, at_n (j := t.getD 0 0) (by omega), _, rfl, _, rfl, ite2 (fun z => absurd z eb) (fun _ => ?_)⟩
        refine ⟨_, rfl, _, rfl, _, _, rfl, rfl, B, _, _, t.getD 0 0, rfl, rfl, upd_same, ix_n (by omega), ?_⟩
        refine ⟨_, rfl, e4 _ B (Same.put (Same.new (Same.refl H) hB) hB) ?_⟩
        rw [upd_same]
        congr 2
        rw [← ints_set]
        congr 2
        show ((p.getD (t.getD 0 0) 0 : Nat) : Int) + -(n : Int) = ((p.getD (t.getD 0 0) 0 - n : Nat) : Int)
        omega
theorem c_behind_part (T : Txt K mg) : Callee P w K mg base 2 "behind_part" ["rod", "pushed", "part", "number"] (sp_behind_part K) := Callee.of T.d_behind_part fun _ _ D => ok_behind_part T D
theorem keyN_inj {k k' : List Nat} (h : keyN k = keyN k') : k = k' := by
  unfold keyN nz BkNeutral.ints at h
  rw [List.map_map, List.map_map] at h
  exact (List.map_inj_right (fun a b e => by
    have e : (Sum.inl (a : Int) : Key) = Sum.inl (b : Int) := e
    have := Sum.inl.inj e
    omega)).mp h
theorem rowFor_snoc (rows : List (List Nat)) (l : List Nat) (op d x : Nat) : Rm.rowFor (rows ++ [l]) op d x = (Rm.rowFor rows op d x).or (if Rm.key3 l = [op, d, x] then some l else none) := by
  unfold Rm.rowFor
  rw [List.find?_append]
  congr 1
  rw [List.find?_cons]
  by_cases e : Rm.key3 l = [op, d, x]
  · rw [if_pos e, e]
    simp
  · rw [if_neg e]
    have : (Rm.key3 l == [op, d, x]) = false := by simpa using e
    rw [this]
    rfl
theorem rowFor_none {rows : List (List Nat)} {l : List Nat} {op d x : Nat} (h : ∀ l' ∈ rows, Rm.key3 l' ≠ Rm.key3 l) (e : Rm.key3 l = [op, d, x]) : Rm.rowFor rows op d x = none := by
  unfold Rm.rowFor
  rw [List.find?_eq_none]
  intro l' hl' z
  have z : Rm.key3 l' = [op, d, x] := by simpa using z
  exact h l' hl' (z.trans e.symm)
theorem sc_rules_of : FnScope ["book", "rules", "row"] ["book"] (defScope t_rules_of) := ⟨rfl, rfl, rfl, by decide +kernel, rfl, by decide +kernel, by decide +kernel⟩
theorem ok_rules_of (T : Txt K mg) (D : DefAt K mg "rules_of" t_rules_of ["book"] f fd) : FnOk P w K mg base CX0 2 f fd ["book"] (sp_rules_of K) := by
  refine D.fn.ok sc_rules_of (fun vs H Q E h => ?_) (fun cdv A outer s H vs Q E hr h => ?_)
  · obtain ⟨a, as, rows, rfl, hs, hrows, hl, hgood, hdist, q⟩ := h
    rfl
  · obtain ⟨a, as, rows, rfl, hs, hrows, hl, hgood, hdist, q⟩ := h
    have hu := hu_of hr
    refine ⟨_, (pss_cons (ps_set (i := 1) sc_rules_of.nd rfl (by first | exact Or.inl rfl | exact Or.inr rfl) pe_dnewT)
      (pss_cons (ps_for PassesOwn.never rfl (pi_list (pv 0)) (pg_name (i := 2) sc_rules_of.nd rfl (by first | exact Or.inl rfl | exact Or.inr rfl))
        (pss_one (ps_dput hu (pv 1) (pe_tup (pa_cons (pe_ix (ix_l K) (pv 2) pe_int (fun _ _ => rfl)) (pa_cons (pe_ix (ix_l K) (pv 2) pe_int (fun _ _ => rfl)) (pa_cons (pe_ix (ix_l K) (pv 2) pe_int (fun _ _ => rfl)) pa_nil)))) (pe_c (c_steps_of T) hr (by decide) rfl (pa_cons (pv 2) pa_nil)) rfl)))
      (pss_one (ps_ret (pv 1))))), ?_⟩
    intro f hf
    have z0 : Same H (upd H f (.dT [])) := Same.new (Same.refl H) hf
    refine ⟨_, rfl, a, rfl, ⟨_, z0.seq hs⟩, for_list (a := a) (xs := as.map V.ref) (fun i σ H' => ∃ (v2 : Option V) (kvs : List (List Key × V)), σ = [some (.ref a), some (.ref f), v2] ∧ Same H H' ∧ H' f = some (.dT kvs) ∧ Rules H' kvs (rows.take i) ∧ kvs.length ≤ i)
      ⟨none, [], rfl, z0, upd_same, fun op d x => by rw [List.take_zero]; exact rfl, Nat.le_refl _⟩ (fun i σ H' _ ⟨_, _, _, s1, _⟩ => s1.seq hs) ?_ ?_⟩
    · rintro i x σ H' hi ⟨v2, kvs, rfl, s1, hd, hRu, hk⟩
      obtain ⟨ra, hra, rfl⟩ := map_at hi
      have hil : i < rows.length := by
        have := (List.getElem?_eq_some_iff.mp hra).1
        rw [hrows.1] at this
        exact this
      obtain ⟨l, hl'⟩ : ∃ l, rows[i]? = some l := ⟨_, List.getElem?_eq_getElem hil⟩
      obtain ⟨h3, hm, h33, _⟩ := Rm.row_parts (hgood l (List.mem_of_getElem? hl'))
      have hS := s1.seq (hrows.2 i ra l hra hl')
      have hS : NL K H' ra l := hS
      refine ⟨_, rfl, ra, l, rfl, hS, h3, by omega, hm, fun H1 p ts s2 hp hts => ?_⟩
      have S2 := s2.seq hS
      refine ⟨_, rfl, _, rfl, ra, _, _, _, rfl, rfl, S2, at_n (j := 0) (by omega), _, rfl, ra, _, _, _, rfl, rfl, S2, at_n (j := 1) (by omega), _, rfl, ra, _, _, _, rfl, rfl, S2, at_n (j := 2) (by omega), (by show 3 ≤ sizeLine; decide), fun T hT => ?_⟩
      have s3 : Same H1 (upd H1 T (.tup [.int (l.getD 0 0 : Nat), .int (l.getD 1 0 : Nat), .int (l.getD 2 0 : Nat)])) := Same.new (Same.refl H1) hT
      have s23 := s2.trans s3
      refine ⟨f, _, rfl, DPut.t (k := keyN (Rm.key3 l)) (s23 _ _ hd) upd_same (line_lt (by omega)), ?_⟩
      have nf : ∀ (b : Addr) (o : HO), H' b = some o → b ≠ f → upd (upd H1 T (.tup [.int (l.getD 0 0 : Nat), .int (l.getD 1 0 : Nat), .int (l.getD 2 0 : Nat)])) f (.dT (putK kvs (keyN (Rm.key3 l)) (.ref p))) b = some o := fun b o e n => by
        rw [upd_ne n]
        exact s23 _ _ e
      refine ⟨_, _, rfl, Same.put (s1.trans s23) hf, upd_same, ?_, ?_⟩
      · rw [take_snoc hl']
        intro op d x
        rw [rowFor_snoc]
        by_cases e : Rm.key3 l = [op, d, x]
        · rw [rowFor_none (hdist i l hl') e, if_pos e]
          refine ⟨p, ts, by rw [valV_put, if_pos (by rw [e])], ?_, ?_⟩
          · rw [upd_ne (ne_of hp (s2 _ _ hd) (by intro z; cases z))]
            exact s3 _ _ hp
          · refine ⟨hts.1, fun j t s e1 e2 => ?_⟩
            have := hts.2 j t s e1 e2
            rw [upd_ne (ne_of this (s2 _ _ hd) (by intro z; cases z))]
            exact s3 _ _ this
        · rw [if_neg e, Option.or_none]
          have k := hRu op d x
          have ek : ¬ keyN [op, d, x] = keyN (Rm.key3 l) := fun z => e (keyN_inj z).symm
          cases e7 : Rm.rowFor (rows.take i) op d x with
          | none =>
            rw [e7] at k
            show valV _ _ = none
            rw [valV_put, if_neg ek]
            exact k
          | some r =>
            rw [e7] at k
            obtain ⟨pp, tt, k1, k2, k3⟩ := k
            refine ⟨pp, tt, by rw [valV_put, if_neg ek]; exact k1, nf _ _ k2 (ne_of k2 hd (by intro z; cases z)), k3.1, fun j t s e1 e2 => ?_⟩
            have := k3.2 j t s e1 e2
            exact nf _ _ this (ne_of this hd (by intro z; cases z))
      · have := length_putK kvs (keyN (Rm.key3 l)) (.ref p)
        omega
    · rintro σ H' ⟨v2, kvs, rfl, s1, hd, hRu, hk⟩
      rw [List.length_map, hrows.1, List.take_length] at hRu
      exact ⟨_, rfl, q _ f kvs s1 hd hRu⟩
theorem c_rules_of (T : Txt K mg) : Callee P w K mg base 2 "rules_of" ["book"] (sp_rules_of K) := Callee.of T.d_rules_of fun _ _ D => ok_rules_of T D
theorem sc_rod_can_be : FnScope ["rod", "deck"] ["rod"] (defScope t_rod_can_be) := ⟨rfl, rfl, rfl, by decide +kernel, rfl, by decide +kernel, by decide +kernel⟩
theorem ok_rod_can_be (T : Txt K mg) (D : DefAt K mg "rod_can_be" t_rod_can_be ["rod"] f fd) : FnOk P w K mg base CX0 2 f fd ["rod"] (sp_rod_can_be K) := by
  refine D.fn.ok sc_rod_can_be (fun vs H Q E h => ?_) (fun cdv A outer s H vs Q E hr h => ?_)
  · obtain ⟨a, g, rfl, hs, hl, q⟩ := h
    rfl
  · obtain ⟨a, g, rfl, hs, hl, q⟩ := h
    refine ⟨_, (pss_cons (ps_if (pt_not (pt_chain op_le op_le (pe_gi rfl T.v_LOWEST_RATIO) (pe_c (c_ratio_of T) hr (by decide) rfl (pa_cons (pv 0) pa_nil)) (pe_gi rfl T.v_HIGHEST_RATIO)))
        (pss_one (ps_ret pe_bl))
        pss_nil)
      (pss_cons (ps_for PassesOwn.never rfl (pi_range1 rfl T.n_range (pa_cons (pe_gi rfl T.v_DECKS) pa_nil)) (pg_name (i := 1) sc_rod_can_be.nd rfl (by first | exact Or.inl rfl | exact Or.inr rfl))
        (pss_one (ps_if (pt_not (pt_val (pe_c (c_deck_can_be T) hr (by decide) rfl (pa_cons (pe_c (c_beads_of T) hr (by decide) rfl (pa_cons (pv 0) (pa_cons (pv 1) pa_nil))) (pa_cons (pe_c (c_worth_of T) hr (by decide) rfl (pa_cons (pv 0) (pa_cons (pv 1) pa_nil))) pa_nil)))))
          (pss_one (ps_ret pe_bl))
          pss_nil)))
      (pss_cons (ps_if (pt_cmp (pc_eqI (pe_c (c_beads_of T) hr (by decide) rfl (pa_cons (pv 0) (pa_cons pe_int pa_nil))) pe_int))
        (pss_one (ps_ret pe_bl))
        pss_nil)
      (pss_one (ps_ret (pe_or (pe_cmp (pc_eqI (pe_c (c_beads_of T) hr (by decide) rfl (pa_cons (pv 0) (pa_cons pe_int pa_nil))) pe_int)) (pe_one (pe_cmp (pc_gt (pe_c (c_beads_of T) hr (by decide) rfl (pa_cons (pv 0) (pa_cons pe_int pa_nil))) pe_int))))))))), ?_⟩
    have no : ¬ Rm.RIn g → Q (.bl false) H := fun z => q false (by simp only [Bool.false_eq_true, false_iff]; exact z)
    unfold Rm.RIn at no q
    rw [Rm.rodIn_iff] at no q
    refine ⟨_, rfl, a, g, rfl, hs, hl, _, _, rfl, rfl, _, rfl, ite2 (fun e1 => ?_) (fun e1 => ?_)⟩
    · have e1 := of_decide_eq_true e1
      refine ⟨_, _, rfl, rfl, _, rfl, ite2 (fun e2 => ?_) (fun e2 => ?_)⟩
      · refine no fun z => ?_
        rw [show (!decide (((g.getD 0 0 : Nat) : Int) ≤ 20)) = false by rw [decide_eq_true (by have := z.1.2; omega)]; rfl] at e2
        cases e2
      · have e2 : (g.getD 0 0 : Nat) ≤ 20 := by
          refine Classical.byContradiction fun z => e2 ?_
          show (!decide (((g.getD 0 0 : Nat) : Int) ≤ 20)) = true
          rw [decide_eq_false (by omega)]
          rfl
        refine ⟨3, rfl, by decide, by decide, for_range (n := 3) (fun i σ H' => ∃ v : Option V, σ = [some (.ref a), v] ∧ H' = H ∧ ∀ j, j < i → Rm.DeckOk (Rm.beOf g j) (Rm.woOf g j)) ⟨none, rfl, rfl, fun j hj => by omega⟩ ?_ ?_⟩
        · rintro i σ H' hi ⟨v, rfl, rfl, hd⟩
          refine ⟨_, rfl, _, rfl, a, g, i, by rw [Int.zero_add]; rfl, hs, hl, hi, _, rfl, _, rfl, a, g, i, by rw [Int.zero_add]; rfl, hs, hl, hi, _, _, rfl, fun k hk => ⟨k, rfl, ite2 (fun e3 => ?_) (fun e3 => ?_)⟩⟩
          · have hn : ¬ Rm.DeckOk (Rm.beOf g i) (Rm.woOf g i) := fun z => by
              rw [hk.mpr z] at e3
              cases e3
            refine no fun z => hn ?_
            have ei : i = 0 ∨ i = 1 ∨ i = 2 := by omega
            rcases ei with rfl | rfl | rfl
            · exact z.2.1.1
            · exact z.2.1.2.1
            · exact z.2.1.2.2
          · refine ⟨_, rfl, rfl, fun j hj => ?_⟩
            by_cases z : j = i
            · rw [z]
              exact hk.mp (by cases k with
                | true => rfl
                | false => exact absurd rfl e3)
            · exact hd j (by omega)
        · rintro σ H' ⟨v, rfl, rfl, hd⟩
          have d0 := hd 0 (by decide)
          have d1 := hd 1 (by decide)
          have d2 := hd 2 (by decide)
          refine ⟨_, rfl, a, g, 0, rfl, hs, hl, by decide, _, _, rfl, rfl, _, rfl, ite2 (fun e3 => ?_) (fun e3 => ?_)⟩
          · have e3 := of_decide_eq_true e3
            refine no fun z => z.2.2.1 ?_
            have e3 : ((g.getD 1 0 : Nat) : Int) = 0 := e3
            omega
          · have e3 : ¬ g.getD 1 0 = 0 := fun z => e3 (decide_eq_true (by show ((g.getD 1 0 : Nat) : Int) = 0; omega))
            refine ⟨_, rfl, a, g, 2, rfl, hs, hl, by decide, _, _, rfl, rfl, _, rfl, ite2 (fun e4 => ?_) (fun e4 => ?_)⟩
            · have e4 : ((g.getD 5 0 : Nat) : Int) = 0 := of_decide_eq_true e4
              refine q true ?_
              simp only [true_iff]
              exact ⟨⟨by omega, e2⟩, ⟨d0, d1, d2⟩, e3, .inl (by omega)⟩
            · have e4 : ¬ ((g.getD 5 0 : Nat) : Int) = 0 := fun z => e4 (decide_eq_true z)
              refine ⟨_, rfl, a, g, 1, rfl, hs, hl, by decide, _, _, rfl, rfl, q _ ?_⟩
              show decide ((0 : Int) < ((g.getD 3 0 : Nat) : Int)) = true ↔ _
              simp only [decide_eq_true_eq]
              constructor
              · intro z
                exact ⟨⟨by omega, e2⟩, ⟨d0, d1, d2⟩, e3, .inr (by omega)⟩
              · rintro ⟨_, _, _, z | z⟩
                · omega
                · omega
    · refine ⟨_, rfl, iteT (no fun z => e1 (decide_eq_true ?_))⟩
      have := z.1.1
      omega
theorem c_rod_can_be (T : Txt K mg) : Callee P w K mg base 2 "rod_can_be" ["rod"] (sp_rod_can_be K) := Callee.of T.d_rod_can_be fun _ _ D => ok_rod_can_be T D
theorem sc_stroke_can_be : FnScope ["stroke", "first", "second"] ["stroke"] (defScope t_stroke_can_be) := ⟨rfl, rfl, rfl, by decide +kernel, rfl, by decide +kernel, by decide +kernel⟩
theorem ok_stroke_can_be (T : Txt K mg) (D : DefAt K mg "stroke_can_be" t_stroke_can_be ["stroke"] f fd) : FnOk P w K mg base CX0 2 f fd ["stroke"] (sp_stroke_can_be K) := by
  refine D.fn.ok sc_stroke_can_be (fun vs H Q E h => ?_) (fun cdv A outer s H vs Q E hr h => ?_)
  · obtain ⟨a, s, rfl, hs, hl, q⟩ := h
    rfl
  · obtain ⟨a, s, rfl, hs, hl, q⟩ := h
    have hu64 := hr.units
    refine ⟨_, (pss_cons (ps_set (i := 1) sc_stroke_can_be.nd rfl (by first | exact Or.inl rfl | exact Or.inr rfl) (pe_c (c_first_part T) hr (by decide) rfl (pa_cons (pv 0) pa_nil)))
      (pss_cons (ps_set (i := 2) sc_stroke_can_be.nd rfl (by first | exact Or.inl rfl | exact Or.inr rfl) (pe_c (c_second_part T) hr (by decide) rfl (pa_cons (pv 0) pa_nil)))
      (pss_cons (ps_if (PW.pt (pw_or (pt_not (pt_val (pe_c (c_part_can_be T) hr (by decide) rfl (pa_cons (pv 1) pa_nil)))) (pw_or1 (pt_not (pt_chain op_le op_le pe_int (pe_c (c_cost_of T) hr (by decide) rfl (pa_cons (pv 0) pa_nil)) (pe_gi rfl T.v_HIGHEST_COST))))))
        (pss_one (ps_ret pe_bl))
        pss_nil)
      (pss_one (ps_ret (pe_or (pe_cmpR (eq_d K hu64) (pv 2) (pe_lst (pa_cons pe_int (pa_cons pe_int (pa_cons pe_int pa_nil)))) (nomark _)) (pe_one (pe_and (pe_c (c_part_can_be T) hr (by decide) rfl (pa_cons (pv 2) pa_nil)) (pe_one (pe_cmp (pc_neI (pe_ix (ix_l K) (pv 2) pe_int (fun _ _ => rfl)) (pe_ix (ix_l K) (pv 1) pe_int (fun _ _ => rfl))))))))))))), ?_⟩
    have no : ¬ Na.strokeGood s = true → ∀ H', Same H H' → Q (.bl false) H' := fun z H' s1 => q false H' (by simp only [Bool.false_eq_true, false_iff]; exact z) s1
    rw [Mm.strokeGood_iff] at no q
    unfold Mm.StrokeIn at no q
    refine ⟨_, rfl, a, s, rfl, hs, hl, fun H1 f s1 hf => ⟨_, rfl, a, s, rfl, s1.seq hs, hl, fun H2 w s2 hw => ?_⟩⟩
    have s12 := s1.trans s2
    rw [part1 hl] at hf
    rw [part2 hl] at hw
    refine ⟨_, rfl, f, [s.getD 0 0, s.getD 1 0, s.getD 2 0], rfl, SqL.of (s2 _ _ hf), rfl, fun k hk => ⟨_, rfl, ite2 (fun e0 => ?_) (fun e0 => ?_)⟩⟩
    · refine no (fun z => ?_) H2 s12
      rw [hk.mpr ⟨by show s.getD 0 0 < 3; omega, z.2.1, z.2.2.1⟩] at e0
      cases e0
    · have e0 := hk.mp (by cases k with
        | true => rfl
        | false => exact absurd rfl e0)
      have e0 : s.getD 0 0 < 3 ∧ (1 ≤ s.getD 1 0 ∧ s.getD 1 0 ≤ 2) ∧ (1 ≤ s.getD 2 0 ∧ s.getD 2 0 ≤ 15) := e0
      refine ⟨_, rfl, a, s, rfl, s12.seq hs, hl, _, _, rfl, rfl, _, rfl, ite2 (fun e1 => ?_) (fun e1 => ⟨_, rfl, no (fun z => e1 (decide_eq_true (by omega))) H2 s12⟩)⟩
      have e1 := of_decide_eq_true e1
      refine ⟨_, _, rfl, rfl, _, rfl, ite2 (fun e2 => ?_) (fun e2 => ?_)⟩
      · refine no (fun z => ?_) H2 s12
        have e2 : (!decide (((s.getD 6 0 : Nat) : Int) ≤ 255)) = true := e2
        rw [decide_eq_true (by omega)] at e2
        cases e2
      · have e2 : s.getD 6 0 ≤ 255 := by
          refine Classical.byContradiction fun z => e2 ?_
          show (!decide (((s.getD 6 0 : Nat) : Int) ≤ 255)) = true
          rw [decide_eq_false (by omega)]
          rfl
        refine ⟨_, rfl, (by show 3 ≤ sizeLine; decide), fun z hz => ⟨_, _, dp3 (x := s.getD 3 0) (y := s.getD 4 0) (z := s.getD 5 0) ((Same.new (Same.refl H2) hz).seq (SqL.of hw)), dp3 (SqL.of upd_same), rfl, rfl, _, rfl, ?_⟩⟩
        have s3 : Same H2 (upd H2 z (.lst [.int 0, .int 0, .int 0])) := Same.new (Same.refl H2) hz
        rw [eqv3]
        refine ite2 (fun e3 => ?_) (fun e3 => ?_)
        · have e3 := of_decide_eq_true e3
          refine q true _ ?_ (s12.trans s3)
          simp only [true_iff]
          omega
        · have e3 : ¬ ((s.getD 3 0 : Int) = 0 ∧ (s.getD 4 0 : Int) = 0 ∧ (s.getD 5 0 : Int) = 0) := fun z => e3 (decide_eq_true z)
          refine ⟨_, rfl, w, [s.getD 3 0, s.getD 4 0, s.getD 5 0], rfl, SqL.of (s3 _ _ hw), rfl, fun k2 hk2 => ⟨k2, rfl, ite2 (fun e4 => ?_) (fun e4 => ?_)⟩⟩
          · have e4 : s.getD 3 0 < 3 ∧ (1 ≤ s.getD 4 0 ∧ s.getD 4 0 ≤ 2) ∧ (1 ≤ s.getD 5 0 ∧ s.getD 5 0 ≤ 15) := hk2.mp e4
            refine ⟨_, rfl, w, _, _, _, rfl, rfl, SqL.of (s3 _ _ hw), at_n (g := [s.getD 3 0, s.getD 4 0, s.getD 5 0]) (j := 0) (by simp), _, rfl, f, _, _, _, rfl, rfl, SqL.of ((s2.trans s3) _ _ hf), at_n (g := [s.getD 0 0, s.getD 1 0, s.getD 2 0]) (j := 0) (by simp), _, _, rfl, rfl, q _ _ ?_ (s12.trans s3)⟩
            show (!decide (((s.getD 3 0 : Nat) : Int) = ((s.getD 0 0 : Nat) : Int))) = true ↔ _
            simp only [Bool.not_eq_true', decide_eq_false_iff_not]
            omega
          · refine no (fun z => e4 (hk2.mpr ?_)) _ (s12.trans s3)
            show s.getD 3 0 < 3 ∧ (1 ≤ s.getD 4 0 ∧ s.getD 4 0 ≤ 2) ∧ (1 ≤ s.getD 5 0 ∧ s.getD 5 0 ≤ 15)
            omega
theorem c_stroke_can_be (T : Txt K mg) : Callee P w K mg base 2 "stroke_can_be" ["stroke"] (sp_stroke_can_be K) := Callee.of T.d_stroke_can_be fun _ _ D => ok_stroke_can_be T D
theorem sc_steps_can_be : FnScope ["row", "start"] ["row"] (defScope t_steps_can_be) := ⟨rfl, rfl, rfl, by decide +kernel, rfl, by decide +kernel, by decide +kernel⟩
theorem ok_steps_can_be (T : Txt K mg) (D : DefAt K mg "steps_can_be" t_steps_can_be ["row"] f fd) : FnOk P w K mg base CX0 2 f fd ["row"] (sp_steps_can_be K) := by
  refine D.fn.ok sc_steps_can_be (fun vs H Q E h => ?_) (fun cdv A outer s H vs Q E hr h => ?_)
  · obtain ⟨a, ns, rfl, hs, h3, h36, hm, q⟩ := h
    rfl
  · obtain ⟨a, ns, rfl, hs, h3, h36, hm, q⟩ := h
    refine ⟨_, (pss_cons (ps_for PassesOwn.never rfl (pi_range3 rfl T.n_range (pa_cons pe_int (pa_cons (pe_callB (len_s K) (by rfl) T.n_len bt_len (pa_cons (pv 0) pa_nil)) (pa_cons pe_int pa_nil)))) (pg_name (i := 1) sc_steps_can_be.nd rfl (by first | exact Or.inl rfl | exact Or.inr rfl))
        (pss_one (ps_if (pt_not (pt_val (pe_c (c_step_can_be T) hr (by decide) rfl (pa_cons (pe_ix (ix_l K) (pv 0) (pv 1) (fun _ _ => rfl)) (pa_cons (pe_ix (ix_l K) (pv 0) (pe_op op_add (pv 1) pe_int) (fun _ _ => rfl)) (pa_cons (pe_ix (ix_l K) (pv 0) (pe_op op_add (pv 1) pe_int) (fun _ _ => rfl)) pa_nil))))))
          (pss_one (ps_ret pe_bl))
          pss_nil)))
      (pss_one (ps_ret pe_bl))), ?_⟩
    refine ⟨_, rfl, a, _, rfl, .inl hs, 3, _, 3, _, rfl, (by rw [List.length_map]; exact rgC (by decide) (by decide) (by decide) (by decide) (by omega) (by omega) (by split <;> omega)), for_rangeC (lo := 3) (c := 3) (n := (ns.length - 3) / 3)
      (fun i σ H' => ∃ v : Option V, σ = [some (.ref a), v] ∧ H' = H ∧ ∀ j, j < i → Bm.stepAt ns j = true) ⟨none, rfl, rfl, fun j hj => by omega⟩ ?_ ?_⟩
    · rintro i σ H' hi ⟨v, rfl, rfl, hg⟩
      refine ⟨_, rfl, _, rfl, a, _, _, _, rfl, rfl, hs, ints_at0 (j := 3 + 3 * i) (by omega), _, rfl, _, rfl, _, _, rfl, rfl, a, _, _, _, rfl, rfl, hs, ints_at0 (j := 3 + 3 * i + 1) (by omega),
        _, rfl, _, rfl, _, _, rfl, rfl, a, _, _, _, rfl, rfl, hs, ints_at0 (j := 3 + 3 * i + 2) (by omega), _, _, _, rfl, _, rfl, ite2 (fun e => ?_) (fun e => ?_)⟩
      · have e : Bm.stepAt ns i = false := by
          unfold Bm.stepAt
          exact (Bool.not_eq_true' _).mp e
        rw [Bm.stepsB_false hi e] at q
        exact q
      · have e : Bm.stepAt ns i = true := by
          unfold Bm.stepAt
          cases z : Bm.stepB (Bm.at0 ns (3 + 3 * i)) (Bm.at0 ns (3 + 3 * i + 1)) (Bm.at0 ns (3 + 3 * i + 2)) with
          | true => rfl
          | false => exact absurd (by rw [z]; rfl) e
        refine ⟨_, rfl, rfl, fun j hj => ?_⟩
        by_cases z : j = i
        · rw [z]
          exact e
        · exact hg j (by omega)
    · rintro σ H' ⟨v, rfl, rfl, hg⟩
      rw [Bm.stepsB_true hg] at q
      exact q
theorem c_steps_can_be (T : Txt K mg) : Callee P w K mg base 2 "steps_can_be" ["row"] (sp_steps_can_be K) := Callee.of T.d_steps_can_be fun _ _ D => ok_steps_can_be T D
theorem sc_digit_forms : FnScope ["rod", "forms", "deck"] ["rod"] (defScope t_digit_forms) := ⟨rfl, rfl, rfl, by decide +kernel, rfl, by decide +kernel, by decide +kernel⟩
theorem ok_digit_forms (T : Txt K mg) (D : DefAt K mg "digit_forms" t_digit_forms ["rod"] f fd) : FnOk P w K mg base CX0 3 f fd ["rod"] (sp_digit_forms K) := by
  refine D.fn.ok sc_digit_forms (fun vs H Q E h => ?_) (fun cdv A outer s H vs Q E hr h => ?_)
  · obtain ⟨a, g, rfl, hs, hl, hR, q⟩ := h
    rfl
  · obtain ⟨a, g, rfl, hs, hl, hR, q⟩ := h
    refine ⟨_, (pss_cons (ps_set (i := 1) sc_digit_forms.nd rfl (by first | exact Or.inl rfl | exact Or.inr rfl) (pe_disp (pps_cons pe_int (pe_lst pa_nil) pps_nil) rfl rfl (by intro z; cases z) (by decide)))
      (pss_cons (ps_for PassesOwn.never rfl (pi_range1 rfl T.n_range (pa_cons (pe_gi rfl T.v_DECKS) pa_nil)) (pg_name (i := 2) sc_digit_forms.nd rfl (by first | exact Or.inl rfl | exact Or.inr rfl))
        (pss_one (ps_set (i := 1) sc_digit_forms.nd rfl (by first | exact Or.inl rfl | exact Or.inr rfl) (pe_c (c_forms_with_deck T) hr (by decide) rfl (pa_cons (pv 0) (pa_cons (pv 2) (pa_cons (pv 1) pa_nil)))))))
      (pss_one (ps_ret (pv 1))))), ?_⟩
    intro f0 hf0
    refine ⟨(by show 0 ≤ sizeLine; decide), fun e0 he0 => ⟨by rw [upd_ne (ne_of_none upd_same he0)]; exact upd_same, [(kN 0, .ref e0)], rfl, by show 1 ≤ 15; decide, ?_⟩⟩
    have n0 : e0 ≠ f0 := fun z => by rw [z, upd_same] at he0; cases he0
    have z1 : Same H (upd (upd (upd H f0 (.dK [])) e0 (.lst [])) f0 (.dK [(kN 0, .ref e0)])) := Same.put (Same.new (Same.new (Same.refl H) hf0) he0) hf0
    refine ⟨3, rfl, by decide, by decide, for_range (n := 3) (fun i σ H' => ∃ (f : Addr) (v2 : Option V) (kvs : List (Key × V)), σ = [some (.ref a), some (.ref f), v2] ∧ Same H H' ∧ H' f = some (.dK kvs) ∧ Forms H' kvs (Rm.waysOf g i) ∧ Keys kvs (g.getD 0 0) ∧ ∀ x ∈ Rm.waysOf g i, x.2.length = i)
      ⟨f0, none, [(kN 0, .ref e0)], rfl, z1, upd_same, fun d => ?_, ⟨[0], by simp, rfl, fun d hd => by rw [List.mem_singleton.mp hd]; have := hR.1.1; omega⟩, fun x hx => by rw [List.mem_singleton.mp hx]; rfl⟩ ?_ ?_⟩
    · show match Rm.formIn [(0, [])] d with
        | none => valV [(kN 0, V.ref e0)] (kN d) = none
        | some p => ∃ q, valV [(kN 0, V.ref e0)] (kN d) = some (.ref q) ∧ _
      by_cases z : d = 0
      · subst z
        exact ⟨e0, rfl, by rw [upd_ne n0]; exact upd_same⟩
      · have e : Rm.formIn [(0, [])] d = none := Fo.form_none.mpr fun p hp => z (by rw [List.mem_singleton] at hp; cases hp; rfl)
        rw [e]
        rw [valV_neg (fun y => z (kN_inj y).symm)]
        rfl
    · rintro i σ H' hi ⟨f, v2, kvs, rfl, s1, hf, hF, hK, hlen⟩
      obtain ⟨fl, hfd, hB⟩ := fdict_of hF hK hlen
      refine ⟨_, rfl, _, rfl, _, rfl, a, f, g, i, kvs, fl, by rw [Int.zero_add]; rfl, s1.seq hs, hl, hR, hi, hf, hfd, fun x hx => hB.len x (hB.mem hx), fun H2 f2 kvs2 s2 hf2 hF2 hK2 => ?_⟩
      exact ⟨f2, _, kvs2, rfl, s1.trans s2, hf2, hF2.same fun d => (Fo.form_step hB d).symm, hK2, Fo.step_len hlen⟩
    · rintro σ H' ⟨f, v2, kvs, rfl, s1, hf, hF, hK, hlen⟩
      exact ⟨_, rfl, q _ f kvs s1 hf hF (keys_whole hK hF)⟩
theorem c_digit_forms (T : Txt K mg) : Callee P w K mg base 3 "digit_forms" ["rod"] (sp_digit_forms K) := Callee.of T.d_digit_forms fun _ _ D => ok_digit_forms T D
theorem sc_behind_act : FnScope ["rod", "pushed", "stroke", "n", "k", "between"] ["rod", "pushed", "stroke", "n", "k"] (defScope t_behind_act) := ⟨rfl, rfl, rfl, by decide +kernel, rfl, by decide +kernel, by decide +kernel⟩
theorem ok_behind_act (T : Txt K mg) (D : DefAt K mg "behind_act" t_behind_act ["rod", "pushed", "stroke", "n", "k"] f fd) : FnOk P w K mg base CX0 3 f fd ["rod", "pushed", "stroke", "n", "k"] (sp_behind_act K) := by
  refine D.fn.ok sc_behind_act (fun vs H Q E h => ?_) (fun cdv A outer s H vs Q E hr h => ?_)
  · obtain ⟨a, b, c, g, p, s, n, k, rfl, hg, hgl, hp, hpl, hs, hS, kN, kS⟩ := h
    rfl
  · obtain ⟨a, b, c, g, p, s, n, k, rfl, hg, hgl, hp, hpl, hs, hS, kN, kS⟩ := h
    have hu64 := hr.units
    refine ⟨_, (pss_cons (ps_set (i := 5) sc_behind_act.nd rfl (by first | exact Or.inl rfl | exact Or.inr rfl) (pe_c (c_behind_part T) hr (by decide) rfl (pa_cons (pv 0) (pa_cons (pv 1) (pa_cons (pe_c (c_first_part T) hr (by decide) rfl (pa_cons (pv 2) pa_nil)) (pa_cons (pv 3) pa_nil))))))
      (pss_cons (ps_if (pt_cmp (pc_isN (pv 5)))
        (pss_one (ps_ret pe_non))
        pss_nil)
      (pss_cons (ps_if (pt_cmpR (eq_d K hu64) (pe_c (c_second_part T) hr (by decide) rfl (pa_cons (pv 2) pa_nil)) (pe_lst (pa_cons pe_int (pa_cons pe_int (pa_cons pe_int pa_nil)))) (nomark _))
        (pss_one (ps_ret (pe_ifExp (pt_cmp (pc_eqI (pv 4) pe_int)) (pv 5) pe_non)))
        pss_nil)
      (pss_one (ps_ret (pe_c (c_behind_part T) hr (by decide) rfl (pa_cons (pv 0) (pa_cons (pv 5) (pa_cons (pe_c (c_second_part T) hr (by decide) rfl (pa_cons (pv 2) pa_nil)) (pa_cons (pv 4) pa_nil)))))))))), ?_⟩
    obtain ⟨hsl, hI⟩ := hS
    have hI' := hI
    obtain ⟨i1, i2, i3, i4, i5⟩ := hI'
    unfold Rm.stroke3 at kN kS
    refine ⟨_, rfl, _, rfl, _, rfl, c, s, rfl, hs, hsl, fun H1 f s1 hf => ⟨_, rfl, a, b, f, g, p, s.take 3, n, rfl, s1.seq hg, hgl, s1.seq hp, hpl, SqL.of hf, by rw [List.length_take]; omega, by rw [getD_take (by decide)]; omega, fun e => ?_, fun u e H2 r s2 hr' => ?_⟩⟩
    · rw [getD_take (by decide), getD_take (by decide), getD_take (by decide)] at e
      rw [e] at kN
      exact ⟨_, rfl, _, rfl, iteT (kN rfl H1 s1)⟩
    · rw [getD_take (by decide), getD_take (by decide), getD_take (by decide)] at e
      rw [e, Option.bind_some] at kN kS
      have s12 := s1.trans s2
      have hul : u.length = 3 := (Rm.push_len e).trans hpl
      refine ⟨_, rfl, _, rfl, iteF ?_⟩
      refine ⟨_, rfl, c, s, rfl, s12.seq hs, hsl, fun H3 w s3 hw => ⟨(by show 3 ≤ sizeLine; decide), fun z hz => ⟨_, _, dp3 (x := s.getD 3 0) (y := s.getD 4 0) (z := s.getD 5 0) ?_, dp3 (SqL.of upd_same), rfl, rfl, _, rfl, ?_⟩⟩⟩
      · rw [part2 hsl] at hw
        exact (Same.new (Same.refl H3) hz).seq (SqL.of hw)
      · have s4 : Same H2 (upd H3 z (.lst [.int 0, .int 0, .int 0])) := s3.trans (Same.new (Same.refl H3) hz)
        rw [eqv3]
        refine ite2 (fun e2 => ?_) (fun e2 => ?_)
        · have e2 := of_decide_eq_true e2
          have c0 : s.getD 3 0 = 0 ∧ s.getD 4 0 = 0 ∧ s.getD 5 0 = 0 := by omega
          rw [if_pos c0] at kN kS
          refine ⟨_, rfl, _, _, rfl, rfl, _, rfl, ite2 (fun e3 => ?_) (fun e3 => ?_)⟩
          · have e3 := of_decide_eq_true e3
            have k0 : k = 0 := by omega
            rw [if_pos k0] at kS
            exact ⟨_, rfl, kS u rfl _ r (s12.trans s4) (s4 _ _ hr')⟩
          · have k0 : ¬ k = 0 := fun z => e3 (decide_eq_true (by omega))
            rw [if_neg k0] at kN
            exact kN rfl _ (s12.trans s4)
        · have c0 : ¬ (s.getD 3 0 = 0 ∧ s.getD 4 0 = 0 ∧ s.getD 5 0 = 0) := fun z => e2 (decide_eq_true (by omega))
          rw [if_neg c0] at kN kS
          refine ⟨_, rfl, _, rfl, _, rfl, c, s, rfl, (s12.trans s4).seq hs, hsl, fun H5 f2 s5 hf2 => ⟨_, rfl, a, r, f2, g, u, (s.drop 3).take 3, k, rfl, ((s12.trans s4).trans s5).seq hg, hgl, (s4.trans s5).seq (SqL.of hr'), hul, SqL.of hf2, by rw [part2 hsl]; rfl, by rw [part2 hsl]; show s.getD 3 0 < 3; omega, fun e3 => ?_, fun u2 e3 H6 r2 s6 hr2 => ?_⟩⟩
          · rw [part2 hsl] at e3
            exact kN e3 _ ((s12.trans s4).trans s5)
          · rw [part2 hsl] at e3
            exact kS u2 e3 _ r2 (((s12.trans s4).trans s5).trans s6) hr2
theorem c_behind_act (T : Txt K mg) : Callee P w K mg base 3 "behind_act" ["rod", "pushed", "stroke", "n", "k"] (sp_behind_act K) := Callee.of T.d_behind_act fun _ _ D => ok_behind_act T D
theorem sc_hand_fault : FnScope ["hand", "place", "stroke"] ["hand"] (defScope t_hand_fault) := ⟨rfl, rfl, rfl, by decide +kernel, rfl, by decide +kernel, by decide +kernel⟩
theorem ok_hand_fault (T : Txt K mg) (D : DefAt K mg "hand_fault" t_hand_fault ["hand"] f fd) : FnOk P w K mg base CX0 3 f fd ["hand"] (sp_hand_fault K) := by
  refine D.fn.ok sc_hand_fault (fun vs H Q E h => ?_) (fun cdv A outer s H vs Q E hr h => ?_)
  · obtain ⟨a, l, rfl, hs, hl, kN, kS⟩ := h
    rfl
  · obtain ⟨a, l, rfl, hs, hl, kN, kS⟩ := h
    refine ⟨_, (pss_cons (ps_if (pt_not (pt_val (pe_c (c_hand_can_be T) hr (by decide) rfl (pa_cons (pv 0) pa_nil))))
        (pss_one (ps_ret (pe_lst (pa_cons (pe_gi rfl T.v_HAND_RULE) (pa_cons pe_int pa_nil)))))
        pss_nil)
      (pss_cons (ps_for PassesOwn.never rfl (pi_enum rfl T.n_enumerate (pa_cons (pe_c (c_strokes_of T) hr (by decide) rfl (pa_cons (pv 0) pa_nil)) pa_nil)) (pg_tup rfl (pgs_cons (pg_name (i := 1) sc_hand_fault.nd rfl (by first | exact Or.inl rfl | exact Or.inr rfl)) (pgs_cons (pg_name (i := 2) sc_hand_fault.nd rfl (by first | exact Or.inl rfl | exact Or.inr rfl)) pgs_nil)))
        (pss_one (ps_if (pt_not (pt_val (pe_c (c_stroke_can_be T) hr (by decide) rfl (pa_cons (pv 2) pa_nil))))
          (pss_one (ps_ret (pe_lst (pa_cons (pe_gi rfl T.v_STROKE_RULE) (pa_cons (pv 1) pa_nil)))))
          pss_nil)))
      (pss_one (ps_ret pe_non)))), ?_⟩
    refine ⟨_, rfl, a, l, rfl, hs, hl, fun k hk => ⟨k, rfl, ite2 (fun e => ?_) (fun e => ?_)⟩⟩
    · have hn : ¬ Mm.HandLen l := fun z => by
        rw [hk.mpr z] at e
        cases e
      exact ⟨(by show 2 ≤ sizeLine; decide), fun p hp => kS 6 0 (Mm.hand_len hn) _ p (Same.new (Same.refl H) hp) upd_same⟩
    · have hL : Mm.HandLen l := hk.mp (by cases k with
        | true => rfl
        | false => exact absurd rfl e)
      have hL' := hL
      obtain ⟨h0, h1, h2, h3⟩ := hL'
      have h0 : l.length ≠ 0 := fun z => h0 (List.eq_nil_of_length_eq_zero z)
      refine ⟨_, rfl, a, l, rfl, hs, h0, h2, hl, fun H1 p1 sas s1 hp1 hsas => ⟨p1, _, rfl, SqL.of hp1, for_enum (a := p1) (xs := sas.map V.ref) (fun i σ H' => ∃ (v1 v2 : Option V), σ = [some (.ref a), v1, v2] ∧ Same H1 H' ∧ ∀ j, j < i → Na.strokeGood (Mm.grp 7 (l.drop 1) j) = true)
        ⟨none, none, rfl, Same.refl H1, fun j hj => by omega⟩ (fun i σ H' _ ⟨_, _, _, s2, _⟩ => s2.seq (SqL.of hp1)) ?_ ?_⟩⟩
      · rintro i y p σ H' hi hp ⟨v1, v2, rfl, s2, hg⟩
        obtain ⟨ra, hra, rfl⟩ := map_at hi
        have hil : i < (Na.groups 7 (l.drop 1)).length := by
          have := (List.getElem?_eq_some_iff.mp hra).1
          rw [hsas.1] at this
          exact this
        obtain ⟨g, hgg⟩ : ∃ g, (Na.groups 7 (l.drop 1))[i]? = some g := ⟨_, List.getElem?_eq_getElem hil⟩
        obtain ⟨hi7, eg⟩ := (Mm.groups_at (by decide) (Mm.hand_mod hL)).mp hgg
        have hg7 : g.length = 7 := by rw [eg]; exact grp_len hi7
        have s3 : Same H' (upd H' p (.tup [.int (i : Nat), .ref ra])) := Same.new (Same.refl H') hp
        have s13 := s2.trans s3
        refine ⟨p, _, rfl, SqT.of upd_same, rfl, _, _, rfl, _, _, rfl, rfl, ?_⟩
        refine ⟨_, rfl, ra, g, rfl, s13.seq (hsas.2 i ra g hra hgg), hg7, fun k H4 hk4 s4 => ⟨k, rfl, ite2 (fun e => ?_) (fun e => ?_)⟩⟩
        · have hb : Na.strokeGood g = false := by
            cases z : Na.strokeGood g with
            | false => rfl
            | true =>
              rw [hk4.mpr z] at e
              cases e
          rw [List.length_drop] at hi7
          exact ⟨_, rfl, (by show 2 ≤ sizeLine; decide), fun p5 hp5 => kS 7 i (Mm.hand_bad hL hi7 (by rw [← eg]; exact hb) hg) _ p5 (Same.new ((s1.trans s13).trans s4) hp5) upd_same⟩
        · refine ⟨_, _, rfl, s13.trans s4, fun j hj => ?_⟩
          by_cases z : j = i
          · rw [z, ← eg]
            exact hk4.mp (by cases k with
              | true => rfl
              | false => exact absurd rfl e)
          · exact hg j (by omega)
      · rintro σ H' ⟨v1, v2, rfl, s2, hg⟩
        rw [List.length_map, hsas.1, Mm.groups_is (by decide) (Mm.hand_mod hL), List.length_map, List.length_range, List.length_drop] at hg
        exact kN _ (Mm.hand_ok hL hg) _ (s1.trans s2)
theorem c_hand_fault (T : Txt K mg) : Callee P w K mg base 3 "hand_fault" ["hand"] (sp_hand_fault K) := Callee.of T.d_hand_fault fun _ _ D => ok_hand_fault T D
theorem sc_row_can_be : FnScope ["row"] ["row"] (defScope t_row_can_be) := ⟨rfl, rfl, rfl, by decide +kernel, rfl, by decide +kernel, by decide +kernel⟩
theorem ok_row_can_be (T : Txt K mg) (D : DefAt K mg "row_can_be" t_row_can_be ["row"] f fd) : FnOk P w K mg base CX0 3 f fd ["row"] (sp_row_can_be K) := by
  refine D.fn.ok sc_row_can_be (fun vs H Q E h => ?_) (fun cdv A outer s H vs Q E hr h => ?_)
  · obtain ⟨a, ns, rfl, hs, h36, q⟩ := h
    rfl
  · obtain ⟨a, ns, rfl, hs, h36, q⟩ := h
    refine ⟨_, (pss_one (ps_ret (pe_and (pe_c (c_length_can_be T) hr (by decide) rfl (pa_cons (pe_callB (len_s K) (by rfl) T.n_len bt_len (pa_cons (pv 0) pa_nil)) pa_nil)) (pe_and (pe_c (c_head_can_be T) hr (by decide) rfl (pa_cons (pv 0) pa_nil)) (pe_one (pe_c (c_steps_can_be T) hr (by decide) rfl (pa_cons (pv 0) pa_nil))))))), ?_⟩
    unfold Bm.rowB at q
    refine ⟨_, rfl, a, _, rfl, .inl hs, ns.length, (by rw [List.length_map]; rfl), _, rfl, andR q fun e q => ?_⟩
    have el : 3 ≤ ns.length ∧ ns.length % 3 = 0 := by
      unfold Bm.lenB at e
      rw [Bool.and_eq_true, Bool.and_eq_true] at e
      exact ⟨of_decide_eq_true e.1.1, of_decide_eq_true e.2⟩
    exact ⟨_, rfl, a, ns, rfl, hs, el.1, _, rfl, andR q fun _ q => ⟨_, rfl, a, ns, rfl, hs, el.1, h36, el.2, q⟩⟩
theorem c_row_can_be (T : Txt K mg) : Callee P w K mg base 3 "row_can_be" ["row"] (sp_row_can_be K) := Callee.of T.d_row_can_be fun _ _ D => ok_row_can_be T D
theorem sc_behind_acts : FnScope ["rod", "pushed", "strokes", "steps", "behind", "stroke", "n", "k"] ["rod", "pushed", "strokes", "steps"] (defScope t_behind_acts) := ⟨rfl, rfl, rfl, by decide +kernel, rfl, by decide +kernel, by decide +kernel⟩
theorem ok_behind_acts (T : Txt K mg) (D : DefAt K mg "behind_acts" t_behind_acts ["rod", "pushed", "strokes", "steps"] f fd) : FnOk P w K mg base CX0 4 f fd ["rod", "pushed", "strokes", "steps"] (sp_behind_acts K) := by
  refine D.fn.ok sc_behind_acts (fun vs H Q E h => ?_) (fun cdv A outer s H vs Q E hr h => ?_)
  · obtain ⟨a, b, c, e, g, p, as, ss, ts, st, rfl, hg, hgl, hp, hpl, hc, hss, hS, he, hst, kN, kS⟩ := h
    rfl
  · obtain ⟨a, b, c, e, g, p, as, ss, ts, st, rfl, hg, hgl, hp, hpl, hc, hss, hS, he, hst, kN, kS⟩ := h
    have hu64 := hr.units
    refine ⟨_, (pss_cons (ps_set (i := 4) sc_behind_acts.nd rfl (by first | exact Or.inl rfl | exact Or.inr rfl) (pv 1))
      (pss_cons (ps_for PassesOwn.never rfl (pi_list (pv 3)) (pg_tup rfl (pgs_cons (pg_name (i := 5) sc_behind_acts.nd rfl (by first | exact Or.inl rfl | exact Or.inr rfl)) (pgs_cons (pg_name (i := 6) sc_behind_acts.nd rfl (by first | exact Or.inl rfl | exact Or.inr rfl)) (pgs_cons (pg_name (i := 7) sc_behind_acts.nd rfl (by first | exact Or.inl rfl | exact Or.inr rfl)) pgs_nil))))
        (pss_cons (ps_if (pt_cmpR (eq_d K hu64) (pe_tup (pa_cons (pv 5) (pa_cons (pv 6) (pa_cons (pv 7) pa_nil)))) (pe_gt rfl T.v_CARRY) (nomark _))
          (pss_one ps_continue)
          pss_nil)
        (pss_cons (ps_if (pt_cmp (pc_ge (pv 5) (pe_callB (len_s K) (by rfl) T.n_len bt_len (pa_cons (pv 2) pa_nil))))
          (pss_one (ps_ret pe_non))
          pss_nil)
        (pss_cons (ps_set (i := 4) sc_behind_acts.nd rfl (by first | exact Or.inl rfl | exact Or.inr rfl) (pe_c (c_behind_act T) hr (by decide) rfl (pa_cons (pv 0) (pa_cons (pv 4) (pa_cons (pe_ix (ix_l K) (pv 2) (pv 5) (fun _ _ => rfl)) (pa_cons (pv 6) (pa_cons (pv 7) pa_nil)))))))
        (pss_one (ps_if (pt_cmp (pc_isN (pv 4)))
          (pss_one (ps_ret pe_non))
          pss_nil))))))
      (pss_one (ps_ret (pv 4))))), ?_⟩
    refine ⟨_, rfl, _, rfl, e, rfl, ⟨_, he⟩, for_list (a := e) (xs := ts.map V.ref) (fun i σ H' => ∃ (r : Addr) (u : List Nat) (v5 v6 v7 : Option V), σ = [some (.ref a), some (.ref b), some (.ref c), some (.ref e), some (.ref r), v5, v6, v7] ∧ Same H H' ∧ NL K H' r u ∧ u.length = 3 ∧ Rm.done3 (Rm.bsOf g) ss st p = Rm.done3 (Rm.bsOf g) ss (st.drop i) u)
      ⟨b, p, none, none, none, rfl, Same.refl H, hp, hpl, rfl⟩ (fun i σ H' _ ⟨_, _, _, _, _, _, s1, _⟩ => s1.seq he) ?_ ?_⟩
    · rintro i x σ H' hi ⟨r, u, v5, v6, v7, rfl, s1, hu', hul, hd⟩
      obtain ⟨t, ht, rfl⟩ := map_at hi
      have hil : i < st.length := by
        have := (List.getElem?_eq_some_iff.mp ht).1
        rw [hst.1] at this
        exact this
      obtain ⟨s, hs⟩ : ∃ s, st[i]? = some s := ⟨_, List.getElem?_eq_getElem hil⟩
      have h1 := s1 _ _ (hst.2 i t s ht hs)
      rw [List.drop_eq_getElem_cons hil, (List.getElem?_eq_some_iff.mp hs).2, Rm.done3] at hd
      refine ⟨t, _, rfl, SqT.of h1, rfl, _, _, rfl, _, _, rfl, _, _, rfl, rfl, ?_⟩
      refine ⟨_, rfl, _, rfl, _, rfl, (by show 3 ≤ sizeLine; decide), fun z hz => fun cr hcr => ⟨_, _, dpT (SqT.of upd_same), dpT hcr, rfl, rfl, _, rfl, ?_⟩⟩
      rw [eqvT]
      have s2 : Same H' (upd H' z (.tup [.int (s.1 : Nat), .int (s.2.1 : Nat), .int (s.2.2 : Nat)])) := Same.new (Same.refl H') hz
      refine ite2 (fun ez => ?_) (fun ez => ?_)
      · have ez := of_decide_eq_true ez
        have ei : Rm.isC s = true := by
          unfold Rm.isC
          simp only [Bool.and_eq_true, beq_iff_eq]
          omega
        rw [if_pos ei] at hd
        exact ⟨r, u, _, _, _, rfl, s1.trans s2, s2.seq hu', hul, hd⟩
      · have ei : ¬ Rm.isC s = true := fun z => by
          unfold Rm.isC at z
          simp only [Bool.and_eq_true, beq_iff_eq] at z
          exact ez (decide_eq_true (by omega))
        rw [if_neg ei] at hd
        refine ⟨_, rfl, _, rfl, c, _, rfl, .inl ((s1.trans s2).seq hc), _, _, rfl, rfl, _, rfl, ite2 (fun e1 => ?_) (fun e1 => ?_)⟩
        · have e1 := of_decide_eq_true e1
          rw [List.length_map, hss.1] at e1
          rw [List.getElem?_eq_none (by omega)] at hd
          exact kN hd _ (s1.trans s2)
        · have e1 : s.1 < ss.length := by
            refine Classical.byContradiction fun z => e1 (decide_eq_true ?_)
            rw [List.length_map, hss.1]
            omega
          obtain ⟨gs, hgs⟩ : ∃ gs, ss[s.1]? = some gs := ⟨_, List.getElem?_eq_getElem e1⟩
          obtain ⟨sa, hsa⟩ : ∃ sa, as[s.1]? = some sa := ⟨_, List.getElem?_eq_getElem (by rw [hss.1]; exact e1)⟩
          rw [hgs] at hd
          dsimp only at hd
          refine ⟨_, rfl, _, rfl, _, rfl, _, rfl, c, _, _, _, rfl, rfl, (s1.trans s2).seq hc, at_r hsa, _, rfl, _, rfl, a, r, sa, g, u, gs, s.2.1, s.2.2, rfl, (s1.trans s2).seq hg, hgl, s2.seq hu', hul, (s1.trans s2).seq (hss.2 _ _ _ hsa hgs), hS gs (List.mem_of_getElem? hgs), fun e3 H3 s3 => ?_, fun u3 e3 H3 r3 s3 hr3 => ?_⟩
          · rw [e3] at hd
            exact ⟨_, rfl, _, rfl, iteT (kN hd _ ((s1.trans s2).trans s3))⟩
          · rw [e3] at hd
            refine ⟨_, rfl, _, rfl, iteF ?_⟩
            refine ⟨r3, u3, _, _, _, rfl, (s1.trans s2).trans s3, SqL.of hr3, (Rm.stroke_len e3).trans hul, hd⟩
    · rintro σ H' ⟨r, u, v5, v6, v7, rfl, s1, hu', hul, hd⟩
      rw [List.length_map, hst.1, List.drop_length] at hd
      exact ⟨_, rfl, kS u hd _ r s1 hu'⟩
theorem c_behind_acts (T : Txt K mg) : Callee P w K mg base 4 "behind_acts" ["rod", "pushed", "strokes", "steps"] (sp_behind_acts K) := Callee.of T.d_behind_acts fun _ _ D => ok_behind_acts T D
theorem sc_rule_broken : FnScope ["rod"] ["rod"] (defScope t_rule_broken) := ⟨rfl, rfl, rfl, by decide +kernel, rfl, by decide +kernel, by decide +kernel⟩
theorem ok_rule_broken (T : Txt K mg) (D : DefAt K mg "rule_broken" t_rule_broken ["rod"] f fd) : FnOk P w K mg base CX0 4 f fd ["rod"] (sp_rule_broken K) := by
  refine D.fn.ok sc_rule_broken (fun vs H Q E h => ?_) (fun cdv A outer s H vs Q E hr h => ?_)
  · obtain ⟨a, g, rfl, hs, hl, kN, kS⟩ := h
    rfl
  · obtain ⟨a, g, rfl, hs, hl, kN, kS⟩ := h
    refine ⟨_, (pss_cons (ps_if (pt_not (pt_val (pe_c (c_rod_can_be T) hr (by decide) rfl (pa_cons (pv 0) pa_nil))))
        (pss_one (ps_ret (pe_gi rfl T.v_ROD_RULE)))
        pss_nil)
      (pss_cons (ps_if (pt_cmp (pc_gt (pe_c (c_worth_together T) hr (by decide) rfl (pa_cons (pv 0) pa_nil)) (pe_gi rfl T.v_HIGHEST_WORTH_TOGETHER)))
        (pss_one (ps_ret (pe_gi rfl T.v_WORTH_TOGETHER_RULE)))
        pss_nil)
      (pss_cons (ps_if (pt_cmp (pc_lt (pe_callB call_lenD (by rfl) T.n_len bt_len (pa_cons (pe_c (c_digit_forms T) hr (by decide) rfl (pa_cons (pv 0) pa_nil)) pa_nil)) (pe_c (c_ratio_of T) hr (by decide) rfl (pa_cons (pv 0) pa_nil))))
        (pss_one (ps_ret (pe_gi rfl T.v_DIGITS_RULE)))
        pss_nil)
      (pss_one (ps_ret pe_non))))), ?_⟩
    refine ⟨_, rfl, a, g, rfl, hs, hl, fun k hk => ⟨k, rfl, ite2 (fun e => ?_) (fun e => ?_)⟩⟩
    · have hn : ¬ Rm.RIn g := fun z => by
        rw [hk.mpr z] at e
        cases e
      exact kS 2 (Rm.wrong2 hn) (by decide) H (Same.refl H)
    · have hR : Rm.RIn g := hk.mp (by cases k with
        | true => rfl
        | false => exact absurd rfl e)
      refine ⟨_, rfl, a, g, rfl, hs, hl, hR, fun H1 s1 => ⟨_, _, rfl, rfl, _, rfl, ite2 (fun e1 => ?_) (fun e1 => ?_)⟩⟩
      · have e1 := of_decide_eq_true e1
        exact kS 3 (Rm.wrong3 hR (by omega)) (by decide) H1 s1
      · have e1 : ¬ 255 < Rm.mostOf g := fun z => e1 (decide_eq_true (by omega))
        refine ⟨_, rfl, a, g, rfl, s1.seq hs, hl, hR, fun H2 f kvs s2 hf hF hw => ⟨f, kvs, rfl, hf, _, rfl, a, g, rfl, (s1.trans s2).seq hs, hl, _, _, rfl, rfl, _, rfl, ite2 (fun e2 => ?_) (fun e2 => ?_)⟩⟩
        · have e2 := of_decide_eq_true e2
          exact kS 4 (Rm.wrong4 hR e1 (hw.mp (by omega))) (by decide) H2 (s1.trans s2)
        · refine kN (Rm.wrong0 hR e1 (Classical.byContradiction fun z => e2 (decide_eq_true ?_))) H2 (s1.trans s2)
          have := hw.mpr z
          omega
theorem c_rule_broken (T : Txt K mg) : Callee P w K mg base 4 "rule_broken" ["rod"] (sp_rule_broken K) := Callee.of T.d_rule_broken fun _ _ D => ok_rule_broken T D
theorem sc_book_fault : FnScope ["book", "told", "place", "row", "rule"] ["book"] (defScope t_book_fault) := ⟨rfl, rfl, rfl, by decide +kernel, rfl, by decide +kernel, by decide +kernel⟩
theorem ok_book_fault (T : Txt K mg) (D : DefAt K mg "book_fault" t_book_fault ["book"] f fd) : FnOk P w K mg base CX0 4 f fd ["book"] (sp_book_fault K) := by
  refine D.fn.ok sc_book_fault (fun vs H Q E h => ?_) (fun cdv A outer s H vs Q E hr h => ?_)
  · obtain ⟨a, as, rows, rfl, hs, ⟨hlen, hrow⟩, hmax, kN, kS⟩ := h
    rfl
  · obtain ⟨a, as, rows, rfl, hs, ⟨hlen, hrow⟩, hmax, kN, kS⟩ := h
    have hu := hu_of hr
    refine ⟨_, (pss_cons (ps_set (i := 1) sc_book_fault.nd rfl (by first | exact Or.inl rfl | exact Or.inr rfl) pe_dnewT)
      (pss_cons (ps_for PassesOwn.never rfl (pi_enum rfl T.n_enumerate (pa_cons (pv 0) pa_nil)) (pg_tup rfl (pgs_cons (pg_name (i := 2) sc_book_fault.nd rfl (by first | exact Or.inl rfl | exact Or.inr rfl)) (pgs_cons (pg_name (i := 3) sc_book_fault.nd rfl (by first | exact Or.inl rfl | exact Or.inr rfl)) pgs_nil)))
        (pss_cons (ps_if (pt_not (pt_val (pe_c (c_row_can_be T) hr (by decide) rfl (pa_cons (pv 3) pa_nil))))
          (pss_one (ps_ret (pe_lst (pa_cons (pe_gi rfl T.v_BOOK_RULE) (pa_cons (pv 2) pa_nil)))))
          pss_nil)
        (pss_cons (ps_set (i := 4) sc_book_fault.nd rfl (by first | exact Or.inl rfl | exact Or.inr rfl) (pe_tup (pa_cons (pe_ix (ix_l K) (pv 3) pe_int (fun _ _ => rfl)) (pa_cons (pe_ix (ix_l K) (pv 3) pe_int (fun _ _ => rfl)) (pa_cons (pe_ix (ix_l K) (pv 3) pe_int (fun _ _ => rfl)) pa_nil)))))
        (pss_cons (ps_if (pt_cmp (pc_din hu (pv 4) (pv 1)) rfl)
          (pss_one (ps_ret (pe_lst (pa_cons (pe_gi rfl T.v_BOOK_RULE) (pa_cons (pv 2) pa_nil)))))
          pss_nil)
        (pss_one (ps_dput hu (pv 1) (pv 4) pe_bl rfl))))))
      (pss_one (ps_ret pe_non)))), ?_⟩
    intro t ht
    refine ⟨_, rfl, a, as.map V.ref, rfl, (Same.new (Same.refl H) ht).seq hs, for_enum (a := a) (xs := as.map V.ref)
      (fun i σ H' => ∃ (v2 v3 v4 : Option V) (ks : List (List Int)), σ = [some (.ref a), some (.ref t), v2, v3, v4] ∧ Same H H' ∧ H' t = some (.dT (kvOf ks)) ∧ ks.length = i ∧ Bm.bad 0 [] rows = Bm.bad i ks (rows.drop i))
      ⟨none, none, none, [], rfl, Same.new (Same.refl H) ht, upd_same, rfl, rfl⟩ (fun i σ H' _ ⟨_, _, _, _, _, s1, _⟩ => s1.seq hs) ?_ ?_⟩
    · rintro i y p σ H' hi hp ⟨v2, v3, v4, ks, rfl, s1, hd, hki, hb⟩
      obtain ⟨c, hc, rfl⟩ : ∃ c, as[i]? = some c ∧ y = V.ref c := by
        rw [List.getElem?_map] at hi
        cases e : as[i]? with
        | none =>
          rw [e] at hi
          cases hi
        | some c =>
          rw [e] at hi
          exact ⟨c, rfl, (Option.some.inj hi).symm⟩
      have hil : i < rows.length := by
        have := (List.getElem?_eq_some_iff.mp hc).1
        omega
      obtain ⟨ns, hns⟩ : ∃ ns, rows[i]? = some ns := ⟨_, List.getElem?_eq_getElem hil⟩
      obtain ⟨hS, h36⟩ := hrow i c ns hc hns
      have s2 : Same H (upd H' p (.tup [.int (i : Nat), .ref c])) := Same.new s1 hp
      have hd2 : (upd H' p (.tup [.int (i : Nat), .ref c])) t = some (.dT (kvOf ks)) := by
        rw [upd_ne (ne_of_none hd hp)]
        exact hd
      rw [Bm.bad_drop hns] at hb
      have S2 := s2.seq hS
      refine ⟨p, _, rfl, .inl (.inl upd_same), rfl, _, _, rfl, _, _, rfl, rfl, ?_⟩
      refine ⟨_, rfl, c, ns, rfl, S2, h36, _, rfl, ite2 (fun e => ?_) (fun e => ?_)⟩
      · have e : Bm.rowB ns = false := (Bool.not_eq_true' _).mp e
        rw [if_pos (.inl e)] at hb
        exact ⟨_, rfl, (by show 2 ≤ sizeLine; decide), fun l hl => kS i hb _ l (Same.new s2 hl) upd_same⟩
      · have e : Bm.rowB ns = true := by
          cases z : Bm.rowB ns with
          | true => rfl
          | false => exact absurd (by rw [z]; rfl) e
        have el : 3 ≤ ns.length := by
          unfold Bm.rowB Bm.lenB at e
          rw [Bool.and_eq_true, Bool.and_eq_true, Bool.and_eq_true] at e
          exact of_decide_eq_true e.1.1.1
        refine ⟨_, rfl, c, _, _, _, rfl, rfl, S2, ints_at0 (j := 0) (by omega), _, rfl, c, _, _, _, rfl, rfl, S2, ints_at0 (j := 1) (by omega), _, rfl, c, _, _, _, rfl, rfl, S2, ints_at0 (j := 2) (by omega), (by show 3 ≤ sizeLine; decide), fun r hr' => ?_⟩
        have hd3 : (upd (upd H' p (.tup [.int (i : Nat), .ref c])) r (.tup [.int (Bm.at0 ns 0), .int (Bm.at0 ns 1), .int (Bm.at0 ns 2)])) t = some (.dT (kvOf ks)) := by
          rw [upd_ne (ne_of_none hd2 hr')]
          exact hd2
        have s3 := Same.new (o := .tup [.int (Bm.at0 ns 0), .int (Bm.at0 ns 1), .int (Bm.at0 ns 2)]) s2 hr'
        refine ⟨_, rfl, _, rfl, t, _, rfl, DGet.t (k := kOf (Bm.keyOf ns)) hd3 upd_same, _, rfl, ite2 (fun e2 => ?_) (fun e2 => ?_)⟩
        · rw [val_in] at e2
          rw [if_pos (.inr (of_decide_eq_true e2))] at hb
          exact ⟨_, rfl, (by show 2 ≤ sizeLine; decide), fun l hl => kS i hb _ l (Same.new s3 hl) upd_same⟩
        · rw [val_in] at e2
          have e2 : ¬ Bm.keyOf ns ∈ ks := fun z => e2 (decide_eq_true z)
          rw [if_neg (fun z => z.elim (fun q => by rw [e] at q; cases q) e2)] at hb
          refine ⟨_, rfl, _, rfl, t, _, rfl, DPut.t (k := kOf (Bm.keyOf ns)) hd3 upd_same (by unfold kvOf; rw [List.length_map]; exact small1000 (by omega)), ?_⟩
          refine ⟨_, _, _, ks ++ [Bm.keyOf ns], rfl, ?_, ?_, by rw [List.length_append, hki]; rfl, hb⟩
          · intro b o eb
            rw [upd_ne (fun z => by rw [z] at eb; rw [eb] at ht; cases ht)]
            exact s3 b o eb
          · rw [put_new e2]
            exact upd_same
    · rintro σ H' ⟨v2, v3, v4, ks, rfl, s1, hd, hki, hb⟩
      rw [List.length_map, hlen, List.drop_length] at hb
      exact kN hb H' s1
theorem c_book_fault (T : Txt K mg) : Callee P w K mg base 4 "book_fault" ["book"] (sp_book_fault K) := Callee.of T.d_book_fault fun _ _ D => ok_book_fault T D
theorem form_get {H : Hp} {g : List Nat} {kvs : List (Key × V)} (hR : Rm.RIn g) (hW : Rm.Whole g) (hF : Forms H kvs (Rm.waysOf g 3)) {d : Nat} (hd : d < g.getD 0 0) : ∃ q, valV kvs (kN d) = some (.ref q) ∧ H q = some (lstN (Rm.formR g d)) := by
  have h := hF d
  rw [Rm.form_at hR hW hd] at h
  exact h
theorem count_eq {H : Hp} : ∀ {ts : List Addr} {st : List Rm.Step}, StepsAt H ts st → (ts.countP fun t => isZ H (.ref t)) = st.countP Rm.isC
  | [], [], _ => rfl
  | [], _ :: _, h => by have := h.1; simp at this
  | _ :: _, [], h => by have := h.1; simp at this
  | t :: ts, s :: st, h => by
    have h0 := h.2 0 t s rfl rfl
    have ih := count_eq (H := H) (ts := ts) (st := st) ⟨by simpa using h.1, fun j t' s' e1 e2 => h.2 (j + 1) t' s' e1 e2⟩
    rw [List.countP_cons, List.countP_cons, ih]
    have e : isZ H (.ref t) = Rm.isC s := by
      unfold isZ Rm.isC
      dsimp only
      rw [h0]
      dsimp only
      rw [Bool.eq_iff_iff]
      simp only [Bool.and_eq_true, beq_iff_eq]
      omega
    rw [e]
theorem steps_all {H : Hp} {ts : List Addr} {st : List Rm.Step} (h : StepsAt H ts st) : ∀ t ∈ ts, ∃ p q r : Int, H t = some (.tup [.int p, .int q, .int r]) := by
  intro t ht
  obtain ⟨j, hj⟩ := List.getElem?_of_mem ht
  have hl : j < st.length := by
    have := (List.getElem?_eq_some_iff.mp hj).1
    rw [h.1] at this
    exact this
  exact ⟨_, _, _, h.2 j t _ hj (List.getElem?_eq_getElem hl)⟩
theorem three_of {l : List Nat} (h : l.length = 3) : l = [l.getD 0 0, l.getD 1 0, l.getD 2 0] := by
  match l, h with
  | [_, _, _], _ => rfl
theorem formR_len (g : List Nat) (d : Nat) : (Rm.formR g d).length = 3 := rfl
/-- what is due, as the program reckons it -/
def dueI (op d x : Nat) : Int := if op = 0 then (x : Int) + d else (x : Int) - d
theorem due_after {op d x q : Nat} (hq : d < q) : dueI op d x % (q : Int) = ((Na.after op q d x : Nat) : Int) := by
  unfold dueI Na.after
  by_cases e : op = 0
  · rw [if_pos e, if_pos e]
    push_cast
    rfl
  · rw [if_neg e, if_neg e]
    have : ((x + q - d : Nat) : Int) = (x : Int) - d + q := by omega
    rw [Int.natCast_emod, this, Int.add_emod_right]
theorem due_over {op d x q : Nat} (hx : x < q) : (if 0 ≤ dueI op d x ∧ dueI op d x < (q : Int) then (0 : Int) else 1) = ((if Na.over op q d x = true then 1 else 0 : Nat) : Int) := by
  unfold dueI Na.over
  by_cases e : op = 0
  · rw [if_pos e, if_pos e]
    by_cases c : q ≤ x + d
    · rw [if_neg (by omega), if_pos (by simpa using c)]
      rfl
    · rw [if_pos (by omega), if_neg (by simpa using c)]
      rfl
  · rw [if_neg e, if_neg e]
    by_cases c : x < d
    · rw [if_neg (by omega), if_pos (by simpa using c)]
      rfl
    · rw [if_pos (by omega), if_neg (by simpa using c)]
      rfl
theorem sc_why_not_right : FnScope ["rod", "forms", "strokes", "op", "d", "x", "steps", "shown", "due"] ["rod", "forms", "strokes", "op", "d", "x", "steps"] (defScope t_why_not_right) := ⟨rfl, rfl, rfl, by decide +kernel, rfl, by decide +kernel, by decide +kernel⟩
theorem ok_why_not_right (T : Txt K mg) (D : DefAt K mg "why_not_right" t_why_not_right ["rod", "forms", "strokes", "op", "d", "x", "steps"] f fd) : FnOk P w K mg base CX0 5 f fd ["rod", "forms", "strokes", "op", "d", "x", "steps"] (sp_why_not_right K) := by
  refine D.fn.ok sc_why_not_right (fun vs H Q E h => ?_) (fun cdv A outer s H vs Q E hr h => ?_)
  · obtain ⟨a, f, c, e, g, kvs, as, ss, ts, st, op, d, x, rfl, hg, hgl, hR, hW, hf, hF, hc, hss, hS, he, hst, hop, hd, hx, kN, kS⟩ := h
    rfl
  · obtain ⟨a, f, c, e, g, kvs, as, ss, ts, st, op, d, x, rfl, hg, hgl, hR, hW, hf, hF, hc, hss, hS, he, hst, hop, hd, hx, kN, kS⟩ := h
    have hu := hu_of hr
    have hu64 := hr.units
    refine ⟨_, (pss_cons (ps_set (i := 7) sc_why_not_right.nd rfl (by first | exact Or.inl rfl | exact Or.inr rfl) (pe_c (c_behind_acts T) hr (by decide) rfl (pa_cons (pv 0) (pa_cons (pe_dget hu (pv 1) (pv 5) (fun _ _ => rfl)) (pa_cons (pv 2) (pa_cons (pv 6) pa_nil))))))
      (pss_cons (ps_if (pt_cmp (pc_isN (pv 7)))
        (pss_one (ps_ret (pe_gi rfl T.v_ACT_CANNOT_BE_DONE)))
        pss_nil)
      (pss_cons (ps_set (i := 8) sc_why_not_right.nd rfl (by first | exact Or.inl rfl | exact Or.inr rfl) (pe_c (c_due_on T) hr (by decide) rfl (pa_cons (pv 3) (pa_cons (pv 4) (pa_cons (pv 5) pa_nil)))))
      (pss_cons (ps_if (pt_cmpR (ne_d K hu64) (pv 7) (pe_dget hu (pv 1) (pe_op op_mod (pv 8) (pe_c (c_ratio_of T) hr (by decide) rfl (pa_cons (pv 0) pa_nil))) (fun _ _ => rfl)) (nomark _))
        (pss_one (ps_ret (pe_gi rfl T.v_SHOWS_OTHERWISE)))
        pss_nil)
      (pss_cons (ps_if (pt_cmp (pc_neI (pe_bm PySem.F.plainAttrs_list PySem.F.slot_list_count PySem.F.type_list_count (count_z K (hu70 hr)) (pv 6) (pa_cons (pe_gt rfl T.v_CARRY) pa_nil)) (pe_c (c_carries_due T) hr (by decide) rfl (pa_cons (pv 8) (pa_cons (pe_c (c_ratio_of T) hr (by decide) rfl (pa_cons (pv 0) pa_nil)) pa_nil)))))
        (pss_one (ps_ret (pe_gi rfl T.v_OTHER_CARRIES)))
        pss_nil)
      (pss_one (ps_ret pe_non))))))), ?_⟩
    obtain ⟨q1, v1, l1⟩ := form_get hR hW hF hx
    have hgx := DGet.k (k := Rg.kN x) hf
    rw [v1] at hgx
    unfold Rm.why3 at kN kS
    refine ⟨_, rfl, _, rfl, _, rfl, f, _, rfl, hgx, _, rfl, _, rfl, a, q1, c, e, g, Rm.formR g x, as, ss, ts, st, rfl, hg, hgl, SqL.of l1, rfl, hc, hss, hS, he, hst, fun e1 H1 s1 => ?_, fun u e1 H1 r s1 hr' => ?_⟩
    · rw [e1] at kS
      exact ⟨_, rfl, _, rfl, iteT (kS 1 rfl H1 s1)⟩
    · rw [e1] at kN kS
      dsimp only at kN kS
      have hul : u.length = 3 := Rm.done_len e1
      have hq0 : 0 < g.getD 0 0 := by omega
      have haf := Rm.after_lt (op := op) (q := g.getD 0 0) (d := d) (x := x) hq0
      obtain ⟨q2, v2, l2⟩ := form_get hR hW hF haf
      have hgd := DGet.k (k := Rg.kN (Na.after op (g.getD 0 0) d x)) (s1 _ _ hf)
      rw [v2] at hgd
      rw [three_of hul] at hr'
      refine ⟨_, rfl, _, rfl, iteF ?_⟩
      refine ⟨_, rfl, _, rfl, _, rfl, op, d, x, rfl, fun eo => ?_, fun eo => ?_⟩
      · have eo : (op : Int) = 0 := by omega
        have ed : (x : Int) + (d : Int) = dueI op d x := by
          unfold dueI
          rw [if_pos (by omega)]
        have hgd' : DGet H1 f (.int (((x : Int) + (d : Int)) % ((g.getD 0 0 : Nat) : Int))) (some (.ref q2)) := by
          rw [ed, due_after hd]
          exact hgd
        have hov : (if 0 ≤ (x : Int) + (d : Int) ∧ (x : Int) + (d : Int) < ((g.getD 0 0 : Nat) : Int) then (0 : Int) else 1) = ((if Na.over op (g.getD 0 0) d x = true then 1 else 0 : Nat) : Int) := by
          rw [ed]
          exact due_over hx
        refine ⟨_, rfl, _, rfl, _, rfl, _, rfl, a, g, rfl, s1.seq hg, hgl, _, _, rfl, rfl, (by omega), f, .ref q2, rfl, hgd', _, _, dp3 hr', dp3 (x := ((Rm.formR g (Na.after op (g.getD 0 0) d x)).getD 0 0 : Nat)) (y := ((Rm.formR g (Na.after op (g.getD 0 0) d x)).getD 1 0 : Nat)) (z := ((Rm.formR g (Na.after op (g.getD 0 0) d x)).getD 2 0 : Nat)) (SqL.of (s1 _ _ l2)), rfl, rfl, _, rfl, ?_⟩
        rw [eqv3]
        refine ite2 (fun en => ?_) (fun en => ?_)
        · have en : u ≠ Rm.formR g (Na.after op (g.getD 0 0) d x) := fun z => by
            rw [z] at en
            simp at en
          rw [if_pos en] at kS
          exact kS 2 rfl H1 s1
        · have en : u = Rm.formR g (Na.after op (g.getD 0 0) d x) := by
            have en : decide ((u.getD 0 0 : Int) = ((Rm.formR g (Na.after op (g.getD 0 0) d x)).getD 0 0 : Nat) ∧ (u.getD 1 0 : Int) = ((Rm.formR g (Na.after op (g.getD 0 0) d x)).getD 1 0 : Nat) ∧ (u.getD 2 0 : Int) = ((Rm.formR g (Na.after op (g.getD 0 0) d x)).getD 2 0 : Nat)) = true := by
              cases z : decide ((u.getD 0 0 : Int) = ((Rm.formR g (Na.after op (g.getD 0 0) d x)).getD 0 0 : Nat) ∧ (u.getD 1 0 : Int) = ((Rm.formR g (Na.after op (g.getD 0 0) d x)).getD 1 0 : Nat) ∧ (u.getD 2 0 : Int) = ((Rm.formR g (Na.after op (g.getD 0 0) d x)).getD 2 0 : Nat)) with
              | true => rfl
              | false => exact absurd (by rw [z]; rfl) en
            obtain ⟨n0, n1, n2⟩ := of_decide_eq_true en
            rw [three_of hul, three_of (formR_len g (Na.after op (g.getD 0 0) d x))]
            congr 1
            · omega
            · congr 1
              · omega
              · congr 1
                omega
          rw [if_neg (fun z => z en)] at kN kS
          refine ⟨_, rfl, .inl ⟨rfl, _, s1.seq he⟩, fun cr hcr => ⟨e, cr, ts, rfl, rfl, s1.seq he, hcr, steps_all (hst.keep s1), _, rfl, _, rfl, a, g, rfl, s1.seq hg, hgl, _, _, rfl, _, _, rfl, rfl, _, rfl, ?_⟩⟩
          rw [count_eq (hst.keep s1), hov]
          refine ite2 (fun ec => ?_) (fun ec => ?_)
          · have ec : st.countP Rm.isC ≠ (if Na.over op (g.getD 0 0) d x = true then 1 else 0) := fun z => by
              rw [z] at ec
              simp at ec
            rw [if_pos ec] at kS
            exact kS 3 rfl H1 s1
          · have ec : st.countP Rm.isC = (if Na.over op (g.getD 0 0) d x = true then 1 else 0) := by
              refine Classical.byContradiction fun z => ec ?_
              show (!decide (((st.countP Rm.isC : Nat) : Int) = ((if Na.over op (g.getD 0 0) d x = true then 1 else 0 : Nat) : Int))) = true
              rw [decide_eq_false (by omega)]
              rfl
            rw [if_neg (fun z => z ec)] at kN
            exact kN rfl H1 s1
      · have eo : ¬ (op : Int) = 0 := by omega
        have ed : (x : Int) - (d : Int) = dueI op d x := by
          unfold dueI
          rw [if_neg (by omega)]
        have hgd' : DGet H1 f (.int (((x : Int) - (d : Int)) % ((g.getD 0 0 : Nat) : Int))) (some (.ref q2)) := by
          rw [ed, due_after hd]
          exact hgd
        have hov : (if 0 ≤ (x : Int) - (d : Int) ∧ (x : Int) - (d : Int) < ((g.getD 0 0 : Nat) : Int) then (0 : Int) else 1) = ((if Na.over op (g.getD 0 0) d x = true then 1 else 0 : Nat) : Int) := by
          rw [ed]
          exact due_over hx
        refine ⟨_, rfl, _, rfl, _, rfl, _, rfl, a, g, rfl, s1.seq hg, hgl, _, _, rfl, rfl, (by omega), f, .ref q2, rfl, hgd', _, _, dp3 hr', dp3 (x := ((Rm.formR g (Na.after op (g.getD 0 0) d x)).getD 0 0 : Nat)) (y := ((Rm.formR g (Na.after op (g.getD 0 0) d x)).getD 1 0 : Nat)) (z := ((Rm.formR g (Na.after op (g.getD 0 0) d x)).getD 2 0 : Nat)) (SqL.of (s1 _ _ l2)), rfl, rfl, _, rfl, ?_⟩
        rw [eqv3]
        refine ite2 (fun en => ?_) (fun en => ?_)
        · have en : u ≠ Rm.formR g (Na.after op (g.getD 0 0) d x) := fun z => by
            rw [z] at en
            simp at en
          rw [if_pos en] at kS
          exact kS 2 rfl H1 s1
        · have en : u = Rm.formR g (Na.after op (g.getD 0 0) d x) := by
            have en : decide ((u.getD 0 0 : Int) = ((Rm.formR g (Na.after op (g.getD 0 0) d x)).getD 0 0 : Nat) ∧ (u.getD 1 0 : Int) = ((Rm.formR g (Na.after op (g.getD 0 0) d x)).getD 1 0 : Nat) ∧ (u.getD 2 0 : Int) = ((Rm.formR g (Na.after op (g.getD 0 0) d x)).getD 2 0 : Nat)) = true := by
              cases z : decide ((u.getD 0 0 : Int) = ((Rm.formR g (Na.after op (g.getD 0 0) d x)).getD 0 0 : Nat) ∧ (u.getD 1 0 : Int) = ((Rm.formR g (Na.after op (g.getD 0 0) d x)).getD 1 0 : Nat) ∧ (u.getD 2 0 : Int) = ((Rm.formR g (Na.after op (g.getD 0 0) d x)).getD 2 0 : Nat)) with
              | true => rfl
              | false => exact absurd (by rw [z]; rfl) en
            obtain ⟨n0, n1, n2⟩ := of_decide_eq_true en
            rw [three_of hul, three_of (formR_len g (Na.after op (g.getD 0 0) d x))]
            congr 1
            · omega
            · congr 1
              · omega
              · congr 1
                omega
          rw [if_neg (fun z => z en)] at kN kS
          refine ⟨_, rfl, .inl ⟨rfl, _, s1.seq he⟩, fun cr hcr => ⟨e, cr, ts, rfl, rfl, s1.seq he, hcr, steps_all (hst.keep s1), _, rfl, _, rfl, a, g, rfl, s1.seq hg, hgl, _, _, rfl, _, _, rfl, rfl, _, rfl, ?_⟩⟩
          rw [count_eq (hst.keep s1), hov]
          refine ite2 (fun ec => ?_) (fun ec => ?_)
          · have ec : st.countP Rm.isC ≠ (if Na.over op (g.getD 0 0) d x = true then 1 else 0) := fun z => by
              rw [z] at ec
              simp at ec
            rw [if_pos ec] at kS
            exact kS 3 rfl H1 s1
          · have ec : st.countP Rm.isC = (if Na.over op (g.getD 0 0) d x = true then 1 else 0) := by
              refine Classical.byContradiction fun z => ec ?_
              show (!decide (((st.countP Rm.isC : Nat) : Int) = ((if Na.over op (g.getD 0 0) d x = true then 1 else 0 : Nat) : Int))) = true
              rw [decide_eq_false (by omega)]
              rfl
            rw [if_neg (fun z => z ec)] at kN
            exact kN rfl H1 s1
theorem c_why_not_right (T : Txt K mg) : Callee P w K mg base 5 "why_not_right" ["rod", "forms", "strokes", "op", "d", "x", "steps"] (sp_why_not_right K) := Callee.of T.d_why_not_right fun _ _ D => ok_why_not_right T D
theorem sc_make_fault : FnScope ["make", "place", "rod", "rule"] ["make"] (defScope t_make_fault) := ⟨rfl, rfl, rfl, by decide +kernel, rfl, by decide +kernel, by decide +kernel⟩
theorem ok_make_fault (T : Txt K mg) (D : DefAt K mg "make_fault" t_make_fault ["make"] f fd) : FnOk P w K mg base CX0 5 f fd ["make"] (sp_make_fault K) := by
  refine D.fn.ok sc_make_fault (fun vs H Q E h => ?_) (fun cdv A outer s H vs Q E hr h => ?_)
  · obtain ⟨a, l, rfl, hs, hl, kN, kS⟩ := h
    rfl
  · obtain ⟨a, l, rfl, hs, hl, kN, kS⟩ := h
    refine ⟨_, (pss_cons (ps_if (PW.pt (pw_or (pt_cmp (pc_neI (pe_op op_mod (pe_callB (len_s K) (by rfl) T.n_len bt_len (pa_cons (pv 0) pa_nil)) (pe_gi rfl T.v_NUMBERS_A_ROD)) pe_int)) (pw_or1 (pt_not (pt_chain op_le op_le pe_int (pe_op op_fdiv (pe_callB (len_s K) (by rfl) T.n_len bt_len (pa_cons (pv 0) pa_nil)) (pe_gi rfl T.v_NUMBERS_A_ROD)) (pe_gi rfl T.v_MOST_RODS))))))
        (pss_one (ps_ret (pe_lst (pa_cons (pe_gi rfl T.v_MAKE_LENGTH_RULE) (pa_cons pe_int pa_nil)))))
        pss_nil)
      (pss_cons (ps_for PassesOwn.never rfl (pi_enum rfl T.n_enumerate (pa_cons (pe_c (c_rods_of T) hr (by decide) rfl (pa_cons (pv 0) pa_nil)) pa_nil)) (pg_tup rfl (pgs_cons (pg_name (i := 1) sc_make_fault.nd rfl (by first | exact Or.inl rfl | exact Or.inr rfl)) (pgs_cons (pg_name (i := 2) sc_make_fault.nd rfl (by first | exact Or.inl rfl | exact Or.inr rfl)) pgs_nil)))
        (pss_cons (ps_set (i := 3) sc_make_fault.nd rfl (by first | exact Or.inl rfl | exact Or.inr rfl) (pe_c (c_rule_broken T) hr (by decide) rfl (pa_cons (pv 2) pa_nil)))
        (pss_one (ps_if (pt_cmp (pc_notN (pv 3)))
          (pss_one (ps_ret (pe_lst (pa_cons (pv 3) (pa_cons (pv 1) pa_nil)))))
          pss_nil))))
      (pss_one (ps_ret pe_non)))), ?_⟩
    have bad : ¬ Mm.MakeLen l → ∀ p, H p = none → Q (.ref p) (upd H p (.lst [.int 1, .int 0])) := fun h p hp => kS 1 0 (Mm.make_len h) _ p (Same.new (Same.refl H) hp) upd_same
    have ll := vi_len l
    refine ⟨_, rfl, a, _, rfl, .inl hs, _, _, rfl, rfl, (by show (0 : Int) < 7; decide), _, _, rfl, rfl, _, rfl, ite2 (fun e => ?_) (fun e => ?_)⟩
    · refine ⟨(by show 2 ≤ sizeLine; decide), fun p hp => bad (fun z => ?_) p hp⟩
      have e : (!decide (((((nz l).map V.int).length : Nat) : Int) % 7 = 0)) = true := e
      rw [ll, decide_eq_true (by have := z.1; omega)] at e
      cases e
    · have e : l.length % 7 = 0 := by
        refine Classical.byContradiction fun z => e ?_
        show (!decide (((((nz l).map V.int).length : Nat) : Int) % 7 = 0)) = true
        rw [ll, decide_eq_false (by omega)]
        rfl
      refine ⟨_, rfl, a, _, rfl, .inl hs, _, _, rfl, rfl, ⟨by decide, by decide⟩, _, _, rfl, rfl, _, rfl, ite2 (fun e1 => ?_) (fun e1 => ⟨_, rfl, ?_⟩)⟩
      · have e1 := of_decide_eq_true e1
        rw [ll] at e1
        refine ⟨_, _, rfl, rfl, _, rfl, ite2 (fun e2 => ?_) (fun e2 => ?_)⟩
        · refine ⟨(by show 2 ≤ sizeLine; decide), fun p hp => bad (fun z => ?_) p hp⟩
          have e2 : (!decide (((((nz l).map V.int).length : Nat) : Int) / 7 ≤ 64)) = true := e2
          rw [ll, decide_eq_true (by have := z.2.2; omega)] at e2
          cases e2
        · have e2 : l.length / 7 ≤ 64 := by
            refine Classical.byContradiction fun z => e2 ?_
            show (!decide (((((nz l).map V.int).length : Nat) : Int) / 7 ≤ 64)) = true
            rw [ll, decide_eq_false (by omega)]
            rfl
          have hL : Mm.MakeLen l := ⟨e, by omega, by omega⟩
          refine ⟨_, rfl, a, l, rfl, hs, e, hl, fun H1 p1 gas s1 hp1 hgas => ⟨p1, _, rfl, SqL.of hp1, for_enum (a := p1) (xs := gas.map V.ref) (fun i σ H' => ∃ (v1 v2 v3 : Option V), σ = [some (.ref a), v1, v2, v3] ∧ Same H1 H' ∧ ∀ j, j < i → Na.rodWrong (Mm.grp 7 l j) = 0)
            ⟨none, none, none, rfl, Same.refl H1, fun j hj => by omega⟩ (fun i σ H' _ ⟨_, _, _, _, s2, _⟩ => s2.seq (SqL.of hp1)) ?_ ?_⟩⟩
          · rintro i y p σ H' hi hp ⟨v1, v2, v3, rfl, s2, hg⟩
            obtain ⟨ra, hra, rfl⟩ := map_at hi
            have hil : i < (Na.groups 7 l).length := by
              have := (List.getElem?_eq_some_iff.mp hra).1
              rw [hgas.1] at this
              exact this
            obtain ⟨g, hgg⟩ : ∃ g, (Na.groups 7 l)[i]? = some g := ⟨_, List.getElem?_eq_getElem hil⟩
            obtain ⟨hi7, eg⟩ := (Mm.groups_at (by decide) e).mp hgg
            have hg7 : g.length = 7 := by rw [eg]; exact grp_len hi7
            have s3 : Same H' (upd H' p (.tup [.int (i : Nat), .ref ra])) := Same.new (Same.refl H') hp
            have s13 := s2.trans s3
            refine ⟨p, _, rfl, SqT.of upd_same, rfl, _, _, rfl, _, _, rfl, rfl, ?_⟩
            refine ⟨_, rfl, ra, g, rfl, s13.seq (hgas.2 i ra g hra hgg), hg7, fun e0 H4 s4 => ?_, fun w ew hw0 H4 s4 => ?_⟩
            · refine ⟨_, rfl, _, rfl, iteF ⟨_, _, _, rfl, s13.trans s4, fun j hj => ?_⟩⟩
              by_cases z : j = i
              · rw [z, ← eg]
                exact e0
              · exact hg j (by omega)
            · refine ⟨_, rfl, _, rfl, iteT ?_⟩
              refine ⟨_, rfl, _, rfl, (by show 2 ≤ sizeLine; decide), fun p5 hp5 => kS w i ?_ _ p5 (Same.new ((s1.trans s13).trans s4) hp5) upd_same⟩
              rw [Mm.make_bad hL hi7 (by rw [← eg, ew]; exact hw0) hg, ← eg, ew]
          · rintro σ H' ⟨v1, v2, v3, rfl, s2, hg⟩
            rw [List.length_map, hgas.1, Mm.groups_is (by decide) e, List.length_map, List.length_range] at hg
            exact kN _ (Mm.make_ok hL hg) _ (s1.trans s2)
      · refine ⟨(by show 2 ≤ sizeLine; decide), fun p hp => bad (fun z => e1 (decide_eq_true ?_)) p hp⟩
        rw [ll]
        have := z.1
        have := z.2.1
        omega
theorem c_make_fault (T : Txt K mg) : Callee P w K mg base 5 "make_fault" ["make"] (sp_make_fault K) := Callee.of T.d_make_fault fun _ _ D => ok_make_fault T D
def atX (g : List Nat) (ss rows : List (List Nat)) (op d x : Nat) : Option (List Nat) := (Rm.why3 g ss op d x (Rm.stepsFor rows op d x)).map fun w => [op, d, x, w]
def atD (g : List Nat) (ss rows : List (List Nat)) (op d : Nat) : Option (List Nat) := (List.range (g.getD 0 0)).findSome? (atX g ss rows op d)
def atO (g : List Nat) (ss rows : List (List Nat)) (op : Nat) : Option (List Nat) := (List.range' 1 (g.getD 0 0 - 1)).findSome? (atD g ss rows op)
theorem onRod_is (g : List Nat) (ss rows : List (List Nat)) : Rm.onRod g ss rows = [0, 1].findSome? (atO g ss rows) := rfl
theorem sc_first_wrong_on_rod : FnScope ["rod", "strokes", "rules", "forms", "op", "d", "x", "steps", "why"] ["rod", "strokes", "rules"] (defScope t_first_wrong_on_rod) := ⟨rfl, rfl, rfl, by decide +kernel, rfl, by decide +kernel, by decide +kernel⟩
theorem ok_first_wrong_on_rod (T : Txt K mg) (D : DefAt K mg "first_wrong_on_rod" t_first_wrong_on_rod ["rod", "strokes", "rules"] f fd) : FnOk P w K mg base CX0 6 f fd ["rod", "strokes", "rules"] (sp_first_wrong_on_rod K) := by
  refine D.fn.ok sc_first_wrong_on_rod (fun vs H Q E h => ?_) (fun cdv A outer s H vs Q E hr h => ?_)
  · obtain ⟨a, c, f, g, as, ss, kvs, rows, rfl, hg, hgl, hR, hW, hc, hss, hS, hf, hRu, kN, kS⟩ := h
    rfl
  · obtain ⟨a, c, f, g, as, ss, kvs, rows, rfl, hg, hgl, hR, hW, hc, hss, hS, hf, hRu, kN, kS⟩ := h
    have hu := hu_of hr
    refine ⟨_, (pss_cons (ps_set (i := 3) sc_first_wrong_on_rod.nd rfl (by first | exact Or.inl rfl | exact Or.inr rfl) (pe_c (c_digit_forms T) hr (by decide) rfl (pa_cons (pv 0) pa_nil)))
      (pss_cons (ps_for PassesOwn.never rfl (pi_tup (pe_tup (pa_cons (pe_gi rfl T.v_ADD) (pa_cons (pe_gi rfl T.v_TAKE_AWAY) pa_nil)))) (pg_name (i := 4) sc_first_wrong_on_rod.nd rfl (by first | exact Or.inl rfl | exact Or.inr rfl))
        (pss_one (ps_for PassesOwn.never rfl (pi_range2 rfl T.n_range (pa_cons pe_int (pa_cons (pe_c (c_ratio_of T) hr (by decide) rfl (pa_cons (pv 0) pa_nil)) pa_nil))) (pg_name (i := 5) sc_first_wrong_on_rod.nd rfl (by first | exact Or.inl rfl | exact Or.inr rfl))
          (pss_one (ps_for PassesOwn.never rfl (pi_range1 rfl T.n_range (pa_cons (pe_c (c_ratio_of T) hr (by decide) rfl (pa_cons (pv 0) pa_nil)) pa_nil)) (pg_name (i := 6) sc_first_wrong_on_rod.nd rfl (by first | exact Or.inl rfl | exact Or.inr rfl))
            (pss_cons (ps_set (i := 7) sc_first_wrong_on_rod.nd rfl (by first | exact Or.inl rfl | exact Or.inr rfl) (pe_dget2 hu (pv 2) (pe_tup (pa_cons (pv 4) (pa_cons (pv 5) (pa_cons (pv 6) pa_nil)))) (pe_lst pa_nil) ⟨rfl, rfl, rfl, rfl⟩))
            (pss_cons (ps_set (i := 8) sc_first_wrong_on_rod.nd rfl (by first | exact Or.inl rfl | exact Or.inr rfl) (pe_c (c_why_not_right T) hr (by decide) rfl (pa_cons (pv 0) (pa_cons (pv 3) (pa_cons (pv 1) (pa_cons (pv 4) (pa_cons (pv 5) (pa_cons (pv 6) (pa_cons (pv 7) pa_nil)))))))))
            (pss_one (ps_if (pt_cmp (pc_notN (pv 8)))
              (pss_one (ps_ret (pe_lst (pa_cons (pv 4) (pa_cons (pv 5) (pa_cons (pv 6) (pa_cons (pv 8) pa_nil)))))))
              pss_nil)))))))))
      (pss_one (ps_ret pe_non)))), ?_⟩
    have hq := hR.1
    refine ⟨_, rfl, a, g, rfl, hg, hgl, hR, fun H1 f2 fkvs s1 hf2 hF hw => ?_⟩
    refine ⟨(by show 2 ≤ sizeLine; decide), fun T hT => ⟨T, rfl, ⟨_, SqT.of upd_same⟩, for_tup (a := T) (xs := [.int 0, .int 1]) (fun i σ H' => ∃ (v4 v5 v6 v7 v8 : Option V), σ = [some (.ref a), some (.ref c), some (.ref f), some (.ref f2), v4, v5, v6, v7, v8] ∧ Same (upd H1 T (.tup [.int 0, .int 1])) H' ∧ Rm.onRod g ss rows = ([0, 1].drop i).findSome? (atO g ss rows))
      ⟨none, none, none, none, none, rfl, Same.refl _, rfl⟩ (fun i σ H' _ ⟨_, _, _, _, _, _, s2, _⟩ => Same.seqT s2 (SqT.of upd_same)) ?_ ?_⟩⟩
    · rintro i x σ H2 hi ⟨v4, v5, v6, v7, v8, rfl, s2, hO⟩
      obtain ⟨op, hop, ho1, rfl⟩ : ∃ op : Nat, [0, 1][i]? = some op ∧ op ≤ 1 ∧ x = .int (op : Nat) := by
        match i, hi with
        | 0, hi => exact ⟨0, rfl, by decide, (Option.some.inj hi).symm⟩
        | 1, hi => exact ⟨1, rfl, by decide, (Option.some.inj hi).symm⟩
      rw [Mm.fs_drop hop] at hO
      have s02 := s1.trans ((Same.new (Same.refl H1) hT).trans s2)
      refine ⟨_, rfl, a, g, rfl, s02.seq hg, hgl, _, _, rfl, ⟨by decide, by decide, by omega, by omega⟩, for_range (fun j σ H' => ∃ (v5 v6 v7 v8 : Option V), σ = [some (.ref a), some (.ref c), some (.ref f), some (.ref f2), some (.int (op : Nat)), v5, v6, v7, v8] ∧ Same H2 H' ∧ atO g ss rows op = ((List.range' 1 (g.getD 0 0 - 1)).drop j).findSome? (atD g ss rows op))
        ⟨v5, v6, v7, v8, rfl, Same.refl _, rfl⟩ ?_ ?_⟩
      · rintro j σ H3 hj ⟨v5, v6, v7, v8, rfl, s3, hD⟩
        have hj : j < g.getD 0 0 - 1 := by omega
        have ed : (List.range' 1 (g.getD 0 0 - 1))[j]? = some (1 + j) := by
          rw [List.getElem?_range' hj]
          simp
        rw [Mm.fs_drop ed] at hD
        have s03 := s02.trans s3
        refine ⟨_, rfl, a, g, rfl, s03.seq hg, hgl, _, rfl, by omega, by omega, for_range (fun k σ H' => ∃ (v6 v7 v8 : Option V), σ = [some (.ref a), some (.ref c), some (.ref f), some (.ref f2), some (.int (op : Nat)), some (.int (1 + (j : Int))), v6, v7, v8] ∧ Same H3 H' ∧ atD g ss rows op (1 + j) = ((List.range (g.getD 0 0)).drop k).findSome? (atX g ss rows op (1 + j)))
          ⟨v6, v7, v8, rfl, Same.refl _, rfl⟩ ?_ ?_⟩
        · rintro k σ H4 hk ⟨v6, v7, v8, rfl, s4, hX⟩
          have hk : k < g.getD 0 0 := by omega
          rw [Mm.fs_drop (List.getElem?_range hk)] at hX
          rw [Int.zero_add, show 1 + (j : Int) = ((1 + j : Nat) : Int) by omega]
          have s04 := s03.trans s4
          have s14 : Same H1 H4 := ((Same.new (Same.refl H1) hT).trans s2).trans (s3.trans s4)
          refine ⟨_, rfl, f, rfl, .inr ⟨kvs, .inl (s04 _ _ hf)⟩, _, rfl, _, rfl, _, rfl, (by show 3 ≤ sizeLine; decide), fun U hU => ⟨(by show 0 ≤ sizeLine; decide), fun E hE => ?_⟩⟩
          have s5 : Same H4 (upd H4 U (.tup [.int (op : Nat), .int ((1 + j : Nat) : Int), .int (k : Nat)])) := Same.new (Same.refl H4) hU
          have s6 : Same (upd H4 U (.tup [.int (op : Nat), .int ((1 + j : Nat) : Int), .int (k : Nat)])) (upd (upd H4 U (.tup [.int (op : Nat), .int ((1 + j : Nat) : Int), .int (k : Nat)])) E (.lst [])) := Same.new (Same.refl _) hE
          have s06 := (s04.trans s5).trans s6
          have s16 := (s14.trans s5).trans s6
          refine ⟨_, DGet.t (k := keyN [op, 1 + j, k]) (s06 _ _ hf) (s6 _ _ upd_same), ?_⟩
          have hst : ∃ (e : Addr) (ts : List Addr), (valV kvs (keyN [op, 1 + j, k])).getD (.ref E) = .ref e ∧ SqL K (upd (upd H4 U (.tup [.int (op : Nat), .int ((1 + j : Nat) : Int), .int (k : Nat)])) E (.lst [])) e (ts.map V.ref) ∧ StepsAt (upd (upd H4 U (.tup [.int (op : Nat), .int ((1 + j : Nat) : Int), .int (k : Nat)])) E (.lst [])) ts (Rm.stepsFor rows op (1 + j) k) := by
            have kk := hRu op (1 + j) k
            unfold Rm.stepsFor
            cases e7 : Rm.rowFor rows op (1 + j) k with
            | none =>
              rw [e7] at kk
              rw [show valV kvs (keyN [op, 1 + j, k]) = none from kk]
              exact ⟨E, [], rfl, SqL.of upd_same, rfl, fun j t s z => by simp at z⟩
            | some r =>
              rw [e7] at kk
              obtain ⟨pp, tt, k1, k2, k3⟩ := kk
              rw [k1]
              exact ⟨pp, tt, rfl, SqL.of (s06 _ _ k2), k3.keep s06⟩
          obtain ⟨e, ts, ee, he, hts⟩ := hst
          rw [ee]
          refine ⟨_, rfl, _, rfl, _, rfl, _, rfl, _, rfl, _, rfl, _, rfl, a, f2, c, e, g, fkvs, as, ss, ts, Rm.stepsFor rows op (1 + j) k, op, 1 + j, k, rfl, s06.seq hg, hgl, hR, hW, s16 _ _ hf2, ?_, s06.seq hc, hss.keep s06, hS, he, hts, ho1, by omega, hk, fun ew H7 s7 => ?_, fun w ew H7 s7 => ?_⟩
          · intro dd
            have kk := hF dd
            cases e8 : Rm.formIn (Rm.waysOf g 3) dd with
            | none =>
              rw [e8] at kk
              exact kk
            | some pp =>
              rw [e8] at kk
              obtain ⟨qq, k1, k2⟩ := kk
              exact ⟨qq, k1, s16 _ _ k2⟩
          · have ex : atX g ss rows op (1 + j) k = none := by
              unfold atX
              rw [ew]
              rfl
            rw [ex] at hX
            exact ⟨_, rfl, _, rfl, iteF ⟨_, _, _, rfl, ((s4.trans s5).trans s6).trans s7, hX⟩⟩
          · have ex : atX g ss rows op (1 + j) k = some [op, 1 + j, k, w] := by
              unfold atX
              rw [ew]
              rfl
            rw [ex] at hX
            rw [hX] at hD
            rw [hD] at hO
            refine ⟨_, rfl, _, rfl, iteT ?_⟩
            exact ⟨_, rfl, _, rfl, _, rfl, _, rfl, (by show 4 ≤ sizeLine; decide), fun r hr' => kS _ hO _ r (Same.new (s06.trans s7) hr') upd_same⟩
        · rintro σ H4 ⟨v6, v7, v8, rfl, s4, hX⟩
          have en : ((g.getD 0 0 : Nat) : Int).toNat = g.getD 0 0 := Int.toNat_natCast _
          rw [en, List.drop_eq_nil_of_le (by rw [List.length_range]; exact Nat.le_refl _)] at hX
          rw [hX] at hD
          exact ⟨_, _, _, _, rfl, s3.trans s4, hD⟩
      · rintro σ H3 ⟨v5, v6, v7, v8, rfl, s3, hD⟩
        have en : (((g.getD 0 0 : Nat) : Int) - 1).toNat = g.getD 0 0 - 1 := by omega
        rw [en, List.drop_eq_nil_of_le (by rw [List.length_range']; exact Nat.le_refl _)] at hD
        rw [hD] at hO
        exact ⟨_, _, _, _, _, rfl, s2.trans s3, hO⟩
    · rintro σ H2 ⟨v4, v5, v6, v7, v8, rfl, s2, hO⟩
      exact kN hO _ (s1.trans ((Same.new (Same.refl H1) hT).trans s2))
theorem c_first_wrong_on_rod (T : Txt K mg) : Callee P w K mg base 6 "first_wrong_on_rod" ["rod", "strokes", "rules"] (sp_first_wrong_on_rod K) := Callee.of T.d_first_wrong_on_rod fun _ _ D => ok_first_wrong_on_rod T D
theorem fs_some {α β : Type} {f : α → Option β} {l : List α} {b : β} (h : l.findSome? f = some b) : ∃ a ∈ l, f a = some b := by
  obtain ⟨l1, a, l2, e, h1, _⟩ := List.findSome?_eq_some_iff.mp h
  exact ⟨a, by rw [e]; simp, h1⟩
theorem onRod_len {g : List Nat} {ss rows : List (List Nat)} {l : List Nat} (h : Rm.onRod g ss rows = some l) : l.length = 4 := by
  obtain ⟨op, _, h⟩ := fs_some h
  obtain ⟨d, _, h⟩ := fs_some h
  obtain ⟨x, _, h⟩ := fs_some h
  obtain ⟨w, _, rfl⟩ := Option.map_eq_some_iff.mp h
  rfl
theorem sc_first_wrong_rule : FnScope ["make", "hand", "book", "strokes", "rules", "number", "rod", "wrong"] ["make", "hand", "book"] (defScope t_first_wrong_rule) := ⟨rfl, rfl, rfl, by decide +kernel, rfl, by decide +kernel, by decide +kernel⟩
theorem ok_first_wrong_rule (T : Txt K mg) (D : DefAt K mg "first_wrong_rule" t_first_wrong_rule ["make", "hand", "book"] f fd) : FnOk P w K mg base CX0 7 f fd ["make", "hand", "book"] (sp_first_wrong_rule K) := by
  refine D.fn.ok sc_first_wrong_rule (fun vs H Q E h => ?_) (fun cdv A outer s H vs Q E hr h => ?_)
  · obtain ⟨a, b, c, m, h, as, rows, rfl, hm, hm7, hml, hG, hh, hh0, hh7, hhl, hS, hc, hrows, hr820, hgood, hdist, kN, kS⟩ := h
    rfl
  · obtain ⟨a, b, c, m, h, as, rows, rfl, hm, hm7, hml, hG, hh, hh0, hh7, hhl, hS, hc, hrows, hr820, hgood, hdist, kN, kS⟩ := h
    refine ⟨_, (pss_cons (ps_set (i := 3) sc_first_wrong_rule.nd rfl (by first | exact Or.inl rfl | exact Or.inr rfl) (pe_c (c_strokes_of T) hr (by decide) rfl (pa_cons (pv 1) pa_nil)))
      (pss_cons (ps_set (i := 4) sc_first_wrong_rule.nd rfl (by first | exact Or.inl rfl | exact Or.inr rfl) (pe_c (c_rules_of T) hr (by decide) rfl (pa_cons (pv 2) pa_nil)))
      (pss_cons (ps_for PassesOwn.never rfl (pi_enum rfl T.n_enumerate (pa_cons (pe_c (c_rods_of T) hr (by decide) rfl (pa_cons (pv 0) pa_nil)) pa_nil)) (pg_tup rfl (pgs_cons (pg_name (i := 5) sc_first_wrong_rule.nd rfl (by first | exact Or.inl rfl | exact Or.inr rfl)) (pgs_cons (pg_name (i := 6) sc_first_wrong_rule.nd rfl (by first | exact Or.inl rfl | exact Or.inr rfl)) pgs_nil)))
        (pss_cons (ps_set (i := 7) sc_first_wrong_rule.nd rfl (by first | exact Or.inl rfl | exact Or.inr rfl) (pe_c (c_first_wrong_on_rod T) hr (by decide) rfl (pa_cons (pv 6) (pa_cons (pv 3) (pa_cons (pv 4) pa_nil)))))
        (pss_one (ps_if (pt_cmp (pc_notN (pv 7)))
          (pss_one (ps_ret (pe_op op_cat (pe_lst (pa_cons (pv 5) pa_nil)) (pv 7))))
          pss_nil))))
      (pss_one (ps_ret pe_non))))), ?_⟩
    refine ⟨_, rfl, b, h, rfl, hh, hh0, hh7, hhl, fun H1 p1 sas s1 hp1 hsas => ?_⟩
    refine ⟨_, rfl, c, as, rows, rfl, s1.seq hc, hrows.keep s1, hr820, hgood, hdist, fun H2 f kvs s2 hf hRu => ?_⟩
    have s12 := s1.trans s2
    refine ⟨_, rfl, a, m, rfl, s12.seq hm, hm7, hml, fun H3 p3 gas s3 hp3 hgas => ⟨p3, _, rfl, SqL.of hp3, for_enum (a := p3) (xs := gas.map V.ref) (fun i σ H' => ∃ (v5 v6 v7 : Option V), σ = [some (.ref a), some (.ref b), some (.ref c), some (.ref p1), some (.ref f), v5, v6, v7] ∧ Same H3 H' ∧
      Rm.onMake (Na.groups 7 m) (Na.groups 7 (h.drop 1)) rows = ((Na.groups 7 m).zipIdx.drop i).findSome? fun y => (Rm.onRod y.1 (Na.groups 7 (h.drop 1)) rows).map fun l => y.2 :: l)
      ⟨none, none, none, rfl, Same.refl H3, rfl⟩ (fun i σ H' _ ⟨_, _, _, _, s4, _⟩ => s4.seq (SqL.of hp3)) ?_ ?_⟩⟩
    · rintro i y p σ H' hi hp ⟨v5, v6, v7, rfl, s4, hw⟩
      obtain ⟨ra, hra, rfl⟩ := map_at hi
      have hil : i < (Na.groups 7 m).length := by
        have := (List.getElem?_eq_some_iff.mp hra).1
        rw [hgas.1] at this
        exact this
      obtain ⟨g, hg⟩ : ∃ g, (Na.groups 7 m)[i]? = some g := ⟨_, List.getElem?_eq_getElem hil⟩
      obtain ⟨g7, gR, gW⟩ := hG g (List.mem_of_getElem? hg)
      have ez : (Na.groups 7 m).zipIdx[i]? = some (g, i) := by
        rw [List.getElem?_zipIdx, hg]
        simp
      rw [Mm.fs_drop ez] at hw
      dsimp only at hw
      have s5 : Same H' (upd H' p (.tup [.int (i : Nat), .ref ra])) := Same.new (Same.refl H') hp
      have s35 := s4.trans s5
      have s05 := (s12.trans s3).trans s35
      refine ⟨p, _, rfl, SqT.of upd_same, rfl, _, _, rfl, _, _, rfl, rfl, ?_⟩
      refine ⟨_, rfl, _, rfl, _, rfl, ra, p1, f, g, sas, Na.groups 7 (h.drop 1), kvs, rows, rfl, s35.seq (hgas.2 i ra g hra hg), g7, gR, gW, ((s2.trans s3).trans s35).seq (SqL.of hp1), hsas.keep ((s2.trans s3).trans s35), hS, (s3.trans s35) _ _ hf, ?_, fun e6 H6 s6 => ?_, fun l e6 H6 p6 s6 hp6 => ?_⟩
      · intro op d x
        have k := hRu op d x
        cases e7 : Rm.rowFor rows op d x with
        | none =>
          rw [e7] at k
          exact k
        | some r =>
          rw [e7] at k
          obtain ⟨pp, tt, k1, k2, k3⟩ := k
          exact ⟨pp, tt, k1, (s3.trans s35) _ _ k2, k3.keep (s3.trans s35)⟩
      · rw [e6] at hw
        exact ⟨_, rfl, _, rfl, iteF ⟨_, _, _, rfl, s35.trans s6, hw⟩⟩
      · rw [e6] at hw
        refine ⟨_, rfl, _, rfl, iteT ?_⟩
        refine ⟨_, rfl, (by show 1 ≤ sizeLine; decide), fun l7 hl7 => ⟨_, rfl, l7, p6, _, _, rfl, rfl, upd_same, (by rw [upd_ne (ne_of_none hp6 hl7)]; exact hp6), ?_, fun r hr' => kS _ hw _ r ?_ ?_⟩⟩
        · rw [vi_len, onRod_len e6]
          show 1 + 4 ≤ sizeLine
          decide
        · exact Same.new (Same.new (s05.trans s6) hl7) hr'
        · exact upd_same
    · rintro σ H' ⟨v5, v6, v7, rfl, s4, hw⟩
      rw [List.length_map, hgas.1] at hw
      have hz : (Na.groups 7 m).zipIdx.drop (Na.groups 7 m).length = [] := List.drop_eq_nil_of_le (by rw [List.length_zipIdx]; exact Nat.le_refl _)
      rw [hz] at hw
      exact kN hw _ ((s12.trans s3).trans s4)
theorem c_first_wrong_rule (T : Txt K mg) : Callee P w K mg base 7 "first_wrong_rule" ["make", "hand", "book"] (sp_first_wrong_rule K) := Callee.of T.d_first_wrong_rule fun _ _ D => ok_first_wrong_rule T D
theorem ints_lists {K : PySem.W.Frag} {H : Hp} {as : List Addr} {rows : List (List Nat)} (h : Lists K H as rows) (h36 : ∀ l ∈ rows, l.length ≤ 36) : RowsAt K H as (rows.map nz) := by
  refine ⟨by rw [List.length_map]; exact h.1, fun i a ns e1 e2 => ?_⟩
  rw [List.getElem?_map] at e2
  cases e : rows[i]? with
  | none =>
    rw [e] at e2
    cases e2
  | some l =>
    rw [e] at e2
    have e2 : nz l = ns := Option.some.inj e2
    rw [← e2]
    exact ⟨h.2 i a l e1 e, by rw [ints_len]; exact h36 l (List.mem_of_getElem? e)⟩
theorem onMake_len {gs ss rows : List (List Nat)} {l : List Nat} (h : Rm.onMake gs ss rows = some l) : l.length = 5 := by
  obtain ⟨y, _, h1⟩ := fs_some h
  obtain ⟨u, h2, rfl⟩ := Option.map_eq_some_iff.mp h1
  rw [List.length_cons, onRod_len h2]
theorem make_parts {l : List Nat} {x : Na.Make} (h : Na.makeOf l = .ok x) : l.length % 7 = 0 ∧ (∀ g ∈ Na.groups 7 l, g.length = 7 ∧ Rm.RIn g ∧ Rm.Whole g) ∧ x = (Na.groups 7 l).map Na.rodOf := by
  by_cases c : Mm.MakeLen l
  · rw [Mm.make_if c] at h
    cases e : (Na.groups 7 l).findIdx? fun (g : List Nat) => Na.rodWrong g != 0 with
    | some i =>
      rw [e] at h
      cases h
    | none =>
      rw [e] at h
      cases h
      refine ⟨c.1, fun g hg => ⟨?_, Rm.right0 ?_⟩, rfl⟩
      · rw [Mm.groups_is (by decide) c.1] at hg
        obtain ⟨j, hj, rfl⟩ := List.mem_map.mp hg
        exact grp_len (List.mem_range.mp hj)
      · have := List.findIdx?_eq_none_iff.mp e g hg
        simpa using this
  · rw [Mm.make_len c] at h
    cases h
theorem hand_parts {l : List Nat} {x : Na.Hand} (h : Na.handOf l = .ok x) : l.length ≠ 0 ∧ (l.length - 1) % 7 = 0 ∧ (∀ s ∈ Na.groups 7 (l.drop 1), Rm.SIn s) ∧ x = ⟨l.getD 0 0, (Na.groups 7 (l.drop 1)).map Na.strokeOf⟩ := by
  by_cases c : Mm.HandLen l
  · rw [Mm.hand_if c] at h
    cases e : (Na.groups 7 (l.drop 1)).findIdx? fun (g : List Nat) => !Na.strokeGood g with
    | some i =>
      rw [e] at h
      cases h
    | none =>
      rw [e] at h
      cases h
      refine ⟨fun z => c.1 (List.eq_nil_of_length_eq_zero z), c.2.2.1, fun g hg => ⟨?_, Mm.strokeGood_iff.mp ?_⟩, rfl⟩
      · rw [Mm.groups_is (by decide) (Mm.hand_mod c)] at hg
        obtain ⟨j, hj, rfl⟩ := List.mem_map.mp hg
        exact grp_len (List.mem_range.mp hj)
      · have := List.findIdx?_eq_none_iff.mp e g hg
        simpa using this
  · rw [Mm.hand_len c] at h
    cases h
theorem sc_right : FnScope ["make", "hand", "book", "fault", "wrong"] ["make", "hand", "book"] (defScope t_right) := ⟨rfl, rfl, rfl, by decide +kernel, rfl, by decide +kernel, by decide +kernel⟩
theorem ok_right (T : Txt K mg) (D : DefAt K mg "right" t_right ["make", "hand", "book"] f fd) : FnOk P w K mg base CX0 8 f fd ["make", "hand", "book"] (sp_right K) := by
  refine D.fn.ok sc_right (fun vs H Q E h => ?_) (fun cdv A outer s H vs Q E hr h => ?_)
  · obtain ⟨a, b, c, m, h, as, rows, rfl, hm, hml, hh, hhl, hc, hrows, hr820, hr36, k⟩ := h
    rfl
  · obtain ⟨a, b, c, m, h, as, rows, rfl, hm, hml, hh, hhl, hc, hrows, hr820, hr36, k⟩ := h
    refine ⟨_, (pss_cons (ps_set (i := 3) sc_right.nd rfl (by first | exact Or.inl rfl | exact Or.inr rfl) (pe_c (c_first_fault T) hr (by decide) rfl (pa_cons (pe_lst (pa_cons (pe_c (c_make_fault T) hr (by decide) rfl (pa_cons (pv 0) pa_nil)) (pa_cons (pe_c (c_hand_fault T) hr (by decide) rfl (pa_cons (pv 1) pa_nil)) (pa_cons (pe_c (c_book_fault T) hr (by decide) rfl (pa_cons (pv 2) pa_nil)) pa_nil)))) pa_nil)))
      (pss_cons (ps_if (pt_cmp (pc_notN (pv 3)))
        (pss_one (ps_ret (pe_op op_cat (pe_lst (pa_cons (pe_un un_neg pe_int) pa_nil)) (pv 3))))
        pss_nil)
      (pss_cons (ps_set (i := 4) sc_right.nd rfl (by first | exact Or.inl rfl | exact Or.inr rfl) (pe_c (c_first_wrong_rule T) hr (by decide) rfl (pa_cons (pv 0) (pa_cons (pv 1) (pa_cons (pv 2) pa_nil)))))
      (pss_cons (ps_if (pt_cmp (pc_isN (pv 4)))
        (pss_one (ps_ret (pe_lst (pa_cons pe_int pa_nil))))
        pss_nil)
      (pss_one (ps_ret (pe_op op_cat (pe_lst (pa_cons pe_int pa_nil)) (pv 4)))))))), ?_⟩
    have hbook : ∀ H1, Same H H1 → SqL K H1 c (as.map V.ref) ∧ RowsAt K H1 as (rows.map nz) := fun H1 s1 => ⟨s1.seq hc, ints_lists (hrows.keep s1) hr36⟩
    have hlen : (rows.map nz).length ≤ 820 := by rw [List.length_map]; exact hr820
    refine ⟨_, rfl, a, m, rfl, hm, hml, fun x e1 H1 s1 => ?_, fun r1 i1 e1 H1 p1 s1 hp1 => ?_⟩
    · refine ⟨_, rfl, b, h, rfl, s1.seq hh, hhl, fun y e2 H2 s2 => ?_, fun r2 i2 e2 H2 p2 s2 hp2 => ?_⟩
      · refine ⟨_, rfl, c, as, rows.map nz, rfl, (hbook H2 (s1.trans s2)).1, (hbook H2 (s1.trans s2)).2, hlen, fun e3 H3 s3 => ?_, fun i3 e3 H3 p3 s3 hp3 => ?_⟩
        · refine ⟨(by show 3 ≤ sizeLine; decide), fun l hl' => ⟨l, _, rfl, SqL.of upd_same, ?_⟩⟩
          refine ⟨_, rfl, _, rfl, iteF ?_⟩
          have s4 : Same H (upd H3 l (.lst [.non, .non, .non])) := Same.new ((s1.trans s2).trans s3) hl'
          obtain ⟨g1, g2⟩ := Rm.good_rows e3
          have mk := make_parts e1
          have hd := hand_parts e2
          refine ⟨_, rfl, _, rfl, _, rfl, a, b, c, m, h, as, rows, rfl, s4.seq hm, mk.1, hml, mk.2.1, s4.seq hh, hd.1, hd.2.1, hhl, hd.2.2.1, s4.seq hc, hrows.keep s4, hr820, g1, g2, fun e5 H5 s5 => ?_, fun w e5 H5 p5 s5 hp5 => ?_⟩
          · refine ⟨_, rfl, _, rfl, iteT ?_⟩
            refine ⟨(by show 1 ≤ sizeLine; decide), fun r hr' => k _ r ?_⟩
            rw [Rm.right_ok e1 e2 (Rm.book_ok e3), mk.2.2, hd.2.2.2, Rm.wrong_eq (fun g hg => (mk.2.1 g hg).2) hd.2.2.1 g1, e5]
            exact upd_same
          · refine ⟨_, rfl, _, rfl, iteF ?_⟩
            refine ⟨(by show 1 ≤ sizeLine; decide), fun l7 hl7 => ⟨_, rfl, l7, p5, _, _, rfl, rfl, upd_same, (by rw [upd_ne (ne_of_none hp5 hl7)]; exact hp5), ?_, fun r hr' => k _ r ?_⟩⟩
            · rw [vi_len, onMake_len e5]
              show 1 + 5 ≤ sizeLine
              decide
            · rw [Rm.right_ok e1 e2 (Rm.book_ok e3), mk.2.2, hd.2.2.2, Rm.wrong_eq (fun g hg => (mk.2.1 g hg).2) hd.2.2.1 g1, e5]
              exact upd_same
        · refine ⟨(by show 3 ≤ sizeLine; decide), fun l hl' => ⟨l, _, rfl, SqL.of upd_same, ?_⟩⟩
          refine ⟨_, rfl, _, rfl, iteT ?_⟩
          refine ⟨_, rfl, (by show 1 ≤ sizeLine; decide), fun l7 hl7 => ⟨_, rfl, l7, p3, _, [.int 9, .int (i3 : Nat)], rfl, rfl, upd_same, (by rw [upd_ne (ne_of_none (Same.new (Same.refl H3) hl' _ _ hp3) hl7)]; exact Same.new (Same.refl H3) hl' _ _ hp3), (by show 1 + 2 ≤ sizeLine; decide), fun r hr' => k _ r ?_⟩⟩
          rw [Rm.right_book e1 e2 (Rm.book_bad e3)]
          exact upd_same
      · refine ⟨_, rfl, c, as, rows.map nz, rfl, (hbook H2 (s1.trans s2)).1, (hbook H2 (s1.trans s2)).2, hlen, fun e3 H3 s3 => ?_, fun i3 e3 H3 p3 s3 hp3 => ?_⟩
        all_goals
          refine ⟨(by show 3 ≤ sizeLine; decide), fun l hl' => ⟨l, _, rfl, SqL.of upd_same, ?_⟩⟩
          refine ⟨_, rfl, _, rfl, iteT ?_⟩
          have hp : ∀ o, upd H3 l o p2 = some (.lst [.int (r2 : Nat), .int (i2 : Nat)]) := fun o => Same.new (Same.refl H3) hl' _ _ (s3 _ _ hp2)
          refine ⟨_, rfl, (by show 1 ≤ sizeLine; decide), fun l7 hl7 => ⟨_, rfl, l7, p2, _, [.int (r2 : Nat), .int (i2 : Nat)], rfl, rfl, upd_same, (by rw [upd_ne (ne_of_none (hp _) hl7)]; exact hp _), (by show 1 + 2 ≤ sizeLine; decide), fun r hr' => k _ r ?_⟩⟩
          rw [Rm.right_hand e1 e2]
          exact upd_same
    · refine ⟨_, rfl, b, h, rfl, s1.seq hh, hhl, fun y e2 H2 s2 => ?_, fun r2 i2 e2 H2 p2 s2 hp2 => ?_⟩
      all_goals refine ⟨_, rfl, c, as, rows.map nz, rfl, (hbook H2 (s1.trans s2)).1, (hbook H2 (s1.trans s2)).2, hlen, fun e3 H3 s3 => ?_, fun i3 e3 H3 p3 s3 hp3 => ?_⟩
      all_goals
        refine ⟨(by show 3 ≤ sizeLine; decide), fun l hl' => ⟨l, _, rfl, SqL.of upd_same, ?_⟩⟩
        refine ⟨_, rfl, _, rfl, iteT ?_⟩
        have hp : ∀ o, upd H3 l o p1 = some (.lst [.int (r1 : Nat), .int (i1 : Nat)]) := fun o => Same.new (Same.refl H3) hl' _ _ ((s2.trans s3) _ _ hp1)
        refine ⟨_, rfl, (by show 1 ≤ sizeLine; decide), fun l7 hl7 => ⟨_, rfl, l7, p1, _, [.int (r1 : Nat), .int (i1 : Nat)], rfl, rfl, upd_same, (by rw [upd_ne (ne_of_none (hp _) hl7)]; exact hp _), (by show 1 + 2 ≤ sizeLine; decide), fun r hr' => k _ r ?_⟩⟩
        rw [Rm.right_make e1]
        exact upd_same
theorem c_right (T : Txt K mg) : Callee P w K mg base 8 "right" ["make", "hand", "book"] (sp_right K) := Callee.of T.d_right fun _ _ D => ok_right T D
end
/-! ### what the top has written -/
theorem txt_mk {K : PySem.W.Frag} {h : Heap} {mg : Str → Option Value} (X : K.In h) (G : h.Ns mainGlobals mg)
    {i_ACT_CANNOT_BE_DONE : Tok}
    {i_ADD : Tok}
    {i_BOOK_RULE : Tok}
    {p_CARRY : Addr} {od_CARRY : Option Addr} {n_CARRY : Nat} {sl_CARRY : Array (Option Value)} {i0_CARRY i1_CARRY i2_CARRY : Tok}
    {i_DECKS : Tok}
    {i_DIGITS_RULE : Tok}
    {i_HAND_RULE : Tok}
    {i_HIGHEST_COST : Tok}
    {i_HIGHEST_DIGIT : Tok}
    {i_HIGHEST_DIRECTION : Tok}
    {i_HIGHEST_OP : Tok}
    {i_HIGHEST_RATIO : Tok}
    {i_HIGHEST_STROKE : Tok}
    {i_HIGHEST_WORTH : Tok}
    {i_HIGHEST_WORTH_TOGETHER : Tok}
    {i_LOWEST_RATIO : Tok}
    {i_MAKE_LENGTH_RULE : Tok}
    {i_MOST_BEADS : Tok}
    {i_MOST_RODS : Tok}
    {i_MOST_STEPS : Tok}
    {i_MOST_STROKES : Tok}
    {i_NUMBERS_A_ROD : Tok}
    {i_NUMBERS_A_STROKE : Tok}
    {i_OTHER_CARRIES : Tok}
    {i_ROD_RULE : Tok}
    {i_SHOWS_OTHERWISE : Tok}
    {i_STROKE_RULE : Tok}
    {i_TAKE_AWAY : Tok}
    {i_TO_THE_BEAM : Tok}
    {i_WORTH_TOGETHER_RULE : Tok}
    {f_rods_of : Addr} {od_rods_of an_rods_of : Option Addr} {sl_rods_of : Array (Option Value)} {oc_rods_of kV_rods_of dc_rods_of pm_rods_of cd_rods_of ct_rods_of : Value}
    {f_ratio_of : Addr} {od_ratio_of an_ratio_of : Option Addr} {sl_ratio_of : Array (Option Value)} {oc_ratio_of kV_ratio_of dc_ratio_of pm_ratio_of cd_ratio_of ct_ratio_of : Value}
    {f_beads_of : Addr} {od_beads_of an_beads_of : Option Addr} {sl_beads_of : Array (Option Value)} {oc_beads_of kV_beads_of dc_beads_of pm_beads_of cd_beads_of ct_beads_of : Value}
    {f_worth_of : Addr} {od_worth_of an_worth_of : Option Addr} {sl_worth_of : Array (Option Value)} {oc_worth_of kV_worth_of dc_worth_of pm_worth_of cd_worth_of ct_worth_of : Value}
    {f_goes_before : Addr} {od_goes_before an_goes_before : Option Addr} {sl_goes_before : Array (Option Value)} {oc_goes_before kV_goes_before dc_goes_before pm_goes_before cd_goes_before ct_goes_before : Value}
    {f_strokes_of : Addr} {od_strokes_of an_strokes_of : Option Addr} {sl_strokes_of : Array (Option Value)} {oc_strokes_of kV_strokes_of dc_strokes_of pm_strokes_of cd_strokes_of ct_strokes_of : Value}
    {f_first_part : Addr} {od_first_part an_first_part : Option Addr} {sl_first_part : Array (Option Value)} {oc_first_part kV_first_part dc_first_part pm_first_part cd_first_part ct_first_part : Value}
    {f_second_part : Addr} {od_second_part an_second_part : Option Addr} {sl_second_part : Array (Option Value)} {oc_second_part kV_second_part dc_second_part pm_second_part cd_second_part ct_second_part : Value}
    {f_cost_of : Addr} {od_cost_of an_cost_of : Option Addr} {sl_cost_of : Array (Option Value)} {oc_cost_of kV_cost_of dc_cost_of pm_cost_of cd_cost_of ct_cost_of : Value}
    {f_steps_of : Addr} {od_steps_of an_steps_of : Option Addr} {sl_steps_of : Array (Option Value)} {oc_steps_of kV_steps_of dc_steps_of pm_steps_of cd_steps_of ct_steps_of : Value}
    {f_due_on : Addr} {od_due_on an_due_on : Option Addr} {sl_due_on : Array (Option Value)} {oc_due_on kV_due_on dc_due_on pm_due_on cd_due_on ct_due_on : Value}
    {f_carries_due : Addr} {od_carries_due an_carries_due : Option Addr} {sl_carries_due : Array (Option Value)} {oc_carries_due kV_carries_due dc_carries_due pm_carries_due cd_carries_due ct_carries_due : Value}
    {f_first_fault : Addr} {od_first_fault an_first_fault : Option Addr} {sl_first_fault : Array (Option Value)} {oc_first_fault kV_first_fault dc_first_fault pm_first_fault cd_first_fault ct_first_fault : Value}
    {f_deck_can_be : Addr} {od_deck_can_be an_deck_can_be : Option Addr} {sl_deck_can_be : Array (Option Value)} {oc_deck_can_be kV_deck_can_be dc_deck_can_be pm_deck_can_be cd_deck_can_be ct_deck_can_be : Value}
    {f_hand_can_be : Addr} {od_hand_can_be an_hand_can_be : Option Addr} {sl_hand_can_be : Array (Option Value)} {oc_hand_can_be kV_hand_can_be dc_hand_can_be pm_hand_can_be cd_hand_can_be ct_hand_can_be : Value}
    {f_part_can_be : Addr} {od_part_can_be an_part_can_be : Option Addr} {sl_part_can_be : Array (Option Value)} {oc_part_can_be kV_part_can_be dc_part_can_be pm_part_can_be cd_part_can_be ct_part_can_be : Value}
    {f_length_can_be : Addr} {od_length_can_be an_length_can_be : Option Addr} {sl_length_can_be : Array (Option Value)} {oc_length_can_be kV_length_can_be dc_length_can_be pm_length_can_be cd_length_can_be ct_length_can_be : Value}
    {f_head_can_be : Addr} {od_head_can_be an_head_can_be : Option Addr} {sl_head_can_be : Array (Option Value)} {oc_head_can_be kV_head_can_be dc_head_can_be pm_head_can_be cd_head_can_be ct_head_can_be : Value}
    {f_step_can_be : Addr} {od_step_can_be an_step_can_be : Option Addr} {sl_step_can_be : Array (Option Value)} {oc_step_can_be kV_step_can_be dc_step_can_be pm_step_can_be cd_step_can_be ct_step_can_be : Value}
    {f_worth_together : Addr} {od_worth_together an_worth_together : Option Addr} {sl_worth_together : Array (Option Value)} {oc_worth_together kV_worth_together dc_worth_together pm_worth_together cd_worth_together ct_worth_together : Value}
    {f_forms_with_deck : Addr} {od_forms_with_deck an_forms_with_deck : Option Addr} {sl_forms_with_deck : Array (Option Value)} {oc_forms_with_deck kV_forms_with_deck dc_forms_with_deck pm_forms_with_deck cd_forms_with_deck ct_forms_with_deck : Value}
    {f_behind_part : Addr} {od_behind_part an_behind_part : Option Addr} {sl_behind_part : Array (Option Value)} {oc_behind_part kV_behind_part dc_behind_part pm_behind_part cd_behind_part ct_behind_part : Value}
    {f_rules_of : Addr} {od_rules_of an_rules_of : Option Addr} {sl_rules_of : Array (Option Value)} {oc_rules_of kV_rules_of dc_rules_of pm_rules_of cd_rules_of ct_rules_of : Value}
    {f_rod_can_be : Addr} {od_rod_can_be an_rod_can_be : Option Addr} {sl_rod_can_be : Array (Option Value)} {oc_rod_can_be kV_rod_can_be dc_rod_can_be pm_rod_can_be cd_rod_can_be ct_rod_can_be : Value}
    {f_stroke_can_be : Addr} {od_stroke_can_be an_stroke_can_be : Option Addr} {sl_stroke_can_be : Array (Option Value)} {oc_stroke_can_be kV_stroke_can_be dc_stroke_can_be pm_stroke_can_be cd_stroke_can_be ct_stroke_can_be : Value}
    {f_steps_can_be : Addr} {od_steps_can_be an_steps_can_be : Option Addr} {sl_steps_can_be : Array (Option Value)} {oc_steps_can_be kV_steps_can_be dc_steps_can_be pm_steps_can_be cd_steps_can_be ct_steps_can_be : Value}
    {f_digit_forms : Addr} {od_digit_forms an_digit_forms : Option Addr} {sl_digit_forms : Array (Option Value)} {oc_digit_forms kV_digit_forms dc_digit_forms pm_digit_forms cd_digit_forms ct_digit_forms : Value}
    {f_behind_act : Addr} {od_behind_act an_behind_act : Option Addr} {sl_behind_act : Array (Option Value)} {oc_behind_act kV_behind_act dc_behind_act pm_behind_act cd_behind_act ct_behind_act : Value}
    {f_hand_fault : Addr} {od_hand_fault an_hand_fault : Option Addr} {sl_hand_fault : Array (Option Value)} {oc_hand_fault kV_hand_fault dc_hand_fault pm_hand_fault cd_hand_fault ct_hand_fault : Value}
    {f_row_can_be : Addr} {od_row_can_be an_row_can_be : Option Addr} {sl_row_can_be : Array (Option Value)} {oc_row_can_be kV_row_can_be dc_row_can_be pm_row_can_be cd_row_can_be ct_row_can_be : Value}
    {f_behind_acts : Addr} {od_behind_acts an_behind_acts : Option Addr} {sl_behind_acts : Array (Option Value)} {oc_behind_acts kV_behind_acts dc_behind_acts pm_behind_acts cd_behind_acts ct_behind_acts : Value}
    {f_rule_broken : Addr} {od_rule_broken an_rule_broken : Option Addr} {sl_rule_broken : Array (Option Value)} {oc_rule_broken kV_rule_broken dc_rule_broken pm_rule_broken cd_rule_broken ct_rule_broken : Value}
    {f_book_fault : Addr} {od_book_fault an_book_fault : Option Addr} {sl_book_fault : Array (Option Value)} {oc_book_fault kV_book_fault dc_book_fault pm_book_fault cd_book_fault ct_book_fault : Value}
    {f_why_not_right : Addr} {od_why_not_right an_why_not_right : Option Addr} {sl_why_not_right : Array (Option Value)} {oc_why_not_right kV_why_not_right dc_why_not_right pm_why_not_right cd_why_not_right ct_why_not_right : Value}
    {f_make_fault : Addr} {od_make_fault an_make_fault : Option Addr} {sl_make_fault : Array (Option Value)} {oc_make_fault kV_make_fault dc_make_fault pm_make_fault cd_make_fault ct_make_fault : Value}
    {f_first_wrong_on_rod : Addr} {od_first_wrong_on_rod an_first_wrong_on_rod : Option Addr} {sl_first_wrong_on_rod : Array (Option Value)} {oc_first_wrong_on_rod kV_first_wrong_on_rod dc_first_wrong_on_rod pm_first_wrong_on_rod cd_first_wrong_on_rod ct_first_wrong_on_rod : Value}
    {f_first_wrong_rule : Addr} {od_first_wrong_rule an_first_wrong_rule : Option Addr} {sl_first_wrong_rule : Array (Option Value)} {oc_first_wrong_rule kV_first_wrong_rule dc_first_wrong_rule pm_first_wrong_rule cd_first_wrong_rule ct_first_wrong_rule : Value}
    {f_right : Addr} {od_right an_right : Option Addr} {sl_right : Array (Option Value)} {oc_right kV_right dc_right pm_right cd_right ct_right : Value}
    (h_ACT_CANNOT_BE_DONE : PySem.W.nsIn K mainGlobals "ACT_CANNOT_BE_DONE" = some (some (.int 1 i_ACT_CANNOT_BE_DONE)))
    (h_ADD : PySem.W.nsIn K mainGlobals "ADD" = some (some (.int 0 i_ADD)))
    (h_BOOK_RULE : PySem.W.nsIn K mainGlobals "BOOK_RULE" = some (some (.int 9 i_BOOK_RULE)))
    (h_CARRY : PySem.W.nsIn K mainGlobals "CARRY" = some (some (.ref p_CARRY))) (l_CARRY : K.lookup p_CARRY = some ⟨.type "tuple", od_CARRY, .seq #[.int 0 i0_CARRY, .int 0 i1_CARRY, .int 0 i2_CARRY] n_CARRY, sl_CARRY⟩)
    (h_DECKS : PySem.W.nsIn K mainGlobals "DECKS" = some (some (.int 3 i_DECKS)))
    (h_DIGITS_RULE : PySem.W.nsIn K mainGlobals "DIGITS_RULE" = some (some (.int 4 i_DIGITS_RULE)))
    (h_HAND_RULE : PySem.W.nsIn K mainGlobals "HAND_RULE" = some (some (.int 6 i_HAND_RULE)))
    (h_HIGHEST_COST : PySem.W.nsIn K mainGlobals "HIGHEST_COST" = some (some (.int 255 i_HIGHEST_COST)))
    (h_HIGHEST_DIGIT : PySem.W.nsIn K mainGlobals "HIGHEST_DIGIT" = some (some (.int 19 i_HIGHEST_DIGIT)))
    (h_HIGHEST_DIRECTION : PySem.W.nsIn K mainGlobals "HIGHEST_DIRECTION" = some (some (.int 2 i_HIGHEST_DIRECTION)))
    (h_HIGHEST_OP : PySem.W.nsIn K mainGlobals "HIGHEST_OP" = some (some (.int 1 i_HIGHEST_OP)))
    (h_HIGHEST_RATIO : PySem.W.nsIn K mainGlobals "HIGHEST_RATIO" = some (some (.int 20 i_HIGHEST_RATIO)))
    (h_HIGHEST_STROKE : PySem.W.nsIn K mainGlobals "HIGHEST_STROKE" = some (some (.int 31 i_HIGHEST_STROKE)))
    (h_HIGHEST_WORTH : PySem.W.nsIn K mainGlobals "HIGHEST_WORTH" = some (some (.int 63 i_HIGHEST_WORTH)))
    (h_HIGHEST_WORTH_TOGETHER : PySem.W.nsIn K mainGlobals "HIGHEST_WORTH_TOGETHER" = some (some (.int 255 i_HIGHEST_WORTH_TOGETHER)))
    (h_LOWEST_RATIO : PySem.W.nsIn K mainGlobals "LOWEST_RATIO" = some (some (.int 2 i_LOWEST_RATIO)))
    (h_MAKE_LENGTH_RULE : PySem.W.nsIn K mainGlobals "MAKE_LENGTH_RULE" = some (some (.int 1 i_MAKE_LENGTH_RULE)))
    (h_MOST_BEADS : PySem.W.nsIn K mainGlobals "MOST_BEADS" = some (some (.int 15 i_MOST_BEADS)))
    (h_MOST_RODS : PySem.W.nsIn K mainGlobals "MOST_RODS" = some (some (.int 64 i_MOST_RODS)))
    (h_MOST_STEPS : PySem.W.nsIn K mainGlobals "MOST_STEPS" = some (some (.int 10 i_MOST_STEPS)))
    (h_MOST_STROKES : PySem.W.nsIn K mainGlobals "MOST_STROKES" = some (some (.int 32 i_MOST_STROKES)))
    (h_NUMBERS_A_ROD : PySem.W.nsIn K mainGlobals "NUMBERS_A_ROD" = some (some (.int 7 i_NUMBERS_A_ROD)))
    (h_NUMBERS_A_STROKE : PySem.W.nsIn K mainGlobals "NUMBERS_A_STROKE" = some (some (.int 7 i_NUMBERS_A_STROKE)))
    (h_OTHER_CARRIES : PySem.W.nsIn K mainGlobals "OTHER_CARRIES" = some (some (.int 3 i_OTHER_CARRIES)))
    (h_ROD_RULE : PySem.W.nsIn K mainGlobals "ROD_RULE" = some (some (.int 2 i_ROD_RULE)))
    (h_SHOWS_OTHERWISE : PySem.W.nsIn K mainGlobals "SHOWS_OTHERWISE" = some (some (.int 2 i_SHOWS_OTHERWISE)))
    (h_STROKE_RULE : PySem.W.nsIn K mainGlobals "STROKE_RULE" = some (some (.int 7 i_STROKE_RULE)))
    (h_TAKE_AWAY : PySem.W.nsIn K mainGlobals "TAKE_AWAY" = some (some (.int 1 i_TAKE_AWAY)))
    (h_TO_THE_BEAM : PySem.W.nsIn K mainGlobals "TO_THE_BEAM" = some (some (.int 1 i_TO_THE_BEAM)))
    (h_WORTH_TOGETHER_RULE : PySem.W.nsIn K mainGlobals "WORTH_TOGETHER_RULE" = some (some (.int 3 i_WORTH_TOGETHER_RULE)))
    (h_enumerate : PySem.W.nsIn K mainGlobals "enumerate" = some none)
    (h_len : PySem.W.nsIn K mainGlobals "len" = some none)
    (h_list : PySem.W.nsIn K mainGlobals "list" = some none)
    (h_min : PySem.W.nsIn K mainGlobals "min" = some none)
    (h_range : PySem.W.nsIn K mainGlobals "range" = some none)
    (h_sum : PySem.W.nsIn K mainGlobals "sum" = some none)
    (a_rods_of : PySem.W.nsIn K mainGlobals "rods_of" = some (some (.ref f_rods_of))) (l_rods_of : K.lookup f_rods_of = some ⟨oc_rods_of, od_rods_of, .func (PySem.W.fnOf "rods_of" "rods_of" (defArgs t_rods_of) (defBody t_rods_of) (defScope t_rods_of) .none kV_rods_of dc_rods_of pm_rods_of an_rods_of cd_rods_of ct_rods_of), sl_rods_of⟩) (e_rods_of : PySem.W.codeIn K cd_rods_of "rods_of" = true) (k_rods_of : PySem.W.keepIn K (.ref f_rods_of) = true)
    (a_ratio_of : PySem.W.nsIn K mainGlobals "ratio_of" = some (some (.ref f_ratio_of))) (l_ratio_of : K.lookup f_ratio_of = some ⟨oc_ratio_of, od_ratio_of, .func (PySem.W.fnOf "ratio_of" "ratio_of" (defArgs t_ratio_of) (defBody t_ratio_of) (defScope t_ratio_of) .none kV_ratio_of dc_ratio_of pm_ratio_of an_ratio_of cd_ratio_of ct_ratio_of), sl_ratio_of⟩) (e_ratio_of : PySem.W.codeIn K cd_ratio_of "ratio_of" = true) (k_ratio_of : PySem.W.keepIn K (.ref f_ratio_of) = true)
    (a_beads_of : PySem.W.nsIn K mainGlobals "beads_of" = some (some (.ref f_beads_of))) (l_beads_of : K.lookup f_beads_of = some ⟨oc_beads_of, od_beads_of, .func (PySem.W.fnOf "beads_of" "beads_of" (defArgs t_beads_of) (defBody t_beads_of) (defScope t_beads_of) .none kV_beads_of dc_beads_of pm_beads_of an_beads_of cd_beads_of ct_beads_of), sl_beads_of⟩) (e_beads_of : PySem.W.codeIn K cd_beads_of "beads_of" = true) (k_beads_of : PySem.W.keepIn K (.ref f_beads_of) = true)
    (a_worth_of : PySem.W.nsIn K mainGlobals "worth_of" = some (some (.ref f_worth_of))) (l_worth_of : K.lookup f_worth_of = some ⟨oc_worth_of, od_worth_of, .func (PySem.W.fnOf "worth_of" "worth_of" (defArgs t_worth_of) (defBody t_worth_of) (defScope t_worth_of) .none kV_worth_of dc_worth_of pm_worth_of an_worth_of cd_worth_of ct_worth_of), sl_worth_of⟩) (e_worth_of : PySem.W.codeIn K cd_worth_of "worth_of" = true) (k_worth_of : PySem.W.keepIn K (.ref f_worth_of) = true)
    (a_goes_before : PySem.W.nsIn K mainGlobals "goes_before" = some (some (.ref f_goes_before))) (l_goes_before : K.lookup f_goes_before = some ⟨oc_goes_before, od_goes_before, .func (PySem.W.fnOf "goes_before" "goes_before" (defArgs t_goes_before) (defBody t_goes_before) (defScope t_goes_before) .none kV_goes_before dc_goes_before pm_goes_before an_goes_before cd_goes_before ct_goes_before), sl_goes_before⟩) (e_goes_before : PySem.W.codeIn K cd_goes_before "goes_before" = true) (k_goes_before : PySem.W.keepIn K (.ref f_goes_before) = true)
    (a_strokes_of : PySem.W.nsIn K mainGlobals "strokes_of" = some (some (.ref f_strokes_of))) (l_strokes_of : K.lookup f_strokes_of = some ⟨oc_strokes_of, od_strokes_of, .func (PySem.W.fnOf "strokes_of" "strokes_of" (defArgs t_strokes_of) (defBody t_strokes_of) (defScope t_strokes_of) .none kV_strokes_of dc_strokes_of pm_strokes_of an_strokes_of cd_strokes_of ct_strokes_of), sl_strokes_of⟩) (e_strokes_of : PySem.W.codeIn K cd_strokes_of "strokes_of" = true) (k_strokes_of : PySem.W.keepIn K (.ref f_strokes_of) = true)
    (a_first_part : PySem.W.nsIn K mainGlobals "first_part" = some (some (.ref f_first_part))) (l_first_part : K.lookup f_first_part = some ⟨oc_first_part, od_first_part, .func (PySem.W.fnOf "first_part" "first_part" (defArgs t_first_part) (defBody t_first_part) (defScope t_first_part) .none kV_first_part dc_first_part pm_first_part an_first_part cd_first_part ct_first_part), sl_first_part⟩) (e_first_part : PySem.W.codeIn K cd_first_part "first_part" = true) (k_first_part : PySem.W.keepIn K (.ref f_first_part) = true)
    (a_second_part : PySem.W.nsIn K mainGlobals "second_part" = some (some (.ref f_second_part))) (l_second_part : K.lookup f_second_part = some ⟨oc_second_part, od_second_part, .func (PySem.W.fnOf "second_part" "second_part" (defArgs t_second_part) (defBody t_second_part) (defScope t_second_part) .none kV_second_part dc_second_part pm_second_part an_second_part cd_second_part ct_second_part), sl_second_part⟩) (e_second_part : PySem.W.codeIn K cd_second_part "second_part" = true) (k_second_part : PySem.W.keepIn K (.ref f_second_part) = true)
    (a_cost_of : PySem.W.nsIn K mainGlobals "cost_of" = some (some (.ref f_cost_of))) (l_cost_of : K.lookup f_cost_of = some ⟨oc_cost_of, od_cost_of, .func (PySem.W.fnOf "cost_of" "cost_of" (defArgs t_cost_of) (defBody t_cost_of) (defScope t_cost_of) .none kV_cost_of dc_cost_of pm_cost_of an_cost_of cd_cost_of ct_cost_of), sl_cost_of⟩) (e_cost_of : PySem.W.codeIn K cd_cost_of "cost_of" = true) (k_cost_of : PySem.W.keepIn K (.ref f_cost_of) = true)
    (a_steps_of : PySem.W.nsIn K mainGlobals "steps_of" = some (some (.ref f_steps_of))) (l_steps_of : K.lookup f_steps_of = some ⟨oc_steps_of, od_steps_of, .func (PySem.W.fnOf "steps_of" "steps_of" (defArgs t_steps_of) (defBody t_steps_of) (defScope t_steps_of) .none kV_steps_of dc_steps_of pm_steps_of an_steps_of cd_steps_of ct_steps_of), sl_steps_of⟩) (e_steps_of : PySem.W.codeIn K cd_steps_of "steps_of" = true) (k_steps_of : PySem.W.keepIn K (.ref f_steps_of) = true)
    (a_due_on : PySem.W.nsIn K mainGlobals "due_on" = some (some (.ref f_due_on))) (l_due_on : K.lookup f_due_on = some ⟨oc_due_on, od_due_on, .func (PySem.W.fnOf "due_on" "due_on" (defArgs t_due_on) (defBody t_due_on) (defScope t_due_on) .none kV_due_on dc_due_on pm_due_on an_due_on cd_due_on ct_due_on), sl_due_on⟩) (e_due_on : PySem.W.codeIn K cd_due_on "due_on" = true) (k_due_on : PySem.W.keepIn K (.ref f_due_on) = true)
    (a_carries_due : PySem.W.nsIn K mainGlobals "carries_due" = some (some (.ref f_carries_due))) (l_carries_due : K.lookup f_carries_due = some ⟨oc_carries_due, od_carries_due, .func (PySem.W.fnOf "carries_due" "carries_due" (defArgs t_carries_due) (defBody t_carries_due) (defScope t_carries_due) .none kV_carries_due dc_carries_due pm_carries_due an_carries_due cd_carries_due ct_carries_due), sl_carries_due⟩) (e_carries_due : PySem.W.codeIn K cd_carries_due "carries_due" = true) (k_carries_due : PySem.W.keepIn K (.ref f_carries_due) = true)
    (a_first_fault : PySem.W.nsIn K mainGlobals "first_fault" = some (some (.ref f_first_fault))) (l_first_fault : K.lookup f_first_fault = some ⟨oc_first_fault, od_first_fault, .func (PySem.W.fnOf "first_fault" "first_fault" (defArgs t_first_fault) (defBody t_first_fault) (defScope t_first_fault) .none kV_first_fault dc_first_fault pm_first_fault an_first_fault cd_first_fault ct_first_fault), sl_first_fault⟩) (e_first_fault : PySem.W.codeIn K cd_first_fault "first_fault" = true) (k_first_fault : PySem.W.keepIn K (.ref f_first_fault) = true)
    (a_deck_can_be : PySem.W.nsIn K mainGlobals "deck_can_be" = some (some (.ref f_deck_can_be))) (l_deck_can_be : K.lookup f_deck_can_be = some ⟨oc_deck_can_be, od_deck_can_be, .func (PySem.W.fnOf "deck_can_be" "deck_can_be" (defArgs t_deck_can_be) (defBody t_deck_can_be) (defScope t_deck_can_be) .none kV_deck_can_be dc_deck_can_be pm_deck_can_be an_deck_can_be cd_deck_can_be ct_deck_can_be), sl_deck_can_be⟩) (e_deck_can_be : PySem.W.codeIn K cd_deck_can_be "deck_can_be" = true) (k_deck_can_be : PySem.W.keepIn K (.ref f_deck_can_be) = true)
    (a_hand_can_be : PySem.W.nsIn K mainGlobals "hand_can_be" = some (some (.ref f_hand_can_be))) (l_hand_can_be : K.lookup f_hand_can_be = some ⟨oc_hand_can_be, od_hand_can_be, .func (PySem.W.fnOf "hand_can_be" "hand_can_be" (defArgs t_hand_can_be) (defBody t_hand_can_be) (defScope t_hand_can_be) .none kV_hand_can_be dc_hand_can_be pm_hand_can_be an_hand_can_be cd_hand_can_be ct_hand_can_be), sl_hand_can_be⟩) (e_hand_can_be : PySem.W.codeIn K cd_hand_can_be "hand_can_be" = true) (k_hand_can_be : PySem.W.keepIn K (.ref f_hand_can_be) = true)
    (a_part_can_be : PySem.W.nsIn K mainGlobals "part_can_be" = some (some (.ref f_part_can_be))) (l_part_can_be : K.lookup f_part_can_be = some ⟨oc_part_can_be, od_part_can_be, .func (PySem.W.fnOf "part_can_be" "part_can_be" (defArgs t_part_can_be) (defBody t_part_can_be) (defScope t_part_can_be) .none kV_part_can_be dc_part_can_be pm_part_can_be an_part_can_be cd_part_can_be ct_part_can_be), sl_part_can_be⟩) (e_part_can_be : PySem.W.codeIn K cd_part_can_be "part_can_be" = true) (k_part_can_be : PySem.W.keepIn K (.ref f_part_can_be) = true)
    (a_length_can_be : PySem.W.nsIn K mainGlobals "length_can_be" = some (some (.ref f_length_can_be))) (l_length_can_be : K.lookup f_length_can_be = some ⟨oc_length_can_be, od_length_can_be, .func (PySem.W.fnOf "length_can_be" "length_can_be" (defArgs t_length_can_be) (defBody t_length_can_be) (defScope t_length_can_be) .none kV_length_can_be dc_length_can_be pm_length_can_be an_length_can_be cd_length_can_be ct_length_can_be), sl_length_can_be⟩) (e_length_can_be : PySem.W.codeIn K cd_length_can_be "length_can_be" = true) (k_length_can_be : PySem.W.keepIn K (.ref f_length_can_be) = true)
    (a_head_can_be : PySem.W.nsIn K mainGlobals "head_can_be" = some (some (.ref f_head_can_be))) (l_head_can_be : K.lookup f_head_can_be = some ⟨oc_head_can_be, od_head_can_be, .func (PySem.W.fnOf "head_can_be" "head_can_be" (defArgs t_head_can_be) (defBody t_head_can_be) (defScope t_head_can_be) .none kV_head_can_be dc_head_can_be pm_head_can_be an_head_can_be cd_head_can_be ct_head_can_be), sl_head_can_be⟩) (e_head_can_be : PySem.W.codeIn K cd_head_can_be "head_can_be" = true) (k_head_can_be : PySem.W.keepIn K (.ref f_head_can_be) = true)
    (a_step_can_be : PySem.W.nsIn K mainGlobals "step_can_be" = some (some (.ref f_step_can_be))) (l_step_can_be : K.lookup f_step_can_be = some ⟨oc_step_can_be, od_step_can_be, .func (PySem.W.fnOf "step_can_be" "step_can_be" (defArgs t_step_can_be) (defBody t_step_can_be) (defScope t_step_can_be) .none kV_step_can_be dc_step_can_be pm_step_can_be an_step_can_be cd_step_can_be ct_step_can_be), sl_step_can_be⟩) (e_step_can_be : PySem.W.codeIn K cd_step_can_be "step_can_be" = true) (k_step_can_be : PySem.W.keepIn K (.ref f_step_can_be) = true)
    (a_worth_together : PySem.W.nsIn K mainGlobals "worth_together" = some (some (.ref f_worth_together))) (l_worth_together : K.lookup f_worth_together = some ⟨oc_worth_together, od_worth_together, .func (PySem.W.fnOf "worth_together" "worth_together" (defArgs t_worth_together) (defBody t_worth_together) (defScope t_worth_together) .none kV_worth_together dc_worth_together pm_worth_together an_worth_together cd_worth_together ct_worth_together), sl_worth_together⟩) (e_worth_together : PySem.W.codeIn K cd_worth_together "worth_together" = true) (k_worth_together : PySem.W.keepIn K (.ref f_worth_together) = true)
    (a_forms_with_deck : PySem.W.nsIn K mainGlobals "forms_with_deck" = some (some (.ref f_forms_with_deck))) (l_forms_with_deck : K.lookup f_forms_with_deck = some ⟨oc_forms_with_deck, od_forms_with_deck, .func (PySem.W.fnOf "forms_with_deck" "forms_with_deck" (defArgs t_forms_with_deck) (defBody t_forms_with_deck) (defScope t_forms_with_deck) .none kV_forms_with_deck dc_forms_with_deck pm_forms_with_deck an_forms_with_deck cd_forms_with_deck ct_forms_with_deck), sl_forms_with_deck⟩) (e_forms_with_deck : PySem.W.codeIn K cd_forms_with_deck "forms_with_deck" = true) (k_forms_with_deck : PySem.W.keepIn K (.ref f_forms_with_deck) = true)
    (a_behind_part : PySem.W.nsIn K mainGlobals "behind_part" = some (some (.ref f_behind_part))) (l_behind_part : K.lookup f_behind_part = some ⟨oc_behind_part, od_behind_part, .func (PySem.W.fnOf "behind_part" "behind_part" (defArgs t_behind_part) (defBody t_behind_part) (defScope t_behind_part) .none kV_behind_part dc_behind_part pm_behind_part an_behind_part cd_behind_part ct_behind_part), sl_behind_part⟩) (e_behind_part : PySem.W.codeIn K cd_behind_part "behind_part" = true) (k_behind_part : PySem.W.keepIn K (.ref f_behind_part) = true)
    (a_rules_of : PySem.W.nsIn K mainGlobals "rules_of" = some (some (.ref f_rules_of))) (l_rules_of : K.lookup f_rules_of = some ⟨oc_rules_of, od_rules_of, .func (PySem.W.fnOf "rules_of" "rules_of" (defArgs t_rules_of) (defBody t_rules_of) (defScope t_rules_of) .none kV_rules_of dc_rules_of pm_rules_of an_rules_of cd_rules_of ct_rules_of), sl_rules_of⟩) (e_rules_of : PySem.W.codeIn K cd_rules_of "rules_of" = true) (k_rules_of : PySem.W.keepIn K (.ref f_rules_of) = true)
    (a_rod_can_be : PySem.W.nsIn K mainGlobals "rod_can_be" = some (some (.ref f_rod_can_be))) (l_rod_can_be : K.lookup f_rod_can_be = some ⟨oc_rod_can_be, od_rod_can_be, .func (PySem.W.fnOf "rod_can_be" "rod_can_be" (defArgs t_rod_can_be) (defBody t_rod_can_be) (defScope t_rod_can_be) .none kV_rod_can_be dc_rod_can_be pm_rod_can_be an_rod_can_be cd_rod_can_be ct_rod_can_be), sl_rod_can_be⟩) (e_rod_can_be : PySem.W.codeIn K cd_rod_can_be "rod_can_be" = true) (k_rod_can_be : PySem.W.keepIn K (.ref f_rod_can_be) = true)
    (a_stroke_can_be : PySem.W.nsIn K mainGlobals "stroke_can_be" = some (some (.ref f_stroke_can_be))) (l_stroke_can_be : K.lookup f_stroke_can_be = some ⟨oc_stroke_can_be, od_stroke_can_be, .func (PySem.W.fnOf "stroke_can_be" "stroke_can_be" (defArgs t_stroke_can_be) (defBody t_stroke_can_be) (defScope t_stroke_can_be) .none kV_stroke_can_be dc_stroke_can_be pm_stroke_can_be an_stroke_can_be cd_stroke_can_be ct_stroke_can_be), sl_stroke_can_be⟩) (e_stroke_can_be : PySem.W.codeIn K cd_stroke_can_be "stroke_can_be" = true) (k_stroke_can_be : PySem.W.keepIn K (.ref f_stroke_can_be) = true)
    (a_steps_can_be : PySem.W.nsIn K mainGlobals "steps_can_be" = some (some (.ref f_steps_can_be))) (l_steps_can_be : K.lookup f_steps_can_be = some ⟨oc_steps_can_be, od_steps_can_be, .func (PySem.W.fnOf "steps_can_be" "steps_can_be" (defArgs t_steps_can_be) (defBody t_steps_can_be) (defScope t_steps_can_be) .none kV_steps_can_be dc_steps_can_be pm_steps_can_be an_steps_can_be cd_steps_can_be ct_steps_can_be), sl_steps_can_be⟩) (e_steps_can_be : PySem.W.codeIn K cd_steps_can_be "steps_can_be" = true) (k_steps_can_be : PySem.W.keepIn K (.ref f_steps_can_be) = true)
    (a_digit_forms : PySem.W.nsIn K mainGlobals "digit_forms" = some (some (.ref f_digit_forms))) (l_digit_forms : K.lookup f_digit_forms = some ⟨oc_digit_forms, od_digit_forms, .func (PySem.W.fnOf "digit_forms" "digit_forms" (defArgs t_digit_forms) (defBody t_digit_forms) (defScope t_digit_forms) .none kV_digit_forms dc_digit_forms pm_digit_forms an_digit_forms cd_digit_forms ct_digit_forms), sl_digit_forms⟩) (e_digit_forms : PySem.W.codeIn K cd_digit_forms "digit_forms" = true) (k_digit_forms : PySem.W.keepIn K (.ref f_digit_forms) = true)
    (a_behind_act : PySem.W.nsIn K mainGlobals "behind_act" = some (some (.ref f_behind_act))) (l_behind_act : K.lookup f_behind_act = some ⟨oc_behind_act, od_behind_act, .func (PySem.W.fnOf "behind_act" "behind_act" (defArgs t_behind_act) (defBody t_behind_act) (defScope t_behind_act) .none kV_behind_act dc_behind_act pm_behind_act an_behind_act cd_behind_act ct_behind_act), sl_behind_act⟩) (e_behind_act : PySem.W.codeIn K cd_behind_act "behind_act" = true) (k_behind_act : PySem.W.keepIn K (.ref f_behind_act) = true)
    (a_hand_fault : PySem.W.nsIn K mainGlobals "hand_fault" = some (some (.ref f_hand_fault))) (l_hand_fault : K.lookup f_hand_fault = some ⟨oc_hand_fault, od_hand_fault, .func (PySem.W.fnOf "hand_fault" "hand_fault" (defArgs t_hand_fault) (defBody t_hand_fault) (defScope t_hand_fault) .none kV_hand_fault dc_hand_fault pm_hand_fault an_hand_fault cd_hand_fault ct_hand_fault), sl_hand_fault⟩) (e_hand_fault : PySem.W.codeIn K cd_hand_fault "hand_fault" = true) (k_hand_fault : PySem.W.keepIn K (.ref f_hand_fault) = true)
    (a_row_can_be : PySem.W.nsIn K mainGlobals "row_can_be" = some (some (.ref f_row_can_be))) (l_row_can_be : K.lookup f_row_can_be = some ⟨oc_row_can_be, od_row_can_be, .func (PySem.W.fnOf "row_can_be" "row_can_be" (defArgs t_row_can_be) (defBody t_row_can_be) (defScope t_row_can_be) .none kV_row_can_be dc_row_can_be pm_row_can_be an_row_can_be cd_row_can_be ct_row_can_be), sl_row_can_be⟩) (e_row_can_be : PySem.W.codeIn K cd_row_can_be "row_can_be" = true) (k_row_can_be : PySem.W.keepIn K (.ref f_row_can_be) = true)
    (a_behind_acts : PySem.W.nsIn K mainGlobals "behind_acts" = some (some (.ref f_behind_acts))) (l_behind_acts : K.lookup f_behind_acts = some ⟨oc_behind_acts, od_behind_acts, .func (PySem.W.fnOf "behind_acts" "behind_acts" (defArgs t_behind_acts) (defBody t_behind_acts) (defScope t_behind_acts) .none kV_behind_acts dc_behind_acts pm_behind_acts an_behind_acts cd_behind_acts ct_behind_acts), sl_behind_acts⟩) (e_behind_acts : PySem.W.codeIn K cd_behind_acts "behind_acts" = true) (k_behind_acts : PySem.W.keepIn K (.ref f_behind_acts) = true)
    (a_rule_broken : PySem.W.nsIn K mainGlobals "rule_broken" = some (some (.ref f_rule_broken))) (l_rule_broken : K.lookup f_rule_broken = some ⟨oc_rule_broken, od_rule_broken, .func (PySem.W.fnOf "rule_broken" "rule_broken" (defArgs t_rule_broken) (defBody t_rule_broken) (defScope t_rule_broken) .none kV_rule_broken dc_rule_broken pm_rule_broken an_rule_broken cd_rule_broken ct_rule_broken), sl_rule_broken⟩) (e_rule_broken : PySem.W.codeIn K cd_rule_broken "rule_broken" = true) (k_rule_broken : PySem.W.keepIn K (.ref f_rule_broken) = true)
    (a_book_fault : PySem.W.nsIn K mainGlobals "book_fault" = some (some (.ref f_book_fault))) (l_book_fault : K.lookup f_book_fault = some ⟨oc_book_fault, od_book_fault, .func (PySem.W.fnOf "book_fault" "book_fault" (defArgs t_book_fault) (defBody t_book_fault) (defScope t_book_fault) .none kV_book_fault dc_book_fault pm_book_fault an_book_fault cd_book_fault ct_book_fault), sl_book_fault⟩) (e_book_fault : PySem.W.codeIn K cd_book_fault "book_fault" = true) (k_book_fault : PySem.W.keepIn K (.ref f_book_fault) = true)
    (a_why_not_right : PySem.W.nsIn K mainGlobals "why_not_right" = some (some (.ref f_why_not_right))) (l_why_not_right : K.lookup f_why_not_right = some ⟨oc_why_not_right, od_why_not_right, .func (PySem.W.fnOf "why_not_right" "why_not_right" (defArgs t_why_not_right) (defBody t_why_not_right) (defScope t_why_not_right) .none kV_why_not_right dc_why_not_right pm_why_not_right an_why_not_right cd_why_not_right ct_why_not_right), sl_why_not_right⟩) (e_why_not_right : PySem.W.codeIn K cd_why_not_right "why_not_right" = true) (k_why_not_right : PySem.W.keepIn K (.ref f_why_not_right) = true)
    (a_make_fault : PySem.W.nsIn K mainGlobals "make_fault" = some (some (.ref f_make_fault))) (l_make_fault : K.lookup f_make_fault = some ⟨oc_make_fault, od_make_fault, .func (PySem.W.fnOf "make_fault" "make_fault" (defArgs t_make_fault) (defBody t_make_fault) (defScope t_make_fault) .none kV_make_fault dc_make_fault pm_make_fault an_make_fault cd_make_fault ct_make_fault), sl_make_fault⟩) (e_make_fault : PySem.W.codeIn K cd_make_fault "make_fault" = true) (k_make_fault : PySem.W.keepIn K (.ref f_make_fault) = true)
    (a_first_wrong_on_rod : PySem.W.nsIn K mainGlobals "first_wrong_on_rod" = some (some (.ref f_first_wrong_on_rod))) (l_first_wrong_on_rod : K.lookup f_first_wrong_on_rod = some ⟨oc_first_wrong_on_rod, od_first_wrong_on_rod, .func (PySem.W.fnOf "first_wrong_on_rod" "first_wrong_on_rod" (defArgs t_first_wrong_on_rod) (defBody t_first_wrong_on_rod) (defScope t_first_wrong_on_rod) .none kV_first_wrong_on_rod dc_first_wrong_on_rod pm_first_wrong_on_rod an_first_wrong_on_rod cd_first_wrong_on_rod ct_first_wrong_on_rod), sl_first_wrong_on_rod⟩) (e_first_wrong_on_rod : PySem.W.codeIn K cd_first_wrong_on_rod "first_wrong_on_rod" = true) (k_first_wrong_on_rod : PySem.W.keepIn K (.ref f_first_wrong_on_rod) = true)
    (a_first_wrong_rule : PySem.W.nsIn K mainGlobals "first_wrong_rule" = some (some (.ref f_first_wrong_rule))) (l_first_wrong_rule : K.lookup f_first_wrong_rule = some ⟨oc_first_wrong_rule, od_first_wrong_rule, .func (PySem.W.fnOf "first_wrong_rule" "first_wrong_rule" (defArgs t_first_wrong_rule) (defBody t_first_wrong_rule) (defScope t_first_wrong_rule) .none kV_first_wrong_rule dc_first_wrong_rule pm_first_wrong_rule an_first_wrong_rule cd_first_wrong_rule ct_first_wrong_rule), sl_first_wrong_rule⟩) (e_first_wrong_rule : PySem.W.codeIn K cd_first_wrong_rule "first_wrong_rule" = true) (k_first_wrong_rule : PySem.W.keepIn K (.ref f_first_wrong_rule) = true)
    (a_right : PySem.W.nsIn K mainGlobals "right" = some (some (.ref f_right))) (l_right : K.lookup f_right = some ⟨oc_right, od_right, .func (PySem.W.fnOf "right" "right" (defArgs t_right) (defBody t_right) (defScope t_right) .none kV_right dc_right pm_right an_right cd_right ct_right), sl_right⟩) (e_right : PySem.W.codeIn K cd_right "right" = true) (k_right : PySem.W.keepIn K (.ref f_right) = true)
    : Txt K mg :=
  ⟨(⟨_, PySem.W.mg_of X G h_ACT_CANNOT_BE_DONE⟩),
    (⟨_, PySem.W.mg_of X G h_ADD⟩),
    (⟨_, PySem.W.mg_of X G h_BOOK_RULE⟩),
    (⟨p_CARRY, PySem.W.mg_of X G h_CARRY, fun _ => .inr ⟨_, _, _, l_CARRY, rfl, rfl, (by show 3 ≤ sizeLine; decide), (.cons ⟨i0_CARRY, rfl⟩ (.cons ⟨i1_CARRY, rfl⟩ (.cons ⟨i2_CARRY, rfl⟩ .nil)))⟩⟩),
    (⟨_, PySem.W.mg_of X G h_DECKS⟩),
    (⟨_, PySem.W.mg_of X G h_DIGITS_RULE⟩),
    (⟨_, PySem.W.mg_of X G h_HAND_RULE⟩),
    (⟨_, PySem.W.mg_of X G h_HIGHEST_COST⟩),
    (⟨_, PySem.W.mg_of X G h_HIGHEST_DIGIT⟩),
    (⟨_, PySem.W.mg_of X G h_HIGHEST_DIRECTION⟩),
    (⟨_, PySem.W.mg_of X G h_HIGHEST_OP⟩),
    (⟨_, PySem.W.mg_of X G h_HIGHEST_RATIO⟩),
    (⟨_, PySem.W.mg_of X G h_HIGHEST_STROKE⟩),
    (⟨_, PySem.W.mg_of X G h_HIGHEST_WORTH⟩),
    (⟨_, PySem.W.mg_of X G h_HIGHEST_WORTH_TOGETHER⟩),
    (⟨_, PySem.W.mg_of X G h_LOWEST_RATIO⟩),
    (⟨_, PySem.W.mg_of X G h_MAKE_LENGTH_RULE⟩),
    (⟨_, PySem.W.mg_of X G h_MOST_BEADS⟩),
    (⟨_, PySem.W.mg_of X G h_MOST_RODS⟩),
    (⟨_, PySem.W.mg_of X G h_MOST_STEPS⟩),
    (⟨_, PySem.W.mg_of X G h_MOST_STROKES⟩),
    (⟨_, PySem.W.mg_of X G h_NUMBERS_A_ROD⟩),
    (⟨_, PySem.W.mg_of X G h_NUMBERS_A_STROKE⟩),
    (⟨_, PySem.W.mg_of X G h_OTHER_CARRIES⟩),
    (⟨_, PySem.W.mg_of X G h_ROD_RULE⟩),
    (⟨_, PySem.W.mg_of X G h_SHOWS_OTHERWISE⟩),
    (⟨_, PySem.W.mg_of X G h_STROKE_RULE⟩),
    (⟨_, PySem.W.mg_of X G h_TAKE_AWAY⟩),
    (⟨_, PySem.W.mg_of X G h_TO_THE_BEAM⟩),
    (⟨_, PySem.W.mg_of X G h_WORTH_TOGETHER_RULE⟩),
    (PySem.W.mg_none_of X G h_enumerate),
    (PySem.W.mg_none_of X G h_len),
    (PySem.W.mg_none_of X G h_list),
    (PySem.W.mg_none_of X G h_min),
    (PySem.W.mg_none_of X G h_range),
    (PySem.W.mg_none_of X G h_sum),
    (DefAt.mk' X G a_rods_of l_rods_of e_rods_of k_rods_of fun _ _ _ _ _ _ us hl => match us, hl with | [_], _ => rfl),
    (DefAt.mk' X G a_ratio_of l_ratio_of e_ratio_of k_ratio_of fun _ _ _ _ _ _ us hl => match us, hl with | [_], _ => rfl),
    (DefAt.mk' X G a_beads_of l_beads_of e_beads_of k_beads_of fun _ _ _ _ _ _ us hl => match us, hl with | [_, _], _ => rfl),
    (DefAt.mk' X G a_worth_of l_worth_of e_worth_of k_worth_of fun _ _ _ _ _ _ us hl => match us, hl with | [_, _], _ => rfl),
    (DefAt.mk' X G a_goes_before l_goes_before e_goes_before k_goes_before fun _ _ _ _ _ _ us hl => match us, hl with | [_, _], _ => rfl),
    (DefAt.mk' X G a_strokes_of l_strokes_of e_strokes_of k_strokes_of fun _ _ _ _ _ _ us hl => match us, hl with | [_], _ => rfl),
    (DefAt.mk' X G a_first_part l_first_part e_first_part k_first_part fun _ _ _ _ _ _ us hl => match us, hl with | [_], _ => rfl),
    (DefAt.mk' X G a_second_part l_second_part e_second_part k_second_part fun _ _ _ _ _ _ us hl => match us, hl with | [_], _ => rfl),
    (DefAt.mk' X G a_cost_of l_cost_of e_cost_of k_cost_of fun _ _ _ _ _ _ us hl => match us, hl with | [_], _ => rfl),
    (DefAt.mk' X G a_steps_of l_steps_of e_steps_of k_steps_of fun _ _ _ _ _ _ us hl => match us, hl with | [_], _ => rfl),
    (DefAt.mk' X G a_due_on l_due_on e_due_on k_due_on fun _ _ _ _ _ _ us hl => match us, hl with | [_, _, _], _ => rfl),
    (DefAt.mk' X G a_carries_due l_carries_due e_carries_due k_carries_due fun _ _ _ _ _ _ us hl => match us, hl with | [_, _], _ => rfl),
    (DefAt.mk' X G a_first_fault l_first_fault e_first_fault k_first_fault fun _ _ _ _ _ _ us hl => match us, hl with | [_], _ => rfl),
    (DefAt.mk' X G a_deck_can_be l_deck_can_be e_deck_can_be k_deck_can_be fun _ _ _ _ _ _ us hl => match us, hl with | [_, _], _ => rfl),
    (DefAt.mk' X G a_hand_can_be l_hand_can_be e_hand_can_be k_hand_can_be fun _ _ _ _ _ _ us hl => match us, hl with | [_], _ => rfl),
    (DefAt.mk' X G a_part_can_be l_part_can_be e_part_can_be k_part_can_be fun _ _ _ _ _ _ us hl => match us, hl with | [_], _ => rfl),
    (DefAt.mk' X G a_length_can_be l_length_can_be e_length_can_be k_length_can_be fun _ _ _ _ _ _ us hl => match us, hl with | [_], _ => rfl),
    (DefAt.mk' X G a_head_can_be l_head_can_be e_head_can_be k_head_can_be fun _ _ _ _ _ _ us hl => match us, hl with | [_], _ => rfl),
    (DefAt.mk' X G a_step_can_be l_step_can_be e_step_can_be k_step_can_be fun _ _ _ _ _ _ us hl => match us, hl with | [_, _, _], _ => rfl),
    (DefAt.mk' X G a_worth_together l_worth_together e_worth_together k_worth_together fun _ _ _ _ _ _ us hl => match us, hl with | [_], _ => rfl),
    (DefAt.mk' X G a_forms_with_deck l_forms_with_deck e_forms_with_deck k_forms_with_deck fun _ _ _ _ _ _ us hl => match us, hl with | [_, _, _], _ => rfl),
    (DefAt.mk' X G a_behind_part l_behind_part e_behind_part k_behind_part fun _ _ _ _ _ _ us hl => match us, hl with | [_, _, _, _], _ => rfl),
    (DefAt.mk' X G a_rules_of l_rules_of e_rules_of k_rules_of fun _ _ _ _ _ _ us hl => match us, hl with | [_], _ => rfl),
    (DefAt.mk' X G a_rod_can_be l_rod_can_be e_rod_can_be k_rod_can_be fun _ _ _ _ _ _ us hl => match us, hl with | [_], _ => rfl),
    (DefAt.mk' X G a_stroke_can_be l_stroke_can_be e_stroke_can_be k_stroke_can_be fun _ _ _ _ _ _ us hl => match us, hl with | [_], _ => rfl),
    (DefAt.mk' X G a_steps_can_be l_steps_can_be e_steps_can_be k_steps_can_be fun _ _ _ _ _ _ us hl => match us, hl with | [_], _ => rfl),
    (DefAt.mk' X G a_digit_forms l_digit_forms e_digit_forms k_digit_forms fun _ _ _ _ _ _ us hl => match us, hl with | [_], _ => rfl),
    (DefAt.mk' X G a_behind_act l_behind_act e_behind_act k_behind_act fun _ _ _ _ _ _ us hl => match us, hl with | [_, _, _, _, _], _ => rfl),
    (DefAt.mk' X G a_hand_fault l_hand_fault e_hand_fault k_hand_fault fun _ _ _ _ _ _ us hl => match us, hl with | [_], _ => rfl),
    (DefAt.mk' X G a_row_can_be l_row_can_be e_row_can_be k_row_can_be fun _ _ _ _ _ _ us hl => match us, hl with | [_], _ => rfl),
    (DefAt.mk' X G a_behind_acts l_behind_acts e_behind_acts k_behind_acts fun _ _ _ _ _ _ us hl => match us, hl with | [_, _, _, _], _ => rfl),
    (DefAt.mk' X G a_rule_broken l_rule_broken e_rule_broken k_rule_broken fun _ _ _ _ _ _ us hl => match us, hl with | [_], _ => rfl),
    (DefAt.mk' X G a_book_fault l_book_fault e_book_fault k_book_fault fun _ _ _ _ _ _ us hl => match us, hl with | [_], _ => rfl),
    (DefAt.mk' X G a_why_not_right l_why_not_right e_why_not_right k_why_not_right fun _ _ _ _ _ _ us hl => match us, hl with | [_, _, _, _, _, _, _], _ => rfl),
    (DefAt.mk' X G a_make_fault l_make_fault e_make_fault k_make_fault fun _ _ _ _ _ _ us hl => match us, hl with | [_], _ => rfl),
    (DefAt.mk' X G a_first_wrong_on_rod l_first_wrong_on_rod e_first_wrong_on_rod k_first_wrong_on_rod fun _ _ _ _ _ _ us hl => match us, hl with | [_, _, _], _ => rfl),
    (DefAt.mk' X G a_first_wrong_rule l_first_wrong_rule e_first_wrong_rule k_first_wrong_rule fun _ _ _ _ _ _ us hl => match us, hl with | [_, _, _], _ => rfl),
    (DefAt.mk' X G a_right l_right e_right k_right fun _ _ _ _ _ _ us hl => match us, hl with | [_, _, _], _ => rfl)⟩
end Rg
open PySem PySem.W PyProof.Rows
set_option maxRecDepth 100000 in
set_option maxHeartbeats 0 in
theorem PySem.Challenge.cw_abacusbooks_s02_right_holds : PySem.Challenge.rw_abacusbooks_s02_right.Holds := by
  w_on; k_headS; (case hw => exact ⟨[.list [], .list [], .list []], by decide +kernel, by decide +kernel⟩)
  k_fillS
  refine L2.walk_specK (r := PySem.Challenge.rw_abacusbooks_s02_right) (k := 8) (CX := L2.CX0) (ps := ["make", "hand", "book"]) (sp := Rg.sp_right) (by decide +kernel) rfl rfl ⟨rfl, by decide, by decide⟩ (fun w h Y => PySem.W.kIn_of Y) ?F ?S (fun _ _ _ _ z => z)
  case F =>
    intro w mg fa h Y KX G hmg
    have T : Rg.Txt (L2.KOf KX) mg := by
      dsimp only [L2.KOf]
      refine' Rg.txt_mk KX G ?h_ACT_CANNOT_BE_DONE ?h_ADD ?h_BOOK_RULE ?h_CARRY ?l_CARRY ?h_DECKS ?h_DIGITS_RULE ?h_HAND_RULE ?h_HIGHEST_COST ?h_HIGHEST_DIGIT ?h_HIGHEST_DIRECTION ?h_HIGHEST_OP ?h_HIGHEST_RATIO ?h_HIGHEST_STROKE ?h_HIGHEST_WORTH ?h_HIGHEST_WORTH_TOGETHER ?h_LOWEST_RATIO ?h_MAKE_LENGTH_RULE ?h_MOST_BEADS ?h_MOST_RODS ?h_MOST_STEPS ?h_MOST_STROKES ?h_NUMBERS_A_ROD ?h_NUMBERS_A_STROKE ?h_OTHER_CARRIES ?h_ROD_RULE ?h_SHOWS_OTHERWISE ?h_STROKE_RULE ?h_TAKE_AWAY ?h_TO_THE_BEAM ?h_WORTH_TOGETHER_RULE ?h_enumerate ?h_len ?h_list ?h_min ?h_range ?h_sum ?a_rods_of ?l_rods_of ?e_rods_of ?k_rods_of ?a_ratio_of ?l_ratio_of ?e_ratio_of ?k_ratio_of ?a_beads_of ?l_beads_of ?e_beads_of ?k_beads_of ?a_worth_of ?l_worth_of ?e_worth_of ?k_worth_of ?a_goes_before ?l_goes_before ?e_goes_before ?k_goes_before ?a_strokes_of ?l_strokes_of ?e_strokes_of ?k_strokes_of ?a_first_part ?l_first_part ?e_first_part ?k_first_part ?a_second_part ?l_second_part ?e_second_part ?k_second_part ?a_cost_of ?l_cost_of ?e_cost_of ?k_cost_of ?a_steps_of ?l_steps_of ?e_steps_of ?k_steps_of ?a_due_on ?l_due_on ?e_due_on ?k_due_on ?a_carries_due ?l_carries_due ?e_carries_due ?k_carries_due ?a_first_fault ?l_first_fault ?e_first_fault ?k_first_fault ?a_deck_can_be ?l_deck_can_be ?e_deck_can_be ?k_deck_can_be ?a_hand_can_be ?l_hand_can_be ?e_hand_can_be ?k_hand_can_be ?a_part_can_be ?l_part_can_be ?e_part_can_be ?k_part_can_be ?a_length_can_be ?l_length_can_be ?e_length_can_be ?k_length_can_be ?a_head_can_be ?l_head_can_be ?e_head_can_be ?k_head_can_be ?a_step_can_be ?l_step_can_be ?e_step_can_be ?k_step_can_be ?a_worth_together ?l_worth_together ?e_worth_together ?k_worth_together ?a_forms_with_deck ?l_forms_with_deck ?e_forms_with_deck ?k_forms_with_deck ?a_behind_part ?l_behind_part ?e_behind_part ?k_behind_part ?a_rules_of ?l_rules_of ?e_rules_of ?k_rules_of ?a_rod_can_be ?l_rod_can_be ?e_rod_can_be ?k_rod_can_be ?a_stroke_can_be ?l_stroke_can_be ?e_stroke_can_be ?k_stroke_can_be ?a_steps_can_be ?l_steps_can_be ?e_steps_can_be ?k_steps_can_be ?a_digit_forms ?l_digit_forms ?e_digit_forms ?k_digit_forms ?a_behind_act ?l_behind_act ?e_behind_act ?k_behind_act ?a_hand_fault ?l_hand_fault ?e_hand_fault ?k_hand_fault ?a_row_can_be ?l_row_can_be ?e_row_can_be ?k_row_can_be ?a_behind_acts ?l_behind_acts ?e_behind_acts ?k_behind_acts ?a_rule_broken ?l_rule_broken ?e_rule_broken ?k_rule_broken ?a_book_fault ?l_book_fault ?e_book_fault ?k_book_fault ?a_why_not_right ?l_why_not_right ?e_why_not_right ?k_why_not_right ?a_make_fault ?l_make_fault ?e_make_fault ?k_make_fault ?a_first_wrong_on_rod ?l_first_wrong_on_rod ?e_first_wrong_on_rod ?k_first_wrong_on_rod ?a_first_wrong_rule ?l_first_wrong_rule ?e_first_wrong_rule ?k_first_wrong_rule ?a_right ?l_right ?e_right ?k_right
      (case h_ACT_CANNOT_BE_DONE => k_is); (case h_ADD => k_is); (case h_BOOK_RULE => k_is); (case h_CARRY => k_is); (case l_CARRY => k_is); (case h_DECKS => k_is)
      (case h_DIGITS_RULE => k_is); (case h_HAND_RULE => k_is); (case h_HIGHEST_COST => k_is); (case h_HIGHEST_DIGIT => k_is); (case h_HIGHEST_DIRECTION => k_is); (case h_HIGHEST_OP => k_is)
      (case h_HIGHEST_RATIO => k_is); (case h_HIGHEST_STROKE => k_is); (case h_HIGHEST_WORTH => k_is); (case h_HIGHEST_WORTH_TOGETHER => k_is); (case h_LOWEST_RATIO => k_is); (case h_MAKE_LENGTH_RULE => k_is)
      (case h_MOST_BEADS => k_is); (case h_MOST_RODS => k_is); (case h_MOST_STEPS => k_is); (case h_MOST_STROKES => k_is); (case h_NUMBERS_A_ROD => k_is); (case h_NUMBERS_A_STROKE => k_is)
      (case h_OTHER_CARRIES => k_is); (case h_ROD_RULE => k_is); (case h_SHOWS_OTHERWISE => k_is); (case h_STROKE_RULE => k_is); (case h_TAKE_AWAY => k_is); (case h_TO_THE_BEAM => k_is)
      (case h_WORTH_TOGETHER_RULE => k_is); (case h_enumerate => k_is); (case h_len => k_is); (case h_list => k_is); (case h_min => k_is); (case h_range => k_is)
      (case h_sum => k_is); (case a_rods_of => k_is); (case l_rods_of => k_is); (case e_rods_of => k_is); (case k_rods_of => k_is); (case a_ratio_of => k_is)
      (case l_ratio_of => k_is); (case e_ratio_of => k_is); (case k_ratio_of => k_is); (case a_beads_of => k_is); (case l_beads_of => k_is); (case e_beads_of => k_is)
      (case k_beads_of => k_is); (case a_worth_of => k_is); (case l_worth_of => k_is); (case e_worth_of => k_is); (case k_worth_of => k_is); (case a_goes_before => k_is)
      (case l_goes_before => k_is); (case e_goes_before => k_is); (case k_goes_before => k_is); (case a_strokes_of => k_is); (case l_strokes_of => k_is); (case e_strokes_of => k_is)
      (case k_strokes_of => k_is); (case a_first_part => k_is); (case l_first_part => k_is); (case e_first_part => k_is); (case k_first_part => k_is); (case a_second_part => k_is)
      (case l_second_part => k_is); (case e_second_part => k_is); (case k_second_part => k_is); (case a_cost_of => k_is); (case l_cost_of => k_is); (case e_cost_of => k_is)
      (case k_cost_of => k_is); (case a_steps_of => k_is); (case l_steps_of => k_is); (case e_steps_of => k_is); (case k_steps_of => k_is); (case a_due_on => k_is)
      (case l_due_on => k_is); (case e_due_on => k_is); (case k_due_on => k_is); (case a_carries_due => k_is); (case l_carries_due => k_is); (case e_carries_due => k_is)
      (case k_carries_due => k_is); (case a_first_fault => k_is); (case l_first_fault => k_is); (case e_first_fault => k_is); (case k_first_fault => k_is); (case a_deck_can_be => k_is)
      (case l_deck_can_be => k_is); (case e_deck_can_be => k_is); (case k_deck_can_be => k_is); (case a_hand_can_be => k_is); (case l_hand_can_be => k_is); (case e_hand_can_be => k_is)
      (case k_hand_can_be => k_is); (case a_part_can_be => k_is); (case l_part_can_be => k_is); (case e_part_can_be => k_is); (case k_part_can_be => k_is); (case a_length_can_be => k_is)
      (case l_length_can_be => k_is); (case e_length_can_be => k_is); (case k_length_can_be => k_is); (case a_head_can_be => k_is); (case l_head_can_be => k_is); (case e_head_can_be => k_is)
      (case k_head_can_be => k_is); (case a_step_can_be => k_is); (case l_step_can_be => k_is); (case e_step_can_be => k_is); (case k_step_can_be => k_is); (case a_worth_together => k_is)
      (case l_worth_together => k_is); (case e_worth_together => k_is); (case k_worth_together => k_is); (case a_forms_with_deck => k_is); (case l_forms_with_deck => k_is); (case e_forms_with_deck => k_is)
      (case k_forms_with_deck => k_is); (case a_behind_part => k_is); (case l_behind_part => k_is); (case e_behind_part => k_is); (case k_behind_part => k_is); (case a_rules_of => k_is)
      (case l_rules_of => k_is); (case e_rules_of => k_is); (case k_rules_of => k_is); (case a_rod_can_be => k_is); (case l_rod_can_be => k_is); (case e_rod_can_be => k_is)
      (case k_rod_can_be => k_is); (case a_stroke_can_be => k_is); (case l_stroke_can_be => k_is); (case e_stroke_can_be => k_is); (case k_stroke_can_be => k_is); (case a_steps_can_be => k_is)
      (case l_steps_can_be => k_is); (case e_steps_can_be => k_is); (case k_steps_can_be => k_is); (case a_digit_forms => k_is); (case l_digit_forms => k_is); (case e_digit_forms => k_is)
      (case k_digit_forms => k_is); (case a_behind_act => k_is); (case l_behind_act => k_is); (case e_behind_act => k_is); (case k_behind_act => k_is); (case a_hand_fault => k_is)
      (case l_hand_fault => k_is); (case e_hand_fault => k_is); (case k_hand_fault => k_is); (case a_row_can_be => k_is); (case l_row_can_be => k_is); (case e_row_can_be => k_is)
      (case k_row_can_be => k_is); (case a_behind_acts => k_is); (case l_behind_acts => k_is); (case e_behind_acts => k_is); (case k_behind_acts => k_is); (case a_rule_broken => k_is)
      (case l_rule_broken => k_is); (case e_rule_broken => k_is); (case k_rule_broken => k_is); (case a_book_fault => k_is); (case l_book_fault => k_is); (case e_book_fault => k_is)
      (case k_book_fault => k_is); (case a_why_not_right => k_is); (case l_why_not_right => k_is); (case e_why_not_right => k_is); (case k_why_not_right => k_is); (case a_make_fault => k_is)
      (case l_make_fault => k_is); (case e_make_fault => k_is); (case k_make_fault => k_is); (case a_first_wrong_on_rod => k_is); (case l_first_wrong_on_rod => k_is); (case e_first_wrong_on_rod => k_is)
      (case k_first_wrong_on_rod => k_is); (case a_first_wrong_rule => k_is); (case l_first_wrong_rule => k_is); (case e_first_wrong_rule => k_is); (case k_first_wrong_rule => k_is); (case a_right => k_is)
      (case l_right => k_is); (case e_right => k_is); (case k_right => k_is)
    obtain ⟨f, fd, D⟩ := T.d_right
    have e := hmg.symm.trans D.mg
    cases e
    exact ⟨fd, fun s us hu => .of_eq (D.ba us hu), fun base _ _ => Rg.ok_right T D⟩
  case S =>
    intro K H xs a hO hwi hask hx
    have hw2 : ((Codec.inLen 0 500 a.1 && a.1.all (Codec.inInt 0 4294967295)) && ((Codec.inLen 0 300 a.2.1 && a.2.1.all (Codec.inInt 0 4294967295)) && ((Codec.inLen 0 820 a.2.2.1 && a.2.2.1.all fun r => (Codec.inLen 0 36 r && r.all (Codec.inInt 0 4294967295))) && true))) = true := hwi
    simp only [Bool.and_eq_true] at hw2
    obtain ⟨⟨m1, m2⟩, ⟨h1, h2⟩, ⟨b1, b2⟩, _⟩ := hw2
    have hm0 : ∀ x ∈ a.1, 0 ≤ x := fun x hx => (Codec.inInt_iff.mp (List.all_eq_true.mp m2 x hx)).1
    have hh0 : ∀ x ∈ a.2.1, 0 ≤ x := fun x hx => (Codec.inInt_iff.mp (List.all_eq_true.mp h2 x hx)).1
    have hrows : ∀ ns ∈ a.2.2.1, ns.length ≤ 36 ∧ ∀ x ∈ ns, 0 ≤ x := fun ns hn => by
      have q := List.all_eq_true.mp b2 ns hn
      rw [Bool.and_eq_true] at q
      exact ⟨(Codec.inNat_iff.mp q.1).2, fun x hx => (Codec.inInt_iff.mp (List.all_eq_true.mp q.2 x hx)).1⟩
    have em : BkNeutral.ints (BkNeutral.nats a.1) = a.1 := Rm.ints_nats hm0
    have eh : BkNeutral.ints (BkNeutral.nats a.2.1) = a.2.1 := Rm.ints_nats hh0
    have eb : (BkNeutral.rows a.2.2.1).map BkNeutral.ints = a.2.2.1 := by
      unfold BkNeutral.rows
      rw [List.map_map]
      refine (List.map_congr_left fun ns hn => ?_).trans (List.map_id _)
      exact Rm.ints_nats (hrows ns hn).2
    cases hx with
    | cons x1 r1 =>
      cases r1 with
      | cons x2 r2 =>
        cases r2 with
        | cons x3 r3 =>
          cases r3
          cases x1 with
          | lst s1 d1 =>
            cases x2 with
            | lst s2 d2 =>
              cases x3 with
              | lst s3 d3 =>
                have e1 := L2.ints_dw a.1 _ d1
                have e2 := L2.ints_dw a.2.1 _ d2
                obtain ⟨as, e3, hl, hr⟩ := Com.rows_dw a.2.2.1 _ d3
                subst e1 e2 e3
                refine ⟨_, _, _, BkNeutral.nats a.1, BkNeutral.nats a.2.1, as, BkNeutral.rows a.2.2.1, rfl, ?_, ?_, ?_, ?_, s3, ⟨?_, fun i b g e4 e5 => ?_⟩, ?_, fun l hl' => ?_, fun H' p hp => ?_⟩
                · show L2.SqL K H _ ((BkNeutral.ints (BkNeutral.nats a.1)).map L2.V.int)
                  rw [em]
                  exact s1
                · rw [Bm.nats_len]
                  exact (Codec.inNat_iff.mp m1).2
                · show L2.SqL K H _ ((BkNeutral.ints (BkNeutral.nats a.2.1)).map L2.V.int)
                  rw [eh]
                  exact s2
                · rw [Bm.nats_len]
                  exact (Codec.inNat_iff.mp h1).2
                · unfold BkNeutral.rows
                  rw [List.length_map]
                  exact hl
                · unfold BkNeutral.rows at e5
                  rw [List.getElem?_map] at e5
                  cases e6 : a.2.2.1[i]? with
                  | none =>
                    rw [e6] at e5
                    cases e5
                  | some ns =>
                    rw [e6] at e5
                    have e5 : BkNeutral.nats ns = g := Option.some.inj e5
                    show L2.SqL K H b ((BkNeutral.ints g).map L2.V.int)
                    rw [← e5, Rm.ints_nats (hrows ns (List.mem_of_getElem? e6)).2]
                    exact hr i b ns e4 e6
                · unfold BkNeutral.rows
                  rw [List.length_map]
                  exact (Codec.inNat_iff.mp b1).2
                · obtain ⟨ns, hn, rfl⟩ := List.mem_map.mp hl'
                  rw [Bm.nats_len]
                  exact (hrows ns hn).1
                · show L2.Dw K H' (.ref p) (WData.list ((PyYqacca.right a.1 a.2.1 a.2.2.1).map WData.int))
                  have hp : H' p = some (.lst ((PyYqacca.right (BkNeutral.ints (BkNeutral.nats a.1)) (BkNeutral.ints (BkNeutral.nats a.2.1)) ((BkNeutral.rows a.2.2.1).map BkNeutral.ints)).map L2.V.int)) := hp
                  rw [em, eh, eb] at hp
                  exact .lst (L2.SqL.of hp) (L2.dw_ints _)
#print axioms PySem.Challenge.cw_abacusbooks_s02_right_holds

