import PyProof.Rows.All
import Wide.All
import OpenK.AllK
import Wide.FinOn
import PyProof.EqAt
import PyProof.EqKinds
import PyProof.TupleCall
import KE.BitLaws
import Open.SpecLaws
import KE.OsHead
import KE.OsGo
import KE.KTryMore
import KE.KRevIter
import KE.KDictList
import PySem.Challenge.RW_abacusbooks_s03_sum_of
section
set_option Elab.async false
set_option linter.all false
set_option maxRecDepth 100000
namespace L2
open PySem PySem.Spec PyProof.Rows
abbrev Key := Sum Int Str
def keyIs : Key → Value → Bool
  | .inl k, v => Value.isInt k v
  | .inr x, v => Value.isStrOf x v
def keyH (w : World) : Key → Int
  | .inl k => hashInt k
  | .inr x => hashStr w x
theorem keyIs_shape : ∀ {k : Key} {v : Value}, keyIs k v = true → (∃ i t, k = Sum.inl i ∧ v = Value.int i t) ∨ (∃ x t, k = Sum.inr x ∧ v = Value.str x t)
  | .inl i, v, h => by
    obtain ⟨t, e⟩ := Value.isInt_shape (k := i) (v := v) h
    exact .inl ⟨i, t, rfl, e⟩
  | .inr x, v, h => by
    obtain ⟨t, e⟩ := Value.isStrOf_shape (x := x) (v := v) h
    exact .inr ⟨x, t, rfl, e⟩
theorem keyIs_int (i : Int) (t : Tok) : keyIs (.inl i) (.int i t) = true := by simp [keyIs, Value.isInt]
theorem keyIs_str (x : Str) (t : Tok) : keyIs (.inr x) (.str x t) = true := by simp [keyIs, Value.isStrOf]
theorem key_ll (a b : Int) : decide ((Sum.inl a : Key) = Sum.inl b) = (a == b) := by
  by_cases e : a = b
  · subst e; simp
  · have h : ¬ (Sum.inl a : Key) = Sum.inl b := fun q => e (Sum.inl.inj q)
    rw [decide_eq_false h]
    exact (beq_eq_false_iff_ne.mpr e).symm
theorem key_rr (a b : Str) : decide ((Sum.inr a : Key) = Sum.inr b) = decide (a = b) := by
  by_cases e : a = b
  · subst e; simp
  · have h : ¬ (Sum.inr a : Key) = Sum.inr b := fun q => e (Sum.inr.inj q)
    rw [decide_eq_false h, decide_eq_false e]
theorem key_lr (a : Int) (b : Str) : decide ((Sum.inl a : Key) = Sum.inr b) = false := decide_eq_false (fun q => nomatch q)
theorem key_rl (a : Str) (b : Int) : decide ((Sum.inr a : Key) = Sum.inl b) = false := decide_eq_false (fun q => nomatch q)
def mixKind (prog : Program) (w : World) : PySem.KeyKind prog w Key where
  is := keyIs
  hash := keyH w
  inj := fun v a b ha hb => by
    rcases keyIs_shape ha with ⟨i, t, rfl, rfl⟩ | ⟨x, t, rfl, rfl⟩
    · rcases keyIs_shape hb with ⟨j, u, rfl, e⟩ | ⟨y, u, rfl, e⟩
      · injection e with e1 _; rw [e1]
      · exact nomatch e
    · rcases keyIs_shape hb with ⟨j, u, rfl, e⟩ | ⟨y, u, rfl, e⟩
      · exact nomatch e
      · injection e with e1 _; rw [e1]
  byValue := fun k v h => by
    rcases keyIs_shape h with ⟨i, t, rfl, rfl⟩ | ⟨x, t, rfl, rfl⟩ <;> rfl
  pyHash := fun hv h => by
    rcases keyIs_shape hv with ⟨i, t, rfl, rfl⟩ | ⟨x, t, rfl, rfl⟩
    · exact wpAny_pyHash_int h
    · exact wpAny_pyHash_str h
  eqBool := fun hu hv h => by
    rcases keyIs_shape hu with ⟨i, t, rfl, rfl⟩ | ⟨x, t, rfl, rfl⟩
    · rcases keyIs_shape hv with ⟨j, u, rfl, rfl⟩ | ⟨y, u, rfl, rfl⟩
      · rw [key_ll] at h; exact wpAny_eqBool_int h
      · rw [key_lr] at h; exact SeqAt.EqAt.int_str i t y u _ _ _ _ h
    · rcases keyIs_shape hv with ⟨j, u, rfl, rfl⟩ | ⟨y, u, rfl, rfl⟩
      · rw [key_rl] at h; exact SeqAt.EqAt.str_int x t j u _ _ _ _ h
      · rw [key_rr] at h; exact wpAny_eqBool_str h
  «strs» := fun k x t v h => by
    rcases keyIs_shape h with ⟨i, u, rfl, e⟩ | ⟨y, u, rfl, e⟩
    · exact nomatch e
    · injection e with e1 _
      subst e1
      cases v <;> rfl
theorem mixKind_int (prog : Program) (w : World) (i : Int) (t : Tok) : (mixKind prog w).is (.inl i) (.int i t) = true := keyIs_int i t
theorem mixKind_str (prog : Program) (w : World) (x : Str) (t : Tok) : (mixKind prog w).is (.inr x) (.str x t) = true := keyIs_str x t
end L2
namespace L2
open PySem PySem.Spec PyProof.Rows
inductive V where
  | non | bl (b : Bool) | int (i : Int) | str (x : Str) | byt (b : Array UInt8) | flt (b : UInt64) | ref (a : Addr) | ty (n : String)
  deriving DecidableEq
def RelV : V → Value → Prop
  | .non, u => u = Value.none
  | .bl b, u => u = Value.bool b
  | .int i, u => ∃ t, u = Value.int i t
  | .str x, u => ∃ t, u = Value.str x t
  | .byt b, u => ∃ t, u = Value.bytes b t
  | .flt b, u => ∃ t, u = Value.float b t
  | .ref a, u => u = Value.ref a
  | .ty n, u => u = Value.type n
abbrev Vals : List V → List Value → Prop := Paired RelV
theorem Vals.length {xs : List V} {us : List Value} (r : Vals xs us) : xs.length = us.length := Paired.length r
theorem Vals.get : ∀ {xs : List V} {us : List Value} {i : Nat} {x : V}, Vals xs us → xs[i]? = some x → ∃ u, us[i]? = some u ∧ RelV x u
  | _, _, _, _, .nil, e => by simp at e
  | _, _, 0, _, .cons r _, e => by simp at e; subst e; exact ⟨_, rfl, r⟩
  | _, _, i + 1, x, .cons _ t, e => by
    obtain ⟨u, h1, h2⟩ := Vals.get (i := i) (x := x) t (by simpa using e)
    exact ⟨u, by simpa using h1, h2⟩
theorem Vals.set {x : V} {u : Value} (r : RelV x u) : ∀ {xs : List V} {us : List Value} (i : Nat), Vals xs us → Vals (xs.set i x) (us.set i u)
  | _, _, _, .nil => .nil
  | _, _, 0, .cons _ t => .cons r t
  | _, _, i + 1, .cons q t => .cons q (Vals.set r i t)
theorem Vals.append : ∀ {xs ys : List V} {us ws : List Value}, Vals xs us → Vals ys ws → Vals (xs ++ ys) (us ++ ws)
  | _, _, _, _, .nil, s => s
  | _, _, _, _, .cons r t, s => .cons r (Vals.append t s)
theorem Vals.take : ∀ {xs : List V} {us : List Value} (n : Nat), Vals xs us → Vals (xs.take n) (us.take n)
  | _, _, 0, _ => .nil
  | _, _, _ + 1, .nil => .nil
  | _, _, n + 1, .cons r t => .cons r (Vals.take n t)
theorem Vals.drop : ∀ {xs : List V} {us : List Value} (n : Nat), Vals xs us → Vals (xs.drop n) (us.drop n)
  | _, _, 0, r => r
  | _, _, _ + 1, .nil => .nil
  | _, _, n + 1, .cons _ t => Vals.drop n t
def RelO : Option V → Option Value → Prop
  | some v, some u => RelV v u
  | none, none => True
  | _, _ => False
def KV {κ : Type} : List (κ × V) → List (κ × Value) → Prop := Paired fun (p : κ × V) (q : κ × Value) => p.1 = q.1 ∧ RelV p.2 q.2
def kV : Key → V
  | .inl i => .int i
  | .inr x => .str x
inductive HO where
    | lst (xs : List V)
    | tup (xs : List V)
    | dK (kvs : List (Key × V)) | dT (kvs : List (List Key × V))
    | set (S : Int → Bool) (n : Nat)
    | ins (C dx : Addr) (fs : List (Str × V))
    | own (x : Addr)
    | xd (fs : List (Str × V))
    | met (f x : Addr)
    | rng (lo hi : Int)
    | frz (o : Obj) (u : HO)
    | tbl (ps : Array Value)
    | ext (φ : Heap → Prop)
abbrev Hp := Addr → Option HO
def upd (H : Hp) (a : Addr) (o : HO) : Hp := fun b => if b = a then some o else H b
theorem upd_same {H : Hp} {a : Addr} {o : HO} : upd H a o a = some o := by unfold upd; rw [if_pos rfl]
theorem upd_ne {H : Hp} {a b : Addr} {o : HO} (h : b ≠ a) : upd H a o b = H b := by unfold upd; rw [if_neg h]
theorem upd_upd {H : Hp} {a : Addr} {o u : HO} : upd (upd H a o) a u = upd H a u := by
  funext b; unfold upd; split <;> rfl
theorem ne_of {H : Hp} {a b : Addr} {o u : HO} (h : H a = some o) (h' : H b = some u) (d : o ≠ u) : a ≠ b := by
  intro e; subst e; rw [h] at h'; exact d (Option.some.inj h')
theorem ne_of_none {H : Hp} {a b : Addr} {o : HO} (h : H a = some o) (h' : H b = none) : a ≠ b := by
  intro e; subst e; rw [h] at h'; cases h'
section
variable (P : Program) (w : World)
def ObjOk (H : Hp) (h : Heap) (a : Addr) : HO → Prop
  | .lst xs => xs.length ≤ sizeLine ∧ ∃ (its : List Value) (n : Nat), Vals xs its ∧ h.get? a = some { cls := .type "list", data := .seq its.toArray n }
  | .tup xs => xs.length ≤ sizeLine ∧ ∃ its : List Value, Vals xs its ∧ IsTup h a its.toArray
  | .dK kvs => kvs.length ≤ sizeLine ∧ (a == sysModules) = false ∧ ∃ vs, KV kvs vs ∧ h.DictOf (mixKind P w) a vs
  | .dT kvs => kvs.length ≤ sizeLine ∧ (a == sysModules) = false ∧ ∃ xs : List (List Key × Addr × Value),
      Paired (fun (p : List Key × V) (q : List Key × Addr × Value) => p.1 = q.1 ∧ H q.2.1 = some (.tup (p.1.map kV)) ∧ RelV p.2 q.2.2) kvs xs ∧
      ∃ o es ep, h.get? a = some o ∧ o.ExactDict ∧ o.data = .dict es ep ∧ es.toList = xs.map (entryOfKey (tupleKind (mixKind P w))) ∧ (xs.map (·.1)).Nodup
  | .set S n => h.SetOf (intKind P w) a S n
  | .ins C dx fs => H dx = some (.own a) ∧ fs.length ≤ 1000 ∧ dx ≠ a ∧ h.get? a = some (PySem.W.instObj C dx) ∧
      ∃ mA, h.Ns1 dx mA ∧ (∀ f, RelO (fs.lookup f) (mA f)) ∧ PySem.Within mA (fs.map (·.1))
  | .own _ => ∃ o, h.get? a = some o
  | .xd fs => ∃ mA, h.Ns1 a mA ∧ ∀ f, RelO (fs.lookup f) (mA f)
  | .rng lo hi => ∃ t u v, h.get? a = some { cls := .type "range", data := .fields #[.int lo t, .int hi u, .int 1 v] }
  | .frz o u => h.get? a = some o ∧ ObjOk H h a u
  | .tbl ps => h.get? a = some { cls := .none, data := .fields ps }
  | .met f x => h.get? a = some (PySem.W.methodObj (.ref f) (.ref x))
  | .ext φ => φ h ∧ (∃ o, h.get? a = some o) ∧ ∀ h1 h2 : Heap, φ h1 → (∀ o, h1.get? a = some o → h2.get? a = some o) → φ h2
def HOk (H : Hp) (h : Heap) : Prop := ∀ a o, H a = some o → ObjOk P w H h a o
end
section
variable {P : Program} {w : World} {H H' : Hp} {h h' : Heap} {a : Addr} {o : HO}
theorem ObjOk.lt (x : ObjOk P w H h a o) : a < h.objs.size := by
  cases o with
  | lst xs => obtain ⟨_, _, _, _, e⟩ := x; exact Heap.lt_size e
  | tup xs => obtain ⟨_, _, _, p⟩ := x; exact p.lt
  | dK kvs => obtain ⟨_, _, _, _, o, _, _, e, _⟩ := x; exact Heap.lt_size e
  | dT kvs => obtain ⟨_, _, _, _, o, _, _, e, _⟩ := x; exact Heap.lt_size e
  | set S n => obtain ⟨o, _, _, _, e, _⟩ := x; exact Heap.lt_size e
  | ins C dx fs => obtain ⟨_, _, _, e, _⟩ := x; exact Heap.lt_size e
  | own y => obtain ⟨_, e⟩ := x; exact Heap.lt_size e
  | xd fs => obtain ⟨_, ⟨_, _, _, e, _⟩, _⟩ := x; exact Heap.lt_size e
  | rng lo hi => obtain ⟨_, _, _, e⟩ := x; exact Heap.lt_size e
  | frz ob u => obtain ⟨e, _⟩ := x; exact Heap.lt_size e
  | tbl ps => exact Heap.lt_size (show h.get? a = some _ from x)
  | met f y => exact Heap.lt_size (show h.get? a = some _ from x)
  | ext φ => obtain ⟨_, ⟨_, e⟩, _⟩ := x; exact Heap.lt_size e
theorem Paired.mapP {α β : Type} {F G : α → β → Prop} : ∀ {l₁ : List α} {l₂ : List β}, Paired F l₁ l₂ → (∀ a b, F a b → G a b) → Paired G l₁ l₂
  | _, _, .nil, _ => .nil
  | _, _, .cons r t, f => .cons (f _ _ r) (Paired.mapP t f)
theorem ObjOk.stay (x : ObjOk P w H h a o) (k : ∀ b u, (b = a ∨ H b = some (.own a)) → h.get? b = some u → h'.get? b = some u)
    (ho : ∀ b, H b = some (.own a) → H' b = some (.own a)) (ht : ∀ b xs, H b = some (.tup xs) → H' b = some (.tup xs)) : ObjOk P w H' h' a o := by
  induction o with
  | lst xs => obtain ⟨z, its, n, r, e⟩ := x; exact ⟨z, its, n, r, k _ _ (.inl rfl) e⟩
  | tup xs => obtain ⟨z, its, r, ob, e, c⟩ := x; exact ⟨z, its, r, ob, k _ _ (.inl rfl) e, c⟩
  | dK kvs => obtain ⟨z, y, vs, r, ob, es, ep, e, c⟩ := x; exact ⟨z, y, vs, r, ob, es, ep, k _ _ (.inl rfl) e, c⟩
  | dT kvs =>
    obtain ⟨z, y, xs, r, ob, es, ep, e, c⟩ := x
    exact ⟨z, y, xs, Paired.mapP r fun p q z => ⟨z.1, ht _ _ z.2.1, z.2.2⟩, ob, es, ep, k _ _ (.inl rfl) e, c⟩
  | set S n => obtain ⟨ob, es, ep, t, e, c⟩ := x; exact ⟨ob, es, ep, t, k _ _ (.inl rfl) e, c⟩
  | ins C dx fs =>
    obtain ⟨d, z, ne, e, mA, ⟨od, es, ep, e2, c⟩, r⟩ := x
    exact ⟨ho _ d, z, ne, k _ _ (.inl rfl) e, mA, ⟨od, es, ep, k _ _ (.inr d) e2, c⟩, r⟩
  | own y => obtain ⟨ob, e⟩ := x; exact ⟨ob, k _ _ (.inl rfl) e⟩
  | xd fs => obtain ⟨mA, ⟨od, es, ep, e, c⟩, r⟩ := x; exact ⟨mA, ⟨od, es, ep, k _ _ (.inl rfl) e, c⟩, r⟩
  | rng lo hi => obtain ⟨t, u, v, e⟩ := x; exact ⟨t, u, v, k _ _ (.inl rfl) e⟩
  | frz ob u ih => obtain ⟨e, q⟩ := x; exact ⟨k _ _ (.inl rfl) e, ih q⟩
  | tbl ps =>
    have e : h.get? a = some { cls := .none, data := .fields ps } := x
    show h'.get? a = some { cls := .none, data := .fields ps }
    exact k a _ (.inl rfl) e
  | met f y =>
    have e : h.get? a = some (PySem.W.methodObj (.ref f) (.ref y)) := x
    show h'.get? a = some (PySem.W.methodObj (.ref f) (.ref y))
    exact k a _ (.inl rfl) e
  | ext φ => obtain ⟨p, ⟨o, e⟩, st⟩ := x; exact ⟨st _ _ p fun o q => k _ _ (.inl rfl) q, ⟨o, k _ _ (.inl rfl) e⟩, st⟩
theorem HOk.lt (x : HOk P w H h) (e : H a = some o) : a < h.objs.size := (x a o e).lt
theorem HOk.fresh (x : HOk P w H h) (e : h.objs.size ≤ a) : H a = none := by
  cases q : H a with
  | none => rfl
  | some u => exact absurd (Nat.lt_of_lt_of_le (x.lt q) e) (Nat.lt_irrefl _)
theorem HOk.kept (x : HOk P w H h) (k : ∀ b u, h.get? b = some u → h'.get? b = some u) : HOk P w H h' := fun a o e =>
  (x a o e).stay (fun b u _ q => k b u q) (fun _ q => q) fun _ _ q => q
theorem HOk.laid (x : HOk P w H h) (k : ∀ b u, h.get? b = some u → h'.get? b = some u) (hp : h.objs.size ≤ a) (new : ObjOk P w (upd H a o) h' a o) : HOk P w (upd H a o) h' := fun b u e => by
  have hn := x.fresh hp
  by_cases hb : b = a
  · subst hb; rw [upd_same] at e; cases e; exact new
  · rw [upd_ne hb] at e
    exact (x b u e).stay (fun c v _ q => k c v q) (fun c q => by rw [upd_ne (ne_of_none q hn)]; exact q) fun c xs q => by rw [upd_ne (ne_of_none q hn)]; exact q
end
def Rd (H : Hp) (a : Addr) (u : HO) : Prop := H a = some u ∨ ∃ o, H a = some (.frz o u)
theorem Rd.ok {P : Program} {w : World} {H : Hp} {h : Heap} {a : Addr} {u : HO} (r : Rd H a u) (x : HOk P w H h) : ObjOk P w H h a u := by
  rcases r with r | ⟨o, r⟩
  · exact x a u r
  · obtain ⟨_, q⟩ := x a _ r
    exact q
def Mut : Option HO → Prop
  | some (.lst _) => True
  | some (.dK _) => True
  | some (.dT _) => True
  | some (.set _ _) => True
  | some (.ins _ _ _) => True
  | some (.ext _) => True
  | _ => False
section
variable {P : Program} {w : World} {H : Hp} {h h' : Heap} {x e : Addr} {o' : HO}
theorem HOk.write (ok : HOk P w H h) (mu : Mut (H x)) (he : e = x ∨ H e = some (.own x)) (k : ∀ b u, b ≠ e → h.get? b = some u → h'.get? b = some u) (heo : ∃ u, h'.get? e = some u)
    (new : ObjOk P w (upd H x o') h' x o') : HOk P w (upd H x o') h' := fun b u q => by
  have nown : ∀ c y, H c = some (.own y) → c ≠ x := fun c y r z => by subst z; rw [r] at mu; exact mu
  have ntup : ∀ c xs, H c = some (.tup xs) → c ≠ x := fun c xs r z => by subst z; rw [r] at mu; exact mu
  by_cases hb : b = x
  · subst hb; rw [upd_same] at q; cases q; exact new
  · rw [upd_ne hb] at q
    by_cases hbe : b = e
    · have q' : H b = some (.own x) := by
        rcases he with z | z
        · exact absurd (hbe.trans z) hb
        · rw [hbe]; exact z
      rw [q] at q'; cases q'
      obtain ⟨v, hv⟩ := heo
      exact ⟨v, by rw [hbe]; exact hv⟩
    · refine (ok b u q).stay (fun c v hc r => k c v ?_ r) (fun c r => by rw [upd_ne (nown c b r)]; exact r) fun c xs r => by rw [upd_ne (ntup c xs r)]; exact r
      rcases hc with rfl | hc
      · exact hbe
      · rintro rfl
        rcases he with z | z
        · exact nown c b hc z
        · rw [hc] at z; cases z; exact hb rfl
end
structure Un (fs ex : List Addr) (H H' : Hp) (h h' : Heap) : Prop where
  keep : ∀ b o, h.get? b = some o → H b = none → b ∉ fs → b ∉ ex → h'.get? b = some o
  slot : ∀ b o, h.get? b = some o → H b = none → b ∈ fs → b ∉ ex → ∃ sl, h'.get? b = some { o with slots := sl }
  free : ∀ b o, h.get? b = some o → H b = none → b ∉ ex → H' b = none
  there : ∀ b o, h.get? b = some o → b ∉ ex → ∃ o', h'.get? b = some o'
  tups : ∀ b xs, H b = some (.tup xs) → H' b = some (.tup xs)
  frzs : ∀ b o u, H b = some (.frz o u) → H' b = some (.frz o u)
  tbls : ∀ b ps, H b = some (.tbl ps) → ∃ more, H' b = some (.tbl (ps ++ more))
section
variable {fs fs' ex ex' : List Addr} {H H1 H2 : Hp} {h h1 h2 h' : Heap} {a x e : Addr} {o : HO}
theorem Un.any (u : Un fs ex H H1 h h1) {b : Addr} {ob : Obj} (q : h.get? b = some ob) (n : H b = none) (hx : b ∉ ex) : ∃ sl, h1.get? b = some { ob with slots := sl } := by
  by_cases hb : b ∈ fs
  · exact u.slot b ob q n hb hx
  · exact ⟨ob.slots, u.keep b ob q n hb hx⟩
theorem Un.kept (k : ∀ b u, h.get? b = some u → h'.get? b = some u) : Un fs ex H H h h' :=
  ⟨fun b ob q _ _ _ => k b ob q, fun b ob q _ _ _ => ⟨ob.slots, k b ob q⟩, fun _ _ _ n _ => n, fun b ob q _ => ⟨ob, k b ob q⟩, fun _ _ q => q, fun _ _ _ q => q, fun _ ps q => ⟨#[], by rw [q]; simp⟩⟩
theorem Un.refl : Un fs ex H H h h := Un.kept fun _ _ q => q
theorem Un.laid (k : ∀ b u, h.get? b = some u → h'.get? b = some u) (hp : h.objs.size ≤ a) (hn : H a = none) : Un fs ex H (upd H a o) h h' where
  keep := fun b u q _ _ _ => k b u q
  slot := fun b u q _ _ _ => ⟨u.slots, k b u q⟩
  free := fun b u q n _ => by rw [upd_ne (Nat.ne_of_lt (Nat.lt_of_lt_of_le (Heap.lt_size q) hp))]; exact n
  there := fun b u q _ => ⟨u, k b u q⟩
  tups := fun b xs q => by rw [upd_ne (ne_of_none q hn)]; exact q
  frzs := fun b u xs q => by rw [upd_ne (ne_of_none q hn)]; exact q
  tbls := fun b ps q => ⟨#[], by rw [upd_ne (ne_of_none q hn), q]; simp⟩
theorem Un.write (mu : Mut (H x)) (he : e = x ∨ H e = some (.own x)) (k : ∀ b u, b ≠ e → h.get? b = some u → h'.get? b = some u) (heo : ∃ u, h'.get? e = some u) : Un fs ex H (upd H x o) h h' := by
  have hx : ∀ b, H b = none → b ≠ x := fun b n z => by subst z; rw [n] at mu; exact mu
  have hb : ∀ b, H b = none → b ≠ e := fun b n z => by
    subst z
    rcases he with r | r
    · exact hx b n r
    · rw [n] at r; cases r
  have hm : ∀ b u, H b = some u → ¬ Mut (some u) → b ≠ x := fun b u q nm z => by subst z; rw [q] at mu; exact nm mu
  refine ⟨fun b u q n _ _ => k b u (hb b n) q, fun b u q n _ _ => ⟨u.slots, k b u (hb b n) q⟩, fun b u q n _ => by rw [upd_ne (hx b n)]; exact n, fun b u q _ => ?_,
    fun b xs q => by rw [upd_ne (hm b _ q fun z => z)]; exact q, fun b u xs q => by rw [upd_ne (hm b _ q fun z => z)]; exact q, fun b ps q => ⟨#[], by rw [upd_ne (hm b _ q fun z => z), q]; simp⟩⟩
  by_cases hbe : b = e
  · subst hbe; exact heo
  · exact ⟨u, k b u hbe q⟩
end
def trk (h : Heap) (H : Hp) : List Addr := (List.range h.objs.size).filter fun a => (H a).isSome
def hidT (h : Heap) (H : Hp) : Heap := PySem.W.hideAll h (trk h H)
theorem hidT_size (h : Heap) (H : Hp) : (hidT h H).objs.size = h.objs.size := PySem.W.hideAll_size _ _
theorem hidT_get {h : Heap} {H : Hp} {b : Addr} {o : Obj} (e : h.get? b = some o) (n : H b = none) : (hidT h H).get? b = some o :=
  PySem.W.hideAll_get _ e fun hm => by
    have q : (H b).isSome = true := (List.mem_filter.mp hm).2
    rw [n] at q; simp at q
theorem of_hidT {h : Heap} {H : Hp} {b : Addr} {o : Obj} (e : (hidT h H).get? b = some o) : h.get? b = some o ∧ H b = none := by
  have e' : h.get? b = some o := PySem.W.of_hideAll (trk h H) e
  refine ⟨e', ?_⟩
  cases q : H b with
  | none => rfl
  | some x =>
    have hm : b ∈ trk h H := List.mem_filter.mpr ⟨List.mem_range.mpr (Heap.lt_size e'), by simp [q]⟩
    have z : (hidT h H).get? b = none := PySem.W.hideAll_none (trk h H) hm
    rw [z] at e; cases e
end L2
namespace L2
open PySem PySem.Spec PyProof.Rows
structure Mod (K : PySem.W.Frag) (mg : Str → Option Value) (base : Heap) : Prop where
  kin : K.In base
  glob : base.Ns mainGlobals mg
  blt : ∃ mb, base.Ns builtinsNs mb ∧ ∀ x : Str, x ≠ "__name__" → mb x = bootBuiltins x
  nolimit : base.NoLimit
structure Cx where
  prog : Program
  w : World
  K : PySem.W.Frag
  mg : Str → Option Value
  base : Heap
  A : Around
  N : List Str
  s_0 : Shared
  H_0 : Hp
  env : Env
  outer : List Env
  stack : List Env
  ex : List Addr
  fn : Str → Bool
  calm : Bool
  pn : List (Addr × Obj)
  xe : Value → Shared → Prop
def frs (l : List Env) : List Addr := l.filterMap (·.frame)
abbrev Cx.fs (X : Cx) : List Addr := frs X.outer
def Vis (sc : Scope) (x : Str) : Prop := sc.names.lookup x = some .local ∨ sc.names.lookup x = some .cell ∨ sc.names.lookup x = some .free
def Loc (sc : Scope) (x : Str) : Prop := sc.names.lookup x = some .local ∨ sc.names.lookup x = some .cell
def Look (env : Env) (h : Heap) (m : Str → Option Value) (x : Str) (u : Value) : Prop :=
  (env.kindOf x = some .local ∧ m x = some u) ∨ ((env.kindOf x = some .cell ∨ env.kindOf x = some .free) ∧ ∃ c, env.cells.lookup x = some c ∧ h.IsCell c (some u))
structure Cx.Ok (X : Cx) : Prop where
  mod : Mod X.K X.mg X.base
  kind : X.env.scope.kind = .function
  glob : X.env.globals = mainGlobals
  blt : X.env.builtins = builtinsNs
  above : X.s_0.heap.objs.size ≤ X.env.locals
  inj : ∀ x y c, X.env.cells.lookup x = some c → X.env.cells.lookup y = some c → x = y
  has : ∀ x, (X.env.kindOf x = some .cell ∨ X.env.kindOf x = some .free) → ∃ c, X.env.cells.lookup x = some c
  cab : ∀ x c, X.fn x = true → X.env.cells.lookup x = some c → X.s_0.heap.objs.size ≤ c
  hd : X.calm = true → X.A.handled = none
  frames : X.A.frames = some X.stack
  stk : X.stack = X.outer ∨ (X.stack = X.env :: X.outer ∧ X.env.frame = some X.env.locals)
  exf : ∀ b ∈ X.ex, b ≠ X.env.locals ∧ ∀ x c, X.env.cells.lookup x = some c → c ≠ b
  bs : ∀ b o, X.base.get? b = some o → X.s_0.heap.get? b = some o ∧ X.H_0 b = none
  bsz : X.base.objs.size ≤ X.s_0.heap.objs.size
  noex : ∀ b o, X.base.get? b = some o → b ∉ X.ex
  exfs : ∀ b ∈ X.ex, b ∉ X.fs
  funs : X.s_0.heap.FunFrames X.base X.outer
  frf : ∀ b ∈ X.fs, X.H_0 b = none
structure Inv (X : Cx) (pins : List (Addr × Obj)) (σ : List (Option V)) (H : Hp) (s : Shared) : Prop where
  ok : X.Ok
  os : s.os = X.s_0.os
  bare : AllBare s.gens
  base : Un X.fs X.ex X.H_0 H X.s_0.heap s.heap
  loc : ∃ m, s.heap.Ns X.env.locals m ∧ ∀ (i : Nat) (x : Str) (v : V), X.N[i]? = some x → σ[i]? = some (some v) → Vis X.env.scope x → ∃ u, RelV v u ∧ Look X.env s.heap m x u
  cell : ∀ x c, X.env.cells.lookup x = some c → ∃ v, s.heap.IsCell c v
  free : H X.env.locals = none
  freeC : ∀ x c, X.env.cells.lookup x = some c → H c = none
  pin : ∀ p ∈ X.pn ++ pins, s.heap.get? p.1 = some p.2 ∧ H p.1 = none ∧ p.1 ≠ X.env.locals ∧ p.1 ∉ X.fs ∧ ∀ v, p.2.data ≠ .cell v
  hok : HOk X.prog X.w H s.heap
  len : σ.length = X.N.length
section
variable {X : Cx} {pins : List (Addr × Obj)} {σ : List (Option V)} {H H' : Hp} {s : Shared} {h' : Heap}
theorem Cx.Ok.nofr (ok : X.Ok) {b : Addr} {o : Obj} (e : X.base.get? b = some o) : b ∉ X.fs := fun hb => by
  have := (ok.funs.mem hb).1
  rw [e] at this; cases this
theorem Inv.bs (I : Inv X pins σ H s) : ∀ b o, X.base.get? b = some o → s.heap.get? b = some o ∧ H b = none := fun b o e =>
  ⟨I.base.keep b o (I.ok.bs b o e).1 (I.ok.bs b o e).2 (I.ok.nofr e) (I.ok.noex b o e), I.base.free b o (I.ok.bs b o e).1 (I.ok.bs b o e).2 (I.ok.noex b o e)⟩
theorem Inv.bk (I : Inv X pins σ H s) : ∀ b o, X.base.get? b = some o → s.heap.get? b = some o := fun b o e => (I.bs b o e).1
theorem Inv.mod (I : Inv X pins σ H s) : Mod X.K X.mg X.base := I.ok.mod
theorem Inv.kIn (I : Inv X pins σ H s) : X.K.In s.heap := I.ok.mod.kin.keeps I.bk
theorem Inv.lt (I : Inv X pins σ H s) : X.env.locals < s.heap.objs.size := let ⟨_, hn, _⟩ := I.loc; hn.lt
theorem Inv.sz (I : Inv X pins σ H s) : X.s_0.heap.objs.size ≤ s.heap.objs.size := Nat.le_trans I.ok.above (Nat.le_of_lt I.lt)
theorem Inv.nofs (I : Inv X pins σ H s) {a : Addr} (h : s.heap.objs.size ≤ a) : a ∉ X.fs := fun hb => by
  obtain ⟨_, o, ho, _⟩ := I.ok.funs.mem hb
  exact absurd (Nat.lt_of_lt_of_le (Heap.lt_size ho) (Nat.le_trans I.sz h)) (Nat.lt_irrefl _)
theorem Inv.cne (I : Inv X pins σ H s) : ∀ x c, X.env.cells.lookup x = some c → c ≠ X.env.locals := fun x c e z => by
  obtain ⟨v, o, ho, hd⟩ := I.cell x c e
  obtain ⟨m, ⟨o', es, ep, ho', hd', _⟩, _⟩ := I.loc
  rw [z, ho'] at ho; cases ho; rw [hd'] at hd; cases hd
theorem Inv.funs (I : Inv X pins σ H s) : s.heap.FunFrames X.base X.outer := by
  have all : ∀ (l : List Env), (∀ b ∈ frs l, b ∈ X.fs) → X.s_0.heap.FunFrames X.base l → s.heap.FunFrames X.base l := by
    intro l
    induction l with
    | nil => intro _ _; trivial
    | cons env r ih =>
      intro hs hl
      obtain ⟨hk, ⟨L, o, hf, hn, ho, hd⟩, hr⟩ := hl
      have hL : L ∈ X.fs := hs L (by unfold frs; rw [List.filterMap_cons, hf]; exact List.mem_cons_self)
      obtain ⟨sl, e⟩ := I.base.slot L o ho (I.ok.frf L hL) hL fun z => I.ok.exfs L z hL
      exact ⟨hk, ⟨L, _, hf, hn, e, hd⟩, ih (fun b hb => hs b (by unfold frs; rw [List.filterMap_cons, hf]; exact List.mem_cons_of_mem _ hb)) hr⟩
  exact all X.outer (fun _ hb => hb) I.ok.funs
theorem Inv.stack (I : Inv X pins σ H s) : s.heap.FunFrames X.base X.stack := by
  rcases I.ok.stk with e | ⟨e, hf⟩
  · rw [e]; exact I.funs
  · rw [e]
    obtain ⟨m, hn, _⟩ := I.loc
    refine .cons (by rw [I.ok.kind]; decide) hf hn ?_ I.funs
    exact Heap.get?_none_of_le (Nat.le_trans I.ok.bsz I.ok.above)
theorem Inv.stkSub (I : Inv X pins σ H s) : ∀ b ∈ frs X.stack, b ∈ X.env.locals :: X.fs := fun b hb => by
  rcases I.ok.stk with e | ⟨e, hf⟩
  · rw [e] at hb; exact List.mem_cons_of_mem _ hb
  · rw [e] at hb
    unfold frs at hb
    rw [List.filterMap_cons, hf] at hb
    exact hb
theorem Inv.stkFree (I : Inv X pins σ H s) : ∀ b ∈ frs X.stack, H b = none := fun b hb => by
  rcases List.mem_cons.mp (I.stkSub b hb) with e | hb
  · rw [e]; exact I.free
  · obtain ⟨_, o, ho, _⟩ := I.ok.funs.mem hb
    exact I.base.free b o ho (I.ok.frf b hb) fun z => I.ok.exfs b z hb
theorem Inv.step {g' : Array GenState} {t' : Nat} {d' : Drawn} {ch : List Addr} (I : Inv X pins σ H s)
    (hch : ∀ b ∈ ch, (b ∈ X.ex ∨ X.s_0.heap.objs.size ≤ b) ∧ b ≠ X.env.locals ∧ (∀ x c, X.env.cells.lookup x = some c → c ≠ b) ∧ ∀ p ∈ X.pn ++ pins, p.1 ≠ b)
    (keep : ∀ b o, b ≠ X.env.locals → b ∉ X.fs → b ∉ ch → s.heap.get? b = some o → H b = none → h'.get? b = some o)
    (slot : ∀ b o, b ≠ X.env.locals → b ∈ X.fs → b ∉ ch → s.heap.get? b = some o → H b = none → ∃ sl, h'.get? b = some { o with slots := sl }) (free : ∀ b o, b ∉ ch → s.heap.get? b = some o → H b = none → H' b = none)
    (there : ∀ b o, b ∉ ch → s.heap.get? b = some o → ∃ o', h'.get? b = some o')
    (tups : ∀ b xs, H b = some (.tup xs) → H' b = some (.tup xs)) (frzs : ∀ b o u, H b = some (.frz o u) → H' b = some (.frz o u)) (tbls : ∀ b ps, H b = some (.tbl ps) → ∃ more, H' b = some (.tbl (ps ++ more)))
    (ns : ∀ m, s.heap.Ns X.env.locals m → h'.Ns X.env.locals m) (hok : HOk X.prog X.w H' h') (hg : AllBare g') :
    Inv X pins σ H' { s with heap := h', gens := g', drawn := d', toks := t' } := by
  have neL : ∀ b o, X.s_0.heap.get? b = some o → b ≠ X.env.locals := fun b o e => Nat.ne_of_lt (Nat.lt_of_lt_of_le (Heap.lt_size e) I.ok.above)
  have neC : ∀ b o, X.s_0.heap.get? b = some o → b ∉ X.ex → b ∉ ch := fun b o e hx hb => by
    rcases (hch b hb).1 with z | z
    · exact hx z
    · exact absurd (Nat.lt_of_lt_of_le (Heap.lt_size e) z) (Nat.lt_irrefl _)
  have cellK : ∀ x c, X.env.cells.lookup x = some c → ∀ v, s.heap.IsCell c v → h'.IsCell c v := fun x c e v ⟨o, ho, hd⟩ => by
    have nch : c ∉ ch := fun z => (hch c z).2.2.1 x c e rfl
    by_cases hc : c ∈ X.fs
    · obtain ⟨sl, q⟩ := slot c o (I.cne x c e) hc nch ho (I.freeC x c e)
      exact ⟨_, q, hd⟩
    · exact ⟨o, keep c o (I.cne x c e) hc nch ho (I.freeC x c e), hd⟩
  refine ⟨I.ok, I.os, hg, ⟨fun b o e n hb hx => ?_, fun b o e n hb hx => ?_, fun b o e n hx => ?_, fun b o e hx => ?_, fun b xs e => tups b xs (I.base.tups b xs e), fun b o xs e => frzs b o xs (I.base.frzs b o xs e), fun b ps e => ?_⟩, ?_, fun x c e => ?_, ?_, fun x c e => ?_, fun p hp => ?_, hok, I.len⟩
  · exact keep b o (neL b o e) hb (neC b o e hx) (I.base.keep b o e n hb hx) (I.base.free b o e n hx)
  · obtain ⟨sl, e1⟩ := I.base.slot b o e n hb hx
    obtain ⟨sl', e2⟩ := slot b _ (neL b o e) hb (neC b o e hx) e1 (I.base.free b o e n hx)
    exact ⟨sl', e2⟩
  · obtain ⟨o', e1⟩ := I.base.there b o e hx
    exact free b o' (neC b o e hx) e1 (I.base.free b o e n hx)
  · obtain ⟨o', e1⟩ := I.base.there b o e hx
    exact there b o' (neC b o e hx) e1
  · obtain ⟨m1, e1⟩ := I.base.tbls b ps e
    obtain ⟨m2, e2⟩ := tbls b _ e1
    exact ⟨m1 ++ m2, by rw [e2, Array.append_assoc]⟩
  · obtain ⟨m, hn, hl⟩ := I.loc
    refine ⟨m, ns m hn, fun i x v e1 e2 e3 => ?_⟩
    obtain ⟨u, r, l⟩ := hl i x v e1 e2 e3
    refine ⟨u, r, ?_⟩
    rcases l with l | ⟨k, c, e, z⟩
    · exact .inl l
    · exact .inr ⟨k, c, e, cellK x c e _ z⟩
  · obtain ⟨v, z⟩ := I.cell x c e
    exact ⟨v, cellK x c e v z⟩
  · obtain ⟨m, ⟨o, _, _, ho, _⟩, _⟩ := I.loc
    exact free _ o (fun z => (hch _ z).2.1 rfl) ho I.free
  · obtain ⟨v, o, ho, hd⟩ := I.cell x c e
    exact free c o (fun z => (hch c z).2.2.1 x c e rfl) ho (I.freeC x c e)
  · obtain ⟨e, n, ne, nf, d⟩ := I.pin p hp
    have nch : p.1 ∉ ch := fun z => (hch p.1 z).2.2.2 p hp rfl
    exact ⟨keep p.1 p.2 ne nf nch e n, free p.1 p.2 nch e n, ne, nf, d⟩
theorem Inv.un {t' : Nat} (I : Inv X pins σ H s) (u : Un X.fs [] H H' s.heap h') (hok : HOk X.prog X.w H' h') : Inv X pins σ H' { s with heap := h', toks := t' } := by
  obtain ⟨m, ⟨o, es, ep, ho, r⟩, _⟩ := id I.loc
  obtain ⟨sl, hL⟩ := u.any ho I.free (by simp)
  exact I.step (g' := s.gens) (d' := s.drawn) (ch := []) (fun _ z => nomatch z) (fun b o _ hb _ e n => u.keep b o e n hb (by simp)) (fun b o _ hb _ e n => u.slot b o e n hb (by simp)) (fun b o _ e n => u.free b o e n (by simp)) (fun b o _ e => u.there b o e (by simp)) u.tups u.frzs u.tbls (fun m' hm => by
    obtain ⟨o', es', ep', ho', r'⟩ := hm
    rw [ho] at ho'; cases ho'
    exact ⟨_, es', ep', hL, r'⟩) hok I.bare
theorem Inv.call {g' : Array GenState} {t' : Nat} {d' : Drawn} {ch : List Addr} (I : Inv X pins σ H s) (u : Un (frs X.stack) ch H H' s.heap h') (hok : HOk X.prog X.w H' h') (hg : AllBare g')
    (hch : ∀ b ∈ ch, (b ∈ X.ex ∨ X.s_0.heap.objs.size ≤ b) ∧ b ≠ X.env.locals ∧ (∀ x c, X.env.cells.lookup x = some c → c ≠ b) ∧ ∀ p ∈ X.pn ++ pins, p.1 ≠ b) :
    Inv X pins σ H' { s with heap := h', gens := g', drawn := d', toks := t' } := by
  obtain ⟨m, ⟨o, es, ep, ho, r⟩, _⟩ := id I.loc
  obtain ⟨sl, hL⟩ := u.any ho I.free fun z => (hch _ z).2.1 rfl
  exact I.step (ch := ch) hch (fun b o hL hb hc e n => u.keep b o e n (fun z => (List.mem_cons.mp (I.stkSub b z)).elim hL hb) hc) (fun b o _ _ hc e n => u.any e n hc) (fun b o hc e n => u.free b o e n hc) (fun b o hc e => u.there b o e hc) u.tups u.frzs u.tbls (fun m' hm => by
    obtain ⟨o', es', ep', ho', r'⟩ := hm
    rw [ho] at ho'; cases ho'
    exact ⟨_, es', ep', hL, r'⟩) hok hg
theorem Inv.turned {t' : Nat} {it : Addr} (I : Inv X pins σ H s) (k : ∀ b o, b ≠ it → s.heap.get? b = some o → h'.get? b = some o) (hn : H it = none) (hL : it ≠ X.env.locals)
    (h1 : it ∈ X.ex ∨ X.s_0.heap.objs.size ≤ it) (h2 : ∀ x c, X.env.cells.lookup x = some c → c ≠ it) (h3 : ∀ p ∈ X.pn ++ pins, p.1 ≠ it) : Inv X pins σ H { s with heap := h', toks := t' } := by
  have nit : ∀ b u, H b = some u → b ≠ it := fun b u e z => by rw [z, hn] at e; cases e
  refine I.step (g' := s.gens) (d' := s.drawn) (ch := [it]) (fun b hb => ?_) (fun b o _ _ hc e _ => k b o (fun z => hc (by simp [z])) e) (fun b o _ _ hc e _ => ⟨o.slots, k b o (fun z => hc (by simp [z])) e⟩) (fun _ _ _ _ n => n)
    (fun b o hc e => ⟨o, k b o (fun z => hc (by simp [z])) e⟩) (fun _ _ e => e) (fun _ _ _ e => e) (fun b ps e => ⟨#[], by rw [e]; simp⟩) (fun m hm => ?_) (fun b u e => ?_) I.bare
  · have e : b = it := by simpa using hb
    subst e
    exact ⟨h1, hL, h2, h3⟩
  · obtain ⟨o, es, ep, ho, r⟩ := hm
    exact ⟨o, es, ep, k _ o (Ne.symm hL) ho, r⟩
  · refine (I.hok b u e).stay (fun c v hc q => k c v ?_ q) (fun _ q => q) fun _ _ q => q
    rcases hc with z | z
    · rw [z]; exact nit b u e
    · exact nit c _ z
theorem Inv.tok (I : Inv X pins σ H s) (t : Nat) : Inv X pins σ H { s with toks := t } := I.un (h' := s.heap) (t' := t) Un.refl I.hok
theorem Inv.kept {t' : Nat} (I : Inv X pins σ H s) (k : ∀ b u, s.heap.get? b = some u → h'.get? b = some u) : Inv X pins σ H { s with heap := h', toks := t' } := I.un (Un.kept k) (I.hok.kept k)
theorem Inv.laid {a : Addr} {o : HO} {t' : Nat} (I : Inv X pins σ H s) (k : ∀ b u, s.heap.get? b = some u → h'.get? b = some u) (hp : s.heap.objs.size ≤ a) (new : ObjOk X.prog X.w (upd H a o) h' a o) :
    Inv X pins σ (upd H a o) { s with heap := h', toks := t' } := I.un (Un.laid k hp (I.hok.fresh hp)) (I.hok.laid k hp new)
theorem Inv.write {x e : Addr} {o : HO} {t' : Nat} (I : Inv X pins σ H s) (mu : Mut (H x)) (he : e = x ∨ H e = some (.own x)) (k : ∀ b u, b ≠ e → s.heap.get? b = some u → h'.get? b = some u) (heo : ∃ u, h'.get? e = some u)
    (new : ObjOk X.prog X.w (upd H x o) h' x o) : Inv X pins σ (upd H x o) { s with heap := h', toks := t' } := I.un (Un.write mu he k heo) (I.hok.write mu he k heo new)
theorem Inv.weak {σ' : List (Option V)} (I : Inv X pins σ H s) (hl : σ'.length = σ.length) (w : ∀ (i : Nat) v, σ'[i]? = some (some v) → σ[i]? = some (some v)) : Inv X pins σ' H s :=
  ⟨I.ok, I.os, I.bare, I.base, let ⟨m, hn, hl'⟩ := I.loc; ⟨m, hn, fun i x v e1 e2 e3 => hl' i x v e1 (w i v e2) e3⟩, I.cell, I.free, I.freeC, I.pin, I.hok, hl.trans I.len⟩
theorem Inv.pins_of {pins' : List (Addr × Obj)} (I : Inv X pins σ H s) (h : ∀ p ∈ pins', s.heap.get? p.1 = some p.2 ∧ H p.1 = none ∧ p.1 ≠ X.env.locals ∧ p.1 ∉ X.fs ∧ ∀ v, p.2.data ≠ .cell v) : Inv X pins' σ H s :=
  ⟨I.ok, I.os, I.bare, I.base, I.loc, I.cell, I.free, I.freeC, fun p hp => (List.mem_append.mp hp).elim (fun z => I.pin p (List.mem_append_left _ z)) (h p), I.hok, I.len⟩
theorem nodup_ix {N : List Str} (hN : N.Nodup) {i j : Nat} {x : Str} (a : N[i]? = some x) (b : N[j]? = some x) : i = j := by
  obtain ⟨h1, e1⟩ := List.getElem?_eq_some_iff.mp a
  obtain ⟨h2, e2⟩ := List.getElem?_eq_some_iff.mp b
  exact (List.getElem_inj hN).mp (e1.trans e2.symm)
theorem store_ok2 {M : Model} {A : Around} {E : Value → Shared → Prop} {i : Nat} {x : Str} {v : V} {u : Value} {Q : Unit → Shared → Prop} (I : Inv X pins σ H s) (hN : X.N.Nodup) (hi : X.N[i]? = some x) (hx : Loc X.env.scope x) (r : RelV v u)
    (h : ∀ s', Inv X pins (σ.set i (some v)) H s' → (∃ a, Heap.SameBut a s.heap s'.heap ∧ (a = X.env.locals ∨ X.env.cells.lookup x = some a)) → Q () s') (hf : X.fn x = true ∨ X.env.scope.names.lookup x = some .local := by first | exact .inl rfl | exact .inr rfl | assumption) : wpAny M A (storeName X.env x u) Q E s := by
  obtain ⟨m, hn, hl⟩ := id I.loc
  have hcls : (X.env.scope.kind == .class || (X.env.scope.kind == .module && X.env.locals != X.env.globals)) = false := by rw [I.ok.kind]; rfl
  have hiσ : i < σ.length := by rw [I.len]; exact (List.getElem?_eq_some_iff.mp hi).1
  have cne := I.cne
  have tracked : ∀ {a : Addr} {h' : Heap}, (∃ o, s.heap.get? a = some o ∧ H a = none) → Heap.SameBut a s.heap h' → HOk X.prog X.w H h' := fun {a h'} ha hs b ob e => by
    obtain ⟨_, _, hfree⟩ := ha
    refine (I.hok b ob e).stay (fun c w' hc q => (hs.2 c ?_).trans q) (fun _ q => q) fun _ _ q => q
    rintro rfl
    rcases hc with rfl | hc
    · rw [hfree] at e; cases e
    · rw [hfree] at hc; cases hc
  rcases hx with hk | hk
  · refine wpAny_storeName_local hk hn (fun h' hn' hs => ?_) hcls
    obtain ⟨oL, _, _, hoL, _⟩ := id hn
    refine h _ ⟨I.ok, I.os, I.bare, ⟨fun b o e n hb hx => ?_, fun b o e n hb hx => ?_, I.base.free, fun b o e hx => ?_, I.base.tups, I.base.frzs, I.base.tbls⟩, ⟨_, hn', fun j y v' e1 e2 e3 => ?_⟩, fun y c e => ?_, I.free, I.freeC, fun p hp => ?_, tracked ⟨oL, hoL, I.free⟩ hs, by simpa using I.len⟩ ⟨_, hs, .inl rfl⟩
    · exact (hs.2 b (Nat.ne_of_lt (Nat.lt_of_lt_of_le (Heap.lt_size e) I.ok.above))).trans (I.base.keep b o e n hb hx)
    · obtain ⟨sl, e1⟩ := I.base.slot b o e n hb hx
      exact ⟨sl, (hs.2 b (Nat.ne_of_lt (Nat.lt_of_lt_of_le (Heap.lt_size e) I.ok.above))).trans e1⟩
    · obtain ⟨o', e1⟩ := I.base.there b o e hx
      exact ⟨o', (hs.2 b (Nat.ne_of_lt (Nat.lt_of_lt_of_le (Heap.lt_size e) I.ok.above))).trans e1⟩
    · by_cases hj : j = i
      · subst hj
        rw [hi] at e1; cases e1
        rw [List.getElem?_set_self hiσ] at e2
        cases e2
        exact ⟨u, r, .inl ⟨hk, by simp⟩⟩
      · rw [List.getElem?_set_ne (Ne.symm hj)] at e2
        obtain ⟨u', r', q⟩ := hl j y v' e1 e2 e3
        refine ⟨u', r', ?_⟩
        rcases q with ⟨k, e⟩ | ⟨k, c, e, z⟩
        · refine .inl ⟨k, ?_⟩
          have : y ≠ x := fun e => hj (nodup_ix hN e1 (e ▸ hi))
          simp [this, e]
        · exact .inr ⟨k, c, e, z.sameBut hs (cne y c e)⟩
    · obtain ⟨w', z⟩ := I.cell y c e
      exact ⟨w', z.sameBut hs (cne y c e)⟩
    · obtain ⟨e, n, ne, nf, d⟩ := I.pin p hp
      exact ⟨(hs.2 p.1 ne).trans e, n, ne, nf, d⟩
  · have hfn : X.fn x = true := by
      rcases hf with z | z
      · exact z
      · rw [z] at hk; cases hk
    obtain ⟨c, hc⟩ := I.ok.has x (.inl hk)
    obtain ⟨w', z⟩ := I.cell x c hc
    refine wpAny_storeName_cell I.ok.kind hk hc z (fun h' hc' hs => ?_)
    obtain ⟨oc, hoc, hocd⟩ := id z
    refine h { s with heap := h' } ⟨I.ok, I.os, I.bare, ⟨fun b o e n hb hx => ?_, fun b o e n hb hx => ?_, I.base.free, fun b o e hx => ?_, I.base.tups, I.base.frzs, I.base.tbls⟩, ⟨m, hn.sameBut hs (Ne.symm (cne x c hc)), fun j y v' e1 e2 e3 => ?_⟩, fun y c' e => ?_, I.free, I.freeC, fun p hp => ?_, tracked ⟨oc, hoc, I.freeC x c hc⟩ hs, by simpa using I.len⟩ ⟨c, hs, .inr hc⟩
    · exact (hs.2 b (Nat.ne_of_lt (Nat.lt_of_lt_of_le (Heap.lt_size e) (I.ok.cab x c hfn hc)))).trans (I.base.keep b o e n hb hx)
    · obtain ⟨sl, e1⟩ := I.base.slot b o e n hb hx
      exact ⟨sl, (hs.2 b (Nat.ne_of_lt (Nat.lt_of_lt_of_le (Heap.lt_size e) (I.ok.cab x c hfn hc)))).trans e1⟩
    · obtain ⟨o', e1⟩ := I.base.there b o e hx
      exact ⟨o', (hs.2 b (Nat.ne_of_lt (Nat.lt_of_lt_of_le (Heap.lt_size e) (I.ok.cab x c hfn hc)))).trans e1⟩
    · by_cases hj : j = i
      · subst hj
        rw [hi] at e1; cases e1
        rw [List.getElem?_set_self hiσ] at e2
        cases e2
        exact ⟨u, r, .inr ⟨.inl hk, c, hc, hc'⟩⟩
      · rw [List.getElem?_set_ne (Ne.symm hj)] at e2
        obtain ⟨u', r', q⟩ := hl j y v' e1 e2 e3
        refine ⟨u', r', ?_⟩
        rcases q with q | ⟨k, c', e, z'⟩
        · exact .inl q
        · refine .inr ⟨k, c', e, z'.sameBut hs ?_⟩
          rintro rfl
          exact hj (nodup_ix hN e1 (I.ok.inj _ _ _ e hc ▸ hi))
    · by_cases hcc : c' = c
      · subst hcc; exact ⟨_, hc'⟩
      · obtain ⟨w2, z2⟩ := I.cell y c' e
        exact ⟨w2, z2.sameBut hs hcc⟩
    · obtain ⟨e, n, ne, nf, d⟩ := I.pin p hp
      refine ⟨(hs.2 p.1 ?_).trans e, n, ne, nf, d⟩
      intro q
      rw [q, hoc] at e
      have q' : oc = p.2 := Option.some.inj e
      exact d w' (by rw [← q']; exact hocd)
theorem store_ok {M : Model} {A : Around} {E : Value → Shared → Prop} {i : Nat} {x : Str} {v : V} {u : Value} {Q : Unit → Shared → Prop} (I : Inv X pins σ H s) (hN : X.N.Nodup) (hi : X.N[i]? = some x) (hx : Loc X.env.scope x) (r : RelV v u)
    (h : ∀ s', Inv X pins (σ.set i (some v)) H s' → Q () s') (hf : X.fn x = true ∨ X.env.scope.names.lookup x = some .local := by first | exact .inl rfl | exact .inr rfl | assumption) : wpAny M A (storeName X.env x u) Q E s :=
  store_ok2 I hN hi hx r (fun s' I' _ => h s' I') hf
theorem Inv.call' {s' : Shared} {ch : List Addr} (I : Inv X pins σ H s) (ho : s'.os = s.os) (u : Un (frs X.stack) ch H H' s.heap s'.heap) (hok : HOk X.prog X.w H' s'.heap) (hg : AllBare s'.gens)
    (hch : ∀ b ∈ ch, (b ∈ X.ex ∨ X.s_0.heap.objs.size ≤ b) ∧ b ≠ X.env.locals ∧ (∀ x c, X.env.cells.lookup x = some c → c ≠ b) ∧ ∀ p ∈ X.pn ++ pins, p.1 ≠ b) : Inv X pins σ H' s' := by
  obtain ⟨h', g', d', t', o'⟩ := s'
  have e : o' = s.os := ho
  subst e
  exact I.call (g' := g') (t' := t') (d' := d') u hok hg hch
end
abbrev XK := Value → Option Addr → Hp → Prop
abbrev St := List (Option V)
abbrev VK := V → Hp → Prop
abbrev TE := St → Hp → VK → Prop
abbrev TT := St → Hp → (Bool → Hp → Prop) → Prop
abbrev TA := St → Hp → (List V → Hp → Prop) → Prop
structure Ends where
  nx : St → Hp → Prop
  rt : VK
  bk : St → Hp → Prop := fun _ _ => False
  ct : St → Hp → Prop := fun _ _ => False
abbrev TS := Ends → St → Hp → Prop
def EP (X : Cx) (pins : List (Addr × Obj)) (σ : St) (Q : VK) (u : Value) (s' : Shared) : Prop := ∃ v H', Inv X pins σ H' s' ∧ RelV v u ∧ Q v H'
def TP (X : Cx) (pins : List (Addr × Obj)) (σ : St) (Q : Bool → Hp → Prop) (b : Bool) (s' : Shared) : Prop := ∃ H', Inv X pins σ H' s' ∧ Q b H'
def AP (X : Cx) (pins : List (Addr × Obj)) (σ : St) (Q : List V → Hp → Prop) (us : List Value) (s' : Shared) : Prop := ∃ vs H', Inv X pins σ H' s' ∧ Vals vs us ∧ Q vs H'
def SP (X : Cx) (pins : List (Addr × Obj)) (D : Ends) (f : Flow) (s' : Shared) : Prop :=
  match f with
  | .next => ∃ σ' H', Inv X pins σ' H' s' ∧ D.nx σ' H'
  | .brk => ∃ σ' H', Inv X pins σ' H' s' ∧ D.bk σ' H'
  | .cont => ∃ σ' H', Inv X pins σ' H' s' ∧ D.ct σ' H'
  | .ret u => ∃ v σ' H', Inv X pins σ' H' s' ∧ RelV v u ∧ D.rt v H'
def PE (X : Cx) (e : Expr) (t : TE) : Prop :=
  ∀ (pins : List (Addr × Obj)) (s : Shared) (σ : St) (H : Hp) (Q : VK), Inv X pins σ H s → t σ H Q → wpAny (model X.prog X.w) X.A (eval e X.env) (EP X pins σ Q) X.xe s
def PT (X : Cx) (e : Expr) (t : TT) : Prop :=
  ∀ (pins : List (Addr × Obj)) (s : Shared) (σ : St) (H : Hp) (Q : Bool → Hp → Prop), Inv X pins σ H s → t σ H Q → wpAny (model X.prog X.w) X.A (isTrue e X.env (eval e X.env)) (TP X pins σ Q) X.xe s
def PW (X : Cx) (e : Expr) (t : TT) : Prop :=
  ∀ (whole : Sem Value) (pins : List (Addr × Obj)) (s : Shared) (σ : St) (H : Hp) (Q : Bool → Hp → Prop), Inv X pins σ H s → t σ H Q → wpAny (model X.prog X.w) X.A (isTrue e X.env whole) (TP X pins σ Q) X.xe s
theorem PW.pt {X : Cx} {e : Expr} {t : TT} (h : PW X e t) : PT X e t := h _
def PA (X : Cx) (es : List Expr) (t : TA) : Prop :=
  ∀ (pos : Pos) (pins : List (Addr × Obj)) (s : Shared) (σ : St) (H : Hp) (Q : List V → Hp → Prop), Inv X pins σ H s → t σ H Q → wpAny (model X.prog X.w) X.A (spliced (backTo pos (starEach es X.env))) (AP X pins σ Q) X.xe s
def PS (X : Cx) (st : Stmt) (t : TS) : Prop :=
  ∀ (pins : List (Addr × Obj)) (s : Shared) (σ : St) (H : Hp) (D : Ends), Inv X pins σ H s → t D σ H → wpAny (model X.prog X.w) X.A (exec st X.env) (SP X pins D) X.xe s
def PSs (X : Cx) (st : List Stmt) (t : TS) : Prop :=
  ∀ (pins : List (Addr × Obj)) (s : Shared) (σ : St) (H : Hp) (D : Ends), Inv X pins σ H s → t D σ H → wpAny (model X.prog X.w) X.A (execs st X.env) (SP X pins D) X.xe s
theorem thn {α : Type} {t : Sem α} {Q Q' : α → Shared → Prop} {M : Model} {A : Around} {E : Value → Shared → Prop} {s : Shared} (h : wpAny M A t Q E s) (hQ : ∀ a s, Q a s → Q' a s) : wpAny M A t Q' E s := wpAny_mono h hQ fun _ _ x => x
end L2
namespace L2
open PySem PySem.Spec PyProof.Rows
section
variable {X : Cx}
theorem bin {a b : Expr} {ta tb : TE} (ha : PE X a ta) (hb : PE X b tb) {pins : List (Addr × Obj)} {s : Shared} {σ : St} {H : Hp} {R : V → V → Hp → Prop} (I : Inv X pins σ H s) (h : ta σ H fun x H1 => tb σ H1 fun y H2 => R x y H2)
    {α : Type} {Q : α → Shared → Prop} {f : Value → Value → Sem α}
    (hf : ∀ v u s2 x y H2, Inv X pins σ H2 s2 → RelV x v → RelV y u → R x y H2 → wpAny (model X.prog X.w) X.A (f v u) Q X.xe s2) :
    wpAny (model X.prog X.w) X.A (eval a X.env) (fun v s₁ => wpAny (model X.prog X.w) X.A (eval b X.env) (fun u s₂ => wpAny (model X.prog X.w) X.A (f v u) Q X.xe s₂) X.xe s₁) X.xe s := by
  refine thn (ha pins s σ H _ I h) fun v s1 ⟨x, H1, I1, r1, q1⟩ => ?_
  refine thn (hb pins s1 σ H1 _ I1 q1) fun u s2 ⟨y, H2, I2, r2, q2⟩ => ?_
  exact hf v u s2 x y H2 I2 r1 r2 q2
def tVar (i : Nat) : TE := fun σ H Q => ∃ v, σ[i]? = some (some v) ∧ Q v H
def tC (v : V) : TE := fun _ H Q => Q v H
theorem pe_var {i : Nat} {x : Str} {pos : Pos} (hN : X.N[i]? = some x) (hv : Vis X.env.scope x) (hd : (x == ("__debug__" : Str)) = false := by decide) (hcd : (x == ("__classdict__" : Str)) = false := by decide) : PE X (.Name x pos) (tVar i) := by
  intro pins s σ H Q I h
  obtain ⟨v, e, h⟩ := h
  obtain ⟨m, hn, hl⟩ := I.loc
  obtain ⟨u, r, l⟩ := hl i x v hN e hv
  have fin : EP X pins σ Q u s := ⟨v, H, I, r, h⟩
  rcases l with ⟨hk, hm⟩ | ⟨hk, c, hc, hcell⟩
  · exact wpAny_Name (wpAny_loadName_local I.ok.kind hk hn hm fin) hd
  · rcases hk with hk | hk
    · exact wpAny_Name (wpAny_loadName_cell I.ok.kind hk hc hcell fin) hd
    · exact wpAny_Name (wpAny_loadName_free I.ok.kind hk hc hcell fin hcd) hd
theorem pe_int {i j pos} : PE X (.Constant (.int i) j pos) (tC (.int i)) := fun _ _ _ H _ I h => wpAny_Constant_int ⟨.int i, H, I.tok _, ⟨_, rfl⟩, h⟩
theorem pe_bl {b j pos} : PE X (.Constant (.bool b) j pos) (tC (.bl b)) := fun _ _ _ H _ I h => Constant_bool ⟨.bl b, H, I, rfl, h⟩
theorem pe_non {j pos} : PE X (.Constant .none j pos) (tC .non) := fun _ _ _ H _ I h => Constant_none ⟨.non, H, I, rfl, h⟩
def Gl (X : Cx) (x : Str) : Prop := X.env.kindOf x = some .globalImplicit
theorem ld_glob {E : Value → Shared → Prop} {pins : List (Addr × Obj)} {s : Shared} {σ : St} {H : Hp} {x : Str} {u : Value} {pos : Pos} {Q : Value → Shared → Prop} (I : Inv X pins σ H s) (hg : Gl X x) (hm : X.mg x = some u) (h : Q u s)
    (hd : (x == ("__debug__" : Str)) = false := by decide) : wpAny (model X.prog X.w) X.A (eval (.Name x pos) X.env) Q E s :=
  Calls.Name_function_global I.ok.kind hg (Calls.loadGlobal_global (by rw [I.ok.glob]; exact I.mod.glob.keeps I.bk) hm h) hd
theorem ld_blt {E : Value → Shared → Prop} {pins : List (Addr × Obj)} {s : Shared} {σ : St} {H : Hp} {x : Str} {u : Value} {pos : Pos} {Q : Value → Shared → Prop} (I : Inv X pins σ H s) (hg : Gl X x) (hm : X.mg x = none) (hv : bootBuiltins x = some u) (h : Q u s)
    (hn : x ≠ "__name__" := by decide) (hd : (x == ("__debug__" : Str)) = false := by decide) : wpAny (model X.prog X.w) X.A (eval (.Name x pos) X.env) Q E s := by
  obtain ⟨mb, h1, h2⟩ := I.mod.blt
  exact Calls.Name_function_global I.ok.kind hg (Calls.loadGlobal_builtin (by rw [I.ok.glob]; exact I.mod.glob.keeps I.bk) hm (by rw [I.ok.blt]; exact h1.keeps I.bk) ((h2 x hn).trans hv) h) hd
theorem pe_glob {x : Str} {v : V} {u : Value} {pos : Pos} (hg : Gl X x) (hm : X.mg x = some u) (r : RelV v u) (hd : (x == ("__debug__" : Str)) = false := by decide) : PE X (.Name x pos) (tC v) :=
  fun _ _ _ H _ I h => ld_glob I hg hm ⟨v, H, I, r, h⟩ hd
def t2I (ta tb : TE) (k : Int → Int → Hp → Prop) : St → Hp → Prop := fun σ H => ta σ H fun x H1 => tb σ H1 fun y H2 => ∃ i j, x = .int i ∧ y = .int j ∧ k i j H2
variable {a b : Expr} {ta tb : TE} {pos : Pos}
def PC (X : Cx) (op : CmpOp) (a b : Expr) (t : TE) : Prop :=
  ∀ (pins : List (Addr × Obj)) (s : Shared) (σ : St) (H : Hp) (Q : VK), Inv X pins σ H s → t σ H Q →
    wpAny (model X.prog X.w) X.A (eval a X.env) (fun v s₁ => wpAny (model X.prog X.w) X.A (eval b X.env) (fun u s₂ => wpAny (model X.prog X.w) X.A (compareOp op v u) (EP X pins σ Q) X.xe s₂) X.xe s₁) X.xe s
theorem nobehind (b : Expr) {op : CmpOp} (h : op ≠ .In) (h2 : op ≠ .NotIn) : behindInMarks op b = false := by
  have e1 : (op == CmpOp.In) = false := by cases op <;> first | rfl | exact absurd rfl h
  have e2 : (op == CmpOp.NotIn) = false := by cases op <;> first | rfl | exact absurd rfl h2
  cases b <;> simp [behindInMarks, e1, e2]
def tCmp (p : Int → Int → Bool) (ta tb : TE) : TE := fun σ H Q => t2I ta tb (fun i j H2 => Q (.bl (p i j)) H2) σ H
abbrev tLt : TE → TE → TE := tCmp fun i j => decide (i < j)
abbrev tLe : TE → TE → TE := tCmp fun i j => decide (i ≤ j)
abbrev tGt : TE → TE → TE := tCmp fun i j => decide (j < i)
abbrev tGe : TE → TE → TE := tCmp fun i j => decide (j ≤ i)
abbrev tEqI : TE → TE → TE := tCmp fun i j => decide (i = j)
abbrev tNeI : TE → TE → TE := tCmp fun i j => !decide (i = j)
theorem pc_int {op : CmpOp} {p : Int → Int → Bool} (ha : PE X a ta) (hb : PE X b tb)
    (rule : ∀ (i j : Int) (t u : Tok) (Q : Value → Shared → Prop) (s : Shared), Q (.bool (p i j)) s → wpAny (model X.prog X.w) X.A (compareOp op (.int i t) (.int j u)) Q X.xe s) : PC X op a b (tCmp p ta tb) := by
  intro pins s σ H Q I h
  refine bin ha hb I h fun v u s2 x y H2 I2 rx ry q => ?_
  obtain ⟨i, j, rfl, rfl, q⟩ := q
  obtain ⟨t, rfl⟩ := rx
  obtain ⟨t', rfl⟩ := ry
  exact rule i j t t' _ s2 ⟨.bl _, H2, I2, rfl, q⟩
theorem pc_lt (ha : PE X a ta) (hb : PE X b tb) : PC X .Lt a b (tLt ta tb) := pc_int ha hb fun _ _ _ _ _ _ h => lt_int h
theorem pc_le (ha : PE X a ta) (hb : PE X b tb) : PC X .LtE a b (tLe ta tb) := pc_int ha hb fun _ _ _ _ _ _ h => le_int h
theorem pc_gt (ha : PE X a ta) (hb : PE X b tb) : PC X .Gt a b (tGt ta tb) := pc_int ha hb fun _ _ _ _ _ _ h => gt_int h
theorem pc_ge (ha : PE X a ta) (hb : PE X b tb) : PC X .GtE a b (tGe ta tb) := pc_int ha hb fun _ _ _ _ _ _ h => ge_int h
theorem pc_eqI (ha : PE X a ta) (hb : PE X b tb) : PC X .Eq a b (tEqI ta tb) := pc_int ha hb fun _ _ _ _ _ _ h => eq_int (by rw [Bool.beq_eq_decide_eq]; exact h)
theorem pc_neI (ha : PE X a ta) (hb : PE X b tb) : PC X .NotEq a b (tNeI ta tb) := pc_int ha hb fun _ _ _ _ _ _ h => ne_int (by rw [bne, Bool.beq_eq_decide_eq]; exact h)
def tIsN (ta : TE) : TE := fun σ H Q => ta σ H fun x H1 => Q (.bl (decide (x = .non))) H1
def tNotN (ta : TE) : TE := fun σ H Q => ta σ H fun x H1 => Q (.bl (!decide (x = .non))) H1
theorem RelV.none_iff {x : V} {v : Value} (r : RelV x v) : (v == Value.none) = decide (x = .non) := by
  cases x with
  | non => cases r; rfl
  | bl _ => cases r; rfl
  | int _ => obtain ⟨t, rfl⟩ := r; rfl
  | str _ => obtain ⟨t, rfl⟩ := r; rfl
  | byt _ => obtain ⟨t, rfl⟩ := r; rfl
  | flt _ => obtain ⟨t, rfl⟩ := r; rfl
  | ref _ => cases r; rfl
  | ty _ => cases r; rfl
theorem pc_isN {j pos'} (ha : PE X a ta) : PC X .Is a (.Constant .none j pos') (tIsN ta) := by
  intro pins s σ H Q I h
  refine thn (ha pins s σ H _ I h) fun v s1 ⟨x, H1, I1, r1, q1⟩ => ?_
  exact Constant_none (is_none_gen ⟨.bl _, H1, I1, by rw [r1.none_iff]; rfl, q1⟩)
theorem pc_notN {j pos'} (ha : PE X a ta) : PC X .IsNot a (.Constant .none j pos') (tNotN ta) := by
  intro pins s σ H Q I h
  refine thn (ha pins s σ H _ I h) fun v s1 ⟨x, H1, I1, r1, q1⟩ => ?_
  exact Constant_none (isnot_none_gen ⟨.bl _, H1, I1, by rw [r1.none_iff]; rfl, q1⟩)
def tB (t : TE) : TT := fun σ H Q => t σ H fun x H1 => ∃ c, x = .bl c ∧ Q c H1
theorem pe_cmp {op : CmpOp} {t : TE} (h : PC X op a b t) (h1 : behindInMarks op b = false := by first | exact nobehind _ (by decide) (by decide) | rfl) : PE X (.Compare a [op] [b] pos) t := fun pins s σ H Q I hw => wpAny_Compare1 (h pins s σ H Q I hw) h1
theorem pt_cmp {op : CmpOp} {t : TE} (h : PC X op a b t) (h1 : behindInMarks op b = false := by first | exact nobehind _ (by decide) (by decide) | rfl) : PT X (.Compare a [op] [b] pos) (tB t) := by
  intro pins s σ H Q I hw
  refine wpAny_isTrue_Compare1 (thn (h pins s σ H _ I hw) fun v s1 h1 => thn h1 fun u s2 h2 => thn h2 fun c s3 ⟨x, H1, I1, r1, q1⟩ => ?_) h1
  obtain ⟨d, rfl, q⟩ := q1
  cases r1
  exact wpAny_truthy_bool ⟨H1, I1, q⟩
theorem pt_val {e : Expr} {t : TE} (h : PE X e t) (he : ∀ whole, isTrue e X.env whole = (do let v ← whole; standAt e.pos; holding [v] (truthy v)) := by intro _; rfl) : PT X e (tB t) := by
  intro pins s σ H Q I hw
  refine isTrue_plain (thn (h pins s σ H _ I hw) fun v s1 ⟨x, H1, I1, r1, q1⟩ => ?_) (he _)
  obtain ⟨d, rfl, q⟩ := q1
  cases r1
  exact wpAny_truthy_bool ⟨H1, I1, q⟩
variable {tA tB' : TT} {rest : List Expr}
def tOr (t u : TT) : TT := fun σ H Q => t σ H fun c H1 => if c = true then Q true H1 else u σ H1 Q
def tNot (t : TT) : TT := fun σ H Q => t σ H fun c H1 => Q (!c) H1
theorem pw_or1 (ha : PT X a tA) : PW X (.BoolOp .Or [a] pos) tA := by
  intro wh pins s σ H Q I h
  refine isTrue_or (thn (ha pins s σ H Q I h) fun c s1 e => ?_)
  cases c with
  | false => exact isTrue_or_nil e
  | true => exact e
theorem pw_or (ha : PT X a tA) (hb : PW X (.BoolOp .Or (b :: rest) pos) tB') : PW X (.BoolOp .Or (a :: b :: rest) pos) (tOr tA tB') := by
  intro wh pins s σ H Q I h
  refine isTrue_or (thn (ha pins s σ H _ I h) fun c s1 ⟨H1, I1, q1⟩ => ?_)
  cases c with
  | true => exact ⟨H1, I1, q1⟩
  | false => exact hb wh pins s1 σ H1 Q I1 q1
theorem pt_not (ha : PT X a tA) : PT X (.UnaryOp .Not a pos) (tNot tA) := by
  intro pins s σ H Q I h
  exact isTrue_not (ha pins s σ H (fun c H1 => Q (!c) H1) I h)
def tAndV (ta tb : TE) : TE := fun σ H Q => ta σ H fun x H1 => ∃ c, x = .bl c ∧ if c = true then tb σ H1 Q else Q (.bl false) H1
def tOrV (ta tb : TE) : TE := fun σ H Q => ta σ H fun x H1 => ∃ c, x = .bl c ∧ if c = true then Q (.bl true) H1 else tb σ H1 Q
theorem pe_one {op} {t : TE} (h : PE X a t) : PE X (.BoolOp op [a] pos) t := fun pins s σ H Q I hw => BoolOp_one (h pins s σ H Q I hw)
theorem pe_and (ha : PE X a ta) (hb : PE X (.BoolOp .And (b :: rest) pos) tb) : PE X (.BoolOp .And (a :: b :: rest) pos) (tAndV ta tb) := by
  intro pins s σ H Q I h
  refine BoolOp_and (thn (ha pins s σ H _ I h) fun v s1 ⟨x, H1, I1, r1, q1⟩ => ?_)
  obtain ⟨c, rfl, q1⟩ := q1
  cases r1
  refine wpAny_truthy_bool ?_
  cases c with
  | true => exact hb pins s1 σ H1 Q I1 q1
  | false => exact ⟨.bl false, H1, I1, rfl, q1⟩
theorem pe_or (ha : PE X a ta) (hb : PE X (.BoolOp .Or (b :: rest) pos) tb) : PE X (.BoolOp .Or (a :: b :: rest) pos) (tOrV ta tb) := by
  intro pins s σ H Q I h
  refine BoolOp_or (thn (ha pins s σ H _ I h) fun v s1 ⟨x, H1, I1, r1, q1⟩ => ?_)
  obtain ⟨c, rfl, q1⟩ := q1
  cases r1
  refine wpAny_truthy_bool ?_
  cases c with
  | false => exact hb pins s1 σ H1 Q I1 q1
  | true => exact ⟨.bl true, H1, I1, rfl, q1⟩
def tIf (t : TT) (ta tb : TE) : TE := fun σ H Q => t σ H fun c H1 => if c = true then ta σ H1 Q else tb σ H1 Q
theorem pe_ifExp {c : Expr} (hc : PT X c tA) (ha : PE X a ta) (hb : PE X b tb) : PE X (.IfExp c a b pos) (tIf tA ta tb) := by
  intro pins s σ H Q I h
  refine wpAny_IfExp (thn (hc pins s σ H _ I h) fun d s1 ⟨H1, I1, q1⟩ => ?_)
  cases d with
  | true => exact ha pins s1 σ H1 Q I1 q1
  | false => exact hb pins s1 σ H1 Q I1 q1
end
end L2
namespace L2
open PySem PySem.Spec PyProof.Rows
def SqL (K : PySem.W.Frag) (H : Hp) (a : Addr) (xs : List V) : Prop :=
  Rd H a (.lst xs) ∨
    ∃ (o : Obj) (its : Array Value) (n : Nat), K.lookup a = some o ∧ o.cls = .type "list" ∧ o.dict = none ∧ o.data = .seq its n ∧ its.size ≤ sizeLine ∧ Vals xs its.toList
def SqT (K : PySem.W.Frag) (H : Hp) (a : Addr) (xs : List V) : Prop :=
  Rd H a (.tup xs) ∨
    ∃ (o : Obj) (its : Array Value) (n : Nat), K.lookup a = some o ∧ o.cls = .type "tuple" ∧ o.data = .seq its n ∧ its.size ≤ sizeLine ∧ Vals xs its.toList
def absV : Value → Option V
  | .none => some .non
  | .bool b => some (.bl b)
  | .int i _ => some (.int i)
  | .str x _ => some (.str x)
  | .bytes b _ => some (.byt b)
  | .float b _ => some (.flt b)
  | .ref a => some (.ref a)
  | .type n => some (.ty n)
  | _ => none
theorem RelV.abs {x : V} {u : Value} (r : RelV x u) : absV u = some x := by
  cases x with
  | non => cases r; rfl
  | bl _ => cases r; rfl
  | int _ => obtain ⟨t, rfl⟩ := r; rfl
  | str _ => obtain ⟨t, rfl⟩ := r; rfl
  | byt _ => obtain ⟨t, rfl⟩ := r; rfl
  | flt _ => obtain ⟨t, rfl⟩ := r; rfl
  | ref _ => cases r; rfl
  | ty _ => cases r; rfl
theorem RelV.inj {x y : V} {u : Value} (r : RelV x u) (q : RelV y u) : x = y := Option.some.inj (r.abs.symm.trans q.abs)
theorem Vals.inj : ∀ {xs ys : List V} {us : List Value}, Vals xs us → Vals ys us → xs = ys
  | _, _, _, .nil, .nil => rfl
  | _, _, _, .cons r t, .cons r' t' => by rw [r.inj r', Vals.inj t t']
section
variable {X : Cx} {pins : List (Addr × Obj)} {σ : St} {H : Hp} {s : Shared} {a : Addr} {xs ys : List V}
theorem SqL.of {K : PySem.W.Frag} (h : H a = some (.lst xs)) : SqL K H a xs := .inl (.inl h)
theorem SqT.of {K : PySem.W.Frag} (h : H a = some (.tup xs)) : SqT K H a xs := .inl (.inl h)
theorem Inv.list (I : Inv X pins σ H s) (h : SqL X.K H a xs) : ∃ its : List Value, Vals xs its ∧ PlainL s.heap a its.toArray ∧ xs.length ≤ sizeLine := by
  rcases h with h | ⟨o, its, n, hk, hc, hd, hs, hz, r⟩
  · obtain ⟨z, its, n, r, e⟩ := h.ok I.hok
    exact ⟨its, r, ⟨_, n, e, rfl, rfl, rfl⟩, z⟩
  · refine ⟨its.toList, r, ⟨o, n, I.kIn a o hk, hc, hd, by simpa using hs⟩, ?_⟩
    have e := r.length
    simp only [Array.length_toList] at e
    omega
theorem Inv.tuple (I : Inv X pins σ H s) (h : SqT X.K H a xs) : ∃ its : List Value, Vals xs its ∧ IsTup s.heap a its.toArray ∧ xs.length ≤ sizeLine := by
  rcases h with h | ⟨o, its, n, hk, hc, hs, hz, r⟩
  · obtain ⟨z, its, r, p⟩ := h.ok I.hok
    exact ⟨its, r, p, z⟩
  · refine ⟨its.toList, r, ⟨o, I.kIn a o hk, hc, n, by simpa using hs⟩, ?_⟩
    have e := r.length
    simp only [Array.length_toList] at e
    omega
theorem Inv.list_inj (I : Inv X pins σ H s) (h : SqL X.K H a xs) (h' : SqL X.K H a ys) : xs = ys := by
  obtain ⟨its, r, ⟨o, n, e, _, _, d⟩, _⟩ := I.list h
  obtain ⟨its', r', ⟨o', n', e', _, _, d'⟩, _⟩ := I.list h'
  rw [e] at e'; cases e'
  rw [d] at d'
  injection d' with d1 _
  have : its = its' := by simpa using congrArg Array.toList d1
  subst this
  exact r.inj r'
end
abbrev Cx.wish (X : Cx) (E : Value → Shared → Prop) : Cx := { X with xe := E }
abbrev Cx.nox (X : Cx) : Cx := X.wish fun _ _ => False
theorem Cx.Ok.wish {X : Cx} (ok : X.Ok) (E : Value → Shared → Prop) : (X.wish E).Ok :=
  ⟨ok.mod, ok.kind, ok.glob, ok.blt, ok.above, ok.inj, ok.has, ok.cab, ok.hd, ok.frames, ok.stk, ok.exf, ok.bs, ok.bsz, ok.noex, ok.exfs, ok.funs, ok.frf⟩
theorem Cx.Ok.unwish {X : Cx} {E : Value → Shared → Prop} (ok : (X.wish E).Ok) : X.Ok :=
  ⟨ok.mod, ok.kind, ok.glob, ok.blt, ok.above, ok.inj, ok.has, ok.cab, ok.hd, ok.frames, ok.stk, ok.exf, ok.bs, ok.bsz, ok.noex, ok.exfs, ok.funs, ok.frf⟩
section
variable {X : Cx} {pins : List (Addr × Obj)} {σ : St} {H : Hp} {s : Shared} {E : Value → Shared → Prop}
theorem Inv.wish (I : Inv X pins σ H s) (E : Value → Shared → Prop) : Inv (X.wish E) pins σ H s := ⟨I.ok.wish E, I.os, I.bare, I.base, I.loc, I.cell, I.free, I.freeC, I.pin, I.hok, I.len⟩
theorem Inv.unwish (I : Inv (X.wish E) pins σ H s) : Inv X pins σ H s := ⟨I.ok.unwish, I.os, I.bare, I.base, I.loc, I.cell, I.free, I.freeC, I.pin, I.hok, I.len⟩
theorem SP.unwish {D : Ends} {f : Flow} {s' : Shared} (h : SP (X.wish E) pins D f s') : SP X pins D f s' := by
  cases f with
  | next => obtain ⟨σ', H', I, q⟩ := h; exact ⟨σ', H', I.unwish, q⟩
  | brk => obtain ⟨σ', H', I, q⟩ := h; exact ⟨σ', H', I.unwish, q⟩
  | cont => obtain ⟨σ', H', I, q⟩ := h; exact ⟨σ', H', I.unwish, q⟩
  | ret u => obtain ⟨v, σ', H', I, r, q⟩ := h; exact ⟨v, σ', H', I.unwish, r, q⟩
theorem PSs.nox {st : List Stmt} {t : TS} (h : PSs X.nox st t) : PSs X st t := fun pins s σ H D I hw =>
  wpAny_mono (h pins s σ H D (I.wish _) hw) (fun _ _ q => q.unwish) fun _ _ z => False.elim z
end
section
variable {X : Cx} {st : Stmt} {rest : List Stmt} {t u : TS} {e : Expr} {te : TE} {pos : Pos}
def tNext : TS := fun D σ H => D.nx σ H
def tSeq (t u : TS) : TS := fun D σ H => t { D with nx := u D } σ H
theorem pss_nil : PSs X [] tNext := fun _ _ σ H _ I h => wpAny_execs_nil ⟨σ, H, I, h⟩
theorem pss_cons (h1 : PS X st t) (h2 : PSs X rest u) : PSs X (st :: rest) (tSeq t u) := by
  intro pins s σ H D I h
  refine wpAny_execs_cons (thn (h1 pins s σ H { D with nx := u D } I h) fun f s1 q => ?_)
  cases f with
  | next =>
    obtain ⟨σ', H', I', q⟩ := q
    exact h2 pins s1 σ' H' D I' q
  | ret v => exact q
  | brk => exact q
  | cont => exact q
theorem pss_one (h1 : PS X st t) : PSs X [st] t := by
  intro pins s σ H D I h
  refine wpAny_execs_cons (thn (h1 pins s σ H D I h) fun f s1 q => ?_)
  cases f with
  | next => exact wpAny_execs_nil q
  | ret v => exact q
  | brk => exact q
  | cont => exact q
def tBreak : TS := fun D σ H => D.bk σ H
theorem ps_break : PS X (.Break pos) tBreak := fun _ _ σ H _ I h => wpAny_Break ⟨σ, H, I, h⟩
theorem Inv.quiet {pins : List (Addr × Obj)} {σ : St} {H : Hp} {s : Shared} (I : Inv X pins σ H s) : interactive X.env = false := by simp [interactive, I.ok.kind]
def tDrop (te : TE) : TS := fun D σ H => te σ H fun _ H1 => D.nx σ H1
theorem ps_expr (he : PE X e te) (hs : swapsWith e none pos.line X.env = pure false := by rfl) : PS X (.Expr e pos) (tDrop te) := by
  intro pins s σ H D I h
  exact wpAny_Expr_any (thn (he pins s σ H _ I h) fun v s1 ⟨x, H1, I1, r1, q1⟩ => ⟨σ, H1, I1, q1⟩) I.quiet hs
def tRet (te : TE) : TS := fun D σ H => te σ H D.rt
theorem ps_ret (he : PE X e te) : PS X (.Return (some e) pos) (tRet te) := by
  intro pins s σ H D I h
  exact wpAny_Return_some (thn (he pins s σ H _ I h) fun v s1 ⟨x, H1, I1, r1, q1⟩ => ⟨x, σ, H1, I1, r1, q1⟩)
def tRetN : TS := fun D _ H => D.rt .non H
theorem ps_retN : PS X (.Return none pos) tRetN := fun _ _ σ H _ I h => wpAny_Return_none ⟨.non, σ, H, I, rfl, h⟩
def tIfS (c : TT) (t u : TS) : TS := fun D σ H => c σ H fun b H1 => if b = true then t D σ H1 else u D σ H1
theorem ps_if {c : Expr} {a b : List Stmt} {tc : TT} (hc : PT X c tc) (ha : PSs X a t) (hb : PSs X b u) : PS X (.If c a b pos) (tIfS tc t u) := by
  intro pins s σ H D I h
  refine wpAny_If (thn (hc pins s σ H _ I h) fun d s1 ⟨H1, I1, q1⟩ => ?_)
  cases d with
  | true => exact ha pins s1 σ H1 D I1 q1
  | false => exact hb pins s1 σ H1 D I1 q1
end
abbrev TG := V → St → Hp → (St → Hp → Prop) → Prop
abbrev TGs := List V → St → Hp → (St → Hp → Prop) → Prop
def PG (X : Cx) (target : Expr) (t : TG) : Prop :=
  ∀ (pins : List (Addr × Obj)) (s : Shared) (σ : St) (H : Hp) (v : V) (u : Value) (Q : St → Hp → Prop), Inv X pins σ H s → RelV v u → t v σ H Q →
    wpAny (model X.prog X.w) X.A (assign target X.env u) (fun _ s' => ∃ σ' H', Inv X pins σ' H' s' ∧ Q σ' H') X.xe s
def PGs (X : Cx) (ts : List Expr) (t : TGs) : Prop :=
  ∀ (pins : List (Addr × Obj)) (s : Shared) (σ : St) (H : Hp) (vs : List V) (us : List Value) (Q : St → Hp → Prop), Inv X pins σ H s → Vals vs us → t vs σ H Q →
    wpAny (model X.prog X.w) X.A (assignInOrder ((assignEach ts X.env).map (·.2)) us) (fun _ s' => ∃ σ' H', Inv X pins σ' H' s' ∧ Q σ' H') X.xe s
abbrev TSet := V → V → V → Hp → (Hp → Prop) → Prop
def PSet (X : Cx) (t : TSet) : Prop :=
  ∀ (pins : List (Addr × Obj)) (s : Shared) (σ : St) (H : Hp) (o i v : V) (ov iv u : Value) (Q : Hp → Prop), Inv X pins σ H s → RelV o ov → RelV i iv → RelV v u → t o i v H Q →
    wpAny (model X.prog X.w) X.A (setItem ov iv u) (fun _ s' => ∃ H', Inv X pins σ H' s' ∧ Q H') X.xe s
abbrev TIp := V → V → Hp → VK → Prop
def PIp (X : Cx) (op : Operator) (t : TIp) : Prop :=
  ∀ (pins : List (Addr × Obj)) (s : Shared) (σ : St) (H : Hp) (x y : V) (v u : Value) (Q : VK), Inv X pins σ H s → RelV x v → RelV y u → t x y H Q →
    wpAny (model X.prog X.w) X.A (inplaceOp op v u) (EP X pins σ Q) X.xe s
section
variable {X : Cx} {pos : Pos}
def gName (i : Nat) : TG := fun v σ H Q => Q (σ.set i (some v)) H
theorem pg_name {i : Nat} {x : Str} (hN : X.N.Nodup) (hi : X.N[i]? = some x) (hx : Loc X.env.scope x) (hf : X.fn x = true ∨ X.env.scope.names.lookup x = some .local := by first | exact .inl rfl | exact .inr rfl | assumption) : PG X (.Name x pos) (gName i) := by
  intro pins s σ H v u Q I r h
  exact wpAny_assign_Name (store_ok I hN hi hx r (fun s' I' => ⟨_, H, I', h⟩) hf)
def gNil : TGs := fun vs σ H Q => vs = [] ∧ Q σ H
def gCons (t : TG) (u : TGs) : TGs := fun vs σ H Q => ∃ v r, vs = v :: r ∧ t v σ H fun σ' H' => u r σ' H' Q
theorem pgs_nil : PGs X [] gNil := by
  intro pins s σ H vs us Q I r h
  obtain ⟨e, h⟩ := h
  subst e
  cases r
  exact assignInOrder_nil ⟨σ, H, I, h⟩
theorem pgs_cons {e : Expr} {es : List Expr} {t : TG} {u : TGs} (h1 : PG X e t) (h2 : PGs X es u)
    (hs : (assignEach (e :: es) X.env).map (·.2) = assign e X.env :: (assignEach es X.env).map (·.2) := by rfl) : PGs X (e :: es) (gCons t u) := by
  intro pins s σ H vs us Q I r h
  obtain ⟨v, vr, e1, h⟩ := h
  subst e1
  cases r with
  | cons r rr =>
    rw [hs]
    refine assignInOrder_cons (thn (h1 pins s σ H _ _ _ I r h) fun _ s1 ⟨σ1, H1, I1, q1⟩ => ?_)
    exact h2 pins s1 σ1 H1 _ _ Q I1 rr q1
def gTup (K : PySem.W.Frag) (n : Nat) (t : TGs) : TG := fun v σ H Q => ∃ a xs, v = .ref a ∧ SqT K H a xs ∧ xs.length = n ∧ t xs σ H Q
theorem pg_tup {es : List Expr} {k : Nat} {t : TGs} {n : Nat} (hc : X.calm = true) (h : PGs X es t)
    (hn : (assignEach es X.env).length = n := by rfl) (hst : (assignEach es X.env).findIdx? (·.1) = none := by rfl) : PG X (.Tuple es k pos) (gTup X.K n t) := by
  intro pins s σ H v u Q I r hw
  obtain ⟨a, xs, e1, hq, hl, hw⟩ := hw
  subst e1
  cases r
  obtain ⟨its, rv, ht, hz⟩ := I.tuple hq
  refine assign_Tuple_tuple (I.ok.hd hc) ht (by simp [hn, ← hl, rv.length]) hst fun h' hx => ?_
  have I1 : Inv X pins σ H { s with heap := h' } := I.kept (t' := s.toks) fun b o e => hx b o (Nat.ne_of_lt (Heap.lt_size e)) e
  exact h pins _ σ H xs _ Q I1 (by simpa using rv) hw
def gSub (to ti : TE) (t : TSet) : TG := fun v σ H Q => to σ H fun o H1 => ti σ H1 fun i H2 => t o i v H2 fun H3 => Q σ H3
theorem pg_sub {o i : Expr} {to ti : TE} {t : TSet} (ho : PE X o to) (hi : PE X i ti) (hs : PSet X t)
    (ha : ∀ v, assign (.Subscript o i pos) X.env v = (do
      let ov ← holding [v] (eval o X.env)
      let iv ← holding [v, ov] (eval i X.env)
      standAt pos
      holding [v, ov, iv] (setItem ov iv v)
      release [v, ov, iv] []) := by intro _; rfl) : PG X (.Subscript o i pos) (gSub to ti t) := by
  intro pins s σ H v u Q I r h
  rw [ha]
  refine wpAny_bind (wpAny_holding (thn (ho pins s σ H _ I h) fun ov s1 ⟨x, H1, I1, r1, q1⟩ => ?_))
  refine wpAny_bind (wpAny_holding (thn (hi pins s1 σ H1 _ I1 q1) fun iv s2 ⟨y, H2, I2, r2, q2⟩ => ?_))
  refine wpAny_bind (wpAny_standAt (wpAny_bind (wpAny_holding (thn (hs pins s2 σ H2 x y v ov iv u _ I2 r1 r2 r q2) fun _ s3 ⟨H3, I3, q3⟩ => ?_))))
  exact wpAny_release ⟨σ, H3, I3, q3⟩
def tAsg (te : TE) (g : TG) : TS := fun D σ H => te σ H fun x H1 => g x σ H1 D.nx
theorem ps_asg {tg e : Expr} {te : TE} {g : TG} (he : PE X e te) (hg : PG X tg g) (hs : swapsWithSole [tg] e pos.line X.env = pure false := by rfl) (hw : swappedStores [tg] e X.env = pure none := by rfl)
    (h1 : (assignEach [tg] X.env).map (·.2) = [assign tg X.env] := by rfl) : PS X (.Assign [tg] e pos) (tAsg te g) := by
  intro pins s σ H D I h
  refine wpAny_Assign_stores (thn (he pins s σ H _ I h) fun v s1 ⟨x, H1, I1, r1, q1⟩ => ?_) hs hw
  rw [h1]
  exact thn (hg pins s1 σ H1 x v _ I1 r1 q1) fun _ s2 q => q
theorem ps_set {i : Nat} {x : Str} {e : Expr} {te : TE} {pos' : Pos} (hN : X.N.Nodup) (hi : X.N[i]? = some x) (hx : Loc X.env.scope x) (he : PE X e te) (hs : swapsWith e (some (.Name x pos')) pos.line X.env = pure false := by rfl) (hf : X.fn x = true ∨ X.env.scope.names.lookup x = some .local := by first | exact .inl rfl | exact .inr rfl | assumption) :
    PS X (.Assign [.Name x pos'] e pos) (tAsg te (gName i)) := by
  intro pins s σ H D I h
  refine wpAny_Assign_Name (thn (he pins s σ H _ I h) fun v s1 ⟨y, H1, I1, r1, q1⟩ => ?_) hs
  exact store_ok I1 hN hi hx r1 (fun s2 I2 => ⟨_, H1, I2, q1⟩) hf
def tAug (i : Nat) (te : TE) (ti : TIp) : TS := fun D σ H => ∃ x, σ[i]? = some (some x) ∧ te σ H fun y H1 => ti x y H1 fun z H2 => D.nx (σ.set i (some z)) H2
theorem ps_aug {i : Nat} {x : Str} {e : Expr} {te : TE} {op : Operator} {ti : TIp} {pos' : Pos} (hN : X.N.Nodup) (hi : X.N[i]? = some x) (hx : Loc X.env.scope x) (he : PE X e te) (ho : PIp X op ti) (hf : X.fn x = true ∨ X.env.scope.names.lookup x = some .local := by first | exact .inl rfl | exact .inr rfl | assumption) :
    PS X (.AugAssign (.Name x pos') op e pos) (tAug i te ti) := by
  intro pins s σ H D I h
  obtain ⟨v, e1, h⟩ := h
  obtain ⟨m, hn, hl⟩ := I.loc
  have vis : Vis X.env.scope x := by rcases hx with k | k; exact .inl k; exact .inr (.inl k)
  obtain ⟨u, r, l⟩ := hl i x v hi e1 vis
  refine wpAny_AugAssign_Name ?_
  have go : wpAny (model X.prog X.w) X.A (eval e X.env) (fun w s₂ => wpAny (model X.prog X.w) X.A (inplaceOp op u w) (fun r s₃ => wpAny (model X.prog X.w) X.A (storeName X.env x r) (fun _ => SP X pins D .next) X.xe s₃) X.xe s₂) X.xe s := by
    refine thn (he pins s σ H _ I h) fun w s1 ⟨y, H1, I1, r1, q1⟩ => ?_
    refine thn (ho pins s1 σ H1 v y u w _ I1 r r1 q1) fun z s2 ⟨zv, H2, I2, r2, q2⟩ => ?_
    exact store_ok I2 hN hi hx r2 (fun s3 I3 => ⟨_, H2, I3, q2⟩) hf
  rcases l with ⟨hk, hm⟩ | ⟨hk, c, hc, hcell⟩
  · exact wpAny_loadName_local I.ok.kind hk hn hm go
  · rcases hk with hk | hk
    · exact wpAny_loadName_cell I.ok.kind hk hc hcell go
    · rcases hx with k | k
      · have : X.env.scope.names.lookup x = some .free := hk
        rw [k] at this; cases this
      · have : X.env.scope.names.lookup x = some .free := hk
        rw [k] at this; cases this
def tAugS (to ti te : TE) (tget : V → V → Hp → VK → Prop) (tip : TIp) (tset : TSet) : TS := fun D σ H => to σ H fun o H1 => ti σ H1 fun i H2 => tget o i H2 fun x H3 => te σ H3 fun y H4 => tip x y H4 fun z H5 => tset o i z H5 fun H6 => D.nx σ H6
def PGet (X : Cx) (t : V → V → Hp → VK → Prop) : Prop :=
  ∀ (pins : List (Addr × Obj)) (s : Shared) (σ : St) (H : Hp) (o i : V) (ov iv : Value) (Q : VK), Inv X pins σ H s → RelV o ov → RelV i iv → t o i H Q →
    wpAny (model X.prog X.w) X.A (getItem ov iv) (EP X pins σ Q) X.xe s
theorem ps_augS {o i e : Expr} {to ti te : TE} {tget : V → V → Hp → VK → Prop} {tip : TIp} {tset : TSet} {op : Operator} {tpos : Pos} (ho : PE X o to) (hi : PE X i ti) (hg : PGet X tget) (he : PE X e te) (hp : PIp X op tip) (hs : PSet X tset)
    (ha : ∀ ov iv new, augStore i ov iv new = (do holding [new, ov, iv] (setItem ov iv new); release [new, ov, iv] []; pure .next) := by intros; rfl) : PS X (.AugAssign (.Subscript o i tpos) op e pos) (tAugS to ti te tget tip tset) := by
  intro pins s σ H D I h
  refine wpAny_AugAssign_SubscriptAny (thn (ho pins s σ H _ I h) fun ov s1 ⟨x1, H1, I1, r1, q1⟩ => ?_) ha
  refine thn (hi pins s1 σ H1 _ I1 q1) fun iv s2 ⟨x2, H2, I2, r2, q2⟩ => ?_
  refine thn (hg pins s2 σ H2 x1 x2 ov iv _ I2 r1 r2 q2) fun old s3 ⟨x3, H3, I3, r3, q3⟩ => ?_
  refine thn (he pins s3 σ H3 _ I3 q3) fun v s4 ⟨x4, H4, I4, r4, q4⟩ => ?_
  refine thn (hp pins s4 σ H4 x3 x4 old v _ I4 r3 r4 q4) fun new s5 ⟨x5, H5, I5, r5, q5⟩ => ?_
  exact thn (hs pins s5 σ H5 x1 x2 x5 ov iv new _ I5 r1 r2 r5 q5) fun _ s6 ⟨H6, I6, q6⟩ => ⟨σ, H6, I6, q6⟩
def ipI (f : Int → Int → Int) : TIp := fun x y H Q => ∃ i j, x = .int i ∧ y = .int j ∧ Q (.int (f i j)) H
theorem ip_add : PIp X .Add (ipI fun i j => i + j) := by
  intro pins s σ H x y v u Q I r1 r2 h
  obtain ⟨i, j, e1, e2, q⟩ := h
  subst e1; subst e2
  obtain ⟨t, rfl⟩ := r1
  obtain ⟨t', rfl⟩ := r2
  exact iadd_int ⟨.int _, H, I.tok _, ⟨_, rfl⟩, q⟩
end
section
variable {X : Cx} {pos : Pos}
def tWhile (c : TT) (tb : TS) : TS := fun D σ H => ∃ W : Nat → St → Hp → Prop, (∃ m, W m σ H) ∧ ∀ m σ H, W m σ H →
  c σ H fun b H1 => if b = true then ∃ N : St → Hp → Prop, (∀ σ' H', N σ' H' → ∃ m', m' < m ∧ W m' σ' H') ∧ tb { D with nx := N, ct := N, bk := D.nx } σ H1 else D.nx σ H1
theorem ps_while {c : Expr} {body : List Stmt} {tc : TT} {tb : TS} (hp : PassesOwn (model X.prog X.w) X.A X.env X.xe) (hc : PT X c tc) (hb : PSs X body tb) : PS X (.While c body [] pos) (tWhile tc tb) := by
  intro pins s σ H D I h
  obtain ⟨W, ⟨m0, w0⟩, turn⟩ := h
  refine wpAny_While (codeAny_whileLoop (fun n s' => ∃ σ' H', Inv X pins σ' H' s' ∧ W n σ' H') ?_ m0 ⟨σ, H, I, w0⟩)
  rintro n s1 ⟨σ1, H1, I1, w1⟩
  refine wpAny_passesOwn hp (thn (hc pins s1 σ1 H1 _ I1 (turn n σ1 H1 w1)) fun b s2 ⟨H2, I2, q2⟩ => ?_)
  cases b with
  | true =>
    obtain ⟨N, hN, q2⟩ := q2
    rw [if_pos rfl]
    refine wpAny_passesOwn hp (thn (hb pins s2 σ1 H2 _ I2 q2) fun f s3 q3 => ?_)
    cases f with
    | next =>
      obtain ⟨σ3, H3, I3, n3⟩ := q3
      obtain ⟨m', hm, w3⟩ := hN σ3 H3 n3
      exact ⟨m', hm, σ3, H3, I3, w3⟩
    | cont =>
      obtain ⟨σ3, H3, I3, n3⟩ := q3
      obtain ⟨m', hm, w3⟩ := hN σ3 H3 n3
      exact ⟨m', hm, σ3, H3, I3, w3⟩
    | brk => exact q3
    | ret v => exact q3
  | false =>
    rw [if_neg Bool.false_ne_true]
    exact wpAny_execs_nil ⟨σ1, H2, I2, q2⟩
end
structure It where
  go : Nat → Hp → Prop
  yld : Nat → Hp → V → Hp → Prop
  stop : Nat → Hp → Prop
def FpOk (X : Cx) (pins : List (Addr × Obj)) (H : Hp) (b : Addr) : Prop :=
  H b = none ∧ b ≠ X.env.locals ∧ b ∉ X.fs ∧ (b ∈ X.ex ∨ X.s_0.heap.objs.size ≤ b) ∧ (∀ x c, X.env.cells.lookup x = some c → c ≠ b) ∧ ∀ p ∈ X.pn ++ pins, p.1 ≠ b
theorem Inv.fpOk {X : Cx} {pins : List (Addr × Obj)} {σ : St} {H H' : Hp} {s : Shared} {b : Addr} (I : Inv X pins σ H s) (hb : s.heap.objs.size ≤ b) (hn : H' b = none) : FpOk X pins H' b := by
  refine ⟨hn, Nat.ne_of_gt (Nat.lt_of_lt_of_le I.lt hb), I.nofs hb, .inr (Nat.le_trans I.sz hb), fun x c e z => ?_, fun p hp z => ?_⟩
  · obtain ⟨v, q⟩ := I.cell x c e
    exact absurd (Nat.lt_of_lt_of_le q.lt (by rw [z]; exact hb)) (Nat.lt_irrefl _)
  · exact absurd (Nat.lt_of_lt_of_le (Heap.lt_size (I.pin p hp).1) (by rw [z]; exact hb)) (Nat.lt_irrefl _)
structure Turn (P : Program) (w : World) (K : PySem.W.Frag) (tg : Expr) (J : It) (fp : List Addr) (it : Addr) (tn : Nat → Heap → Prop) : Prop where
  mem : it ∈ fp
  obj : ∀ i h, tn i h → ∀ b ∈ fp, ∃ o, h.get? b = some o ∧ ∀ v, o.data ≠ .cell v
  keep : ∀ i h h', tn i h → (∀ b ∈ fp, ∀ o, h.get? b = some o → h'.get? b = some o) → tn i h'
  item : ∀ (X : Cx), X.prog = P → X.w = w → X.K = K → X.calm = true → ∀ (i : Nat) (pins : List (Addr × Obj)) (s : Shared) (σ : St) (H : Hp) (E : Value → Shared → Prop), Inv X pins σ H s → (∀ b ∈ fp, FpOk X pins H b) → tn i s.heap → J.go i H →
    wpAny (model P w) X.A (pyNext (.ref it)) (fun r s1 => ∃ u, r = some u ∧
      wpAny (model P w) X.A (letOwnedTupleGo tg (.ref it) u) (fun _ s2 => ∃ x H', Inv X pins σ H' s2 ∧ RelV x u ∧ J.yld i H x H' ∧ tn (i + 1) s2.heap ∧ ∀ b ∈ fp, H' b = none) E s1) E s
  done : ∀ (X : Cx), X.prog = P → X.w = w → X.K = K → X.calm = true → ∀ (i : Nat) (pins : List (Addr × Obj)) (s : Shared) (σ : St) (H : Hp) (E : Value → Shared → Prop), Inv X pins σ H s → (∀ b ∈ fp, FpOk X pins H b) → tn i s.heap → J.stop i H →
    wpAny (model P w) X.A (pyNext (.ref it)) (fun r s1 => r = none ∧ Inv X pins σ H s1) E s
  self : ∀ (A : Around) (i : Nat) (s : Shared) (Q : Value → Shared → Prop) (E : Value → Shared → Prop), tn i s.heap → Q (.ref it) s → wpAny (model P w) A (pyIter (.ref it)) Q E s
abbrev TI := St → Hp → (It → Hp → Prop) → Prop
def PIE (X : Cx) (pins : List (Addr × Obj)) (σ : St) (tg : Expr) (R : It → Hp → Prop) (itv : Value) (s2 : Shared) : Prop :=
  ∃ (it : Addr) (fp : List Addr) (tn : Nat → Heap → Prop) (J : It) (H' : Hp), itv = .ref it ∧ Inv X pins σ H' s2 ∧ Turn X.prog X.w X.K tg J fp it tn ∧ tn 0 s2.heap ∧ (∀ b ∈ fp, FpOk X pins H' b) ∧ R J H'
def PI (X : Cx) (tg iter : Expr) (wi : TI) : Prop :=
  ∀ (pins : List (Addr × Obj)) (s : Shared) (σ : St) (H : Hp) (R : It → Hp → Prop), Inv X pins σ H s → wi σ H R →
    wpAny (model X.prog X.w) X.A (eval iter X.env) (fun v s1 => wpAny (model X.prog X.w) X.A (pyIter v) (PIE X pins σ tg R) X.xe s1) X.xe s
theorem go_of {M : Model} {A : Around} {E : Value → Shared → Prop} {s : Shared} {tg : Expr} {it : Addr} {u : Value} {o : Obj} {n : String} {vs : Array Value} {Q : Unit → Shared → Prop} (ho : s.heap.get? it = some o) (hc : o.cls = .type n) (hd : o.data = .fields vs)
    (hn : ["enumerate", "zip", "dict_itemiterator", "dict_reverseitemiterator", "odict_iterator", "itertools.zip_longest", "itertools.pairwise"].contains n = false) (hQ : Q () s) : wpAny M A (letOwnedTupleGo tg (.ref it) u) Q E s := by
  unfold letOwnedTupleGo
  cases tg <;> first
    | exact wpAny_pure hQ
    | (cases u <;> first
        | exact wpAny_pure hQ
        | (refine wpAny_bind (wpAny_load ho ?_)
           rw [hc, hd]
           show wpAny M A (if (["enumerate", "zip", "dict_itemiterator", "dict_reverseitemiterator", "odict_iterator", "itertools.zip_longest", "itertools.pairwise"].contains n && vs[0]? == some (rawInt _)) = true then _ else _) Q E s
           rw [if_neg (by intro h; rw [hn, Bool.false_and] at h; cases h)]
           exact wpAny_pure hQ))
def Itl (K : PySem.W.Frag) (a : Addr) : It :=
  ⟨fun i H => ∃ xs x, SqL K H a xs ∧ xs[i]? = some x, fun i H x H' => H' = H ∧ ∀ xs, SqL K H a xs → xs[i]? = some x, fun i H => ∃ xs, SqL K H a xs ∧ xs.length ≤ i⟩
def Itr (lo : Int) (n : Nat) : It := ⟨fun i _ => i < n, fun i H x H' => H' = H ∧ x = .int (lo + i), fun i _ => n ≤ i⟩
theorem turn_list {P : Program} {w : World} {K : PySem.W.Frag} {tg : Expr} (a it : Addr) : Turn P w K tg (Itl K a) [it] it (fun i h => h.IsListIter it a i) where
  mem := by simp
  obj := fun i h st b hb => by
    have e : b = it := by simpa using hb
    subst e
    obtain ⟨o, e, c, d⟩ := st
    exact ⟨o, e, fun v z => by rw [d] at z; cases z⟩
  keep := fun i h h' st k => st.at fun o e => k it (by simp) o e
  item := by
    intro X hP hw hK hc i pins s σ H E I hf st hg
    subst hP hw hK
    obtain ⟨xs, x, hq, hx⟩ := hg
    obtain ⟨its, rv, p, hz⟩ := I.list hq
    obtain ⟨u, hu, ru⟩ := rv.get hx
    obtain ⟨f0, f1, f2, f3, f4, f5⟩ := hf it (by simp)
    refine wpAny_pyNext_list_item st p.isList (x := u) (by simpa using hu) fun h' st' sb => ?_
    have I1 : Inv X pins σ H { s with heap := h' } := I.turned (t' := s.toks) (fun b o hb e => (sb.2 b hb).trans e) f0 f1 f3 f4 f5
    obtain ⟨o, e, c, d⟩ := id st'
    exact ⟨u, rfl, go_of (s := { s with heap := h' }) e c d (by decide) ⟨x, H, I1, ru, ⟨rfl, fun ys hy => by rw [I.list_inj hy hq]; exact hx⟩, st', fun b hb => (hf b hb).1⟩⟩
  done := by
    intro X hP hw hK hc i pins s σ H E I hf st hg
    subst hP hw hK
    obtain ⟨xs, hq, hx⟩ := hg
    obtain ⟨its, rv, p, hz⟩ := I.list hq
    obtain ⟨f0, f1, f2, f3, f4, f5⟩ := hf it (by simp)
    have hl := rv.length
    exact wpAny_pyNext_list_end (I.ok.hd hc) st p.isList (by simp; omega) fun h' eb => ⟨rfl, I.turned (t' := s.toks) (fun b o hb e => eb b o hb e) f0 f1 f3 f4 f5⟩
  self := fun _ _ _ _ _ st h => wpAny_pyIter_listiter st h
theorem turn_range {P : Program} {w : World} {K : PySem.W.Frag} {tg : Expr} (it : Addr) (lo : Int) (n : Nat) : Turn P w K tg (Itr lo n) [it] it (fun i h => IsRangeIter h it (lo + (i : Nat) * 1) ((n : Int) - (i : Nat)) 1) where
  mem := by simp
  obj := fun i h st b hb => by
    have e : b = it := by simpa using hb
    subst e
    exact ⟨_, st, fun v z => by
      have z' : Data.fields _ = Data.cell v := z
      cases z'⟩
  keep := fun i h h' st k => k it (by simp) _ st
  item := by
    intro X hP hw hK hc i pins s σ H E I hf st hg
    subst hP hw hK
    obtain ⟨f0, f1, f2, f3, f4, f5⟩ := hf it (by simp)
    have W := Walks.range (prog := X.prog) (w := X.w) (I.ok.hd hc) it lo 1 n
    refine W.item i s _ _ hg st fun v h' tk hv st' kk => ?_
    obtain ⟨t, rfl⟩ := hv
    have I1 : Inv X pins σ H { s with heap := h', toks := tk } := I.turned (fun b o hb e => kk b o (by simpa using hb) e) f0 f1 f3 f4 f5
    refine ⟨_, rfl, go_of (s := { s with heap := h', toks := tk }) (n := "range_iterator") st' rfl rfl (by decide) ⟨.int (lo + i), H, I1, ⟨t, ?_⟩, ⟨rfl, rfl⟩, st', fun b hb => (hf b hb).1⟩⟩
    rw [Int.mul_one]
  done := by
    intro X hP hw hK hc i pins s σ H E I hf st hg
    subst hP hw hK
    obtain ⟨f0, f1, f2, f3, f4, f5⟩ := hf it (by simp)
    exact wpAny_pyNext_range_end (I.ok.hd hc) st (by have : n ≤ i := hg; omega) fun h' eb => ⟨rfl, I.turned (t' := s.toks) (fun b o hb e => eb b o hb e) f0 f1 f3 f4 f5⟩
  self := fun _ _ _ _ _ st h => wpAny_pyIter_rangeiter st h
end L2
namespace L2
open PySem PySem.Spec PyProof.Rows
section
variable {X : Cx} {tg : Expr}
def iList (K : PySem.W.Frag) (tl : TE) : TI := fun σ H R => tl σ H fun x H1 => ∃ a, x = .ref a ∧ (∃ xs, SqL K H1 a xs) ∧ R (Itl K a) H1
theorem pi_list {l : Expr} {tl : TE} (hl : PE X l tl) : PI X tg l (iList X.K tl) := by
  intro pins s σ H R I h
  refine thn (hl pins s σ H _ I h) fun v s1 ⟨x, H1, I1, r1, q1⟩ => ?_
  obtain ⟨a, e, ⟨xs, hq⟩, q⟩ := q1
  subst e
  cases r1
  obtain ⟨its, rv, p, hz⟩ := I1.list hq
  refine wpAny_pyIter_list p.isList ?_
  refine ⟨s1.heap.objs.size, [s1.heap.objs.size], _, _, H1, rfl, I1.kept (t' := s1.toks) fun b o e => Heap.get?_push_of_some _ e, turn_list a _, ⟨_, Heap.get?_push_size _ rfl, rfl, rfl⟩, fun b hb => ?_, q⟩
  have e : b = s1.heap.objs.size := by simpa using hb
  subst e
  exact I1.fpOk (Nat.le_refl _) (I1.hok.fresh (Nat.le_refl _))
theorem range_it {pins : List (Addr × Obj)} {σ : St} {H : Hp} {s : Shared} {R : It → Hp → Prop} {E : Value → Shared → Prop} {lo hi : Int} {t u v : Tok} {tk : Nat} (I : Inv X pins σ H s) (h1 : -(2 ^ 62) ≤ lo) (h2 : lo < 2 ^ 62) (h3 : -(2 ^ 62) ≤ hi) (h4 : hi < 2 ^ 62)
    (q : R (Itr lo (hi - lo).toNat) H) : wpAny (model X.prog X.w) X.A (pyIter (.ref s.heap.objs.size)) (PIE X pins σ tg R) E { s with heap := s.heap.push { cls := .type "range", data := .fields #[.int lo t, .int hi u, .int 1 v] }, toks := tk } := by
  refine wpAny_pyIter_range (IsRange.new ..) (small_one h1 h2 h3 h4) ?_
  have I1 : Inv X pins σ H { s with heap := s.heap.push { cls := .type "range", data := .fields #[.int lo t, .int hi u, .int 1 v] }, toks := tk } := I.kept fun b o e => Heap.get?_push_of_some _ e
  refine ⟨(s.heap.push { cls := .type "range", data := .fields #[.int lo t, .int hi u, .int 1 v] }).objs.size, [(s.heap.push { cls := .type "range", data := .fields #[.int lo t, .int hi u, .int 1 v] }).objs.size], _, _, H, rfl,
    I1.kept (t' := tk) fun b o e => Heap.get?_push_of_some _ e, turn_range _ lo (hi - lo).toNat, ?_, fun b hb => ?_, q⟩
  · have e1 : lo + ((0 : Nat) : Int) * 1 = lo := by simp
    have e2 : (((hi - lo).toNat : Nat) : Int) - ((0 : Nat) : Int) = Builtin.Range.rangeSize lo hi 1 := by rw [rangeSize_one]; split <;> omega
    show IsRangeIter _ _ (lo + ((0 : Nat) : Int) * 1) ((((hi - lo).toNat : Nat) : Int) - ((0 : Nat) : Int)) 1
    rw [e1, e2]
    exact Heap.get?_push_size _ rfl
  · have e : b = (s.heap.push { cls := .type "range", data := .fields #[.int lo t, .int hi u, .int 1 v] }).objs.size := by simpa using hb
    subst e
    exact I1.fpOk (Nat.le_refl _) (I1.hok.fresh (Nat.le_refl _))
def iRng1 (ta : TA) : TI := fun σ H R => ta σ H fun vs H1 => ∃ j : Int, vs = [.int j] ∧ -(2 ^ 62) ≤ j ∧ j < 2 ^ 62 ∧ R (Itr 0 j.toNat) H1
theorem pi_range1 {a : Expr} {ta : TA} {p pos : Pos} (hg : Gl X "range") (hm : X.mg "range" = none) (ha : PA X [a] ta) (hs : starEach [a] X.env = [(false, eval a X.env)] := by rfl) : PI X tg (.Call (.Name "range" p) [a] [] pos) (iRng1 ta) := by
  intro pins s σ H R I h
  refine Call_ (ld_blt I hg hm boot_range (PyProof.Rows.callWith_type1 (thn (ha pos pins s σ H _ I h) fun us s1 ⟨vs, H1, I1, r1, q1⟩ => ?_) hs rfl))
  obtain ⟨j, e, q1, q2, q⟩ := q1
  subst e
  cases r1 with
  | cons r rr =>
    cases rr
    obtain ⟨t, rfl⟩ := r
    exact call_range_1 (range_it I1 (by omega) (by omega) q1 q2 (by simpa using q))
def tFor (wi : TI) (g : TG) (tb : TS) : TS := fun D σ H => wi σ H fun J H1 => ∃ W : Nat → Nat → St → Hp → Prop, (∃ m, W 0 m σ H1) ∧ ∀ i m σ H, W i m σ H →
  (J.stop i H ∧ D.nx σ H) ∨ (J.go i H ∧ ∃ N : St → Hp → Prop, (∀ σ' H', N σ' H' → ∃ m', m' < m ∧ W (i + 1) m' σ' H') ∧ ∀ x H', J.yld i H x H' → g x σ H' fun σ2 H2 => tb { D with nx := N, ct := N, bk := D.nx } σ2 H2)
def pinsAt (fp : List Addr) (h : Heap) : List (Addr × Obj) := fp.filterMap fun b => (h.get? b).map fun o => (b, o)
theorem mem_pinsAt {fp : List Addr} {h : Heap} {b : Addr} {o : Obj} (hb : b ∈ fp) (e : h.get? b = some o) : (b, o) ∈ pinsAt fp h := List.mem_filterMap.mpr ⟨b, hb, by rw [e]; rfl⟩
theorem of_pinsAt {fp : List Addr} {h : Heap} {p : Addr × Obj} (hp : p ∈ pinsAt fp h) : p.1 ∈ fp ∧ h.get? p.1 = some p.2 := by
  obtain ⟨b, hb, e⟩ := List.mem_filterMap.mp hp
  cases q : h.get? b with
  | none => rw [q] at e; cases e
  | some o =>
    rw [q] at e
    have e' : (b, o) = p := Option.some.inj e
    subst e'
    exact ⟨hb, q⟩
theorem Inv.pinned {pins : List (Addr × Obj)} {σ : St} {H : Hp} {s : Shared} {fp : List Addr} (I : Inv X pins σ H s) (hf : ∀ b ∈ fp, FpOk X pins H b) (ho : ∀ b ∈ fp, ∃ o, s.heap.get? b = some o ∧ ∀ v, o.data ≠ .cell v) : Inv X (pins ++ pinsAt fp s.heap) σ H s :=
  I.pins_of fun p hp => (List.mem_append.mp hp).elim (fun z => I.pin p (List.mem_append_right _ z)) fun z => by
    obtain ⟨hb, e⟩ := of_pinsAt z
    obtain ⟨f0, f1, f2, _⟩ := hf p.1 hb
    obtain ⟨o, e', d⟩ := ho p.1 hb
    rw [e] at e'; cases e'
    exact ⟨e, f0, f1, f2, d⟩
theorem Inv.unpinned {pins pl : List (Addr × Obj)} {σ : St} {H : Hp} {s : Shared} (I : Inv X (pins ++ pl) σ H s) : Inv X pins σ H s := I.pins_of fun p hp => I.pin p (List.mem_append_right _ (List.mem_append_left _ hp))
theorem ps_for {iter : Expr} {body : List Stmt} {wi : TI} {g : TG} {tb : TS} {pos : Pos} (hp : PassesOwn (model X.prog X.w) X.A X.env X.xe) (hc : X.calm = true) (hi : PI X tg iter wi) (hg : PG X tg g) (hb : PSs X body tb)
    (hs : ∀ x, foldedSetIterable iter X.env x = pure x := by intro _; rfl) : PS X (.For tg iter body [] pos) (tFor wi g tb) := by
  intro pins s σ H D I h
  refine wpAny_For (thn (hi pins s σ H _ I h) fun v s1 h1 => thn h1 fun itv s2 h2 => ?_) hs
  obtain ⟨it, fp, tn, J, H2, e, I2, T, st2, f2, W, ⟨m0, w0⟩, turn⟩ := h2
  subst e
  have stat : ∀ {H' : Hp}, (∀ b ∈ fp, H' b = none) → ∀ b ∈ fp, FpOk X pins H' b := fun hn b hb => ⟨hn b hb, (f2 b hb).2⟩
  refine codeAny_forLoop_any (fun n s' => ∃ i σ' H', Inv X pins σ' H' s' ∧ tn i s'.heap ∧ (∀ b ∈ fp, H' b = none) ∧ W i n σ' H') ?_ m0 ⟨0, σ, H2, I2, st2, fun b hb => (f2 b hb).1, w0⟩
  rintro n s3 ⟨i, σ3, H3, I3, st3, fr3, w3⟩
  rcases turn i n σ3 H3 w3 with ⟨stop, qn⟩ | ⟨go, N, hN, step⟩
  · refine wpAny_passesOwn hp (thn (T.done X rfl rfl rfl hc i pins s3 σ3 H3 X.xe I3 (stat fr3) st3 stop) fun r s4 ⟨hr, I4⟩ => ?_)
    subst hr
    exact wpAny_execs_nil ⟨σ3, H3, I4, qn⟩
  · refine wpAny_passesOwn hp (thn (T.item X rfl rfl rfl hc i pins s3 σ3 H3 X.xe I3 (stat fr3) st3 go) fun r s4 ⟨u, hr, h4⟩ => ?_)
    subst hr
    refine wpAny_passesOwn hp (thn h4 fun _ s5 ⟨x, H5, I5, r5, y5, st5, fr5⟩ => ?_)
    have I5' := I5.pinned (stat fr5) (T.obj _ _ st5)
    refine wpAny_passesOwn hp (thn (hg _ s5 σ3 H5 x u _ I5' r5 (step x H5 y5)) fun _ s6 ⟨σ6, H6, I6, q6⟩ => ?_)
    refine wpAny_passesOwn hp (thn (hb _ s6 σ6 H6 _ I6 q6) fun f s7 q7 => ?_)
    have again : ∀ {σ7 : St} {H7 : Hp}, Inv X (pins ++ pinsAt fp s5.heap) σ7 H7 s7 → N σ7 H7 → ∃ m, m < n ∧ ∃ i σ' H', Inv X pins σ' H' s7 ∧ tn i s7.heap ∧ (∀ b ∈ fp, H' b = none) ∧ W i m σ' H' := fun {σ7 H7} I7 n7 => by
      obtain ⟨m', hm, w7⟩ := hN σ7 H7 n7
      refine ⟨m', hm, i + 1, σ7, H7, I7.unpinned, T.keep _ _ _ st5 fun b hb o e => (I7.pin (b, o) (List.mem_append_right _ (List.mem_append_right _ (mem_pinsAt hb e)))).1, fun b hb => ?_, w7⟩
      obtain ⟨o, e, d⟩ := T.obj _ _ st5 b hb
      exact (I7.pin (b, o) (List.mem_append_right _ (List.mem_append_right _ (mem_pinsAt hb e)))).2.1
    cases f with
    | next => obtain ⟨σ7, H7, I7, n7⟩ := q7; exact again I7 n7
    | cont => obtain ⟨σ7, H7, I7, n7⟩ := q7; exact again I7 n7
    | brk => obtain ⟨σ7, H7, I7, q7⟩ := q7; exact ⟨σ7, H7, I7.unpinned, q7⟩
    | ret v => obtain ⟨x7, σ7, H7, I7, r7, q7⟩ := q7; exact ⟨x7, σ7, H7, I7.unpinned, r7, q7⟩
end
theorem for_list {K : PySem.W.Frag} {a : Addr} {xs : List V} {g : TG} {tb : TS} {D : Ends} {σ : St} {H : Hp} (Pv : Nat → St → Hp → Prop) (h0 : Pv 0 σ H) (hl : ∀ i σ H, i ≤ xs.length → Pv i σ H → SqL K H a xs)
    (hs : ∀ i x σ H, xs[i]? = some x → Pv i σ H → g x σ H fun σ2 H2 => tb { D with nx := Pv (i + 1), ct := Pv (i + 1), bk := D.nx } σ2 H2) (hd : ∀ σ H, Pv xs.length σ H → D.nx σ H) :
    ∃ W : Nat → Nat → St → Hp → Prop, (∃ m, W 0 m σ H) ∧ ∀ i m σ H, W i m σ H →
      ((Itl K a).stop i H ∧ D.nx σ H) ∨ ((Itl K a).go i H ∧ ∃ N : St → Hp → Prop, (∀ σ' H', N σ' H' → ∃ m', m' < m ∧ W (i + 1) m' σ' H') ∧ ∀ x H', (Itl K a).yld i H x H' → g x σ H' fun σ2 H2 => tb { D with nx := N, ct := N, bk := D.nx } σ2 H2) := by
  refine ⟨fun i m σ H => m = xs.length - i ∧ i ≤ xs.length ∧ Pv i σ H, ⟨xs.length, by simp, Nat.zero_le _, h0⟩, ?_⟩
  rintro i m σ H ⟨rfl, hi, p⟩
  have q := hl i σ H hi p
  by_cases hlt : i < xs.length
  · refine .inr ⟨⟨xs, xs[i], q, by simp [hlt]⟩, Pv (i + 1), fun σ' H' p' => ⟨xs.length - (i + 1), by omega, rfl, hlt, p'⟩, fun x H' y => ?_⟩
    obtain ⟨e, y⟩ := y
    subst e
    exact hs i x σ _ (y xs q) p
  · have e : i = xs.length := by omega
    subst e
    exact .inl ⟨⟨xs, q, Nat.le_refl _⟩, hd σ H p⟩
theorem for_range {lo : Int} {n : Nat} {g : TG} {tb : TS} {D : Ends} {σ : St} {H : Hp} (Pv : Nat → St → Hp → Prop) (h0 : Pv 0 σ H)
    (hs : ∀ i σ H, i < n → Pv i σ H → g (.int (lo + i)) σ H fun σ2 H2 => tb { D with nx := Pv (i + 1), ct := Pv (i + 1), bk := D.nx } σ2 H2) (hd : ∀ σ H, Pv n σ H → D.nx σ H) :
    ∃ W : Nat → Nat → St → Hp → Prop, (∃ m, W 0 m σ H) ∧ ∀ i m σ H, W i m σ H →
      ((Itr lo n).stop i H ∧ D.nx σ H) ∨ ((Itr lo n).go i H ∧ ∃ N : St → Hp → Prop, (∀ σ' H', N σ' H' → ∃ m', m' < m ∧ W (i + 1) m' σ' H') ∧ ∀ x H', (Itr lo n).yld i H x H' → g x σ H' fun σ2 H2 => tb { D with nx := N, ct := N, bk := D.nx } σ2 H2) := by
  refine ⟨fun i m σ H => m = n - i ∧ i ≤ n ∧ Pv i σ H, ⟨n, by simp, Nat.zero_le _, h0⟩, ?_⟩
  rintro i m σ H ⟨rfl, hi, p⟩
  by_cases hlt : i < n
  · refine .inr ⟨hlt, Pv (i + 1), fun σ' H' p' => ⟨n - (i + 1), by omega, rfl, hlt, p'⟩, fun x H' y => ?_⟩
    obtain ⟨e, y⟩ := y
    subst e y
    exact hs i σ _ hlt p
  · have e : i = n := by omega
    subst e
    exact .inl ⟨Nat.le_refl _, hd σ H p⟩
end L2
namespace L2
open PySem PySem.Spec PyProof.Rows
abbrev R2 := V → V → Hp → VK → Prop
def OpR (X : Cx) (f : Value → Value → Sem Value) (r : R2) : Prop :=
  ∀ (pins : List (Addr × Obj)) (s : Shared) (σ : St) (H : Hp) (x y : V) (v u : Value) (Q : VK), Inv X pins σ H s → RelV x v → RelV y u → r x y H Q →
    wpAny (model X.prog X.w) X.A (f v u) (EP X pins σ Q) X.xe s
def UnR (X : Cx) (f : Value → Sem Value) (r : V → Hp → VK → Prop) : Prop :=
  ∀ (pins : List (Addr × Obj)) (s : Shared) (σ : St) (H : Hp) (x : V) (v : Value) (Q : VK), Inv X pins σ H s → RelV x v → r x H Q →
    wpAny (model X.prog X.w) X.A (f v) (EP X pins σ Q) X.xe s
def CallR (X : Cx) (f : Value) (r : List V → Hp → VK → Prop) : Prop :=
  ∀ (pins : List (Addr × Obj)) (s : Shared) (σ : St) (H : Hp) (xs : List V) (us : List Value) (Q : VK), Inv X pins σ H s → Vals xs us → r xs H Q →
    wpAny (model X.prog X.w) X.A (call f us) (EP X pins σ Q) X.xe s
def tOp (r : R2) (ta tb : TE) : TE := fun σ H Q => ta σ H fun x H1 => tb σ H1 fun y H2 => r x y H2 Q
def tUn (r : V → Hp → VK → Prop) (ta : TE) : TE := fun σ H Q => ta σ H fun x H1 => r x H1 Q
def rI (C : Int → Int → Prop) (g : Int → Int → V) : R2 := fun x y H Q => ∃ i j, x = .int i ∧ y = .int j ∧ C i j ∧ Q (g i j) H
def rI0 (g : Int → Int → V) : R2 := fun x y H Q => ∃ i j, x = .int i ∧ y = .int j ∧ Q (g i j) H
def rU (g : Int → V) : V → Hp → VK → Prop := fun x H Q => ∃ i, x = .int i ∧ Q (g i) H
section
variable {X : Cx} {a b c : Expr} {ta tb tc : TE} {pos : Pos}
theorem binT (ha : PE X a ta) (hb : PE X b tb) {pins : List (Addr × Obj)} {s : Shared} {σ : St} {H : Hp} {R : V → V → Hp → Prop} (I : Inv X pins σ H s)
    (h : ta σ H fun x H1 => tb σ H1 fun y H2 => R x y H2) {Q : Value → Shared → Prop} {f : Value → Value → Sem Value}
    (hf : ∀ v u s2 x y H2, Inv X pins σ H2 s2 → RelV x v → RelV y u → R x y H2 → wpAny (model X.prog X.w) X.A (f v u) Q X.xe s2) :
    wpAny (model X.prog X.w) X.A (eval a X.env) (fun v s₁ => wpAny (model X.prog X.w) X.A (eval b X.env) (fun u s₂ => wpAny (model X.prog X.w) X.A (f v u) Q X.xe s₂) X.xe s₁) X.xe s := by
  refine thn (ha pins s σ H _ I h) fun v s1 ⟨x, H1, I1, r1, q1⟩ => ?_
  refine thn (hb pins s1 σ H1 _ I1 q1) fun u s2 ⟨y, H2, I2, r2, q2⟩ => ?_
  exact hf v u s2 x y H2 I2 r1 r2 q2
theorem pe_op {op : Operator} {r : R2} (ho : OpR X (binaryOp op) r) (ha : PE X a ta) (hb : PE X b tb) : PE X (.BinOp a op b pos) (tOp r ta tb) := by
  intro pins s σ H Q I h
  exact wpAny_BinOp (binT ha hb I h fun v u s2 x y H2 I2 rx ry q => ho pins s2 σ H2 x y v u Q I2 rx ry q)
theorem pe_un {op : UnaryOp} {r : V → Hp → VK → Prop} (ho : UnR X (unaryOp op) r) (ha : PE X a ta) : PE X (.UnaryOp op a pos) (tUn r ta) := by
  intro pins s σ H Q I h
  exact UnaryOp_ (thn (ha pins s σ H _ I h) fun v s1 ⟨x, H1, I1, r1, q1⟩ => ho pins s1 σ H1 x v Q I1 r1 q1)
theorem opI {f : Value → Value → Sem Value} {C : Int → Int → Prop} {g : Int → Int → Int}
    (rule : ∀ (i j : Int) (t u : Tok) (s : Shared) (Q : Value → Shared → Prop) (E : Value → Shared → Prop), C i j → Q (.int (g i j) s.toks) { s with toks := s.toks + 1 } → wpAny (model X.prog X.w) X.A (f (.int i t) (.int j u)) Q E s) :
    OpR X f (rI C fun i j => .int (g i j)) := by
  intro pins s σ H x y v u Q I rx ry h
  obtain ⟨i, j, rfl, rfl, hc, q⟩ := h
  obtain ⟨t, rfl⟩ := rx
  obtain ⟨t', rfl⟩ := ry
  exact rule i j t t' s _ _ hc ⟨.int (g i j), H, I.tok _, ⟨_, rfl⟩, q⟩
theorem opI0 {f : Value → Value → Sem Value} {g : Int → Int → Int}
    (rule : ∀ (i j : Int) (t u : Tok) (s : Shared) (Q : Value → Shared → Prop) (E : Value → Shared → Prop), Q (.int (g i j) s.toks) { s with toks := s.toks + 1 } → wpAny (model X.prog X.w) X.A (f (.int i t) (.int j u)) Q E s) :
    OpR X f (rI0 fun i j => .int (g i j)) := by
  intro pins s σ H x y v u Q I rx ry h
  obtain ⟨i, j, rfl, rfl, q⟩ := h
  obtain ⟨t, rfl⟩ := rx
  obtain ⟨t', rfl⟩ := ry
  exact rule i j t t' s _ _ ⟨.int (g i j), H, I.tok _, ⟨_, rfl⟩, q⟩
theorem opB0 {f : Value → Value → Sem Value} {g : Int → Int → Bool}
    (rule : ∀ (i j : Int) (t u : Tok) (s : Shared) (Q : Value → Shared → Prop) (E : Value → Shared → Prop), Q (.bool (g i j)) s → wpAny (model X.prog X.w) X.A (f (.int i t) (.int j u)) Q E s) :
    OpR X f (rI0 fun i j => .bl (g i j)) := by
  intro pins s σ H x y v u Q I rx ry h
  obtain ⟨i, j, rfl, rfl, q⟩ := h
  obtain ⟨t, rfl⟩ := rx
  obtain ⟨t', rfl⟩ := ry
  exact rule i j t t' s _ _ ⟨.bl (g i j), H, I, rfl, q⟩
def CDiv (i j : Int) : Prop := 0 < j ∧ j < 1073741824
def CMul (i j : Int) : Prop := (-(2 ^ 64) < i ∧ i < 2 ^ 64) ∨ (-(2 ^ 64) < j ∧ j < 2 ^ 64)
theorem CMul.ok {i j : Int} (h : CMul i j) : IntMulOk i j := by
  rcases h with ⟨h1, h2⟩ | ⟨h1, h2⟩
  · exact .of_left (intBits_le_64 h1 h2)
  · exact .of_right (intBits_le_64 h1 h2)
theorem op_add : OpR X (binaryOp .Add) (rI0 fun i j => .int (i + j)) := opI0 fun _ _ _ _ _ _ _ q => add_int q
theorem op_sub : OpR X (binaryOp .Sub) (rI0 fun i j => .int (i - j)) := opI0 fun _ _ _ _ _ _ _ q => sub_int q
theorem op_mul : OpR X (binaryOp .Mult) (rI CMul fun i j => .int (i * j)) := opI fun _ _ _ _ _ _ _ hc q => mul_int q hc.ok
theorem op_fdiv : OpR X (binaryOp .FloorDiv) (rI CDiv fun i j => .int (i / j)) := opI fun i j _ _ _ _ _ hc q => by
  have h1 : (0 : Int) < j := hc.1
  have h2 : j < 1073741824 := hc.2
  exact floordiv_int (by omega) (by rw [Int.fdiv_eq_ediv_of_nonneg i (by omega)]; exact q) (.inl (PyProof.noPylong_small (by omega)))
theorem op_mod : OpR X (binaryOp .Mod) (rI (fun _ j => 0 < j) fun i j => .int (i % j)) := opI fun i j _ _ _ _ _ hc q => by
  have h1 : (0 : Int) < j := hc
  exact mod_int' (by omega) (by rw [Int.fmod_eq_emod_of_nonneg i (by omega)]; exact q)
theorem unI {f : Value → Sem Value} {g : Int → Int}
    (rule : ∀ (i : Int) (t : Tok) (s : Shared) (Q : Value → Shared → Prop) (E : Value → Shared → Prop), Q (.int (g i) s.toks) { s with toks := s.toks + 1 } → wpAny (model X.prog X.w) X.A (f (.int i t)) Q E s) :
    UnR X f (rU fun i => .int (g i)) := by
  intro pins s σ H x v Q I rx h
  obtain ⟨i, rfl, q⟩ := h
  obtain ⟨t, rfl⟩ := rx
  exact rule i t s _ _ ⟨.int (g i), H, I.tok _, ⟨_, rfl⟩, q⟩
theorem un_neg : UnR X (unaryOp .USub) (rU fun i => .int (-i)) := unI fun _ _ _ _ _ q => neg_int q
end
section
variable {X : Cx} {a b c : Expr} {ta tb tc : TE} {pos : Pos}
theorem op_le : OpR X (compareOp .LtE) (rI0 fun i j => .bl (decide (i ≤ j))) := opB0 fun _ _ _ _ _ _ _ q => le_int q
theorem nomark (b : Expr) {op : CmpOp} (h : op ≠ .In := by decide) (h2 : op ≠ .NotIn := by decide) : behindInMarks op b = false := by
  have e1 : (op == CmpOp.In) = false := by cases op <;> first | rfl | exact absurd rfl h
  have e2 : (op == CmpOp.NotIn) = false := by cases op <;> first | rfl | exact absurd rfl h2
  cases b <;> simp [behindInMarks, e1, e2]
theorem pe_cmpR {op : CmpOp} {r : R2} (ho : OpR X (compareOp op) r) (ha : PE X a ta) (hb : PE X b tb) (hm : behindInMarks op b = false) : PE X (.Compare a [op] [b] pos) (tOp r ta tb) := by
  intro pins s σ H Q I h
  exact wpAny_Compare1 (binT ha hb I h fun v u s2 x y H2 I2 rx ry q => ho pins s2 σ H2 x y v u Q I2 rx ry q) hm
def tTest (t : TE) : TT := fun σ H Q => t σ H fun x H' => ∃ k, x = .bl k ∧ Q k H'
theorem pt_cmpR {op : CmpOp} {r : R2} (ho : OpR X (compareOp op) r) (ha : PE X a ta) (hb : PE X b tb) (hm : behindInMarks op b = false) : PT X (.Compare a [op] [b] pos) (tTest (tOp r ta tb)) := by
  intro pins s σ H Q I h
  refine wpAny_isTrue_Compare1 (thn (ha pins s σ H _ I h) fun v s1 ⟨x, H1, I1, r1, q1⟩ => thn (hb pins s1 σ H1 _ I1 q1) fun u s2 ⟨y, H2, I2, r2, q2⟩ =>
    thn (ho pins s2 σ H2 x y v u _ I2 r1 r2 q2) fun c s3 ⟨z, H3, I3, r3, k, e, q3⟩ => ?_) hm
  subst e
  cases r3
  exact wpAny_truthy_bool ⟨H3, I3, q3⟩
def tChain (r r' : R2) (ta tb tc : TE) : TE := fun σ H Q => ta σ H fun x H1 => tb σ H1 fun y H2 => r x y H2 fun z H3 => ∃ k, z = .bl k ∧
  (if k = true then tc σ H3 fun w' H4 => r' y w' H4 Q else Q (.bl false) H3)
theorem pe_chain {op op' : CmpOp} {r r' : R2} (ho : OpR X (compareOp op) r) (ho' : OpR X (compareOp op') r') (ha : PE X a ta) (hb : PE X b tb) (hc : PE X c tc)
    (hm : lastMarks [op, op'] [b, c] = false := by with_unfolding_all rfl) : PE X (.Compare a [op, op'] [b, c] pos) (tChain r r' ta tb tc) := by
  intro pins s σ H Q I h
  refine Compare_chain (thn (ha pins s σ H _ I h) fun v s1 ⟨x, H1, I1, r1, q1⟩ => chain_link (thn (hb pins s1 σ H1 _ I1 q1) fun u s2 ⟨y, H2, I2, r2, q2⟩ =>
    thn (ho pins s2 σ H2 x y v u _ I2 r1 r2 q2) fun d s3 ⟨z, H3, I3, r3, k, e, q3⟩ => ?_)) hm
  subst e
  cases r3
  refine wpAny_truthy_bool ?_
  cases k with
  | false => exact ite_ff ⟨.bl false, H3, I3, rfl, q3⟩
  | true => exact ite_tt (chain_last (thn (hc pins s3 σ H3 _ I3 q3) fun w' s4 ⟨z', H4, I4, r4, q4⟩ => ho' pins s4 σ H4 y z' u w' Q I4 r2 r4 q4))
theorem pt_chain {op op' : CmpOp} {r r' : R2} (ho : OpR X (compareOp op) r) (ho' : OpR X (compareOp op') r') (ha : PE X a ta) (hb : PE X b tb) (hc : PE X c tc)
    (hm : lastMarks [op, op'] [b, c] = false := by with_unfolding_all rfl) : PT X (.Compare a [op, op'] [b, c] pos) (tTest (tChain r r' ta tb tc)) := by
  intro pins s σ H Q I h
  refine isTrue_chain (thn (ha pins s σ H _ I h) fun v s1 ⟨x, H1, I1, r1, q1⟩ => test_link (thn (hb pins s1 σ H1 _ I1 q1) fun u s2 ⟨y, H2, I2, r2, q2⟩ =>
    thn (ho pins s2 σ H2 x y v u _ I2 r1 r2 q2) fun d s3 ⟨z, H3, I3, r3, k, e, q3⟩ => ?_)) hm
  subst e
  cases r3
  refine wpAny_truthy_bool ?_
  cases k with
  | false =>
    obtain ⟨k', e', q'⟩ := q3
    cases e'
    exact ite_ff ⟨H3, I3, q'⟩
  | true =>
    refine ite_tt (test_last (thn (hc pins s3 σ H3 _ I3 q3) fun w' s4 ⟨z', H4, I4, r4, q4⟩ => thn (ho' pins s4 σ H4 y z' u w' _ I4 r2 r4 q4) fun d' s5 ⟨z2, H5, I5, r5, k2, e2, q5⟩ => ?_))
    subst e2
    cases r5
    exact wpAny_truthy_bool ⟨H5, I5, q5⟩
theorem line63 : (sizeLine : Nat) < 2 ^ 63 := by rw [sizeLine_eq]; decide
theorem vals1 {x : V} {us : List Value} (r : Vals [x] us) : ∃ u, us = [u] ∧ RelV x u := by
  cases r with
  | cons r1 r2 => cases r2; exact ⟨_, rfl, r1⟩
theorem vals2 {x y : V} {us : List Value} (r : Vals [x, y] us) : ∃ u w', us = [u, w'] ∧ RelV x u ∧ RelV y w' := by
  cases r with
  | cons r1 r2 =>
    cases r2 with
    | cons r3 r4 => cases r4; exact ⟨_, _, rfl, r1, r3⟩
theorem call_abs : CallR X (.builtin "abs") (fun xs H Q => ∃ i, xs = [.int i] ∧ Q (.int (if i < 0 then -i else i)) H) := by
  intro pins s σ H xs us Q I r h
  obtain ⟨i, rfl, q⟩ := h
  obtain ⟨u, rfl, t, rfl⟩ := vals1 r
  exact call_abs_int fun u tk => ⟨.int (if i < 0 then -i else i), H, I.tok _, ⟨_, rfl⟩, q⟩
theorem call_min2 (hc : X.calm = true) : CallR X (.builtin "min") (fun xs H Q => ∃ i j, xs = [.int i, .int j] ∧ Q (.int (if j < i then j else i)) H) := by
  intro pins s σ H xs us Q I r h
  obtain ⟨i, j, rfl, q⟩ := h
  obtain ⟨u, w', rfl, ⟨t, rfl⟩, ⟨t', rfl⟩⟩ := vals2 r
  refine min_two_ints (I.ok.hd hc) fun h' tk k => ⟨_, H, I.kept k, ?_, q⟩
  by_cases hj : j < i
  · rw [if_pos hj, if_pos hj]; exact ⟨_, rfl⟩
  · rw [if_neg hj, if_neg hj]; exact ⟨_, rfl⟩
end
end L2
namespace L2
open PySem PySem.Spec PyProof.Rows
structure ObjM (h : Heap) (x dx C : Addr) (mA : Str → Option Value) : Prop where
  obj : h.get? x = some (PySem.W.instObj C dx)
  ns : h.Ns1 dx mA
  ne : dx ≠ x
theorem lookIn_ns {h : Heap} {dx : Addr} {mA : Str → Option Value} (n : h.Ns1 dx mA) : ∃ od, h.get? dx = some od ∧ ∀ name, PySem.W.lookIn name od = some (mA name) := by
  obtain ⟨o, es, ep, ho, hd, hk, _, hm⟩ := n
  refine ⟨o, ho, fun name => ?_⟩
  have e := hm name
  unfold nsFind findBy at e
  rw [← Array.find?_toList] at e
  unfold PySem.W.lookIn
  rw [hd]
  dsimp only
  split
  · rename_i y q
    rw [q] at e
    exact congrArg some e
  · rename_i q
    rw [q] at e
    have a : es.toList.any (·.refKey) = false := by
      rw [List.any_eq_false]
      intro y hy
      obtain ⟨z, t, hkey⟩ := hk y (Array.mem_toList_iff.mp hy)
      simp [DictEntry.refKey, hkey]
    have a' : ¬ es.toList.any (·.refKey) = true := by rw [a]; exact Bool.false_ne_true
    rw [if_neg a']
    exact congrArg some e
theorem ObjM.look {h : Heap} {x dx C : Addr} {mA : Str → Option Value} (I : ObjM h x dx C mA) : ∃ od, PySem.W.InstAt h x (PySem.W.instObj C dx) C (some od) ∧ ∀ name, PySem.W.lookIn name od = some (mA name) :=
  let ⟨od, ho, hl⟩ := lookIn_ns I.ns
  ⟨od, ⟨I.obj, rfl, rfl, ho⟩, hl⟩
section
variable {prog : Program} {w : World} {A : Around} {E : Value → Shared → Prop} {s : Shared} {K : PySem.W.Frag} {x dx C f : Addr} {mA : Str → Option Value} {name : Str} {v : Value}
theorem get_map {expr : Bool} {Q : Value → Shared → Prop} (X : K.In s.heap) (I : ObjM s.heap x dx C mA) (hg : PySem.W.plainGet K C name = true) (hh : PySem.W.hasDictIn K C = true)
    (ha : PySem.W.findIn K (.ref C) name = some none) (hv : mA name = some v) (hv' : PySem.W.handedIn v = true) (h : Q v { s with toks := s.toks + 1 }) :
    wpAny (model prog w) A (getAttr (.ref x) name expr) Q E s := by
  obtain ⟨od, J, hl⟩ := I.look
  exact PySem.W.get_value X J (PySem.W.plainGet_of hg).1 (PySem.W.findObj_own hh ha rfl (by rw [hl, hv])) hv' h
theorem get_meth {pl : Sem Bool} {Q : Value × List Value → Shared → Prop} (X : K.In s.heap) (I : ObjM s.heap x dx C mA) (hg : PySem.W.plainGet K C name = true)
    (hf : PySem.W.findIn K (.ref C) name = some (some (.ref f))) (ht : PySem.W.isFn K (.ref f) = true) (hv : mA name = none) (h : Q (.ref f, [.ref x]) s) :
    wpAny (model prog w) A (getMethod (.ref x) name pl) Q E s := by
  obtain ⟨od, J, hl⟩ := I.look
  exact PySem.W.method_fn X J (PySem.W.plainGet_of hg).1 (PySem.W.plainGet_of hg).2 hf (beq_iff_eq.mp ht) (by show (PySem.W.lookIn name od).map (·.isSome) = some false; rw [hl, hv]; rfl) h
theorem set_map {ns : List Str} {Q : Unit → Shared → Prop} (X : K.In s.heap) (I : ObjM s.heap x dx C mA)
    (hs : PySem.W.findIn K (.ref C) "__setattr__" = some (some (.builtin "object.__setattr__"))) (hp : PySem.W.plainOver K C = true) (ht : PySem.W.takerIn K C name = some none) (hh : PySem.W.hasDictIn K C = true)
    (hw : PySem.Within mA ns) (hsz : ns.length ≤ sizeLine)
    (h : ∀ h', ObjM h' x dx C (fun y => if y = name then some v else mA y) → Heap.SameBut dx s.heap h' → Q () { s with heap := h', toks := s.toks + 2 }) :
    wpAny (model prog w) A (setAttr (.ref x) name v) Q E s := by
  obtain ⟨od, J, hl⟩ := I.look
  refine PySem.W.set_plain X J hs (PySem.W.osa_open (s := { s with toks := s.toks + 1 }) (r := none) X J hp ht fun b => ?_)
  obtain ⟨cd, hc, hd'⟩ := PySem.W.any_some hh
  have hx : s.heap.get? x = some ⟨.ref C, some dx, .plain, #[]⟩ := I.obj
  refine wpAny_bind (wpAny_pure (wpAny_bind (wpAny_bind (wpAny_loadPart hx (wpAny_bind (PySem.W.Looks.here (s := { s with toks := s.toks + 1 }) (PySem.W.looks_clsIn X hc) ?_))))))
  rw [hd']
  refine wpAny_pure (a := some dx) (wpAny_bind (wpAny_pure (wpAny_bind ?_)))
  refine wpAny_nsSet1 (s := { s with toks := s.toks + 1 }) I.ns fun h' hn2 hs2 => ?_
  obtain ⟨oD, esD, epD, hoD, hdD, hcD⟩ := hn2.count (PySem.Within.cons name v hw)
  refine wpAny_bind (wpAny_lookBehind hoD (by rw [hdD]; exact pastItsLine_dict (Nat.le_trans hcD (by rw [List.length_cons]; omega))) ?_)
  exact wpAny_pure (h _ ⟨(hs2.2 _ (Ne.symm I.ne)).trans I.obj, hn2, I.ne⟩ hs2)
theorem make_map {R : Result → Shared → Prop} {vs : List Value} {kw : List (Str × Value)} (X : K.In s.heap) (hm : PySem.W.makesIn K C = true)
    (hi : PySem.W.findIn K (.ref C) "__init__" = some (some (.ref f))) (hf : PySem.W.typeIn K (.ref f) = some (.type "function"))
    (h : codeAny (model prog w) (A.under (.builtin "type.__call__" ⟨.ref C :: vs, kw⟩)) (.call (.ref f) ⟨.ref (s.heap.objs.size + 1) :: vs, kw⟩) (PySem.W.InitBack (s.heap.objs.size + 1) R)
      { s with heap := (s.heap.push PySem.W.emptyDict).push (PySem.W.instObj C s.heap.objs.size) }) :
    codeAny (model prog w) A (.call (.ref C) ⟨vs, kw⟩) R s := by
  obtain ⟨hh, g, d, t, os⟩ := s
  exact PySem.W.make_core (PySem.W.makes_of X hm) (PySem.W.looks_findIn X hi) (fun self => PySem.W.bind_fn X self hf) (.inl rfl) h
end
def putF (f : Str) (v : V) : List (Str × V) → List (Str × V)
  | [] => [(f, v)]
  | (g, x) :: r => if g = f then (g, v) :: r else (g, x) :: putF f v r
theorem lookup_putF (f g : Str) (v : V) : ∀ fs : List (Str × V), (putF f v fs).lookup g = if g = f then some v else fs.lookup g
  | [] => by
    show List.lookup g [(f, v)] = _
    by_cases h : g = f
    · have hb : (g == f) = true := beq_iff_eq.mpr h
      simp only [List.lookup, hb, if_pos h]
    · have hb : (g == f) = false := beq_eq_false_iff_ne.mpr h
      simp only [List.lookup, hb, if_neg h]
  | (k, x) :: r => by
    have ih := lookup_putF f g v r
    rw [show putF f v ((k, x) :: r) = (if k = f then (k, v) :: r else (k, x) :: putF f v r) from rfl]
    by_cases hk : k = f
    · rw [if_pos hk]
      by_cases h : g = k
      · have hb : (g == k) = true := beq_iff_eq.mpr h
        simp only [List.lookup, hb, if_pos (h.trans hk)]
      · have hb : (g == k) = false := beq_eq_false_iff_ne.mpr h
        simp only [List.lookup, hb, if_neg (fun e : g = f => h (e.trans hk.symm))]
    · rw [if_neg hk]
      by_cases h : g = k
      · have hb : (g == k) = true := beq_iff_eq.mpr h
        simp only [List.lookup, hb, if_neg (fun e : g = f => hk (h.symm.trans e))]
      · have hb : (g == k) = false := beq_eq_false_iff_ne.mpr h
        simp only [List.lookup, hb]
        exact ih
theorem keys_putF (f : Str) (v : V) : ∀ fs : List (Str × V), f ∈ (putF f v fs).map (·.1) ∧ ∀ g, g ∈ fs.map (·.1) → g ∈ (putF f v fs).map (·.1)
  | [] => ⟨by simp [putF], fun g h => by simp at h⟩
  | (k, x) :: r => by
    obtain ⟨i1, i2⟩ := keys_putF f v r
    rw [show putF f v ((k, x) :: r) = (if k = f then (k, v) :: r else (k, x) :: putF f v r) from rfl]
    by_cases hk : k = f
    · rw [if_pos hk]
      subst hk
      exact ⟨by simp, fun g h => by simpa using h⟩
    · rw [if_neg hk]
      refine ⟨?_, fun g h => ?_⟩
      · rw [List.map_cons]
        exact List.mem_cons_of_mem _ i1
      · rw [List.map_cons] at h ⊢
        rcases List.mem_cons.mp h with e | e
        · exact List.mem_cons.mpr (.inl e)
        · exact List.mem_cons_of_mem _ (i2 g e)
theorem length_putF (f : Str) (v : V) : ∀ fs : List (Str × V), (putF f v fs).length ≤ fs.length + 1
  | [] => by simp [putF]
  | (k, x) :: r => by
    have ih := length_putF f v r
    rw [show putF f v ((k, x) :: r) = (if k = f then (k, v) :: r else (k, x) :: putF f v r) from rfl]
    by_cases hk : k = f
    · rw [if_pos hk, List.length_cons, List.length_cons]; omega
    · rw [if_neg hk, List.length_cons, List.length_cons]; omega
theorem RelO.some_of {v : V} {o : Option Value} (r : RelO (some v) o) : ∃ u, o = some u ∧ RelV v u := by
  cases o with
  | none => exact (show False from r).elim
  | some u => exact ⟨u, rfl, r⟩
theorem RelO.none_of {o : Option Value} (r : RelO none o) : o = none := by
  cases o with
  | none => rfl
  | some u => exact (show False from r).elim
theorem handed_of {v : V} {u : Value} (r : RelV v u) : PySem.W.handedIn u = true := by
  cases v with
  | non => cases (show u = Value.none from r); rfl
  | bl b => cases (show u = Value.bool b from r); rfl
  | int i => obtain ⟨t, e⟩ := (show ∃ t, u = Value.int i t from r); cases e; rfl
  | str x => obtain ⟨t, e⟩ := (show ∃ t, u = Value.str x t from r); cases e; rfl
  | byt b => obtain ⟨t, e⟩ := (show ∃ t, u = Value.bytes b t from r); cases e; rfl
  | flt b => obtain ⟨t, e⟩ := (show ∃ t, u = Value.float b t from r); cases e; rfl
  | ref a => cases (show u = Value.ref a from r); rfl
  | ty n => cases (show u = Value.type n from r); rfl
section
variable {P : Program} {w : World} {H H' : Hp} {h h' : Heap} {a C dx : Addr} {fs fs' : List (Str × V)}
theorem ins_get (hok : HOk P w H h) (e : H a = some (.ins C dx fs)) : ∃ mA, ObjM h a dx C mA ∧ (∀ f, RelO (fs.lookup f) (mA f)) ∧ PySem.Within mA (fs.map (·.1)) ∧ fs.length ≤ 1000 ∧ H dx = some (.own a) := by
  obtain ⟨d, z, ne, ob, mA, n, r, q⟩ := (show ObjOk P w H h a (.ins C dx fs) from hok a _ e)
  exact ⟨mA, ⟨ob, n, ne⟩, r, q, z, d⟩
end
structure Cls (K : PySem.W.Frag) (C : Addr) : Prop where
  pg : PySem.W.plainGet K C Str.empty = true
  hd : PySem.W.hasDictIn K C = true
  po : PySem.W.plainOver K C = true
  sa : PySem.W.findIn K (.ref C) "__setattr__" = some (some (.builtin "object.__setattr__"))
theorem Cls.get {K : PySem.W.Frag} {C : Addr} (c : Cls K C) (f : Str) : PySem.W.plainGet K C f = true := c.pg
def NoAttr (K : PySem.W.Frag) (C : Addr) (f : Str) : Prop := PySem.W.findIn K (.ref C) f = some none
theorem NoAttr.taker {K : PySem.W.Frag} {C : Addr} {f : Str} (n : NoAttr K C f) : PySem.W.takerIn K C f = some none := by
  unfold PySem.W.takerIn
  rw [show PySem.W.findIn K (.ref C) f = some none from n]
  rfl
structure Con (K : PySem.W.Frag) (C : Addr) (f : Str) (v : V) (u : Value) : Prop where
  at_ : PySem.W.findIn K (.ref C) f = some (some u)
  rel : RelV v u
  get : PySem.W.specialIn K u "__get__" = some none
  cp : PySem.W.copiedNames.contains f = false
structure Meth (K : PySem.W.Frag) (C : Addr) (m : Str) (f : Addr) : Prop where
  at_ : PySem.W.findIn K (.ref C) m = some (some (.ref f))
  fn : PySem.W.isFn K (.ref f) = true
  kp : PySem.W.keepIn K (.ref f) = true
section
variable {X : Cx} {pins : List (Addr × Obj)} {σ : St} {H : Hp} {s : Shared} {a C dx : Addr} {fs : List (Str × V)} {f : Str} {v : V} {A : Around} {E : Value → Shared → Prop}
theorem getattr_ok {b : Bool} {Q : Value → Shared → Prop} (I : Inv X pins σ H s) (e : H a = some (.ins C dx fs)) (c : Cls X.K C) (n : NoAttr X.K C f) (l : fs.lookup f = some v)
    (h : ∀ u s', Inv X pins σ H s' → RelV v u → Q u s') : wpAny (model X.prog X.w) A (getAttr (.ref a) f b) Q E s := by
  obtain ⟨mA, O, r, _, _, _⟩ := ins_get I.hok e
  obtain ⟨u, hu, ru⟩ := RelO.some_of (v := v) (o := mA f) (by rw [← l]; exact r f)
  exact get_map I.kIn O (c.get f) c.hd n hu (handed_of ru) (h u _ (I.tok _) ru)
theorem getmeth_ok {m : Str} {g : Addr} {pl : Sem Bool} {Q : Value × List Value → Shared → Prop} (I : Inv X pins σ H s) (e : H a = some (.ins C dx fs)) (c : Cls X.K C) (k : Meth X.K C m g) (l : fs.lookup m = none)
    (h : Q (.ref g, [.ref a]) s) : wpAny (model X.prog X.w) A (getMethod (.ref a) m pl) Q E s := by
  obtain ⟨mA, O, r, _, _, _⟩ := ins_get I.hok e
  have hn : mA m = none := RelO.none_of (by rw [← l]; exact r m)
  exact get_meth I.kIn O (c.get m) k.at_ k.fn hn h
theorem setattr_ok {y : V} {u : Value} {Q : Unit → Shared → Prop} (I : Inv X pins σ H s) (e : H a = some (.ins C dx fs)) (c : Cls X.K C) (n : NoAttr X.K C f) (hl : fs.length < 1000) (ry : RelV y u)
    (h : ∀ s', Inv X pins σ (upd H a (.ins C dx (putF f y fs))) s' → Q () s') : wpAny (model X.prog X.w) A (setAttr (.ref a) f u) Q E s := by
  obtain ⟨mA, O, r, wi, _, ho⟩ := ins_get I.hok e
  have hz : (fs.map (·.1)).length ≤ sizeLine := by rw [List.length_map, sizeLine_eq]; omega
  refine set_map I.kIn O c.sa c.po n.taker c.hd wi hz fun h' O' sb => h _ ?_
  have hd : ∃ o, h'.get? dx = some o := let ⟨o, _, _, e', _⟩ := O'.ns; ⟨o, e'⟩
  refine I.write (x := a) (e := dx) (by rw [e]; exact True.intro) (.inr ho) (fun b q hb z => (sb.2 b hb).trans z) hd ?_
  refine ⟨by rw [upd_ne O.ne]; exact ho, ?_, O.ne, O'.obj, _, O'.ns, fun g => ?_, fun g hg => ?_⟩
  · have := length_putF f y fs; omega
  · show RelO ((putF f y fs).lookup g) (if g = f then some u else mA g)
    rw [lookup_putF]
    by_cases q : g = f
    · rw [if_pos q, if_pos q]; exact ry
    · rw [if_neg q, if_neg q]; exact r g
  · by_cases q : g = f
    · rw [q]; exact (keys_putF f y fs).1
    · refine (keys_putF f y fs).2 g (wi g fun z => hg ?_)
      show (if g = f then some u else mA g) = none
      rw [if_neg q]; exact z
theorem Inv.made (I : Inv X pins σ H s) : Inv X pins σ (upd (upd H s.heap.objs.size (.own (s.heap.objs.size + 1))) (s.heap.objs.size + 1) (.ins C s.heap.objs.size []))
    { s with heap := (s.heap.push PySem.W.emptyDict).push (PySem.W.instObj C s.heap.objs.size) } := by
  have e1 : (s.heap.push PySem.W.emptyDict).get? s.heap.objs.size = some PySem.W.emptyDict := Heap.get?_push_size s.heap rfl
  have e2 : ((s.heap.push PySem.W.emptyDict).push (PySem.W.instObj C s.heap.objs.size)).get? (s.heap.objs.size + 1) = some (PySem.W.instObj C s.heap.objs.size) := by
    have := Heap.get?_push_size (s.heap.push PySem.W.emptyDict) (o := PySem.W.instObj C s.heap.objs.size) rfl
    rwa [Heap.size_push] at this
  have e3 : (s.heap.push PySem.W.emptyDict).Ns s.heap.objs.size (fun _ => none) := ⟨PySem.W.emptyDict, #[], _, e1, rfl, (fun e he => absurd he (by simp)), fun _ => rfl⟩
  have I1 := I.laid (a := s.heap.objs.size) (o := .own (s.heap.objs.size + 1)) (h' := s.heap.push PySem.W.emptyDict) (t' := s.toks) (fun b u q => Heap.get?_push_of_some _ q) (Nat.le_refl _) ⟨_, e1⟩
  refine I1.laid (a := s.heap.objs.size + 1) (o := .ins C s.heap.objs.size []) (t' := s.toks) (fun b u q => Heap.get?_push_of_some _ q) (Nat.le_of_eq (Heap.size_push _ _)) ?_
  have ne : s.heap.objs.size ≠ s.heap.objs.size + 1 := Nat.ne_of_lt (Nat.lt_succ_self _)
  refine ⟨by rw [upd_ne ne, upd_same], Nat.zero_le _, ne, e2, fun _ => none, (Heap.Ns1.of_empty e3).at fun o q => Heap.get?_push_of_some _ q, fun _ => True.intro, fun y hy => absurd rfl hy⟩
theorem attr_of {prog : Program} {w : World} {env : Env} {e : Expr} {f : Str} {pos : Pos} {s : Shared} {Q : Value → Shared → Prop} (hb : attributeBase e f env (eval e env) = eval e env)
    (h : wpAny (model prog w) A (eval e env) (fun o s₁ => wpAny (model prog w) A (getAttr o f true) Q E s₁) E s) : wpAny (model prog w) A (eval (.Attribute e f pos) env) Q E s :=
  Attribute_any_ h (by rw [arm_eval_Attribute, hb])
end
def tFld (K : PySem.W.Frag) (ta : TE) (f : Str) : TE := fun σ H Q => ta σ H fun x H1 => ∃ a C dx fs v, x = .ref a ∧ H1 a = some (.ins C dx fs) ∧ Cls K C ∧ NoAttr K C f ∧ fs.lookup f = some v ∧ Q v H1
def sFld (K : PySem.W.Frag) (ta tv : TE) (f : Str) : TS := fun D σ H => tv σ H fun y H1 => ta σ H1 fun x H2 => ∃ a C dx fs, x = .ref a ∧ H2 a = some (.ins C dx fs) ∧ Cls K C ∧ NoAttr K C f ∧ fs.length < 1000 ∧
  D.nx σ (upd H2 a (.ins C dx (putF f y fs)))
def InOp (X : Cx) (op : Operator) (rd : V → V → Hp → VK → Prop) : Prop :=
  ∀ (pins : List (Addr × Obj)) (s : Shared) (σ : St) (H : Hp) (x y : V) (u v : Value) (Q : VK), Inv X pins σ H s → RelV x u → RelV y v → rd x y H Q → wpAny (model X.prog X.w) X.A (inplaceOp op u v) (EP X pins σ Q) X.xe s
def sFldAug (K : PySem.W.Frag) (ta tv : TE) (rd : V → V → Hp → VK → Prop) (f : Str) : TS := fun D σ H => ta σ H fun x H1 => ∃ a C dx fs v, x = .ref a ∧ H1 a = some (.ins C dx fs) ∧ Cls K C ∧ NoAttr K C f ∧ fs.lookup f = some v ∧
  tv σ H1 fun y H2 => rd v y H2 fun z H3 => ∃ dx' fs', H3 a = some (.ins C dx' fs') ∧ fs'.length < 1000 ∧ D.nx σ (upd H3 a (.ins C dx' (putF f z fs')))
section
variable {X : Cx} {o e value : Expr} {f : Str} {pos pos' tpos : Pos} {ta tv : TE}
theorem pe_fld (he : PE X e ta) (hb : attributeBase e f X.env (eval e X.env) = eval e X.env) : PE X (.Attribute e f pos) (tFld X.K ta f) := by
  intro pins s σ H Q I h
  refine attr_of hb (thn (he pins s σ H _ I h) fun u s1 ⟨x, H1, I1, rx, a, C, dx, fs, v, ex, ea, c, n, l, q⟩ => ?_)
  subst ex
  obtain rfl : u = Value.ref a := rx
  exact getattr_ok I1 ea c n l fun u' s2 I2 ru => ⟨v, H1, I2, ru, q⟩
theorem ps_fld (ha : PE X o ta) (hv : PE X value tv) (hs : swapsWith value (some (.Attribute o f pos')) pos.line X.env = pure false) : PS X (.Assign [.Attribute o f pos'] value pos) (sFld X.K ta tv f) := by
  intro pins s σ H D I h
  refine plainObj_wpAny_Assign_Attribute (thn (hv pins s σ H _ I h) fun u s1 ⟨y, H1, I1, ry, q⟩ => thn (ha pins s1 σ H1 _ I1 q) fun ov s2 ⟨x, H2, I2, rx, a, C, dx, fs, ex, ea, c, n, l, q2⟩ => ?_) hs
  subst ex
  obtain rfl : ov = Value.ref a := rx
  exact setattr_ok I2 ea c n l ry fun s3 I3 => ⟨σ, _, I3, q2⟩
theorem ps_fldaug {op : Operator} {rd : V → V → Hp → VK → Prop} (ha : PE X o ta) (hv : PE X value tv) (hop : InOp X op rd) : PS X (.AugAssign (.Attribute o f tpos) op value pos) (sFldAug X.K ta tv rd f) := by
  intro pins s σ H D I h
  refine wpAny_AugAssign_AttributeAny (thn (ha pins s σ H _ I h) fun ov s1 ⟨x, H1, I1, rx, a, C, dx, fs, v, ex, ea, c, n, l, q⟩ => ?_)
  subst ex
  obtain rfl : ov = Value.ref a := rx
  refine getattr_ok I1 ea c n l fun u s2 I2 ru => thn (hv pins s2 σ H1 _ I2 q) fun w3 s3 ⟨y, H2, I3, ry, q3⟩ => thn (hop pins s3 σ H2 v y u w3 _ I3 ru ry q3) fun w4 s4 ⟨z, H3, I4, rz, dx', fs', ea', l', q4⟩ => ?_
  exact setattr_ok I4 ea' c n l' rz fun s5 I5 => ⟨σ, _, I5, q4⟩
def rAdd : V → V → Hp → VK → Prop := fun x y H Q => ∃ i j, x = .int i ∧ y = .int j ∧ Q (.int (i + j)) H
theorem in_add : InOp X .Add rAdd := by
  rintro pins s σ H x y u v Q I rx ry ⟨i, j, rfl, rfl, q⟩
  obtain ⟨t, rfl⟩ := (show ∃ t, u = Value.int i t from rx)
  obtain ⟨t', rfl⟩ := (show ∃ t', v = Value.int j t' from ry)
  exact PyProof.Rows.iadd_int ⟨.int (i + j), H, I.tok _, ⟨_, rfl⟩, q⟩
end
section
variable {X : Cx} {pins : List (Addr × Obj)} {σ : St} {H : Hp} {s : Shared} {A : Around} {E : Value → Shared → Prop} {Q : Value → Shared → Prop} {c : Value} {b : Bool}
inductive TyOf (K : PySem.W.Frag) (H : Hp) : V → Value → Prop where
  | non : TyOf K H .non (.type "NoneType")
  | bl (x : Bool) : TyOf K H (.bl x) (.type "bool")
  | int (i : Int) : TyOf K H (.int i) (.type "int")
  | str (x : Str) : TyOf K H (.str x) (.type "str")
  | flt (x : UInt64) : TyOf K H (.flt x) (.type "float")
  | lst {a : Addr} {xs : List V} (e : H a = some (.lst xs)) : TyOf K H (.ref a) (.type "list")
  | frz {a : Addr} {o : Obj} {xs : List V} (e : H a = some (.frz o (.lst xs))) : TyOf K H (.ref a) (.type "list")
  | tup {a : Addr} {xs : List V} (e : H a = some (.tup xs)) : TyOf K H (.ref a) (.type "tuple")
  | dK {a : Addr} {kvs : List (Key × V)} (e : H a = some (.dK kvs)) : TyOf K H (.ref a) (.type "dict")
  | dT {a : Addr} {kvs : List (List Key × V)} (e : H a = some (.dT kvs)) : TyOf K H (.ref a) (.type "dict")
  | ins {a C dx : Addr} {fs : List (Str × V)} (e : H a = some (.ins C dx fs)) (cl : Cls K C) (ha : PySem.W.findIn K (.ref C) "__class__" = some (some (.builtin "object.__class__")))
      (hn : PySem.W.specialIn K (.builtin "object.__class__") "__get__" = some (some (.builtin "getset_descriptor.__get__"))) (htk : PySem.W.takesIn K (.builtin "object.__class__") = some true)
      (hm : PySem.W.mroIn K C (.type "object") = some true) : TyOf K H (.ref a) (.ref C)
end
end L2
namespace L2
open PySem PySem.Spec PyProof.Rows
structure Room (k : Nat) (A : Around) : Prop where
  hd : A.handled = none
  dp : A.depth + 3 * k + 5 < recursionLimit
  un : A.units + 16 * k + 200 < cLine
theorem Room.mono {j k : Nat} {A : Around} (r : Room k A) (h : j ≤ k) : Room j A := ⟨r.hd, by have := r.dp; omega, by have := r.un; omega⟩
theorem Room.deeper {k : Nat} {A : Around} (r : Room (k + 1) A) (env : Env) : Room k (A.deeper env) :=
  ⟨r.hd, by have := r.dp; show A.depth + 1 + 3 * k + 5 < _; omega, by have := r.un; show A.units + 3 + 16 * k + 200 < _; omega⟩
theorem make_depth {A : Around} {C : Addr} {us : List Value} {kw : List (Str × Value)} : (A.under (.builtin "type.__call__" ⟨.ref C :: us, kw⟩)).depth = A.depth + 1 := by
  first | rfl | simp [Around.under, Code.weight, Code.isCreation, Code.isGuard, Code.isCaller, Code.frames, Code.isFrame, guardIds]
theorem make_units {A : Around} {C : Addr} {us : List Value} {kw : List (Str × Value)} : (A.under (.builtin "type.__call__" ⟨.ref C :: us, kw⟩)).units = A.units + 1 := by
  first | rfl | simp [Around.under, Code.cUnits, Code.frames, Code.isFrame]
theorem Room.make {k : Nat} {A : Around} (r : Room (k + 1) A) (C : Addr) (us : List Value) (kw : List (Str × Value)) : Room k (A.under (.builtin "type.__call__" ⟨.ref C :: us, kw⟩)) :=
  ⟨r.hd, by have := r.dp; rw [make_depth]; omega, by have := r.un; rw [make_units]; omega⟩
theorem Room.depth {k : Nat} {A : Around} (r : Room k A) : A.depth < recursionLimit := by have := r.dp; omega
theorem Room.units {k : Nat} {A : Around} (r : Room k A) : A.units + 64 < cLine := by have := r.un; omega
theorem Room.units0 {k : Nat} {A : Around} (r : Room k A) : A.units < cLine := by have := r.un; omega
def tNil : TA := fun _ H Q => Q [] H
def tCons (ta : TE) (tr : TA) : TA := fun σ H Q => ta σ H fun x H1 => tr σ H1 fun xs H2 => Q (x :: xs) H2
section
variable {X : Cx} {e : Expr} {es : List Expr} {te : TE} {t : TA} {pos : Pos}
theorem pa_nil : PA X [] tNil := fun _ _ _ _ H Q I h => Calls.spliced_nil ⟨[], H, I, .nil, h⟩
theorem pa_cons (ha : PE X e te) (hr : PA X es t) (hs : starEach (e :: es) X.env = (false, eval e X.env) :: starEach es X.env := by rfl) : PA X (e :: es) (tCons te t) := by
  intro pos pins s σ H Q I h
  rw [hs]
  show wpAny _ _ (spliced ((false, eval e X.env) :: backTo pos (starEach es X.env))) _ _ s
  refine Calls.spliced_cons (thn (ha pins s σ H _ I h) fun u s1 ⟨x, H1, I1, r1, q1⟩ => ?_)
  exact thn (hr pos pins s1 σ H1 _ I1 q1) fun us s2 ⟨xs, H2, I2, r2, q2⟩ => ⟨x :: xs, H2, I2, .cons r1 r2, q2⟩
def tTup (t : TA) : TE := fun σ H Q => t σ H fun xs H1 => xs.length ≤ sizeLine ∧ ∀ p, H1 p = none → Q (.ref p) (upd H1 p (.tup xs))
def tLst (t : TA) : TE := fun σ H Q => t σ H fun xs H1 => xs.length ≤ sizeLine ∧ ∀ p, H1 p = none → Q (.ref p) (upd H1 p (.lst xs))
theorem pe_tup {x1} (h : PA X es t) : PE X (.Tuple es x1 pos) (tTup t) := by
  intro pins s σ H Q I hq
  refine wpAny_Tuple_spliced (thn (h pos pins s σ H _ I hq) fun us s1 ⟨xs, H1, I1, r, z, q⟩ => ⟨by rw [← r.length]; exact z, ?_⟩)
  have hf : H1 s1.heap.objs.size = none := I1.hok.fresh (Nat.le_refl _)
  refine ⟨.ref s1.heap.objs.size, upd H1 s1.heap.objs.size (.tup xs), I1.laid (t' := s1.toks) (fun b u e => Heap.get?_push_of_some _ e) (Nat.le_refl _) ?_, rfl, q _ hf⟩
  exact ⟨z, us, r, ⟨_, Heap.get?_push_size _ rfl, rfl, _, rfl⟩⟩
theorem pe_lst (h : PA X es t) : PE X (.List es pos) (tLst t) := by
  intro pins s σ H Q I hq
  refine wpAny_List_spliced (thn (h pos pins s σ H _ I hq) fun us s1 ⟨xs, H1, I1, r, z, q⟩ => ⟨by rw [← r.length]; exact z, ?_⟩)
  have hf : H1 s1.heap.objs.size = none := I1.hok.fresh (Nat.le_refl _)
  refine ⟨.ref s1.heap.objs.size, upd H1 s1.heap.objs.size (.lst xs), I1.laid (t' := s1.toks) (fun b u e => Heap.get?_push_of_some _ e) (Nat.le_refl _) ?_, rfl, q _ hf⟩
  exact ⟨z, us, 0, r, Heap.get?_push_size _ rfl⟩
end
abbrev Sp := List V → Hp → VK → XK → Prop
abbrev CXT := List Env → Hp → Shared → XK → Value → Shared → Prop
structure Env0 (P : Program) (w : World) (K : PySem.W.Frag) (mg : Str → Option Value) (base : Heap) (A : Around) (outer : List Env) (s : Shared) (H : Hp) : Prop where
  frames : A.frames = some outer
  mod : Mod K mg base
  bs : ∀ b o, base.get? b = some o → s.heap.get? b = some o ∧ H b = none
  bsz : base.objs.size ≤ s.heap.objs.size
  funs : s.heap.FunFrames base outer
  frf : ∀ b ∈ frs outer, H b = none
  hok : HOk P w H s.heap
  bare : AllBare s.gens
def CE (outer : List Env) (P : Program) (w : World) (H : Hp) (s : Shared) (Q : VK) (u : Value) (s' : Shared) : Prop :=
  ∃ v H', s'.os = s.os ∧ AllBare s'.gens ∧ Un (frs outer) [] H H' s.heap s'.heap ∧ HOk P w H' s'.heap ∧ RelV v u ∧ Q v H'
def CR (CX : CXT) (outer : List Env) (P : Program) (w : World) (H : Hp) (s : Shared) (Q : VK) (E : XK) (r : Result) (s' : Shared) : Prop :=
  match r with
  | .ok (.ret u) => CE outer P w H s Q u s'
  | .ok _ => False
  | .error e => CX outer H s E e s'
structure FnOk (P : Program) (w : World) (K : PySem.W.Frag) (mg : Str → Option Value) (base : Heap) (CX : CXT) (k : Nat) (f : Addr) (fd : FuncData) (ps : List Str) (sp : Sp) : Prop where
  len : ∀ vs H Q E, sp vs H Q E → vs.length = ps.length
  run : ∀ (A : Around) (outer : List Env) (s : Shared) (H : Hp) (args : Args) (us : List Value) (vs : List V) (Q : VK) (E : XK), Room k A → Env0 P w K mg base A outer s H → BindsTo s fd args (ps.zip us) → Vals vs us → sp vs H Q E →
    codeAny (model P w) A (.call (.ref f) args) (CR CX outer P w H s Q E) s
theorem Env0.make {P : Program} {w : World} {K : PySem.W.Frag} {mg : Str → Option Value} {base : Heap} {A : Around} {outer : List Env} {s : Shared} {H : Hp} (e : Env0 P w K mg base A outer s H) (C : Addr) (us : List Value) (kw : List (Str × Value)) :
    Env0 P w K mg base (A.under (.builtin "type.__call__" ⟨.ref C :: us, kw⟩)) outer s H := ⟨by first | exact e.frames | (simpa [Around.under, Code.envs, Code.isFrame, pushEnvs] using e.frames), e.mod, e.bs, e.bsz, e.funs, e.frf, e.hok, e.bare⟩
section
variable {X : Cx} {pins : List (Addr × Obj)} {σ : St} {H : Hp} {s s' : Shared}
theorem Inv.env0 (I : Inv X pins σ H s) : Env0 X.prog X.w X.K X.mg X.base X.A X.stack s H :=
  ⟨I.ok.frames, I.ok.mod, I.bs, Nat.le_trans I.ok.bsz I.sz, I.stack, I.stkFree, I.hok, I.bare⟩
theorem Inv.after {Q : VK} {u : Value} (I : Inv X pins σ H s) (h : CE X.stack X.prog X.w H s Q u s') : EP X pins σ Q u s' := by
  obtain ⟨v, H', os, bare, un, hok, r, q⟩ := h
  obtain ⟨hh, g, d, t, os'⟩ := s'
  obtain rfl : os' = s.os := os
  exact ⟨v, H', I.call (h' := hh) (g' := g) (d' := d) (t' := t) (ch := []) un hok bare (fun b z => absurd z (by simp)), r, q⟩
end
def tCall (sp : Sp) (dvs : List V) (E : XK) (t : TA) : TE := fun σ H Q => t σ H fun vs H1 => sp (vs ++ dvs) H1 Q E
def tMeth (C : Addr) (m : Str) (sp : Sp) (dvs : List V) (E : XK) (ta : TE) (t : TA) : TE := fun σ H Q => ta σ H fun x H1 => ∃ a dx fs, x = .ref a ∧ H1 a = some (.ins C dx fs) ∧ fs.lookup m = none ∧
  t σ H1 fun vs H2 => sp (x :: (vs ++ dvs)) H2 Q E
def tMake (C : Addr) (sp : Sp) (dvs : List V) (E : XK) (t : TA) : TE := fun σ H Q => t σ H fun vs H1 => ∀ x dx, H1 x = none → H1 dx = none → dx ≠ x →
  sp (.ref x :: (vs ++ dvs)) (upd (upd H1 dx (.own x)) x (.ins C dx [])) (fun v H2 => v = .non ∧ Q (.ref x) H2) E
def Binds (K : PySem.W.Frag) (fd : FuncData) (ps : List Str) (ds : List Value) : Prop :=
  ∀ (s : Shared) (us : List Value), K.In s.heap → (us ++ ds).length = ps.length → BindsTo s fd ⟨us, []⟩ (ps.zip (us ++ ds))
theorem Binds.all {K : PySem.W.Frag} {fd : FuncData} {ps : List Str} (h : ∀ us : List Value, us.length = ps.length → bindArgs fd ⟨us, []⟩ = pure (ps.zip us)) : Binds K fd ps [] := fun s us _ hl => by
  rw [List.append_nil] at hl ⊢
  exact .of_eq (h us hl)
def Passes (CX : CXT) (X : Cx) (E : XK) : Prop := ∀ (pins : List (Addr × Obj)) (σ : St) (H : Hp) (s : Shared) (e : Value) (s' : Shared), Inv X pins σ H s → CX X.stack H s E e s' → X.xe e s'
section
variable {X : Cx} {CX : CXT} {k : Nat} {f C : Addr} {fd : FuncData} {ps : List Str} {sp : Sp} {dvs : List V} {ds : List Value} {E : XK} {x m : Str} {p pos apos : Pos} {e o : Expr} {es : List Expr} {ta : TE} {t : TA}
theorem run_fn {pins : List (Addr × Obj)} {σ : St} {H : Hp} {s : Shared} {Q : VK} {us : List Value} {vs : List V} (F : FnOk X.prog X.w X.K X.mg X.base CX k f fd ps sp) (hr : Room k X.A) (hb : Binds X.K fd ps ds) (hd : Vals dvs ds) (hx : Passes CX X E)
    (I : Inv X pins σ H s) (r : Vals vs us) (h : sp (vs ++ dvs) H Q E) : wpAny (model X.prog X.w) X.A (call (.ref f) us) (EP X pins σ Q) X.xe s := by
  have r2 : Vals (vs ++ dvs) (us ++ ds) := r.append hd
  have hl : (us ++ ds).length = ps.length := by rw [← r2.length]; exact F.len _ _ _ _ h
  refine wpAny_call (codeAny_mono (F.run X.A X.stack s H ⟨us, []⟩ (us ++ ds) (vs ++ dvs) Q E hr I.env0 (hb s us I.kIn hl) r2 h) fun r s' hq => ?_)
  cases r with
  | error e => exact hx pins σ H s e s' I hq
  | ok fl =>
    cases fl with
    | ret u => exact I.after hq
    | next => exact False.elim hq
    | brk => exact False.elim hq
    | cont => exact False.elim hq
theorem pe_call (F : FnOk X.prog X.w X.K X.mg X.base CX k f fd ps sp) (hr : Room k X.A) (hg : Gl X x) (hm : X.mg x = some (.ref f)) (hk : PySem.W.keepIn X.K (.ref f) = true) (hb : Binds X.K fd ps ds) (hd : Vals dvs ds) (hx : Passes CX X E)
    (ha : PA X (e :: es) t) (hdb : (x == ("__debug__" : Str)) = false := by decide) (he : starEach (e :: es) X.env = (false, eval e X.env) :: starEach es X.env := by rfl) (hpl : (backTo pos (starEach es X.env)).any (·.1) = false := by rfl) :
    PE X (.Call (.Name x p) (e :: es) [] pos) (tCall sp dvs E t) := by
  intro pins s σ H Q I h
  refine wpAny_Call_Name_kw (ld_glob I hg hm ?_ hdb)
  refine PySem.W.callWith_K (h₀ := X.base) I.ok.mod.kin hk (thn (ha pos pins s σ H _ I h) fun us s1 ⟨vs, H1, I1, r, q⟩ => ⟨I1.kIn, ?_⟩) he hpl
  exact run_fn F hr hb hd hx I1 r q
theorem pe_meth {pl : Sem Bool} (he : PE X o ta) (c : Cls X.K C) (hm : Meth X.K C m f) (F : FnOk X.prog X.w X.K X.mg X.base CX k f fd ps sp) (hr : Room k X.A) (hb : Binds X.K fd ps ds) (hd : Vals dvs ds) (hx : Passes CX X E) (ha : PA X (e :: es) t)
    (hst : starEach (e :: es) X.env = (false, eval e X.env) :: starEach es X.env := by rfl) (hpl : (backTo pos (starEach es X.env)).any (·.1) = false := by rfl)
    (ht : eval (.Call (.Attribute o m apos) (e :: es) [] pos) X.env = (do
      let ov ← eval o X.env
      standAt apos.atName
      let (f, first) ← holding [ov] (getMethod ov m pl)
      callWith pos f first (backTo pos (starEach (e :: es) X.env)) (backToKw pos (keywordEach [] X.env))) := by rfl) :
    PE X (.Call (.Attribute o m apos) (e :: es) [] pos) (tMeth C m sp dvs E ta t) := by
  intro pins s σ H Q I h
  refine PySem.W.methodCall_KW (pl := pl) (thn (he pins s σ H _ I h) fun u s1 ⟨x, H1, I1, rx, a, dx, fs, ex, ea, l, q⟩ => ?_) ht
  subst ex
  obtain rfl : u = Value.ref a := rx
  refine getmeth_ok I1 ea c hm l ?_
  refine PySem.W.callWith_K (first := [.ref a]) (h₀ := X.base) I.ok.mod.kin hm.kp (thn (ha pos pins s1 σ H1 _ I1 q) fun us s2 ⟨vs, H2, I2, r, q2⟩ => ⟨I2.kIn, ?_⟩) hst hpl
  exact run_fn (us := .ref a :: us) (vs := .ref a :: vs) F hr hb hd hx I2 (.cons rfl r) q2
theorem pe_meth0 {pl : Sem Bool} (he : PE X o ta) (c : Cls X.K C) (hm : Meth X.K C m f) (F : FnOk X.prog X.w X.K X.mg X.base CX k f fd ps sp) (hr : Room k X.A) (hb : Binds X.K fd ps ds) (hd : Vals dvs ds) (hx : Passes CX X E)
    (ht : eval (.Call (.Attribute o m apos) [] [] pos) X.env = (do
      let ov ← eval o X.env
      standAt apos.atName
      let (f, first) ← holding [ov] (getMethod ov m pl)
      callWith pos f first (backTo pos (starEach [] X.env)) (backToKw pos (keywordEach [] X.env))) := by rfl) :
    PE X (.Call (.Attribute o m apos) [] [] pos) (tMeth C m sp dvs E ta tNil) := by
  intro pins s σ H Q I h
  refine PySem.W.methodCall_KW (pl := pl) (thn (he pins s σ H _ I h) fun u s1 ⟨x, H1, I1, rx, a, dx, fs, ex, ea, l, q⟩ => ?_) ht
  subst ex
  obtain rfl : u = Value.ref a := rx
  refine getmeth_ok I1 ea c hm l ?_
  exact PySem.W.callWith_K0 (first := [.ref a]) I1.kIn hm.kp (run_fn (us := [.ref a]) (vs := [.ref a]) F hr hb hd hx I1 (.cons rfl .nil) q)
structure Mk (K : PySem.W.Frag) (C f : Addr) : Prop where
  makes : PySem.W.makesIn K C = true
  init : PySem.W.findIn K (.ref C) "__init__" = some (some (.ref f))
  fn : PySem.W.isFn K (.ref f) = true
  kp : PySem.W.keepIn K (.ref C) = true
theorem run_make {pins : List (Addr × Obj)} {σ : St} {H : Hp} {s : Shared} {Q : VK} {us : List Value} {vs : List V} (M : Mk X.K C f) (F : FnOk X.prog X.w X.K X.mg X.base CX k f fd ps sp) (hr : Room (k + 1) X.A) (hb : Binds X.K fd ps ds) (hd : Vals dvs ds)
    (hx : Passes CX X E) (I : Inv X pins σ H s) (r : Vals vs us)
    (h : ∀ x dx, H x = none → H dx = none → dx ≠ x → sp (.ref x :: (vs ++ dvs)) (upd (upd H dx (.own x)) x (.ins C dx [])) (fun v H2 => v = .non ∧ Q (.ref x) H2) E) :
    wpAny (model X.prog X.w) X.A (call (.ref C) us) (EP X pins σ Q) X.xe s := by
  have hq := h (s.heap.objs.size + 1) s.heap.objs.size (I.hok.fresh (Nat.le_succ _)) (I.hok.fresh (Nat.le_refl _)) (Nat.ne_of_lt (Nat.lt_succ_self _))
  have I2 := Inv.made (C := C) I
  have r2 : Vals (V.ref (s.heap.objs.size + 1) :: (vs ++ dvs)) (Value.ref (s.heap.objs.size + 1) :: (us ++ ds)) := .cons rfl (r.append hd)
  have hl : (Value.ref (s.heap.objs.size + 1) :: us ++ ds).length = ps.length := by
    have e := r2.length
    rw [F.len _ _ _ _ hq] at e
    exact e.symm
  refine wpAny_call (make_map (f := f) I.kIn M.makes M.init (beq_iff_eq.mp M.fn) (codeAny_mono (F.run _ X.stack _ _ ⟨Value.ref (s.heap.objs.size + 1) :: us, []⟩ (Value.ref (s.heap.objs.size + 1) :: (us ++ ds)) _ _ E (hr.make C us [])
    (I2.env0.make C us []) (hb _ (Value.ref (s.heap.objs.size + 1) :: us) I2.kIn hl) r2 hq) fun r s' hq' => ?_))
  cases r with
  | error e => exact hx pins σ _ _ e s' I2 hq'
  | ok fl =>
    cases fl with
    | ret u =>
      obtain ⟨v, H', I3, rv, ev, q3⟩ := I2.after hq'
      subst ev
      exact ⟨rv, ⟨V.ref (s.heap.objs.size + 1), H', I3, rfl, q3⟩⟩
    | next => exact False.elim hq'
    | brk => exact False.elim hq'
    | cont => exact False.elim hq'
theorem pe_make (M : Mk X.K C f) (F : FnOk X.prog X.w X.K X.mg X.base CX k f fd ps sp) (hr : Room (k + 1) X.A) (hg : Gl X x) (hm : X.mg x = some (.ref C)) (hb : Binds X.K fd ps ds) (hd : Vals dvs ds) (hx : Passes CX X E)
    (ha : PA X (e :: es) t) (hdb : (x == ("__debug__" : Str)) = false := by decide) (he : starEach (e :: es) X.env = (false, eval e X.env) :: starEach es X.env := by rfl) (hpl : (backTo pos (starEach es X.env)).any (·.1) = false := by rfl) :
    PE X (.Call (.Name x p) (e :: es) [] pos) (tMake C sp dvs E t) := by
  intro pins s σ H Q I h
  refine wpAny_Call_Name_kw (ld_glob I hg hm ?_ hdb)
  refine PySem.W.callWith_K (h₀ := X.base) I.ok.mod.kin M.kp (thn (ha pos pins s σ H _ I h) fun us s1 ⟨vs, H1, I1, r, q⟩ => ⟨I1.kIn, ?_⟩) he hpl
  exact run_make M F hr hb hd hx I1 r q
end
section
variable {X : Cx} {CX : CXT} {k : Nat} {f C : Addr} {fd : FuncData} {ps ks : List Str} {sp : Sp} {E : XK} {x m : Str} {p pos apos kpos : Pos} {e o : Expr} {es : List Expr} {kws : List Keyword} {te ta : TE} {t tk : TA} {nm : Option Str}
structure KBinds (K : PySem.W.Frag) (fd : FuncData) (ps ks : List Str) (g : List Value → List Value → List Value) (gV : List V → List V → List V) : Prop where
  to : ∀ (s : Shared) (us ws : List Value), K.In s.heap → (g us ws).length = ps.length → BindsTo s fd ⟨us, ks.zip ws⟩ (ps.zip (g us ws))
  rel : ∀ {vs : List V} {us : List Value} {zs : List V} {ws : List Value}, Vals vs us → Vals zs ws → Vals (gV vs zs) (g us ws)
variable {g : List Value → List Value → List Value} {gV : List V → List V → List V}
end
structure FnScope (N P : List Str) (sc : Scope) : Prop where
  kind : sc.kind = .function
  co : sc.isCoroutine = false
  gen : sc.isGenerator = false
  nd : N.Nodup
  pre : N.take P.length = P
  par : ∀ x ∈ P, sc.names.lookup x = some .local ∨ sc.names.lookup x = some .cell
  nofree : ∀ y ∈ sc.names, y.2 ≠ .free
theorem bindL_out {kindOf : Str → Option NameKind} {x : Str} : ∀ {binds : List (Str × Value)} {m : Str → Option Value}, (∀ v, (x, v) ∉ binds) → bindL kindOf binds m x = m x
  | [], _, _ => rfl
  | (n, v) :: r, m, h => by
    unfold bindL
    rw [bindL_out fun w hw => h w (List.mem_cons_of_mem _ hw)]
    split
    · have : x ≠ n := by rintro rfl; exact h v List.mem_cons_self
      simp [this]
    · rfl
theorem bindC_out {kindOf : Str → Option NameKind} {x : Str} : ∀ {binds : List (Str × Value)} {m : Str → Option Value}, (∀ v, (x, v) ∉ binds) → bindC kindOf binds m x = m x
  | [], _, _ => rfl
  | (n, v) :: r, m, h => by
    unfold bindC
    rw [bindC_out fun w hw => h w (List.mem_cons_of_mem _ hw)]
    split
    · rfl
    · have : x ≠ n := by rintro rfl; exact h v List.mem_cons_self
      simp [this]
theorem bindL_get {kindOf : Str → Option NameKind} {x : Str} {v : Value} : ∀ {P : List Str} {vs : List Value} {i : Nat} {m : Str → Option Value}, P.Nodup → P[i]? = some x → vs[i]? = some v → kindOf x = some .local →
    bindL kindOf (P.zip vs) m x = some v
  | [], _, _, _, _, h, _, _ => by simp at h
  | _ :: _, [], _, _, _, _, h, _ => by simp at h
  | p :: P, w :: vs, 0, m, nd, h1, h2, hk => by
    simp at h1 h2; subst h1; subst h2
    show bindL kindOf ((p, w) :: P.zip vs) m p = _
    unfold bindL
    rw [bindL_out fun v hv => (List.nodup_cons.mp nd).1 (List.of_mem_zip hv).1, if_pos hk]
    simp
  | p :: P, w :: vs, i + 1, m, nd, h1, h2, hk => by
    show bindL kindOf ((p, w) :: P.zip vs) m x = _
    unfold bindL
    exact bindL_get (i := i) (List.nodup_cons.mp nd).2 (by simpa using h1) (by simpa using h2) hk
theorem bindC_get {kindOf : Str → Option NameKind} {x : Str} {v : Value} : ∀ {P : List Str} {vs : List Value} {i : Nat} {m : Str → Option Value}, P.Nodup → P[i]? = some x → vs[i]? = some v → kindOf x ≠ some .local →
    bindC kindOf (P.zip vs) m x = some v
  | [], _, _, _, _, h, _, _ => by simp at h
  | _ :: _, [], _, _, _, _, h, _ => by simp at h
  | p :: P, w :: vs, 0, m, nd, h1, h2, hk => by
    simp at h1 h2; subst h1; subst h2
    show bindC kindOf ((p, w) :: P.zip vs) m p = _
    unfold bindC
    rw [bindC_out fun v hv => (List.nodup_cons.mp nd).1 (List.of_mem_zip hv).1, if_neg hk]
    simp
  | p :: P, w :: vs, i + 1, m, nd, h1, h2, hk => by
    show bindC kindOf ((p, w) :: P.zip vs) m x = _
    unfold bindC
    exact bindC_get (i := i) (List.nodup_cons.mp nd).2 (by simpa using h1) (by simpa using h2) hk
def start (N : List Str) (vs : List V) : St := vs.map some ++ List.replicate (N.length - vs.length) none
def cxOf (CX : CXT) (P : Program) (w : World) (K : PySem.W.Frag) (mg : Str → Option Value) (base : Heap) (N : List Str) (qual : Str) (scope : Scope) (f : Addr) (cd : Value) (A : Around) (outer : List Env) (s : Shared) (H : Hp) (E : XK) : Cx where
  prog := P
  w := w
  K := K
  mg := mg
  base := base
  A := A.deeper (envOfC qual scope s.heap.objs.size f cd)
  N := N
  s_0 := s
  H_0 := H
  env := envOfC qual scope s.heap.objs.size f cd
  outer := outer
  stack := envOfC qual scope s.heap.objs.size f cd :: outer
  ex := []
  calm := true
  fn := fun _ => true
  pn := []
  xe := fun e s' => wpAny (model P w) (A.deeper (envOfC qual scope s.heap.objs.size f cd)) (leaving (envOfC qual scope s.heap.objs.size f cd) e) (fun _ s'' => CX outer H s E e s'') (fun e' s'' => CX outer H s E e' s'') s'
theorem cell_has {sc : Scope} {n : Nat} {x : Str} (h : sc.names.lookup x = some .cell) : ∃ c, (cellsFrom n sc.names []).lookup x = some c := by
  have q := PySem.W.cellsFrom_some sc.names n [] (.inl h)
  exact Option.isSome_iff_exists.mp q
theorem inv_start {CX : CXT} {P : Program} {w : World} {K : PySem.W.Frag} {mg : Str → Option Value} {base : Heap} {N ps : List Str} {qual : Str} {scope : Scope} {f : Addr} {cd : Value} {A : Around} {outer : List Env} {s s1 : Shared} {H : Hp} {E : XK} {us : List Value} {vs : List V}
    (S : FnScope N ps scope) (hd : A.handled = none) (e0 : Env0 P w K mg base A outer s H) (hl : vs.length = ps.length) (r : Vals vs us)
    (x : InCallC s s.heap.objs.size (bindL (envOfC qual scope s.heap.objs.size f cd).kindOf (ps.zip us) fun _ => none) (cellsFrom (s.heap.objs.size + 1) scope.names []) (bindC (envOfC qual scope s.heap.objs.size f cd).kindOf (ps.zip us) fun _ => none) s1) :
    Inv (cxOf CX P w K mg base N qual scope f cd A outer s H E) [] (start N vs) H s1 := by
  have hpl : ps.length ≤ N.length := by have := congrArg List.length S.pre; rw [List.length_take] at this; omega
  obtain ⟨h1, tk, rfl, hk⟩ := x.done
  have noA : ∀ b : Addr, b ∉ (cxOf CX P w K mg base N qual scope f cd A outer s H E).ex := fun b z => absurd (show b ∈ ([] : List Addr) from z) (by simp)
  refine ⟨⟨e0.mod, S.kind, rfl, rfl, Nat.le_refl _, fun y z c h1 h2 => ?_, fun y hy => ?_, fun y c _ h => ?_, fun _ => hd, Around.frames_deeper e0.frames, .inr ⟨rfl, rfl⟩, fun b z => absurd z (noA b), e0.bs, e0.bsz, fun b _ _ => noA b, fun b z => absurd z (noA b), e0.funs, e0.frf⟩,
    rfl, e0.bare, Un.kept hk, ⟨_, x.toInCall.ns, fun i y v h1 h2 h3 => ?_⟩, fun y c h => ⟨_, x.cell y c h⟩, e0.hok.fresh (Nat.le_refl _), fun y c h => ?_, fun p hp => absurd (show p ∈ ([] : List (Addr × Obj)) from hp) (by simp), e0.hok.kept hk, ?_⟩
  · exact name_of_addr x.apart (PySem.mem_of_lookup h1) (PySem.mem_of_lookup h2)
  · have hy : scope.names.lookup y = some .cell ∨ scope.names.lookup y = some .free := hy
    rcases hy with hy | hy
    · exact cell_has hy
    · exact absurd rfl (S.nofree _ (PySem.mem_of_lookup hy))
  · exact Nat.le_of_lt (x.above y c (PySem.mem_of_lookup h))
  · have hi : i < vs.length := by
      unfold start at h2
      by_cases hi : i < vs.length
      · exact hi
      · rw [List.getElem?_append_right (by simpa using hi)] at h2
        rw [List.getElem?_replicate] at h2
        split at h2 <;> cases h2
    have ha : vs[i]? = some v := by
      unfold start at h2
      rw [List.getElem?_append_left (by simpa using hi), List.getElem?_map] at h2
      cases e : vs[i]? with
      | none => rw [e] at h2; cases h2
      | some a => rw [e] at h2; cases h2; rfl
    obtain ⟨u, hu, rv⟩ := r.get ha
    have hp : ps[i]? = some y := by
      rw [← S.pre, List.getElem?_take_of_lt (by omega)]; exact h1
    have ndP : ps.Nodup := by rw [← S.pre]; exact S.nd.sublist (List.take_sublist _ _)
    refine ⟨u, rv, ?_⟩
    rcases S.par y (List.mem_of_getElem? hp) with k | k
    · exact .inl ⟨k, bindL_get ndP hp hu k⟩
    · obtain ⟨c, e⟩ := cell_has (n := s.heap.objs.size + 1) k
      refine .inr ⟨.inl k, c, e, ?_⟩
      have q := x.cell y c e
      rw [bindC_get ndP hp hu (by show scope.names.lookup y ≠ _; rw [k]; decide)] at q
      exact q
  · exact e0.hok.fresh (Nat.le_of_lt (x.above y c (PySem.mem_of_lookup h)))
  · unfold start
    show _ = N.length
    rw [List.length_append, List.length_map, List.length_replicate]
    omega
theorem fn_of {CX : CXT} {P : Program} {w : World} {K : PySem.W.Frag} {mg : Str → Option Value} {base : Heap} {k : Nat} {f : Addr} {name qual : Str} {params : Arguments} {body : List Stmt} {scope : Scope} {dV kV doc pm cdv ct oc : Value} {an od : Option Addr}
    {osl : Array (Option Value)} {N ps : List Str} {sp : Sp} (lk : K.lookup f = some ⟨oc, od, .func (PySem.W.fnOf name qual params body scope dV kV doc pm an cdv ct), osl⟩) (hcd : PySem.W.codeIn K cdv qual = true) (S : FnScope N ps scope)
    (len : ∀ vs H Q E, sp vs H Q E → vs.length = ps.length)
    (hbody : ∀ (A : Around) (outer : List Env) (s : Shared) (H : Hp) (vs : List V) (Q : VK) (E : XK), Room k (A.deeper (envOfC qual scope s.heap.objs.size f cdv)) → sp vs H Q E →
      ∃ t, PSs (cxOf CX P w K mg base N qual scope f cdv A outer s H E) body t ∧ t { nx := fun _ H' => Q .non H', rt := Q } (start N vs) H) :
    FnOk P w K mg base CX (k + 1) f (PySem.W.fnOf name qual params body scope dV kV doc pm an cdv ct) ps sp := by
  refine ⟨len, fun A outer s H args us vs Q E hr e0 hb r hsp => ?_⟩
  have hl := len _ _ _ _ hsp
  have KX : K.In s.heap := e0.mod.kin.keeps fun b o e => (e0.bs b o e).1
  have lim : s.heap.NoLimit := e0.mod.nolimit.keeps fun b o e => (e0.bs b o e).1
  have hkind : ∀ y ∈ ps.zip us, scope.names.lookup y.1 = some .local ∨ (scope.names.lookup y.1 = some .cell ∧ ((cellsFrom (s.heap.objs.size + 1) scope.names []).lookup y.1).isSome = true) := fun ⟨n, v⟩ hy => by
    rcases S.par n (List.of_mem_zip hy).1 with q | q
    · exact .inl q
    · exact .inr ⟨q, PySem.W.cellsFrom_some _ _ _ (.inl q)⟩
  refine codeAny_call_function hr.depth (KX _ _ lk) rfl S.co S.gen rfl (PySem.W.codeRec_of KX hcd) (hb _ _ _ _ ?_)
  refine wpAny_newFunctionEnv_cells S.kind hkind fun env he s1 x => ?_
  subst he
  refine ⟨lim.keeps x.toInCall.keep, codeAny_func ?_⟩
  obtain ⟨t, ht, hq⟩ := hbody A outer s H vs Q E (hr.deeper _) hsp
  have I : Inv (cxOf CX P w K mg base N qual scope f cdv A outer s H E) [] (start N vs) H s1 := inv_start S hr.hd e0 hl r x
  refine wpAny_mono (ht [] s1 (start N vs) H _ I hq) (fun fl s' hs => ?_) fun e s' hs => hs
  have fin : ∀ {σ' : St} {H' : Hp} {v : V} {u : Value}, Inv (cxOf CX P w K mg base N qual scope f cdv A outer s H E) [] σ' H' s' → RelV v u → Q v H' → CE outer P w H s Q u s' :=
    fun {σ' H' v u} J rv q => ⟨v, H', J.os, J.bare, J.base, J.hok, rv, q⟩
  cases fl with
  | ret u =>
    obtain ⟨v, σ', H', J, rv, q⟩ := hs
    exact fin J rv q
  | next =>
    obtain ⟨σ', H', J, q⟩ := hs
    exact fin (v := V.non) (u := Value.none) J rfl q
  | brk =>
    obtain ⟨_, _, _, q⟩ := hs
    exact False.elim q
  | cont =>
    obtain ⟨_, _, _, q⟩ := hs
    exact False.elim q
end L2
namespace L2
open PySem PySem.Spec PyProof.Rows
section
variable {X : Cx} {x : Str} {p pos : Pos} {e : Expr} {es : List Expr} {t : TA} {id T : String} {r : List V → Hp → VK → Prop}
def tCB (r : List V → Hp → VK → Prop) (t : TA) : TE := fun σ H Q => t σ H fun vs H1 => r vs H1 Q
theorem pe_callB (hc : CallR X (.builtin id) r) (hg : Gl X x) (hm : X.mg x = none) (hv : bootBuiltins x = some (.builtin id)) (ha : PA X (e :: es) t) (hn : x ≠ "__name__" := by decide) (hdb : (x == ("__debug__" : Str)) = false := by decide)
    (he : starEach (e :: es) X.env = (false, eval e X.env) :: starEach es X.env := by rfl) (hpl : (backTo pos (starEach es X.env)).any (·.1) = false := by rfl) : PE X (.Call (.Name x p) (e :: es) [] pos) (tCB r t) := by
  intro pins s σ H Q I h
  refine wpAny_Call_Name_kw (ld_blt I hg hm hv ?_ hn hdb)
  exact PyProof.Rows.callWith_builtin1 (thn (ha pos pins s σ H _ I h) fun us s1 ⟨vs, H1, I1, r1, q1⟩ => hc pins s1 σ H1 vs us Q I1 r1 q1) he hpl
theorem pe_callTy (hc : CallR X (.type T) r) (hg : Gl X x) (hm : X.mg x = none) (hv : bootBuiltins x = some (.type T)) (ha : PA X (e :: es) t) (hn : x ≠ "__name__" := by decide) (hdb : (x == ("__debug__" : Str)) = false := by decide)
    (he : starEach (e :: es) X.env = (false, eval e X.env) :: starEach es X.env := by rfl) (hpl : (backTo pos (starEach es X.env)).any (·.1) = false := by rfl) : PE X (.Call (.Name x p) (e :: es) [] pos) (tCB r t) := by
  intro pins s σ H Q I h
  refine wpAny_Call_Name_kw (ld_blt I hg hm hv ?_ hn hdb)
  exact PyProof.Rows.callWith_type1 (thn (ha pos pins s σ H _ I h) fun us s1 ⟨vs, H1, I1, r1, q1⟩ => hc pins s1 σ H1 vs us Q I1 r1 q1) he hpl
end
end L2
namespace HT
open PySem PyProof.Rows
def lexLt : List Int → List Int → Bool
  | [], [] => false
  | [], _ :: _ => true
  | _ :: _, [] => false
  | x :: xs, y :: ys => if x = y then lexLt xs ys else decide (x < y)
theorem lexLt_cons (x y : Int) (xs ys : List Int) : lexLt (x :: xs) (y :: ys) = if x = y then lexLt xs ys else decide (x < y) := rfl
theorem lexLt_nil_nil : lexLt [] [] = false := rfl
section
open PySem.SeqAt
open PySem.AutoSeq1 (wpAny_loadPart')
open PySem.MeetsSeq PySem.MeetsSeq2 PySem.MeetsSeq3
end
section
variable {prog : Program} {w : World} {A : Around} {E : Value → Shared → Prop} {s : Shared}
def sIx (n d : Nat) : Option Int → Nat
  | none => d
  | some v => if v < 0 then (v + (n : Int)).toNat else min v.toNat n
theorem sIx_nat (n d k : Nat) : sIx n d (some (k : Int)) = min k n := by
  show (if (k : Int) < 0 then ((k : Int) + (n : Int)).toNat else min (k : Int).toNat n) = min k n
  rw [if_neg (by omega), Int.toNat_natCast]
end
end HT
namespace L2
open PySem PySem.Spec PyProof.Rows
abbrev TO := St → Hp → (Option Int → Hp → Prop) → Prop
def PO (X : Cx) (e : Option Expr) (t : TO) : Prop :=
  ∀ (pins : List (Addr × Obj)) (s : Shared) (σ : St) (H : Hp) (Q : Option Int → Hp → Prop), Inv X pins σ H s → t σ H Q →
    wpAny (model X.prog X.w) X.A (evalPart e X.env) (fun u s' => ∃ o H', Inv X pins σ H' s' ∧ IsPart u o ∧ Q o H') X.xe s
def tPart (t : TE) : TO := fun σ H Q => t σ H fun x H1 => ∃ i, x = .int i ∧ Q (some i) H1
theorem intsAre_of {ns : List Int} : ∀ {us : List Value}, Vals (ns.map V.int) us → IntsAre us ns := by
  induction ns with
  | nil => intro us r; rw [List.map_nil] at r; cases r; exact .nil
  | cons n ns ih =>
    intro us r
    rw [List.map_cons] at r
    cases r with
    | cons r1 r2 =>
      obtain ⟨t, e⟩ := r1
      subst e
      exact .cons n t (ih r2)
section
variable {X : Cx} {e : Expr} {te : TE} {lo hi : Option Expr} {tl th : TO} {pos p2 : Pos}
theorem po_some (h : PE X e te) : PO X (some e) (tPart te) := by
  intro pins s σ H Q I hw
  rw [evalPart_some]
  refine thn (h pins s σ H _ I hw) fun u s1 ⟨x, H1, I1, r1, q1⟩ => ?_
  obtain ⟨i, rfl, q⟩ := q1
  obtain ⟨t, rfl⟩ := r1
  exact ⟨some i, H1, I1, .int i t, q⟩
def SlR (X : Cx) (r : V → Option Int → Option Int → Hp → VK → Prop) : Prop :=
  ∀ (pins : List (Addr × Obj)) (s : Shared) (σ : St) (H : Hp) (x : V) (v vl vu : Value) (lo hi : Option Int) (sl : Addr) (Q : VK), Inv X pins σ H s → RelV x v → s.heap.IsSliceOf sl vl vu .none → IsPart vl lo → IsPart vu hi → r x lo hi H Q →
    ∃ T id, typeLookup (.type T) "__getitem__" = pure (some (.builtin id)) ∧ s.TypeIs v T ∧ wpAny (model X.prog X.w) X.A (getItem v (.ref sl)) (EP X pins σ Q) X.xe s
def tSl (r : V → Option Int → Option Int → Hp → VK → Prop) (te : TE) (tl th : TO) : TE := fun σ H Q => te σ H fun x H1 => tl σ H1 fun l H2 => th σ H2 fun u H3 => r x l u H3 Q
theorem pe_slice {r : V → Option Int → Option Int → Hp → VK → Prop} (hr : SlR X r) (he : PE X e te) (hl : PO X lo tl) (hu : PO X hi th) : PE X (.Subscript e (.Slice lo hi none p2) pos) (tSl r te tl th) := by
  intro pins s σ H Q I h
  refine Subscript_ (thn (he pins s σ H _ I h) fun v s1 ⟨x, H1, I1, r1, q1⟩ => ?_)
  refine wpAny_Slice (thn (hl pins s1 σ H1 _ I1 q1) fun vl s2 ⟨l, H2, I2, pl, q2⟩ => thn (hu pins s2 σ H2 _ I2 q2) fun vu s3 ⟨u, H3, I3, pu, q3⟩ => ?_)
  rw [evalPart_none]
  refine wpAny_pure ?_
  have I4 : Inv X pins σ H3 { s3 with heap := s3.heap.push { cls := .type "slice", data := .fields #[vl, vu, .none] } } := I3.kept (t' := s3.toks) fun b ob q => Heap.get?_push_of_some _ q
  obtain ⟨T, id, hT, ht, hg⟩ := hr pins { s3 with heap := s3.heap.push { cls := .type "slice", data := .fields #[vl, vu, .none] } } σ H3 x v vl vu l u s3.heap.objs.size Q I4 r1 (Heap.IsSliceOf.new ..) pl pu q3
  show wpAny (model X.prog X.w) X.A (subscriptTail e (.Slice lo hi none p2) v (.ref s3.heap.objs.size)) (EP X pins σ Q) X.xe { s3 with heap := s3.heap.push { cls := .type "slice", data := .fields #[vl, vu, .none] } }
  exact tail_any (ops := [.ref s3.heap.objs.size, v]) ht hT hg (by with_unfolding_all rfl)
def cutV (xs : List V) (lo hi : Option Int) : List V := (xs.drop (HT.sIx xs.length 0 lo)).take (HT.sIx xs.length xs.length hi - HT.sIx xs.length 0 lo)
theorem cutV_length (xs : List V) (lo hi : Option Int) : (cutV xs lo hi).length ≤ xs.length := by
  unfold cutV
  rw [List.length_take, List.length_drop]
  omega
end
end L2
namespace L2
open PySem PySem.Spec PyProof.Rows
def ixN (n : Nat) (i : Int) : Option Nat := if 0 ≤ i then (if i < n then some i.toNat else none) else if -(n : Int) ≤ i then some (i + n).toNat else none
def atI {α : Type} (xs : List α) (i : Int) : Option α := (ixN xs.length i).bind fun j => xs[j]?
theorem ixN_seq {n : Nat} {i : Int} {j : Nat} (h : ixN n i = some j) : seqIndex? i n = some j ∧ j < n ∧ -(n : Int) ≤ i ∧ i < n := by
  unfold ixN at h
  by_cases h0 : 0 ≤ i
  · rw [if_pos h0] at h
    by_cases h1 : i < n
    · rw [if_pos h1] at h
      have e : i.toNat = j := Option.some.inj h
      exact ⟨by rw [seqIndex_of h0 h1, e], by omega, by omega, h1⟩
    · rw [if_neg h1] at h; cases h
  · rw [if_neg h0] at h
    by_cases h1 : -(n : Int) ≤ i
    · rw [if_pos h1] at h
      have e : (i + n).toNat = j := Option.some.inj h
      exact ⟨by rw [seqIndex_neg (by omega) h1, e], by omega, h1, by omega⟩
    · rw [if_neg h1] at h; cases h
theorem atI_get {α : Type} {xs : List α} {i : Int} {v : α} (h : atI xs i = some v) : ∃ j, seqIndex? i xs.length = some j ∧ xs[j]? = some v ∧ j < xs.length ∧ -(xs.length : Int) ≤ i ∧ i < xs.length := by
  unfold atI at h
  cases e : ixN xs.length i with
  | none => rw [e] at h; cases h
  | some j =>
    rw [e] at h
    obtain ⟨h1, h2, h3, h4⟩ := ixN_seq e
    exact ⟨j, h1, h, h2, h3, h4⟩
theorem atI_nat {α : Type} {xs : List α} {j : Nat} {v : α} (h : xs[j]? = some v) : atI xs (j : Int) = some v := by
  have hj : j < xs.length := (List.getElem?_eq_some_iff.mp h).1
  have e : ixN xs.length (j : Int) = some j := by
    unfold ixN
    rw [if_pos (by omega), if_pos (by omega)]; simp
  unfold atI; rw [e]; exact h
def PlainIx (b : Expr) : Prop := ∀ o i, subscripted b false o i = operate [o, i] (getItem o i)
def IxR (X : Cx) (r : R2) : Prop :=
  ∀ (value slice : Expr) (pins : List (Addr × Obj)) (s : Shared) (σ : St) (H : Hp) (x y : V) (v u : Value) (Q : VK), Inv X pins σ H s → RelV x v → RelV y u → r x y H Q →
    subscripted slice false v u = operate [v, u] (getItem v u) → wpAny (model X.prog X.w) X.A (subscriptTail value slice v u) (EP X pins σ Q) X.xe s
def MtR (X : Cx) (id : String) (r : V → List V → Hp → VK → Prop) : Prop :=
  ∀ (pins : List (Addr × Obj)) (s : Shared) (σ : St) (H : Hp) (x : V) (xs : List V) (v : Value) (us : List Value) (Q : VK), Inv X pins σ H s → RelV x v → Vals xs us → r x xs H Q →
    wpAny (model X.prog X.w) X.A (call (.builtin id) (v :: us)) (EP X pins σ Q) X.xe s
section
variable {X : Cx} {a b : Expr} {ta tb : TE} {pos : Pos}
theorem pe_ix {r : R2} (hr : IxR X r) (ha : PE X a ta) (hb : PE X b tb) (hs : PlainIx b) : PE X (.Subscript a b pos) (tOp r ta tb) := by
  intro pins s σ H Q I h
  exact Subscript_ (binT ha hb I h fun v u s2 x y H2 I2 rx ry q => hr a b pins s2 σ H2 x y v u Q I2 rx ry q (hs _ _))
def rIxL (K : PySem.W.Frag) : R2 := fun x y H Q => ∃ p xs i v, x = .ref p ∧ y = .int i ∧ SqL K H p xs ∧ atI xs i = some v ∧ Q v H
def rIxT (K : PySem.W.Frag) : R2 := fun x y H Q => ∃ p xs i v, x = .ref p ∧ y = .int i ∧ SqT K H p xs ∧ atI xs i = some v ∧ Q v H
theorem ix_list : IxR X (rIxL X.K) := by
  intro value slice pins s σ H x y v u Q I rx ry h hs
  obtain ⟨p, xs, i, z, rfl, rfl, hq, he, q⟩ := h
  cases rx
  obtain ⟨t, rfl⟩ := ry
  obtain ⟨its, r, pl, hz⟩ := I.list hq
  obtain ⟨j, h1, h2, h3, h4, h5⟩ := atI_get he
  obtain ⟨w, ew, rw'⟩ := r.get h2
  have hl := r.length
  have hn := line63
  have fin : EP X pins σ Q w s := ⟨z, H, I, rw', q⟩
  by_cases h0 : 0 ≤ i
  · have hj : i.toNat = j := by
      rw [seqIndex_of h0 h5] at h1
      exact Option.some.inj h1
    exact item_listR pl.isList h0 (by omega) (by rw [hj]; simpa using ew) fin hs
  · have hj : (i + (its.toArray.size : Int)).toNat = j := by
      rw [seqIndex_neg (by omega) h4] at h1
      rw [List.size_toArray, ← hl]
      exact Option.some.inj h1
    exact subscriptTail_builtinR (x := w) pl.isList.typeIs slot_list_getitem.lookup
      (wpAny_getItem_list_neg (Q := fun r s' => r = w ∧ EP X pins σ Q r s') pl.isList (by omega) (by rw [List.size_toArray] <;> omega) (by omega) (by rw [hj]; simpa using ew) ⟨rfl, fin⟩) hs
theorem ix_tup : IxR X (rIxT X.K) := by
  intro value slice pins s σ H x y v u Q I rx ry h hs
  obtain ⟨p, xs, i, z, rfl, rfl, hq, he, q⟩ := h
  cases rx
  obtain ⟨t, rfl⟩ := ry
  obtain ⟨its, r, pl, hz⟩ := I.tuple hq
  obtain ⟨j, h1, h2, h3, h4, h5⟩ := atI_get he
  obtain ⟨w, ew, rw'⟩ := r.get h2
  have hl := r.length
  have hn := line63
  have fin : EP X pins σ Q w s := ⟨z, H, I, rw', q⟩
  exact subscriptTail_builtinR (x := w) pl.typeIs slot_tuple_getitem.lookup
    (getItem_tuple (j := j) (Q := fun r s' => r = w ∧ EP X pins σ Q r s') pl (by omega) (by omega) (by rw [List.size_toArray, ← hl]; exact h1) (by simpa using ew) ⟨rfl, fin⟩) hs
theorem mapSeq_set (its : List Value) (n j : Nat) (u : Value) : Obj.mapSeq (·.setIfInBounds j u) { cls := .type "list", data := .seq its.toArray n } = { cls := .type "list", data := .seq (its.set j u).toArray n } := by
  simp [Obj.mapSeq]
theorem Inv.lst {pins : List (Addr × Obj)} {σ : St} {H : Hp} {s : Shared} {p : Addr} {xs : List V} (I : Inv X pins σ H s) (h : H p = some (.lst xs)) :
    ∃ (its : List Value) (n : Nat), Vals xs its ∧ s.heap.get? p = some { cls := .type "list", data := .seq its.toArray n } ∧ xs.length ≤ sizeLine := by
  obtain ⟨z, its, n, r, e⟩ := I.hok p _ h
  exact ⟨its, n, r, e, z⟩
theorem Inv.lstUpd {pins : List (Addr × Obj)} {σ : St} {H : Hp} {s : Shared} {p : Addr} {xs ys : List V} {its its' : List Value} {n n' : Nat} {f : Obj → Obj} (I : Inv X pins σ H s) (h : H p = some (.lst xs))
    (ho : s.heap.get? p = some { cls := .type "list", data := .seq its.toArray n }) (hf : f { cls := .type "list", data := .seq its.toArray n } = { cls := .type "list", data := .seq its'.toArray n' }) (r : Vals ys its') (hz : ys.length ≤ sizeLine) (t : Nat) :
    Inv X pins σ (upd H p (.lst ys)) { s with heap := s.heap.update p f, toks := t } := by
  have e : (s.heap.update p f).get? p = some { cls := .type "list", data := .seq its'.toArray n' } := by
    rw [Heap.get?_update_self f ho (by rw [hf] <;> rfl), hf]
  refine I.write (x := p) (e := p) (by rw [h]; trivial) (.inl rfl) (fun b u hb q => (Heap.get?_update_other _ _ (Ne.symm hb)).trans q) ⟨_, e⟩ ?_
  exact ⟨hz, its', n', r, e⟩
def rSetL : V → V → V → Hp → (Hp → Prop) → Prop := fun o i v H Q => ∃ p xs k j, o = .ref p ∧ i = .int k ∧ H p = some (.lst xs) ∧ ixN xs.length k = some j ∧ Q (upd H p (.lst (xs.set j v)))
theorem set_list : PSet X rSetL := by
  intro pins s σ H o i v ov iv u Q I ro ri rv h
  obtain ⟨p, xs, k, j, rfl, rfl, hp, hj, q⟩ := h
  cases ro
  obtain ⟨t, rfl⟩ := ri
  obtain ⟨its, n, r, ho, hz⟩ := I.lst hp
  obtain ⟨h1, h2, h3, h4⟩ := ixN_seq hj
  have hl := r.length
  have hn := line63
  have I' : Inv X pins σ (upd H p (.lst (xs.set j v))) { s with heap := s.heap.update p (Obj.mapSeq (·.setIfInBounds j u)) } :=
    I.lstUpd hp ho (mapSeq_set its n j u) (r.set rv j) (by rw [List.length_set]; exact hz) s.toks
  by_cases h0 : 0 ≤ k
  · have hk : k.toNat = j := by
      rw [seqIndex_of h0 h4] at h1
      exact Option.some.inj h1
    exact PySem.W.ki_setAt ho h0 (by omega) (by rw [List.size_toArray, ← hl]; exact h4) (by rw [hk]; exact ⟨_, I', q⟩)
  · have hk : (k + (its.toArray.size : Int)).toNat = j := by
      rw [seqIndex_neg (by omega) h3] at h1
      rw [List.size_toArray, ← hl]
      exact Option.some.inj h1
    exact PySem.W.ki_setBack ho (by omega) (by rw [List.size_toArray, ← hl]; exact h3) (by omega) (by rw [hk]; exact ⟨_, I', q⟩)
theorem slice_bounds (lo hi : Option Int) (n : Nat) : (sliceBounds lo hi none n).1 = ((HT.sIx n 0 lo : Nat) : Int) ∧ (sliceBounds lo hi none n).2.1 = ((HT.sIx n n hi : Nat) : Int) ∧ (sliceBounds lo hi none n).2.2 = 1 := by
  refine ⟨?_, ?_, rfl⟩
  · cases lo with
    | none => simp [sliceBounds, HT.sIx]
    | some i =>
      simp only [sliceBounds, HT.sIx, Option.getD_none, show (1 : Int) > 0 by decide, if_true]
      by_cases h : i < 0
      · simp only [h, if_true] <;> omega
      · simp only [h, if_false] <;> omega
  · cases hi with
    | none => simp [sliceBounds, HT.sIx]
    | some i =>
      simp only [sliceBounds, HT.sIx, Option.getD_none, show (1 : Int) > 0 by decide, if_true]
      by_cases h : i < 0
      · simp only [h, if_true] <;> omega
      · simp only [h, if_false] <;> omega
theorem slicePick_cut (its : List Value) (lo hi : Option Int) : slicePick its.toArray lo hi none = ((its.drop (HT.sIx its.length 0 lo)).take (HT.sIx its.length its.length hi - HT.sIx its.length 0 lo)).toArray := by
  obtain ⟨h1, h2, h3⟩ := slice_bounds lo hi its.toArray.size
  unfold slicePick
  rw [h1, h2, h3]
  simp only [sliceRange_one, pick_run, List.size_toArray] <;> rfl
def rSlL (K : PySem.W.Frag) : V → Option Int → Option Int → Hp → VK → Prop := fun x lo hi H Q => ∃ a xs, x = .ref a ∧ SqL K H a xs ∧ ∀ p, H p = none → Q (.ref p) (upd H p (.lst (cutV xs lo hi)))
theorem sl_list : SlR X (rSlL X.K) := by
  intro pins s σ H x v vl vu lo hi sl Q I rx hs pl pu h
  obtain ⟨a, xs, rfl, hx, q⟩ := h
  cases rx
  obtain ⟨its, r, ht, hz⟩ := I.list hx
  have hlen := r.length
  refine ⟨"list", _, slot_list_getitem.lookup, ht.isList.typeIs, ?_⟩
  refine wpAny_getItem_list_slice ht.isList hs pl pu .none (by simp) ?_ (by rw [List.size_toArray] <;> omega)
  rw [slicePick_cut, ← hlen]
  refine ⟨.ref s.heap.objs.size, _, I.laid (t' := s.toks) (o := .lst (cutV xs lo hi)) (fun b ob q => Heap.get?_push_of_some _ q) (Nat.le_refl _) ?_, rfl, q _ (I.hok.fresh (Nat.le_refl _))⟩
  exact ⟨Nat.le_trans (cutV_length xs lo hi) hz, _, 0, (r.drop (HT.sIx xs.length 0 lo)).take (HT.sIx xs.length xs.length hi - HT.sIx xs.length 0 lo), Heap.get?_push_size _ rfl⟩
theorem call_len_seq : CallR X (.builtin "len") (fun xs H Q => ∃ p ys, xs = [.ref p] ∧ (SqL X.K H p ys ∨ SqT X.K H p ys) ∧ Q (.int ys.length) H) := by
  intro pins s σ H xs us Q I r h
  obtain ⟨p, ys, rfl, hq, q⟩ := h
  obtain ⟨u, rfl, rx⟩ := vals1 r
  cases rx
  have hn := line63
  rcases hq with hq | hq
  · obtain ⟨its, r', pl, hz⟩ := I.list hq
    have hlen := r'.length
    exact Calls.call_len_list pl.isList (by simp only [List.size_toArray] <;> omega) ⟨.int ys.length, H, I.tok _, ⟨s.toks + 1, by rw [List.size_toArray, hlen]⟩, q⟩
  · obtain ⟨its, r', pl, hz⟩ := I.tuple hq
    have hlen := r'.length
    exact len_tuple pl (by simp only [List.size_toArray] <;> omega) ⟨.int ys.length, H, I.tok _, ⟨s.toks + 1, by rw [List.size_toArray, hlen]⟩, q⟩
theorem call_list_of : CallR X (.type "list") (fun xs H Q => ∃ p ys, xs = [.ref p] ∧ (SqL X.K H p ys ∨ SqT X.K H p ys) ∧ ∀ l, H l = none → Q (.ref l) (upd H l (.lst ys))) := by
  intro pins s σ H xs us Q I r h
  obtain ⟨p, ys, rfl, hq, q⟩ := h
  obtain ⟨u, rfl, rx⟩ := vals1 r
  cases rx
  have fin : ∀ (its : List Value), Vals ys its → ys.length ≤ sizeLine → ∀ (h' : Heap) (c' : Nat), (∀ b o', s.heap.get? b = some o' → h'.get? b = some o') →
      h'.get? s.heap.objs.size = some { cls := .type "list", dict := none, data := .seq its.toArray c', slots := #[] } → EP X pins σ Q (.ref s.heap.objs.size) { s with heap := h' } := fun its r' hz h' c' kp e =>
    ⟨.ref s.heap.objs.size, _, I.laid (t' := s.toks) kp (Nat.le_refl _) (show ObjOk X.prog X.w _ h' _ (.lst ys) from ⟨hz, its, c', r', e⟩), rfl, q _ (I.hok.fresh (Nat.le_refl _))⟩
  rcases hq with hq | hq
  · obtain ⟨its, r', pl, hz⟩ := I.list hq
    have hlen := r'.length
    obtain ⟨o, ho, hc, n, hd⟩ := pl.isList
    exact call_list_seq p (.inl rfl) ho hc hd (fun h' c' kp e => fin its r' hz h' c' kp e) (by simp only [List.size_toArray] <;> omega)
  · obtain ⟨its, r', pl, hz⟩ := I.tuple hq
    have hlen := r'.length
    obtain ⟨o, ho, hc, n, hd⟩ := pl
    exact call_list_seq p (.inr rfl) ho hc hd (fun h' c' kp e => fin its r' hz h' c' kp e) (by simp only [List.size_toArray] <;> omega)
theorem call_tuple_of : CallR X (.type "tuple") (fun xs H Q => ∃ p ys, xs = [.ref p] ∧ ((SqL X.K H p ys ∧ ∀ l, H l = none → Q (.ref l) (upd H l (.tup ys))) ∨ (SqT X.K H p ys ∧ Q (.ref p) H))) := by
  intro pins s σ H xs us Q I r h
  obtain ⟨p, ys, rfl, h⟩ := h
  obtain ⟨u, rfl, rx⟩ := vals1 r
  cases rx
  rcases h with ⟨hq, q⟩ | ⟨hq, q⟩
  · obtain ⟨its, r', pl, hz⟩ := I.list hq
    have hlen := r'.length
    refine call_tuple_list pl.isList (fun h' kp => ?_) (by simp only [List.size_toArray] <;> omega)
    have I1 : Inv X pins σ H { s with heap := h' } := I.kept (t' := s.toks) kp
    have I2 : Inv X pins σ (upd H h'.objs.size (.tup ys)) { s with heap := h'.push { cls := .type "tuple", data := .seq its.toArray } } :=
      I1.laid (t' := s.toks) (fun b o e => Heap.get?_push_of_some _ e) (Nat.le_refl _) (show ObjOk X.prog X.w _ _ _ (.tup ys) from ⟨hz, its, r', IsTup.new _ _⟩)
    exact ⟨.ref h'.objs.size, _, I2, rfl, q _ (I1.hok.fresh (Nat.le_refl _))⟩
  · obtain ⟨its, r', pl, hz⟩ := I.tuple hq
    exact call_tuple_same pl ⟨.ref p, H, I, rfl, q⟩
def tyV (K : PySem.W.Frag) (T : String) (x : V) (H : Hp) : Prop := match x with
  | .str _ => T = "str"
  | .int _ => T = "int"
  | .ref p => (T = "list" ∧ ∃ xs, SqL K H p xs) ∨ (T = "tuple" ∧ ∃ o, K.lookup p = some o ∧ o.cls = .type "tuple" ∧ o.dict = none) ∨
      (T = "dict" ∧ ((∃ kvs, H p = some (.dK kvs)) ∨ ∃ kvs, H p = some (.dT kvs))) ∨ (T = "set" ∧ ∃ S n, H p = some (.set S n))
  | _ => False
theorem tyV_is {pins : List (Addr × Obj)} {σ : St} {H : Hp} {s : Shared} {T : String} {x : V} {v : Value} (I : Inv X pins σ H s) (r : RelV x v) (ty : tyV X.K T x H) :
    s.TypeIs v T ∧ ∀ a, v = .ref a → ∃ ob, s.heap.get? a = some ob ∧ ob.dict = none := by
  cases x with
  | str z =>
    obtain ⟨t, rfl⟩ := r
    cases (show T = "str" from ty)
    exact ⟨typeIs_str s z t, fun _ e => nomatch e⟩
  | int i =>
    obtain ⟨t, rfl⟩ := r
    cases (show T = "int" from ty)
    exact ⟨typeIs_int s i t, fun _ e => nomatch e⟩
  | ref p =>
    cases r
    rcases ty with ⟨rfl, xs, hq⟩ | ⟨rfl, o, hk, hc, hd⟩ | ⟨rfl, hk⟩ | ⟨rfl, S, n, hk⟩
    · obtain ⟨its, _, pl, _⟩ := I.list hq
      refine ⟨pl.isList.typeIs, fun a e => ?_⟩
      cases e
      obtain ⟨o, n, e, c, hd, _⟩ := pl
      exact ⟨o, e, hd⟩
    · refine ⟨⟨o, I.kIn p o hk, hc⟩, fun a e => ?_⟩
      cases e
      exact ⟨o, I.kIn _ o hk, hd⟩
    · have z : ∃ o, s.heap.get? p = some o ∧ o.ExactDict := by
        rcases hk with ⟨kvs, hk⟩ | ⟨kvs, hk⟩
        · obtain ⟨_, _, _, _, o, _, _, e, ex, _⟩ := I.hok p _ hk
          exact ⟨o, e, ex⟩
        · obtain ⟨_, _, _, _, o, _, _, e, ex, _⟩ := I.hok p _ hk
          exact ⟨o, e, ex⟩
      obtain ⟨o, e, ex⟩ := z
      refine ⟨⟨o, e, ex.1⟩, fun a e2 => ?_⟩
      cases e2
      exact ⟨o, e, ex.2.1⟩
    · obtain ⟨o, _, _, _, e, ex, _⟩ := I.hok p _ hk
      refine ⟨⟨o, e, ex.1⟩, fun a e2 => ?_⟩
      cases e2
      exact ⟨o, e, ex.2.1⟩
  | _ => exact False.elim ty
def tBM0 (K : PySem.W.Frag) (T : String) (r : V → List V → Hp → VK → Prop) (to : TE) : TE := fun σ H Q => to σ H fun x H1 => tyV K T x H1 ∧ r x [] H1 Q
def tBM (K : PySem.W.Frag) (T : String) (r : V → List V → Hp → VK → Prop) (to : TE) (t : TA) : TE := fun σ H Q => to σ H fun x H1 => tyV K T x H1 ∧ t σ H1 fun xs H2 => r x xs H2 Q
variable {o e : Expr} {es : List Expr} {to : TE} {t : TA} {name : Str} {apos cpos : Pos} {T id : String} {r : V → List V → Hp → VK → Prop}
theorem pe_bm0 (pa : PlainAttrs T) (slot : Slot T name id) (hty : typeOf (.builtin id) = pure (.type "method_descriptor")) (hm : MtR X id r) (ho : PE X o to)
    (hbase : attributeBase o name X.env (eval o X.env) = eval o X.env := by rfl) (hline : (apos.endLine == cpos.line) = true := by rfl) : PE X (.Call (.Attribute o name apos) [] [] cpos) (tBM0 X.K T r to) := by
  intro pins s σ H Q I h
  refine wpAny_Call_method0_late hbase hline (thn (ho pins s σ H _ I h) fun v s1 ⟨x, H1, I1, r1, ty, q1⟩ => ?_)
  obtain ⟨h1, h2⟩ := tyV_is I1 r1 ty
  exact ⟨T, id, pa, slot, hty, h1, h2, Calls.callWith_builtin rfl (PySem.evalArgs_none (hm pins s1 σ H1 x [] v [] Q I1 r1 .nil q1))⟩
theorem pe_bm (pa : PlainAttrs T) (slot : Slot T name id) (hty : typeOf (.builtin id) = pure (.type "method_descriptor")) (hm : MtR X id r) (ho : PE X o to) (ha : PA X (e :: es) t)
    (hbase : attributeBase o name X.env (eval o X.env) = eval o X.env := by rfl)
    (hfew : ((backTo cpos (starEach (e :: es) X.env)).all (fun x => !x.1) && (backToKw cpos (keywordEach [] X.env)).all (fun x => x.1.isSome)
      && decide ((e :: es).length + ([] : List Keyword).length + (if ([] : List Keyword).isEmpty then 0 else 1) < 30)) = true := by rfl)
    (hline : (apos.endLine == cpos.line) = true := by rfl) (hs : starEach (e :: es) X.env = (false, eval e X.env) :: starEach es X.env := by rfl) (hplain : (backTo cpos (starEach es X.env)).any (·.1) = false := by rfl) :
    PE X (.Call (.Attribute o name apos) (e :: es) [] cpos) (tBM X.K T r to t) := by
  intro pins s σ H Q I h
  refine wpAny_Call_method_late hbase hfew hline rfl (thn (ho pins s σ H _ I h) fun v s1 ⟨x, H1, I1, r1, ty, q1⟩ => ?_)
  obtain ⟨h1, h2⟩ := tyV_is I1 r1 ty
  refine ⟨T, id, pa, slot, hty, h1, h2, ?_⟩
  have hA := ha cpos pins s1 σ H1 _ I1 q1
  rw [hs] at hA ⊢
  refine Calls.callWith_builtin (by show (false || (backTo cpos (starEach es X.env)).any (·.1)) = false; rw [hplain] <;> rfl) (Calls.evalArgs_plain ?_)
  exact thn hA fun us s2 ⟨vs, H2, I2, r2, q2⟩ => hm pins s2 σ H2 x vs v us Q I2 r1 r2 q2
/- xs.append(e), list.index on a module's tuple .. are MtR facts of 06m -/
end
end L2
namespace L2
open PySem PySem.Spec PyProof.Rows
def MtM (X : Cx) (id : String) (r : V → List V → Hp → VK → Prop) : Prop :=
  ∀ (pins : List (Addr × Obj)) (s : Shared) (σ : St) (H : Hp) (x : V) (xs : List V) (v : Value) (us : List Value) (Q : VK), Inv X pins σ H s → RelV x v → Vals xs us → r x xs H Q →
    wpAny (model X.prog X.w) X.A (call (.builtin id) (v :: us)) (EP X pins σ Q) X.xe s
theorem Vals.one : ∀ {x : V} {us : List Value}, Vals [x] us → ∃ u, us = [u] ∧ RelV x u
  | _, _, .cons r .nil => ⟨_, rfl, r⟩
theorem Vals.zero : ∀ {us : List Value}, Vals [] us → us = []
  | _, .nil => rfl
theorem Vals.dropLast {xs : List V} {us : List Value} (h : Vals xs us) : Vals xs.dropLast us.dropLast := by
  induction h with
  | nil => exact .nil
  | cons r t ih =>
    cases t with
    | nil => exact .nil
    | cons q t' => exact .cons r ih
theorem erase_last {α : Type} (l : List α) : l.eraseIdx (l.length - 1) = l.dropLast := by
  induction l with
  | nil => rfl
  | cons a r ih =>
    cases r with
    | nil => rfl
    | cons b r =>
      have e : (a :: b :: r).length - 1 = ((b :: r).length - 1) + 1 := by
        have h1 : (a :: b :: r).length = r.length + 2 := rfl
        have h2 : (b :: r).length = r.length + 1 := rfl
        omega
      rw [e, List.eraseIdx_cons_succ, ih]
      all_goals rfl
section
variable {X : Cx} {pins : List (Addr × Obj)} {σ : St} {H : Hp} {s : Shared} {l b : Addr} {xs ys zs : List V}
theorem Inv.lset {its its' : List Value} {n : Nat} {f : Array Value → Array Value} {t' : Nat} (I : Inv X pins σ H s) (hH : H l = some (.lst xs))
    (e : s.heap.get? l = some { cls := .type "list", data := .seq its.toArray n }) (hf : f its.toArray = its'.toArray) (hv : Vals ys its') (hz : ys.length ≤ sizeLine) :
    Inv X pins σ (upd H l (.lst ys)) { s with heap := s.heap.update l (Obj.mapSeq f), toks := t' } := by
  have q := PySem.IsL.update e f
  rw [hf] at q
  refine I.write (x := l) (e := l) (by rw [hH]; exact trivial) (.inl rfl) (fun b' u hb hu => (Heap.get?_update_other s.heap (Obj.mapSeq f) (Ne.symm hb)).trans hu) ⟨_, q⟩ ?_
  exact ⟨hz, its', _, hv, q⟩
theorem Inv.lnew {its : List Value} {t' : Nat} (I : Inv X pins σ H s) (hv : Vals ys its) (hz : ys.length ≤ sizeLine) :
    Inv X pins σ (upd H s.heap.objs.size (.lst ys)) { s with heap := s.heap.push { cls := .type "list", data := .seq its.toArray }, toks := t' } :=
  I.laid (fun _ _ q => Heap.get?_push_of_some _ q) (Nat.le_refl _) ⟨hz, its, 0, hv, Heap.get?_push_size _ rfl⟩
theorem Inv.fresh (I : Inv X pins σ H s) : H s.heap.objs.size = none := I.hok.fresh (Nat.le_refl _)
theorem Inv.lstM (I : Inv X pins σ H s) (hH : H l = some (.lst xs)) : xs.length ≤ sizeLine ∧ ∃ (its : List Value) (n : Nat), Vals xs its ∧ xs.length = its.length ∧ s.heap.get? l = some { cls := .type "list", data := .seq its.toArray n } := by
  obtain ⟨z, its, n, r, e⟩ := I.hok l _ hH
  exact ⟨z, its, n, r, r.length, e⟩
theorem notLongL {n : Nat} (h : n ≤ sizeLine) : Builtin.List.listTooLong n = false := by
  unfold Builtin.List.listTooLong
  exact decide_eq_false (by omega)
end
section
variable {X : Cx}
def rAppend : V → List V → Hp → VK → Prop := fun x vs H Q => ∃ l xs y, x = .ref l ∧ vs = [y] ∧ H l = some (.lst xs) ∧ xs.length < sizeLine ∧ Q .non (upd H l (.lst (xs ++ [y])))
theorem mt_append : MtM X "list.append" rAppend := by
  intro pins s σ H x vs v us Q I rx rv h
  obtain ⟨l, xs, y, rfl, rfl, hH, hz, q⟩ := h
  cases rx
  obtain ⟨u, rfl, ru⟩ := rv.one
  obtain ⟨z, its, n, r, hl, e⟩ := I.lstM hH
  refine call_meets F.slot_list_append ⟨_, e, rfl⟩ F.entry_list_append (F.args_list_append_2 _ _) (PySem.list_append l its.toArray n u (by rw [List.size_toArray]; omega)) ⟨e, ?_⟩
  refine ⟨.non, _, I.lset (its' := its ++ [u]) hH e (by simp) (r.append (.cons ru .nil)) ?_, rfl, q⟩
  rw [List.length_append, List.length_singleton]
  omega
def rExtend : V → List V → Hp → VK → Prop := fun x vs H Q => ∃ l b xs zs, x = .ref l ∧ vs = [.ref b] ∧ H l = some (.lst xs) ∧ H b = some (.lst zs) ∧ xs.length + zs.length ≤ sizeLine ∧ Q .non (upd H l (.lst (xs ++ zs)))
theorem mt_extend : MtM X "list.extend" rExtend := by
  intro pins s σ H x vs v us Q I rx rv h
  obtain ⟨l, b, xs, zs, rfl, rfl, hH, hB, hz, q⟩ := h
  cases rx
  obtain ⟨u, rfl, ru⟩ := rv.one
  cases ru
  obtain ⟨z, its, n, r, hl, e⟩ := I.lstM hH
  obtain ⟨z2, its2, n2, r2, hl2, e2⟩ := I.lstM hB
  have hsz : its.toArray.size + its2.toArray.size ≤ sizeLine := by rw [List.size_toArray, List.size_toArray]; omega
  have hlong : ¬ (!its.toArray.isEmpty && Builtin.List.listTooLong (its.toArray.size + its2.toArray.size)) = true := by
    rw [notLongL hsz, Bool.and_false]
    exact Bool.false_ne_true
  refine call_meets F.slot_list_extend ⟨_, e, rfl⟩ F.entry_list_extend (F.args_list_extend_2 _ _)
    (AutoSeq1.list_extend_list_list_0 l its.toArray n b its2.toArray n2 hlong (by rw [List.size_toArray]; omega) (by omega)) ⟨e, e2, ?_⟩
  refine ⟨.non, _, I.lset (its' := its ++ its2) hH e (by simp) (r.append r2) ?_, rfl, q⟩
  rw [List.length_append]
  omega
def rPop : V → List V → Hp → VK → Prop := fun x vs H Q => ∃ l xs y, x = .ref l ∧ vs = [] ∧ H l = some (.lst xs) ∧ xs[xs.length - 1]? = some y ∧ Q y (upd H l (.lst xs.dropLast))
theorem mt_pop : MtM X "list.pop" rPop := by
  intro pins s σ H x vs v us Q I rx rv h
  obtain ⟨l, xs, y, rfl, rfl, hH, hy, q⟩ := h
  cases rx
  have hus := rv.zero
  subst hus
  obtain ⟨z, its, n, r, hl, e⟩ := I.lstM hH
  obtain ⟨u, hu, ru⟩ := r.get hy
  have hy' : its.toArray[its.toArray.size - 1]? = some u := by
    show its.toArray[its.length - 1]? = some u
    rw [← Array.getElem?_toList, ← hl]
    exact hu
  refine call_meets F.slot_list_pop ⟨_, e, rfl⟩ F.entry_list_pop (F.args_list_pop_1 _) (MeetsSeq.list_pop_last l its.toArray n u hy' (by rw [List.size_toArray]; omega)) ⟨e, ?_⟩
  refine ⟨y, _, I.lset (its' := its.dropLast) hH e ?_ r.dropLast ?_, ru, q⟩
  · show its.toArray.eraseIdxIfInBounds (its.toArray.size - 1) = its.dropLast.toArray
    rw [List.size_toArray, List.eraseIdxIfInBounds_toArray, erase_last]
  · rw [List.length_dropLast]
    omega
def rCat : R2 := fun x y H Q => ∃ l b xs zs, x = .ref l ∧ y = .ref b ∧ H l = some (.lst xs) ∧ H b = some (.lst zs) ∧ xs.length + zs.length ≤ sizeLine ∧ ∀ p, H p = none → Q (.ref p) (upd H p (.lst (xs ++ zs)))
theorem op_cat : OpR X (binaryOp .Add) rCat := by
  intro pins s σ H x y v u Q I rx ry h
  obtain ⟨l, b, xs, zs, rfl, rfl, hH, hB, hz, q⟩ := h
  cases rx
  cases ry
  obtain ⟨z, its, n, r, hl, e⟩ := I.lstM hH
  obtain ⟨z2, its2, n2, r2, hl2, e2⟩ := I.lstM hB
  refine PySem.P.add_list e e2 ?_ (by rw [List.size_toArray, List.size_toArray]; omega)
  have ea : its.toArray ++ its2.toArray = (its ++ its2).toArray := by simp
  rw [ea]
  exact ⟨.ref _, _, I.lnew (t' := s.toks) (r.append r2) (by rw [List.length_append]; omega), rfl, q _ I.fresh⟩
end
section
variable {prog : Program} {w : World} {A : Around} {E : Value → Shared → Prop} {s : Shared}
set_option maxRecDepth 100000 in
end
section
variable {X : Cx}
end
end L2
namespace L2
open PySem PySem.Spec PyProof.Rows
theorem Vals.ints : ∀ {ns : List Int} {us : List Value}, Vals (ns.map V.int) us → IntsAre us ns
  | [], us, h => by
    rw [List.map_nil] at h
    cases h
    exact IntsAre.nil
  | n :: ns, us, h => by
    rw [List.map_cons] at h
    cases h with
    | cons r t =>
      obtain ⟨k, rfl⟩ := r
      exact IntsAre.cons n k (Vals.ints t)
theorem Vals.bls : ∀ {bs : List Bool} {us : List Value}, Vals (bs.map V.bl) us → us = bs.map Value.bool
  | [], us, h => by
    rw [List.map_nil] at h
    cases h
    rfl
  | b :: bs, us, h => by
    rw [List.map_cons] at h
    cases h with
    | cons r t =>
      cases r
      rw [Vals.bls t, List.map_cons]
theorem Vals.ref1 {a : Addr} {us : List Value} (r : Vals [V.ref a] us) : us = [Value.ref a] := by
  cases r with
  | cons r t =>
    cases t
    cases r
    rfl
section
variable {prog : Program} {w : World} {A : Around} {E : Value → Shared → Prop} {s : Shared} {l : Addr} {its : List Value} {ns : List Int} {Q : Value → Shared → Prop}
theorem sum_raw (hh : A.handled = none) (hl : s.heap.IsList l its.toArray) (hi : IntsAre its ns)
    (h : ∀ h' tk t', (∀ b o, s.heap.get? b = some o → h'.get? b = some o) → Q (.int ns.sum t') { s with heap := h', toks := tk }) : wpAny (model prog w) A (call (.builtin "sum") [.ref l]) Q E s := by
  obtain ⟨xs, e⟩ := hi.allInts.items
  have hn : numsOf (intItems xs).toList = ns := by rw [← e]; exact hi.numsOf
  rw [nums_intItems] at hn
  rw [e] at hl
  refine PySem.sum_intListG hh hl fun h' tk t' hk => ?_
  have := h h' tk t' hk
  rw [preSum_eq, List.take_of_length_le (by simp), hn]; exact this
end
section
variable {X : Cx}
def rSum (K : PySem.W.Frag) : List V → Hp → VK → Prop := fun vs H Q => ∃ (a : Addr) (ns : List Int), vs = [V.ref a] ∧ SqL K H a (ns.map V.int) ∧ Q (.int ns.sum) H
theorem cr_sum (hc : X.calm = true) : CallR X (.builtin "sum") (rSum X.K) := by
  intro pins s σ H vs us Q I r h
  obtain ⟨a, ns, rfl, hs, q⟩ := h
  obtain ⟨its, rv, hl, _⟩ := I.list hs
  rw [Vals.ref1 r]
  exact sum_raw (I.ok.hd hc) hl.isList rv.ints fun h' tk t' hk => ⟨.int _, H, I.kept hk, ⟨_, rfl⟩, q⟩
end
section
variable {X : Cx}
end
section
variable {X : Cx}
end
theorem iter_any {prog : Program} {w : World} {A : Around} {E : Value → Shared → Prop} {s : Shared} {l : Addr} {items : Array Value} {Q : Value → Shared → Prop} (hl : s.heap.IsList l items)
    (h : ∀ s₂ : Shared, s₂ = { s with heap := s.heap.push { cls := .type "list_iterator", data := .fields #[.ref l, .int 0 0] } } →
      (s₂.heap.IsListIter s.heap.objs.size l 0 ∧ s₂.heap.IsList l items) → l ≠ s.heap.objs.size → Q (.ref s.heap.objs.size) s₂) : wpAny (model prog w) A (pyIter (.ref l)) Q E s := by
  have hlt : l < s.heap.objs.size := by obtain ⟨_, e, _⟩ := hl; exact Heap.lt_size e
  exact wpAny_pyIter_list hl (h _ rfl ⟨⟨_, Heap.get?_push_size _ rfl, rfl, rfl⟩, hl.push _⟩ (Nat.ne_of_lt hlt))
theorem truth_bools {prog : Program} {w : World} {A : Around} {bs : List Bool} {its : List Value} (e : its = bs.map Value.bool) :
    TruthOf prog w A (fun i v => its.toArray[i]? = some v) (fun i => bs.getD i false) := fun i v s Q E hv hq => by
  have hv' : its[i]? = some v := by simpa using hv
  rw [e, List.getElem?_map] at hv'
  obtain ⟨b, hb, rfl⟩ := Option.map_eq_some_iff.mp hv'
  have hg : bs.getD i false = b := by rw [List.getD_eq_getElem?_getD, hb] <;> rfl
  have hq' : Q (bs.getD i false) s := hq
  rw [hg] at hq'
  exact wpAny_truthy_bool hq'
theorem all_range : ∀ bs : List Bool, (List.range bs.length).all (fun i => bs.getD i false) = bs.all id
  | [] => rfl
  | b :: bs => by
    rw [List.length_cons, List.range_succ_eq_map, List.all_cons, List.all_map, List.all_cons, ← all_range bs]
    all_goals rfl
section
variable {X : Cx}
def rAll (K : PySem.W.Frag) : List V → Hp → VK → Prop := fun vs H Q => ∃ (a : Addr) (bs : List Bool), vs = [V.ref a] ∧ SqL K H a (bs.map V.bl) ∧ Q (.bl (bs.all id)) H
theorem cr_all (hc : X.calm = true) : CallR X (.builtin "all") (rAll X.K) := by
  intro pins s σ H vs us Q I r h
  obtain ⟨a, bs, rfl, hs, q⟩ := h
  obtain ⟨its, rv, hl, _⟩ := I.list hs
  rw [Vals.ref1 r]
  have hb := rv.bls
  refine call_all_walk (iter_any hl.isList fun s₂ e2 st hne => ?_)
  subst e2
  refine ⟨_, _, _, _, _, _, _, rfl, Walks.list (A := X.A.in1) (I.ok.hd hc) _ a hne its.toArray, st, truth_bools hb, fun h' tk hk => ?_⟩
  refine ⟨.bl _, H, I.kept fun b o eo => hk b o (fun hmem => ?_) (Heap.get?_push_of_some _ eo), ?_, q⟩
  · rcases List.mem_cons.mp hmem with e1 | hmem
    · exact absurd (e1 ▸ Heap.lt_size eo) (Nat.lt_irrefl _)
    · cases hmem
  · show Value.bool _ = Value.bool _
    rw [← all_range, hb, List.size_toArray, List.length_map]
end
mutual
inductive Dp (K : PySem.W.Frag) (H : Hp) : V → PyData → Prop
  | non : Dp K H .non .none
  | bl (b : Bool) : Dp K H (.bl b) (.bool b)
  | int (i : Int) : Dp K H (.int i) (.int i)
  | str (x : Str) : Dp K H (.str x) (.str x)
  | lst {a : Addr} {xs : List V} {ds : List PyData} : SqL K H a xs → DpAll K H xs ds → Dp K H (.ref a) (.list ds)
  | tup {a : Addr} {xs : List V} {ds : List PyData} : SqT K H a xs → DpAll K H xs ds → Dp K H (.ref a) (.tuple ds)
inductive DpAll (K : PySem.W.Frag) (H : Hp) : List V → List PyData → Prop
  | nil : DpAll K H [] []
  | cons {v : V} {vs : List V} {d : PyData} {ds : List PyData} : Dp K H v d → DpAll K H vs ds → DpAll K H (v :: vs) (d :: ds)
end
section
variable {X : Cx} {pins : List (Addr × Obj)} {σ : St} {H : Hp} {s : Shared}
mutual
theorem Dp.reads (I : Inv X pins σ H s) : ∀ (d : PyData) (v : V) (u : Value), Dp X.K H v d → RelV v u → ∃ as, Reads s.heap u d as
  | .none, _, _, h, r => by
    cases h
    cases r
    exact ⟨_, Reads.none⟩
  | .bool b, _, _, h, r => by
    cases h
    cases r
    exact ⟨_, Reads.bool b⟩
  | .int i, _, _, h, r => by
    cases h
    obtain ⟨t, rfl⟩ := r
    exact ⟨_, Reads.int i t⟩
  | .str x, _, _, h, r => by
    cases h
    obtain ⟨t, rfl⟩ := r
    exact ⟨_, Reads.str x t⟩
  | .list ds, _, _, h, r => by
    cases h with
    | lst hs ha =>
      cases r
      obtain ⟨its, rv, ⟨o, n, ho, hc, _, hd⟩, _⟩ := I.list hs
      obtain ⟨as, hr⟩ := Dp.readsAll I ds _ its ha rv
      exact ⟨_, Reads.list ho hc hd hr⟩
  | .tuple ds, _, _, h, r => by
    cases h with
    | tup hs ha =>
      cases r
      obtain ⟨its, rv, ⟨o, ho, hc, n, hd⟩, _⟩ := I.tuple hs
      obtain ⟨as, hr⟩ := Dp.readsAll I ds _ its ha rv
      exact ⟨_, Reads.tuple ho hc hd hr⟩
  | .dict _, _, _, h, _ => by cases h
theorem Dp.readsAll (I : Inv X pins σ H s) : ∀ (ds : List PyData) (vs : List V) (us : List Value), DpAll X.K H vs ds → Vals vs us → ∃ as, ReadsAll s.heap us ds as
  | [], _, _, h, r => by
    cases h
    cases r
    exact ⟨_, ReadsAll.nil⟩
  | d :: ds, _, _, h, r => by
    cases h with
    | cons h1 h2 =>
      cases r with
      | cons r1 r2 =>
        obtain ⟨as, q1⟩ := Dp.reads I d _ _ h1 r1
        obtain ⟨bs, q2⟩ := Dp.readsAll I ds _ _ h2 r2
        exact ⟨_, ReadsAll.cons q1 q2⟩
end
end
section
variable {X : Cx}
def rEqD (K : PySem.W.Frag) : R2 := fun x y H Q => ∃ d e, Dp K H x d ∧ Dp K H y e ∧ SeqAt.shaped d = true ∧ SeqAt.shaped e = true ∧ Q (.bl (PyData.eqv d e)) H
theorem op_eqD (hu : X.A.units + 64 < cLine) : OpR X (compareOp .Eq) (rEqD X.K) := by
  intro pins s σ H x y v u Q I rx ry h
  obtain ⟨d, e, hd, he, sd, se, q⟩ := h
  obtain ⟨as, r1⟩ := Dp.reads I d x v hd rx
  obtain ⟨bs, r2⟩ := Dp.reads I e y u he ry
  exact SeqAt.compareEq_shaped r1 r2 sd se hu ⟨.bl _, H, I, rfl, q⟩
end
end L2
namespace L2
open PySem PySem.Spec PyProof.Rows
abbrev CellAt (h : Heap) (c : Addr) (v : Option Value) : Prop := h.IsCell c v
def relS (scope sc : Scope) : Scope :=
  { scope with names := scope.names.map fun (n, k) => if (k == .free && sc.kind == .function && sc.names.lookup n == some .cell) then (n, .cell) else (n, k) }
def cloFrom (cells : List (Str × Addr)) : List (Str × NameKind) → List (Str × Addr) → List (Str × Addr)
  | [], acc => acc
  | (n, k) :: r, acc => if k == .free then cloFrom cells r ((n, (cells.lookup n).getD 0) :: acc) else cloFrom cells r acc
theorem closure_loop (env : Env) (f : Str × NameKind → List (Str × Addr) → Sem (ForInStep (List (Str × Addr))))
    (hf : ∀ n k c, f (n, k) c = if k == .free then (do let a ← cellOf env n; pure (.yield ((n, a) :: c))) else pure (.yield c)) :
    ∀ (names : List (Str × NameKind)) (acc : List (Str × Addr)), (∀ y ∈ names, y.2 = .free → ∃ c, env.cells.lookup y.1 = some c) → forIn names acc f = pure (cloFrom env.cells names acc)
  | [], acc, _ => by rw [List.forIn_nil]; rfl
  | (n, k) :: r, acc, h => by
    rw [List.forIn_cons, hf]
    have ih := fun acc => closure_loop env f hf r acc fun y hy => h y (List.mem_cons_of_mem _ hy)
    unfold cloFrom
    by_cases hk : (k == NameKind.free) = true
    · rw [if_pos hk, if_pos hk]
      obtain ⟨c, hc⟩ := h (n, k) List.mem_cons_self (by simpa using hk)
      have e : cellOf env n = pure c := by unfold cellOf; rw [hc]
      rw [e]
      have e2 : (env.cells.lookup n).getD 0 = c := by rw [hc]; rfl
      rw [e2]
      exact ih _
    · rw [if_neg hk, if_neg hk]
      exact ih _
theorem closure_ok {scope : Scope} {env : Env} (h : ∀ y ∈ scope.names, y.2 = .free → ∃ c, env.cells.lookup y.1 = some c) : closureFor scope env = pure (cloFrom env.cells scope.names []) := by
  simp only [closureFor]
  rw [closure_loop env _ (fun n k c => rfl) scope.names [] h]
  rfl
theorem mem_lookup {α : Type} : ∀ {l : List (Str × α)} {n : Str} {c : α}, (n, c) ∈ l → ∃ c', l.lookup n = some c'
  | (k, v) :: r, n, c, h => by
    rw [List.lookup_cons]
    cases hb : n == k with
    | true => exact ⟨_, rfl⟩
    | false =>
      rcases List.mem_cons.mp h with e | h
      · cases e; simp at hb
      · exact mem_lookup h
theorem cloFrom_mem {cells : List (Str × Addr)} : ∀ {names : List (Str × NameKind)} {acc : List (Str × Addr)} {n : Str} {c : Addr}, (n, c) ∈ cloFrom cells names acc → (n, c) ∈ acc ∨ ((n, .free) ∈ names ∧ c = (cells.lookup n).getD 0)
  | [], _, _, _, h => .inl h
  | (m, k) :: r, acc, n, c, h => by
    unfold cloFrom at h
    split at h
    · rename_i hk
      have hk : k = .free := by simpa using hk
      rcases cloFrom_mem h with h | ⟨h1, h2⟩
      · rcases List.mem_cons.mp h with e | h
        · cases e; exact .inr ⟨hk ▸ List.mem_cons_self, rfl⟩
        · exact .inl h
      · exact .inr ⟨List.mem_cons_of_mem _ h1, h2⟩
    · rcases cloFrom_mem h with h | ⟨h1, h2⟩
      · exact .inl h
      · exact .inr ⟨List.mem_cons_of_mem _ h1, h2⟩
theorem cloFrom_acc {cells : List (Str × Addr)} : ∀ {names : List (Str × NameKind)} {acc : List (Str × Addr)} {p : Str × Addr}, p ∈ acc → p ∈ cloFrom cells names acc
  | [], _, _, h => h
  | (m, k) :: r, acc, p, h => by
    unfold cloFrom
    split
    · exact cloFrom_acc (List.mem_cons_of_mem _ h)
    · exact cloFrom_acc h
theorem cloFrom_has {cells : List (Str × Addr)} : ∀ {names : List (Str × NameKind)} {acc : List (Str × Addr)} {n : Str}, (n, .free) ∈ names → (n, (cells.lookup n).getD 0) ∈ cloFrom cells names acc
  | (m, k) :: r, acc, n, h => by
    unfold cloFrom
    rcases List.mem_cons.mp h with e | h
    · cases e
      exact cloFrom_acc List.mem_cons_self
    · split
      · exact cloFrom_has h
      · exact cloFrom_has h
theorem cells_mem : ∀ {names : List (Str × NameKind)} {h : Heap} {acc : List (Str × Addr)} {x : Str} {c : Addr}, (x, c) ∈ cellsFrom h.objs.size names acc →
    (x, c) ∈ acc ∨ ((x, .cell) ∈ names ∧ h.objs.size ≤ c ∧ CellAt (pushCells h names) c none)
  | [], _, _, _, _, h => .inl h
  | (n, k) :: r, h, acc, x, c, hm => by
    unfold cellsFrom at hm
    unfold pushCells
    split at hm
    · rename_i hk
      rw [if_pos hk]
      have hk : k = .cell := by simpa using hk
      rw [← Heap.size_push h { cls := .type "cell", data := .cell none }] at hm
      rcases cells_mem hm with hm | ⟨h1, h2, h3⟩
      · rcases List.mem_cons.mp hm with e | hm
        · cases e
          exact .inr ⟨hk ▸ List.mem_cons_self, Nat.le_refl _, _, pushCells_keeps r _ _ _ (Heap.get?_push_size _ rfl), rfl⟩
        · exact .inl hm
      · rw [Heap.size_push] at h2
        exact .inr ⟨List.mem_cons_of_mem _ h1, Nat.le_of_succ_le h2, h3⟩
    · rename_i hk
      rw [if_neg hk]
      rcases cells_mem hm with hm | ⟨h1, h2, h3⟩
      · exact .inl hm
      · exact .inr ⟨List.mem_cons_of_mem _ h1, h2, h3⟩
theorem cells_acc : ∀ {names : List (Str × NameKind)} {n : Nat} {acc : List (Str × Addr)} {p : Str × Addr}, p ∈ acc → p ∈ cellsFrom n names acc
  | [], _, _, _, h => h
  | (m, k) :: r, n, acc, p, h => by
    unfold cellsFrom
    split
    · exact cells_acc (List.mem_cons_of_mem _ h)
    · exact cells_acc h
theorem cells_has : ∀ {names : List (Str × NameKind)} {n : Nat} {acc : List (Str × Addr)} {x : Str}, (x, .cell) ∈ names → ∃ c, (x, c) ∈ cellsFrom n names acc
  | (m, k) :: r, n, acc, x, h => by
    unfold cellsFrom
    rcases List.mem_cons.mp h with e | h
    · cases e
      exact ⟨n, cells_acc List.mem_cons_self⟩
    · split
      · exact cells_has h
      · exact cells_has h
theorem cells_inj : ∀ {names : List (Str × NameKind)} {h : Heap} {acc : List (Str × Addr)} {x y : Str} {c : Addr}, (∀ p ∈ acc, p.2 < h.objs.size) → (∀ x y c, (x, c) ∈ acc → (y, c) ∈ acc → x = y) →
    (x, c) ∈ cellsFrom h.objs.size names acc → (y, c) ∈ cellsFrom h.objs.size names acc → x = y
  | [], _, _, _, _, _, _, hi, h1, h2 => hi _ _ _ h1 h2
  | (n, k) :: r, h, acc, x, y, c, hl, hi, h1, h2 => by
    unfold cellsFrom at h1 h2
    split at h1
    · rename_i hk
      rw [if_pos hk] at h2
      rw [← Heap.size_push h { cls := .type "cell", data := .cell none }] at h1 h2
      refine cells_inj (h := h.push _) (fun p hp => ?_) (fun x y c a b => ?_) h1 h2
      · rw [Heap.size_push]
        rcases List.mem_cons.mp hp with rfl | hp
        · exact Nat.lt_succ_self _
        · exact Nat.lt_succ_of_lt (hl p hp)
      · rcases List.mem_cons.mp a with e | a <;> rcases List.mem_cons.mp b with e' | b
        · cases e; cases e'; rfl
        · cases e; exact absurd (hl _ b) (Nat.lt_irrefl _)
        · cases e'; exact absurd (hl _ a) (Nat.lt_irrefl _)
        · exact hi _ _ _ a b
    · rename_i hk
      rw [if_neg hk] at h2
      exact cells_inj hl hi h1 h2
theorem newEnv_comp {M : Model} {A : Around} {E : Value → Shared → Prop} {s : Shared} {scope : Scope} {globals : Addr} {closure : List (Str × Addr)} {qual : Str} {func : Option Addr} {code : Value} {around : Env} {builtins : Addr} {Q : Env → Shared → Prop}
    (h : Q (newEnv scope s.heap.objs.size globals (cellsFrom (s.heap.objs.size + 1) scope.names closure) qual func code (some around) builtins)
      { s with heap := pushCells (s.heap.push { cls := .type "dict", data := .dict #[] }) scope.names }) :
    wpAny M A (newFunctionEnv scope globals closure [] qual func code (some around) builtins) Q E s := by
  simp only [newFunctionEnv, Option.isSome_some, if_true]
  refine wpAny_bind (wpAny_alloc ?_)
  refine wpAny_bind (wpAny_layCells _ (fun n k c => rfl) scope.names closure _ _ ?_)
  rw [show ({ s with heap := s.heap.push { cls := .type "dict", data := .dict #[] } } : Shared).heap.objs.size = s.heap.objs.size + 1 from Heap.size_push ..]
  rw [List.forIn_nil]
  exact wpAny_bind (wpAny_pure (wpAny_pure h))
theorem lookup_relS {sc : Scope} : ∀ {names : List (Str × NameKind)} {x : Str} {k : NameKind},
    (names.map fun (n, k) => if (k == NameKind.free && sc.kind == .function && sc.names.lookup n == some .cell) then (n, NameKind.cell) else (n, k)).lookup x = some k →
    ∃ k', names.lookup x = some k' ∧ (k = k' ∨ (k' = .free ∧ k = .cell))
  | [], _, _, h => by simp at h
  | (n, k₀) :: r, x, k, h => by
    have ih := @lookup_relS sc r x k
    have h' : List.lookup x ((if (k₀ == NameKind.free && sc.kind == .function && sc.names.lookup n == some .cell) = true then (n, NameKind.cell) else (n, k₀)) :: (r.map _)) = some k := h
    cases hx : x == n with
    | true =>
      simp only [List.lookup_cons, hx]
      by_cases hc : (k₀ == NameKind.free && sc.kind == .function && sc.names.lookup n == some .cell) = true
      · rw [if_pos hc] at h'
        simp only [List.lookup_cons, hx] at h'
        cases h'
        simp only [Bool.and_eq_true, beq_iff_eq] at hc
        exact ⟨k₀, rfl, .inr ⟨hc.1.1, rfl⟩⟩
      · rw [if_neg hc] at h'
        simp only [List.lookup_cons, hx] at h'
        cases h'
        exact ⟨_, rfl, .inl rfl⟩
    | false =>
      simp only [List.lookup_cons, hx]
      by_cases hc : (k₀ == NameKind.free && sc.kind == .function && sc.names.lookup n == some .cell) = true
      · rw [if_pos hc] at h'
        simp only [List.lookup_cons, hx] at h'
        exact ih h'
      · rw [if_neg hc] at h'
        simp only [List.lookup_cons, hx] at h'
        exact ih h'
structure BlkOk (N : List Str) (sc scope : Scope) (own : List (Str × Nat)) : Prop where
  kind : scope.kind = .function
  uniq : ∀ y ∈ scope.names, scope.names.lookup y.1 = some y.2
  ix : ∀ p ∈ own, N[p.2]? = some p.1
  free : ∀ y ∈ scope.names, y.2 = .free → sc.names.lookup y.1 = some .cell ∨ sc.names.lookup y.1 = some .free
  own : ∀ y ∈ scope.names, y.2 = .local ∨ y.2 = .cell → y.1 ∈ own.map (·.1) ∨ y.1 ∉ N
def wipe (σ : St) : List Nat → St
  | [] => σ
  | v :: vs => (wipe σ vs).set v none
theorem wipe_length (σ : St) : ∀ vs : List Nat, (wipe σ vs).length = σ.length
  | [] => rfl
  | v :: vs => by unfold wipe; rw [List.length_set, wipe_length σ vs]
theorem wipe_some {σ : St} {i : Nat} {x : V} : ∀ {vs : List Nat}, (wipe σ vs)[i]? = some (some x) → σ[i]? = some (some x) ∧ i ∉ vs
  | [], h => ⟨h, by simp⟩
  | v :: vs, h => by
    unfold wipe at h
    by_cases hi : v = i
    · subst hi
      by_cases hv : v < (wipe σ vs).length
      · rw [List.getElem?_set_self hv] at h; cases h
      · rw [List.getElem?_eq_none (by simpa using hv)] at h; cases h
    · rw [List.getElem?_set_ne hi] at h
      obtain ⟨h1, h2⟩ := wipe_some h
      exact ⟨h1, by simp only [List.mem_cons, not_or]; exact ⟨fun e => hi e.symm, h2⟩⟩
abbrev Cx.blk (X : Cx) (s : Shared) (H : Hp) (scope : Scope) (cenv : Env) (fp : List Addr) : Cx := { X with s_0 := s, H_0 := H, env := cenv, outer := X.stack, ex := fp, fn := fun x => scope.names.lookup x == some .cell, pn := [], xe := fun _ _ => False }
section
variable {X : Cx} {pins : List (Addr × Obj)} {σ : St} {H : Hp} {s : Shared}
theorem block_start {scope : Scope} {own : List (Str × Nat)} {fp : List Addr} (I : Inv X pins σ H s) (ok : BlkOk X.N X.env.scope scope own) (hN : X.N.Nodup) (hfp : ∀ b ∈ fp, FpOk X pins H b ∧ b < s.heap.objs.size) :
    Inv (X.blk s H scope (compEnvC scope (cellsFrom (s.heap.objs.size + 1) scope.names (cloFrom X.env.cells scope.names [])) s.heap.objs.size X.env) fp) [] (wipe σ (own.map (·.2))) H { s with heap := pushCells (s.heap.push { cls := .type "dict", data := .dict #[] }) scope.names } := by
  have hfree : ∀ y ∈ scope.names, y.2 = .free → ∃ c, X.env.cells.lookup y.1 = some c := fun y hy e => by
    rcases ok.free y hy e with k | k
    · exact I.ok.has _ (.inl k)
    · exact I.ok.has _ (.inr k)
  generalize hcenv : compEnvC scope (cellsFrom (s.heap.objs.size + 1) scope.names (cloFrom X.env.cells scope.names [])) s.heap.objs.size X.env = cenv
  have kp : ∀ b o, s.heap.get? b = some o → (pushCells (s.heap.push { cls := .type "dict", data := .dict #[] }) scope.names).get? b = some o := fun b o e => pushCells_keeps _ _ _ _ (Heap.get?_push_of_some _ e)
  have hL : cenv.locals = s.heap.objs.size := by rw [← hcenv]; rfl
  have hcl : cenv.cells = cellsFrom (s.heap.objs.size + 1) scope.names (cloFrom X.env.cells scope.names []) := by rw [← hcenv]; rfl
  have hsc : cenv.scope = relS scope X.env.scope := by rw [← hcenv]; rfl
  rw [← Heap.size_push s.heap { cls := .type "dict", data := .dict #[] }] at hcl
  have cm : ∀ {y c}, (y, c) ∈ cloFrom X.env.cells scope.names [] → X.env.cells.lookup y = some c ∧ c < s.heap.objs.size := fun {y c} hm => by
    rcases cloFrom_mem hm with hm | ⟨h1, rfl⟩
    · cases hm
    · obtain ⟨c, hc⟩ := hfree _ h1 rfl
      rw [hc]
      obtain ⟨w, z⟩ := I.cell _ _ hc
      exact ⟨rfl, z.lt⟩
  have mem : ∀ {y c}, cenv.cells.lookup y = some c → (X.env.cells.lookup y = some c ∧ c < s.heap.objs.size) ∨ (s.heap.objs.size + 1 ≤ c ∧ CellAt (pushCells (s.heap.push { cls := .type "dict", data := .dict #[] }) scope.names) c none) := fun {y c} e => by
    rw [hcl] at e
    rcases cells_mem (PySem.mem_of_lookup e) with hm | ⟨_, h2, h3⟩
    · exact .inl (cm hm)
    · rw [Heap.size_push] at h2; exact .inr ⟨h2, h3⟩
  have look : ∀ {y}, scope.names.lookup y = some .free → ∃ c, cenv.cells.lookup y = some c ∧ X.env.cells.lookup y = some c := fun {y} hl => by
    have hy : (y, NameKind.free) ∈ scope.names := PySem.mem_of_lookup hl
    obtain ⟨c', e'⟩ := mem_lookup (cells_acc (names := scope.names) (n := (s.heap.push { cls := .type "dict", data := .dict #[] }).objs.size) (cloFrom_has (cells := X.env.cells) (acc := []) hy))
    rw [← hcl] at e'
    refine ⟨c', e', ?_⟩
    rw [hcl] at e'
    rcases cells_mem (PySem.mem_of_lookup e') with hm | ⟨h1, _, _⟩
    · exact (cm hm).1
    · have := ok.uniq _ h1
      rw [hl] at this; cases this
  have okB : (X.blk s H scope cenv fp).Ok := by
    refine ⟨I.ok.mod, by show cenv.scope.kind = _; rw [hsc]; exact ok.kind, by show cenv.globals = _; rw [← hcenv]; exact I.ok.glob, by show cenv.builtins = _; rw [← hcenv]; exact I.ok.blt, by show s.heap.objs.size ≤ cenv.locals; rw [hL]; exact Nat.le_refl _,
      fun y z c e1 e2 => ?_, fun y hy => ?_, fun y c z e => ?_, I.ok.hd, I.ok.frames, .inl rfl, fun b hb => ⟨?_, fun y c e z => ?_⟩, I.bs, Nat.le_trans I.ok.bsz I.sz, fun b o e hb => ?_, fun b hb z => ?_, I.stack, I.stkFree⟩
    · have e1 : cenv.cells.lookup y = some c := e1
      have e2 : cenv.cells.lookup z = some c := e2
      rw [hcl] at e1 e2
      refine cells_inj (fun p hp => ?_) (fun y z c a b => I.ok.inj y z c (cm a).1 (cm b).1) (PySem.mem_of_lookup e1) (PySem.mem_of_lookup e2)
      rw [Heap.size_push]
      exact Nat.lt_succ_of_lt (cm (y := p.1) (c := p.2) hp).2
    · show ∃ c, cenv.cells.lookup y = some c
      have key : ∀ k, cenv.kindOf y = some k → (k = .cell ∨ k = .free) → ∃ c, cenv.cells.lookup y = some c := fun k hk hk' => by
        unfold Env.kindOf at hk
        rw [hsc] at hk
        obtain ⟨k', e, r⟩ := lookup_relS hk
        have : k' = .cell ∨ k' = .free := by
          rcases r with rfl | ⟨rfl, _⟩
          · exact hk'
          · exact .inr rfl
        rcases this with rfl | rfl
        · obtain ⟨c, hm⟩ := cells_has (n := (s.heap.push { cls := .type "dict", data := .dict #[] }).objs.size) (acc := cloFrom X.env.cells scope.names []) (PySem.mem_of_lookup e)
          obtain ⟨c', e'⟩ := mem_lookup hm
          exact ⟨c', by rw [hcl]; exact e'⟩
        · obtain ⟨c, h1, _⟩ := look e
          exact ⟨c, h1⟩
      rcases hy with hy | hy
      · exact key _ hy (.inl rfl)
      · exact key _ hy (.inr rfl)
    · have z : (scope.names.lookup y == some NameKind.cell) = true := z
      have z : scope.names.lookup y = some .cell := by simpa using z
      have e : cenv.cells.lookup y = some c := e
      rw [hcl] at e
      rcases cells_mem (PySem.mem_of_lookup e) with hm | ⟨_, h2, _⟩
      · rcases cloFrom_mem hm with hm | ⟨h1, _⟩
        · cases hm
        · have q := ok.uniq _ h1
          rw [z] at q; cases q
      · rw [Heap.size_push] at h2
        exact Nat.le_of_succ_le h2
    · show b ≠ cenv.locals
      rw [hL]; exact Nat.ne_of_lt (hfp b hb).2
    · have e : cenv.cells.lookup y = some c := e
      rcases mem e with ⟨h1, _⟩ | ⟨h1, _⟩
      · exact (hfp b hb).1.2.2.2.2.1 y c h1 z
      · have h2 : s.heap.objs.size + 1 ≤ b := by rw [← z]; exact h1
        exact absurd (Nat.lt_of_lt_of_le (hfp b hb).2 (Nat.le_of_succ_le h2)) (Nat.lt_irrefl _)
    · rcases (hfp b hb).1.2.2.2.1 with z | z
      · exact I.ok.noex b o e z
      · exact absurd (Nat.lt_of_lt_of_le (Heap.lt_size e) (Nat.le_trans I.ok.bsz z)) (Nat.lt_irrefl _)
    · rcases List.mem_cons.mp (I.stkSub b z) with z | z
      · exact (hfp b hb).1.2.1 z
      · exact (hfp b hb).1.2.2.1 z
  refine ⟨okB, rfl, I.bare, Un.kept kp, ⟨fun _ => none, ?_, fun i y av e1 e2 e3 => ?_⟩, fun y c e => ?_, ?_, fun y c e => ?_, fun p hp => ?_, I.hok.kept kp, by rw [wipe_length]; exact I.len⟩
  · show Heap.Ns _ cenv.locals _
    rw [hL]
    exact Heap.Ns.keeps (Heap.Ns.new ..) fun b o e => pushCells_keeps _ _ _ _ e
  · obtain ⟨e2, hne⟩ := wipe_some e2
    have hfr : scope.names.lookup y = some .free ∧ (cenv.kindOf y = some .cell ∨ cenv.kindOf y = some .free) := by
      have key : ∀ k, cenv.scope.names.lookup y = some k → k = .local ∨ k = .cell ∨ k = .free → scope.names.lookup y = some .free ∧ (cenv.kindOf y = some .cell ∨ cenv.kindOf y = some .free) := fun k hk hk' => by
        have hk0 := hk
        rw [hsc] at hk
        obtain ⟨k', e, r⟩ := lookup_relS hk
        have no : ¬ (k' = .local ∨ k' = .cell) := fun hh => by
          rcases ok.own _ (PySem.mem_of_lookup e) hh with e' | e'
          · obtain ⟨p, hp, hpy⟩ := List.mem_map.mp e'
            have e3 := ok.ix p hp
            have : p.1 = y := hpy
            rw [this] at e3
            exact hne (List.mem_map.mpr ⟨p, hp, nodup_ix hN e3 e1⟩)
          · exact e' (List.mem_of_getElem? e1)
        rcases r with rfl | ⟨rfl, rfl⟩
        · rcases hk' with rfl | rfl | rfl
          · exact absurd (.inl rfl) no
          · exact absurd (.inr rfl) no
          · exact ⟨e, .inr hk0⟩
        · exact ⟨e, .inl hk0⟩
      have e3 : Vis cenv.scope y := e3
      rcases e3 with e3 | e3 | e3
      · exact key _ e3 (.inl rfl)
      · exact key _ e3 (.inr (.inl rfl))
      · exact key _ e3 (.inr (.inr rfl))
    obtain ⟨m, hn, hl⟩ := I.loc
    have hvis : Vis X.env.scope y := (ok.free _ (PySem.mem_of_lookup hfr.1) rfl).elim (fun k => .inr (.inl k)) (fun k => .inr (.inr k))
    obtain ⟨w, r, q⟩ := hl i y av e1 e2 hvis
    refine ⟨w, r, .inr ⟨hfr.2, ?_⟩⟩
    obtain ⟨c, h1, h2⟩ := look hfr.1
    rcases q with ⟨k, _⟩ | ⟨_, c', e', z⟩
    · have k : X.env.scope.names.lookup y = some .local := k
      rcases ok.free _ (PySem.mem_of_lookup hfr.1) rfl with k' | k' <;> rw [show X.env.scope.names.lookup y = _ from k'] at k <;> cases k
    · rw [h2] at e'; cases e'
      exact ⟨c, h1, z.keeps kp⟩
  · have e : cenv.cells.lookup y = some c := e
    rcases mem e with ⟨h1, _⟩ | ⟨_, z⟩
    · obtain ⟨w, z⟩ := I.cell y c h1
      exact ⟨w, z.keeps kp⟩
    · exact ⟨_, z⟩
  · show H cenv.locals = none
    rw [hL]; exact I.hok.fresh (Nat.le_refl _)
  · have e : cenv.cells.lookup y = some c := e
    rcases mem e with ⟨h1, _⟩ | ⟨h1, _⟩
    · exact I.freeC y c h1
    · exact I.hok.fresh (Nat.le_of_succ_le h1)
  · exact absurd (show p ∈ ([] : List (Addr × Obj)) ++ [] from hp) (by simp)
theorem app_ok {E : Value → Shared → Prop} {D : Addr} {xs : List V} {y : V} {v : Value} {Q : Value → Shared → Prop} (I : Inv X pins σ H s) (hD : H D = some (.lst xs)) (hz : xs.length < sizeLine) (r : RelV y v)
    (h : ∀ s', Inv X pins σ (upd H D (.lst (xs ++ [y]))) s' → Q .none s') : wpAny (model X.prog X.w) X.A (call (.builtin "list.append") [.ref D, v]) Q E s := by
  obtain ⟨hz', its, n, ri, e⟩ := I.hok D _ hD
  have hl := ri.length
  refine append_at (hsz := by rw [List.size_toArray]; omega) e fun h' sb ho' => ?_
  refine h { s with heap := h' } (I.write (t' := s.toks) (by rw [hD]; trivial) (.inl rfl) (fun b u hb q => (sb.2 b hb).trans q) ⟨_, ho'⟩ ⟨by rw [List.length_append]; exact hz, its ++ [v], n + 1, ri.append (.cons r .nil), ?_⟩)
  rw [ho']
  simp
def PTs (X : Cx) (ifs : List Expr) (t : TT) : Prop :=
  ∀ (pins : List (Addr × Obj)) (s : Shared) (σ : St) (H : Hp) (Q : Bool → Hp → Prop), Inv X pins σ H s → t σ H Q →
    wpAny (model X.prog X.w) X.A (forIn ifs true fun c r => if r = true then do let ok ← isTrue c X.env (eval c X.env); pure (ForInStep.yield ok) else pure (ForInStep.yield r)) (TP X pins σ Q) X.xe s
def tYes : TT := fun _ H Q => Q true H
theorem pts_nil : PTs X [] tYes := fun _ _ _ H _ I h => wpAny_tests_nil ⟨H, I, h⟩
theorem pts_one {c : Expr} {t : TT} (h : PT X c t) : PTs X [c] t := fun pins s σ H Q I hw => wpAny_tests_one (h pins s σ H Q I hw)
end
theorem thnF {α : Type} {t : Sem α} {Q Q' : α → Shared → Prop} {M : Model} {A : Around} {E : Value → Shared → Prop} {s : Shared} (h : wpAny M A t Q (fun _ _ => False) s) (hQ : ∀ a s, Q a s → Q' a s) : wpAny M A t Q' E s := wpAny_mono h hQ fun _ _ z => False.elim z
theorem compLoop_any {prog : Program} {w : World} {A : Around} {R : Result → Shared → Prop} {s : Shared} {elt target iter : Expr} {ifs : List Expr} {scope : Scope} {pos : Pos} {it acc : Value} {env : Env} (I : Nat → Shared → Prop)
    (turn : ∀ n s, I n s → wpAny (model prog w) A (pyNext it) (fun r s₁ => match r with
      | none => R (.ok .next) s₁
      | some v => wpAny (model prog w) A (letOwnedTupleGo target it v) (fun _ s₁' => wpAny (model prog w) A (assign target env v) (fun _ s₂ =>
          wpAny (model prog w) A (forIn ifs true fun c r => if r = true then do let ok ← isTrue c env (eval c env); pure (ForInStep.yield ok) else pure (ForInStep.yield r)) (fun ok s₃ =>
            if ok = true then wpAny (model prog w) A (eval elt env) (fun x s₄ =>
              wpAny (model prog w) A (call (.builtin "list.append") [acc, x]) (fun _ s₅ => ∃ m, m < n ∧ I m s₅) (notedBy (model prog w) A env fun e s' => R (.error e) s') s₄) (notedBy (model prog w) A env fun e s' => R (.error e) s') s₃
            else ∃ m, m < n ∧ I m s₃) (notedBy (model prog w) A env fun e s' => R (.error e) s') s₂) (notedBy (model prog w) A env fun e s' => R (.error e) s') s₁') (notedBy (model prog w) A env fun e s' => R (.error e) s') s₁) (notedBy (model prog w) A env fun e s' => R (.error e) s') s)
    (n : Nat) (h : I n s) :
    codeAny (model prog w) A (.compLoop (.ListComp elt [⟨target, iter, ifs, 0⟩] scope pos) 0 it acc env) R s := by
  refine codeAny_loop rfl I (fun n s hI => ?_) n h
  show wpAny _ A ((compTurn (.ListComp elt [⟨target, iter, ifs, 0⟩] scope pos) 0 it acc env).onRaise (fun x => do noteFrame x env; theTreesLotGoes x)) _ _ s
  refine wpAny_noted ?_
  rw [compTurn_list]
  refine wpAny_bind (wpAny_standAt (wpAny_bind (wpAny_mono (turn n s hI) (fun r s₁ h₁ => ?_) fun _ _ h' => h')))
  cases r with
  | none => exact wpAny_pure h₁
  | some v =>
    refine wpAny_bind (wpAny_mono h₁ (fun _ s₁' h₁' => ?_) fun _ _ h' => h')
    refine wpAny_bind (wpAny_mono h₁' (fun _ s₂ h₂ => wpAny_bind (wpAny_mono h₂ (fun ok s₃ h₃ => ?_) fun _ _ h' => h')) fun _ _ h' => h')
    cases ok with
    | false => exact wpAny_pure ⟨rfl, h₃⟩
    | true =>
      exact wpAny_bind (wpAny_bind (wpAny_mono h₃ (fun x s₄ h₄ => wpAny_bind (wpAny_mono h₄ (fun _ s₅ h₅ => wpAny_pure (wpAny_pure ⟨rfl, h₅⟩)) fun _ _ h' => h')) fun _ _ h' => h'))
section
variable {X : Cx}
def tLc (wi : TI) (g : TG) (tt : TT) (te : TE) (vs : List Nat) : TE := fun σ H Q => wi σ H fun J H1 => ∀ D, H1 D = none → ∃ W : Nat → Nat → Hp → Prop, (∃ m, W 0 m (upd H1 D (.lst []))) ∧ ∀ i m H, W i m H →
  (J.stop i H ∧ Q (.ref D) H) ∨ (J.go i H ∧ ∃ Nx : Hp → Prop, (∀ H', Nx H' → ∃ m', m' < m ∧ W (i + 1) m' H') ∧ ∀ x H', J.yld i H x H' → g x (wipe σ vs) H' fun σ2 H2 => wipe σ2 vs = wipe σ vs ∧ tt σ2 H2 fun b H3 =>
    if b = true then te σ2 H3 fun y H4 => ∃ acc, H4 D = some (.lst acc) ∧ acc.length < sizeLine ∧ Nx (upd H4 D (.lst (acc ++ [y]))) else Nx H3)
theorem lc_core {pins : List (Addr × Obj)} {s : Shared} {σ : St} {H : Hp} {Q : VK} {elt tg iter : Expr} {ifs : List Expr} {scope : Scope} {own : List (Str × Nat)} {pos pos' : Pos} {wi : TI} {g : TG} {tt : TT} {te : TE} {use : Option (Value → Sem Unit)} {Qf : Value → Shared → Prop}
    (hc : X.calm = true) (hN : X.N.Nodup) (I : Inv X pins σ H s) (hi : PI X tg iter wi) (ok : BlkOk X.N X.env.scope scope own)
    (hg : ∀ (s : Shared) (H : Hp) (C : Addr) (cl : List (Str × Addr)) (fp : List Addr), PG (X.blk s H scope (compEnvC scope cl C X.env) fp) tg g) (ht : ∀ (s : Shared) (H : Hp) (C : Addr) (cl : List (Str × Addr)) (fp : List Addr), PTs (X.blk s H scope (compEnvC scope cl C X.env) fp) ifs tt)
    (he : ∀ (s : Shared) (H : Hp) (C : Addr) (cl : List (Str × Addr)) (fp : List Addr), PE (X.blk s H scope (compEnvC scope cl C X.env) fp) elt te) (hs : ∀ x, foldedSetIterable iter X.env x = pure x)
    (h : tLc wi g tt te (own.map (·.2)) σ H Q)
    (hRR : ∀ D C s' m H', Inv X pins σ H' s' → Q (.ref D) H' → s'.heap.Ns C m → FpOk X pins H' C → compPost (model X.prog X.w) X.A X.xe use Qf (.ref D) C (.ok .next) s') :
    wpAny (model X.prog X.w) X.A (comprehension (.ListComp elt [⟨tg, iter, ifs, 0⟩] scope pos) scope X.env pos' (newList []) false (eval iter X.env) use) Qf X.xe s := by
  have hfree : ∀ y ∈ scope.names, y.2 = .free → ∃ c, X.env.cells.lookup y.1 = some c := fun y hy e => by
    rcases ok.free y hy e with k | k
    · exact I.ok.has _ (.inl k)
    · exact I.ok.has _ (.inr k)
  refine wpAny_comprehension_free (use := use) rfl hs (closure_ok hfree) ok.kind (fun y hy e => by rw [ok.uniq y hy, e])
    (thn (hi pins s σ H _ I h) fun xv s1 hx => thn hx fun itv s2 h2 => ?_)
  obtain ⟨it, fp, tn, J, H2, e, I2, T, st2, f2, q⟩ := h2
  subst e
  refine wpAny_newObj_type (newEnv_comp ?_) (by show 0 ≤ sizeLine; decide)
  generalize hD : s2.heap.objs.size = D
  have hDn : H2 D = none := I2.hok.fresh (Nat.le_of_eq hD)
  obtain ⟨W, ⟨m0, w0⟩, turn⟩ := q D hDn
  generalize hs3 : ({ s2 with heap := s2.heap.push { cls := .type "list", data := .seq ([] : List Value).toArray } } : Shared) = s3
  have I3 : Inv X pins σ (upd H2 D (.lst [])) s3 := by
    rw [← hs3]
    refine I2.laid (t' := s2.toks) (fun b o e => Heap.get?_push_of_some _ e) (Nat.le_of_eq hD) ⟨Nat.zero_le _, [], 0, .nil, ?_⟩
    rw [← hD]
    exact Heap.get?_push_size _ rfl
  have h3 : s3.heap = s2.heap.push { cls := .type "list", data := .seq ([] : List Value).toArray } := by rw [← hs3]
  have sz : ∀ b ∈ fp, b < s2.heap.objs.size := fun b hb => by
    obtain ⟨o, e, _⟩ := T.obj _ _ st2 b hb
    exact Heap.lt_size e
  have f3 : ∀ b ∈ fp, FpOk X pins (upd H2 D (.lst [])) b ∧ b < s3.heap.objs.size := fun b hb => by
    have hlt := sz b hb
    refine ⟨⟨?_, (f2 b hb).2⟩, by rw [h3, Heap.size_push]; exact Nat.lt_succ_of_lt hlt⟩
    rw [upd_ne (by rw [← hD]; exact Nat.ne_of_lt hlt)]
    exact (f2 b hb).1
  have st3 : tn 0 s3.heap := T.keep _ _ _ st2 fun b _ o e => by rw [h3]; exact Heap.get?_push_of_some _ e
  have I4 := block_start I3 ok hN f3
  have pg := hg s3 (upd H2 D (.lst [])) s3.heap.objs.size (cellsFrom (s3.heap.objs.size + 1) scope.names (cloFrom X.env.cells scope.names [])) fp
  have pt := ht s3 (upd H2 D (.lst [])) s3.heap.objs.size (cellsFrom (s3.heap.objs.size + 1) scope.names (cloFrom X.env.cells scope.names [])) fp
  have pe := he s3 (upd H2 D (.lst [])) s3.heap.objs.size (cellsFrom (s3.heap.objs.size + 1) scope.names (cloFrom X.env.cells scope.names [])) fp
  show codeAny _ _ (.compStart (.ListComp elt [⟨tg, iter, ifs, 0⟩] scope pos) 0 (.ref it) (.ref D) (compEnvC scope (cellsFrom (s3.heap.objs.size + 1) scope.names (cloFrom X.env.cells scope.names [])) s3.heap.objs.size X.env)) (compPost (model X.prog X.w) X.A X.xe use Qf (.ref D) s3.heap.objs.size) { s3 with heap := pushCells (s3.heap.push { cls := .type "dict", data := .dict #[] }) scope.names }
  have nfp : ∀ b ∈ fp, (upd H2 D (.lst [])) b = none := fun b hb => (f3 b hb).1.1
  generalize hce : compEnvC scope (cellsFrom (s3.heap.objs.size + 1) scope.names (cloFrom X.env.cells scope.names [])) s3.heap.objs.size X.env = ce at I4 pg pt pe ⊢
  have cL : ce.locals = s3.heap.objs.size := by subst hce; rfl
  generalize hH3 : upd H2 D (.lst []) = H3 at I3 I4 pg pt pe w0 nfp f3
  generalize hs4 : ({ s3 with heap := pushCells (s3.heap.push { cls := .type "dict", data := .dict #[] }) scope.names } : Shared) = s4 at I4 ⊢
  have st4 : tn 0 s4.heap := T.keep _ _ _ st3 fun b _ o e => by rw [← hs4]; exact pushCells_keeps _ _ _ _ (Heap.get?_push_of_some _ e)
  have stat : ∀ {σ' : St} {H' : Hp} {s' : Shared}, Inv (X.blk s3 H3 scope ce fp) [] σ' H' s' → (∀ b ∈ fp, H' b = none) → ∀ b ∈ fp, FpOk (X.blk s3 H3 scope ce fp) [] H' b := fun {σ' H' s'} I' hn b hb =>
    ⟨hn b hb, (I'.ok.exf b hb).1, I'.ok.exfs b hb, .inl hb, fun x c e => (I'.ok.exf b hb).2 x c e, fun p hp => absurd (show p ∈ ([] : List (Addr × Obj)) ++ [] from hp) (by simp)⟩
  have loop : codeAny (model X.prog X.w) X.A (.compLoop (.ListComp elt [⟨tg, iter, ifs, 0⟩] scope pos) 0 (.ref it) (.ref D) ce) (compPost (model X.prog X.w) X.A X.xe use Qf (.ref D) s3.heap.objs.size) s4 := by
    refine compLoop_any (fun n s' => ∃ i H', Inv (X.blk s3 H3 scope ce fp) [] (wipe σ (own.map (·.2))) H' s' ∧ tn i s'.heap ∧ (∀ b ∈ fp, H' b = none) ∧ W i n H') ?_ m0 ⟨0, H3, I4, st4, nfp, w0⟩
    rintro n s5 ⟨i, H5, I5, st5, n5, w5⟩
    rcases turn i n H5 w5 with ⟨stop, qq⟩ | ⟨go, Nx, hNx, step⟩
    · have td := T.done (X.blk s3 H3 scope ce fp) rfl rfl rfl hc i [] s5 _ H5 (fun _ _ => False) I5 (stat I5 n5) st5 stop
      refine thnF td fun r s6 ⟨hr, I6⟩ => ?_
      subst hr
      have I7 : Inv X pins σ H5 s6 := I3.call' (ch := fp) I6.os I6.base I6.hok I6.bare fun b hb => ⟨(f3 b hb).1.2.2.2.1, (f3 b hb).1.2.1, (f3 b hb).1.2.2.2.2.1, (f3 b hb).1.2.2.2.2.2⟩
      have nC : H5 s3.heap.objs.size = none := by
        have z : H5 ce.locals = none := I6.free
        rw [cL] at z
        exact z
      obtain ⟨m, hn, _⟩ := I6.loc
      have hn : s6.heap.Ns ce.locals m := hn
      rw [cL] at hn
      exact hRR D s3.heap.objs.size s6 m H5 I7 qq hn (I3.fpOk (Nat.le_refl _) nC)
    · have ti := T.item (X.blk s3 H3 scope ce fp) rfl rfl rfl hc i [] s5 _ H5 (fun _ _ => False) I5 (stat I5 n5) st5 go
      refine thnF ti fun r s6 ⟨u, hr, h6⟩ => ?_
      subst hr
      refine thnF h6 fun _ s7 ⟨x, H7, I7, r7, y7, st7, n7⟩ => ?_
      have I7' := I7.pinned (stat I7 n7) (T.obj _ _ st7)
      refine thnF (pg _ s7 _ H7 x u _ I7' r7 (step x H7 y7)) fun _ s8 ⟨σ8, H8, I8, hw8, q8⟩ => ?_
      refine thnF (pt _ s8 σ8 H8 _ I8 q8) fun b s9 ⟨H9, I9, q9⟩ => ?_
      have fin : ∀ {s' : Shared} {H' : Hp}, Inv (X.blk s3 H3 scope ce fp) ([] ++ pinsAt fp s7.heap) σ8 H' s' → Nx H' → ∃ m, m < n ∧ ∃ i H', Inv (X.blk s3 H3 scope ce fp) [] (wipe σ (own.map (·.2))) H' s' ∧ tn i s'.heap ∧ (∀ b ∈ fp, H' b = none) ∧ W i m H' := fun {s' H'} I' nx => by
        obtain ⟨m', hm, w'⟩ := hNx H' nx
        have pin' : ∀ b ∈ fp, ∀ o, s7.heap.get? b = some o → s'.heap.get? b = some o ∧ H' b = none := fun b hb o e =>
          let z := I'.pin (b, o) (List.mem_append_right _ (List.mem_append_right _ (mem_pinsAt hb e)))
          ⟨z.1, z.2.1⟩
        have hl : (wipe σ (own.map (·.2))).length = σ8.length := by rw [← hw8, wipe_length]
        refine ⟨m', hm, i + 1, H', (I'.unpinned (pins := [])).weak hl (fun j v e => ?_), T.keep _ _ _ st7 fun b hb o e => (pin' b hb o e).1, fun b hb => ?_, w'⟩
        · rw [← hw8] at e
          exact (wipe_some e).1
        · obtain ⟨o, e, _⟩ := T.obj _ _ st7 b hb
          exact (pin' b hb o e).2
      cases b with
      | false =>
        simp only [Bool.false_eq_true, if_false] at q9 ⊢
        exact fin I9 q9
      | true =>
        simp only [if_true] at q9 ⊢
        refine thnF (pe _ s9 σ8 H9 _ I9 q9) fun z s10 ⟨yv, H10, I10, r10, acc, hD10, hz10, nx⟩ => ?_
        exact app_ok (X := X.blk s3 H3 scope ce fp) I10 hD10 hz10 r10 fun s11 I11 => fin I11 nx
  exact codeAny_compStart_list loop (T.self X.A 0 _ _ _ st4 loop)
theorem pe_lc {elt tg iter : Expr} {ifs : List Expr} {scope : Scope} {own : List (Str × Nat)} {pos : Pos} {wi : TI} {g : TG} {tt : TT} {te : TE} (hc : X.calm = true) (hN : X.N.Nodup) (hi : PI X tg iter wi) (ok : BlkOk X.N X.env.scope scope own)
    (hg : ∀ (s : Shared) (H : Hp) (C : Addr) (cl : List (Str × Addr)) (fp : List Addr), PG (X.blk s H scope (compEnvC scope cl C X.env) fp) tg g) (ht : ∀ (s : Shared) (H : Hp) (C : Addr) (cl : List (Str × Addr)) (fp : List Addr), PTs (X.blk s H scope (compEnvC scope cl C X.env) fp) ifs tt)
    (he : ∀ (s : Shared) (H : Hp) (C : Addr) (cl : List (Str × Addr)) (fp : List Addr), PE (X.blk s H scope (compEnvC scope cl C X.env) fp) elt te) (hs : ∀ x, foldedSetIterable iter X.env x = pure x := by intro _; rfl) :
    PE X (.ListComp elt [⟨tg, iter, ifs, 0⟩] scope pos) (tLc wi g tt te (own.map (·.2))) := by
  intro pins s σ H Q I h
  rw [eval_ListComp]
  refine lc_core hc hN I hi ok hg ht he hs h fun D C s' m H' I' q hn f => ⟨m, hn, fun h'' sb => ?_⟩
  obtain ⟨f0, f1, f2, f3, f4, f5⟩ := f
  exact ⟨.ref D, H', I'.turned (t' := s'.toks) (fun b o hb e => (sb.2 b hb).trans e) f0 f1 f3 f4 f5, rfl, q⟩
theorem ps_setLc {i : Nat} {y : Str} {py : Pos} {elt tg iter : Expr} {ifs : List Expr} {scope : Scope} {own : List (Str × Nat)} {pos spos : Pos} {wi : TI} {g : TG} {tt : TT} {te : TE} (hc : X.calm = true) (hN : X.N.Nodup) (hy : X.N[i]? = some y) (hyl : X.env.scope.names.lookup y = some .local)
    (hsw : swapsWith (.ListComp elt [⟨tg, iter, ifs, 0⟩] scope pos) (some (.Name y py)) spos.line X.env = pure true) (hi : PI X tg iter wi) (ok : BlkOk X.N X.env.scope scope own)
    (hg : ∀ (s : Shared) (H : Hp) (C : Addr) (cl : List (Str × Addr)) (fp : List Addr), PG (X.blk s H scope (compEnvC scope cl C X.env) fp) tg g) (ht : ∀ (s : Shared) (H : Hp) (C : Addr) (cl : List (Str × Addr)) (fp : List Addr), PTs (X.blk s H scope (compEnvC scope cl C X.env) fp) ifs tt)
    (he : ∀ (s : Shared) (H : Hp) (C : Addr) (cl : List (Str × Addr)) (fp : List Addr), PE (X.blk s H scope (compEnvC scope cl C X.env) fp) elt te) (hs : ∀ x, foldedSetIterable iter X.env x = pure x := by intro _; rfl) :
    PS X (.Assign [.Name y py] (.ListComp elt [⟨tg, iter, ifs, 0⟩] scope pos) spos) (tAsg (tLc wi g tt te (own.map (·.2))) (gName i)) := by
  intro pins s σ H D I h
  rw [exec_Assign_Name_used _ _ _ _ hsw]
  refine wpAny_bind (wpAny_standAt (wpAny_bind ?_))
  show wpAny _ X.A (do let _ ← comprehension (.ListComp elt [⟨tg, iter, ifs, 0⟩] scope pos) scope X.env (firstIterPos [⟨tg, iter, ifs, 0⟩] pos) (newList []) false (eval iter X.env) (some (assign (.Name y py) X.env))) _ _ s
  have h : tLc wi g tt te (own.map (·.2)) σ H (fun x H1 => gName i x σ H1 D.nx) := h
  refine wpAny_bind (thn (lc_core (Qf := fun _ s' => SP X pins D .next s') hc hN I hi ok hg ht he hs h fun L C s' m H' I' q hn f => ?_) fun _ s' hq => wpAny_pure (wpAny_pure hq))
  show wpAny _ _ (assign (.Name y py) X.env (.ref L)) _ _ _
  refine wpAny_assign_Name (store_ok2 (v := V.ref L) I' hN hy (.inl hyl) rfl (fun s2 I2 ⟨a, sb, ha⟩ => ?_) (.inr hyl))
  obtain ⟨f0, f1, f2, f3, f4, f5⟩ := f
  have haC : C ≠ a := by
    rcases ha with z | z
    · rw [z]; exact f1
    · exact fun e => f4 y a z e.symm
  refine ⟨m, hn.sameBut sb haC, fun h3 sb3 => ?_⟩
  exact ⟨_, H', I2.turned (t' := s2.toks) (fun b o hb e => (sb3.2 b hb).trans e) f0 f1 f3 f4 f5, q⟩
end
theorem lc_range {lo : Int} {n : Nat} {g : TG} {tt : TT} {te : TE} {vs : List Nat} {σ : St} {H1 : Hp} {D : Addr} {Qd : Hp → Prop} (Pv : Nat → Hp → Prop) (h0 : Pv 0 (upd H1 D (.lst [])))
    (hs : ∀ i H, i < n → Pv i H → g (.int (lo + i)) (wipe σ vs) H fun σ2 H2 => wipe σ2 vs = wipe σ vs ∧ tt σ2 H2 fun b H3 =>
      if b = true then te σ2 H3 fun y H4 => ∃ acc, H4 D = some (.lst acc) ∧ acc.length < sizeLine ∧ Pv (i + 1) (upd H4 D (.lst (acc ++ [y]))) else Pv (i + 1) H3) (hd : ∀ H, Pv n H → Qd H) :
    ∃ W : Nat → Nat → Hp → Prop, (∃ m, W 0 m (upd H1 D (.lst []))) ∧ ∀ i m H, W i m H →
      ((Itr lo n).stop i H ∧ Qd H) ∨ ((Itr lo n).go i H ∧ ∃ Nx : Hp → Prop, (∀ H', Nx H' → ∃ m', m' < m ∧ W (i + 1) m' H') ∧ ∀ x H', (Itr lo n).yld i H x H' → g x (wipe σ vs) H' fun σ2 H2 => wipe σ2 vs = wipe σ vs ∧ tt σ2 H2 fun b H3 =>
        if b = true then te σ2 H3 fun y H4 => ∃ acc, H4 D = some (.lst acc) ∧ acc.length < sizeLine ∧ Nx (upd H4 D (.lst (acc ++ [y]))) else Nx H3) := by
  refine ⟨fun i m H => m = n - i ∧ i ≤ n ∧ Pv i H, ⟨n, by simp, Nat.zero_le _, h0⟩, ?_⟩
  rintro i m H ⟨rfl, hi, p⟩
  by_cases hlt : i < n
  · refine .inr ⟨hlt, Pv (i + 1), fun H' p' => ⟨n - (i + 1), by omega, rfl, hlt, p'⟩, fun x H' y => ?_⟩
    obtain ⟨e, y⟩ := y
    subst e y
    exact hs i _ hlt p
  · have e : i = n := by omega
    subst e
    exact .inl ⟨Nat.le_refl _, hd H p⟩
theorem lc_list {K : PySem.W.Frag} {a : Addr} {xs : List V} {g : TG} {tt : TT} {te : TE} {vs : List Nat} {σ : St} {H1 : Hp} {D : Addr} {Qd : Hp → Prop} (Pv : Nat → Hp → Prop) (h0 : Pv 0 (upd H1 D (.lst []))) (hl : ∀ i H, i ≤ xs.length → Pv i H → SqL K H a xs)
    (hs : ∀ i x H, xs[i]? = some x → Pv i H → g x (wipe σ vs) H fun σ2 H2 => wipe σ2 vs = wipe σ vs ∧ tt σ2 H2 fun b H3 =>
      if b = true then te σ2 H3 fun y H4 => ∃ acc, H4 D = some (.lst acc) ∧ acc.length < sizeLine ∧ Pv (i + 1) (upd H4 D (.lst (acc ++ [y]))) else Pv (i + 1) H3) (hd : ∀ H, Pv xs.length H → Qd H) :
    ∃ W : Nat → Nat → Hp → Prop, (∃ m, W 0 m (upd H1 D (.lst []))) ∧ ∀ i m H, W i m H →
      ((Itl K a).stop i H ∧ Qd H) ∨ ((Itl K a).go i H ∧ ∃ Nx : Hp → Prop, (∀ H', Nx H' → ∃ m', m' < m ∧ W (i + 1) m' H') ∧ ∀ x H', (Itl K a).yld i H x H' → g x (wipe σ vs) H' fun σ2 H2 => wipe σ2 vs = wipe σ vs ∧ tt σ2 H2 fun b H3 =>
        if b = true then te σ2 H3 fun y H4 => ∃ acc, H4 D = some (.lst acc) ∧ acc.length < sizeLine ∧ Nx (upd H4 D (.lst (acc ++ [y]))) else Nx H3) := by
  refine ⟨fun i m H => m = xs.length - i ∧ i ≤ xs.length ∧ Pv i H, ⟨xs.length, by simp, Nat.zero_le _, h0⟩, ?_⟩
  rintro i m H ⟨rfl, hi, p⟩
  have q := hl i H hi p
  by_cases hlt : i < xs.length
  · refine .inr ⟨⟨xs, xs[i], q, by simp [hlt]⟩, Pv (i + 1), fun H' p' => ⟨xs.length - (i + 1), by omega, rfl, hlt, p'⟩, fun x H' y => ?_⟩
    obtain ⟨e, y⟩ := y
    subst e
    exact hs i x _ (y xs q) p
  · have e : i = xs.length := by omega
    subst e
    exact .inl ⟨⟨xs, q, Nat.le_refl _⟩, hd H p⟩
def blkC (N : List Str) (sc scope : Scope) (own : List (Str × Nat)) : Bool :=
  (match scope.kind with | .function => true | _ => false) && (scope.names.all fun y => decide (scope.names.lookup y.1 = some y.2)) && (own.all fun p => decide (N[p.2]? = some p.1)) &&
    (scope.names.all fun y => match y.2 with
      | .free => (match sc.names.lookup y.1 with | some .cell => true | some .free => true | _ => false)
      | .local => decide (y.1 ∈ own.map (·.1)) || decide (y.1 ∉ N)
      | .cell => decide (y.1 ∈ own.map (·.1)) || decide (y.1 ∉ N)
      | _ => true)
theorem blkOk_by {N : List Str} {sc scope : Scope} {own : List (Str × Nat)} (h : blkC N sc scope own = true) : BlkOk N sc scope own := by
  unfold blkC at h
  simp only [Bool.and_eq_true, List.all_eq_true, decide_eq_true_eq] at h
  obtain ⟨⟨⟨h1, h2⟩, h3⟩, h4⟩ := h
  refine ⟨?_, h2, h3, fun y hy e => ?_, fun y hy e => ?_⟩
  · split at h1
    · assumption
    · cases h1
  · have q := h4 y hy
    simp only [e] at q
    split at q <;> first | exact .inl (by assumption) | exact .inr (by assumption) | cases q
  · have q := h4 y hy
    rcases e with e | e <;> (simp only [e, Bool.or_eq_true, decide_eq_true_eq] at q; exact q)
end L2
namespace L2
open PySem PySem.Spec PyProof.Rows
section
variable {prog : Program} {w : World} {A : Around} {R : Result → Shared → Prop} {s : Shared} {elt t0 i0 t1 i1 : Expr} {ifs0 ifs1 : List Expr} {scope : Scope} {pos : Pos} {it acc : Value} {env : Env}
end
section
variable {X : Cx}
end
end L2
namespace L2
open PySem PySem.Spec PyProof.Rows
section
variable {κ : Type} [DecidableEq κ]
def valV (kvs : List (κ × V)) (k : κ) : Option V := (kvs.find? fun kv => decide (kv.1 = k)).map (·.2)
def putK (kvs : List (κ × V)) (k : κ) (v : V) : List (κ × V) :=
  if (kvs.any fun kv => decide (kv.1 = k)) = true then kvs.map (fun kv => if kv.1 = k then (kv.1, v) else kv) else kvs ++ [(k, v)]
theorem valV_pos {p : κ × V} {r : List (κ × V)} {k : κ} (e : p.1 = k) : valV (p :: r) k = some p.2 := by simp [valV, List.find?_cons, e]
theorem valV_neg {p : κ × V} {r : List (κ × V)} {k : κ} (e : ¬ p.1 = k) : valV (p :: r) k = valV r k := by simp [valV, List.find?_cons, e]
theorem valV_any (k : κ) : ∀ kvs : List (κ × V), (kvs.any fun kv => decide (kv.1 = k)) = (valV kvs k).isSome
  | [] => rfl
  | p :: r => by
    rw [List.any_cons]
    by_cases e : p.1 = k
    · simp only [valV_pos e, decide_eq_true e, Bool.true_or, Option.isSome_some]
    · rw [valV_neg e, decide_eq_false e, Bool.false_or]; exact valV_any k r
theorem valV_map (k j : κ) (y : V) : ∀ kvs : List (κ × V), valV (kvs.map fun kv => if kv.1 = k then (kv.1, y) else kv) j = (valV kvs j).map fun x => if j = k then y else x
  | [] => rfl
  | p :: r => by
    have ih := valV_map k j y r
    rw [List.map_cons]
    by_cases h : p.1 = k
    · rw [if_pos h]
      by_cases e : p.1 = j
      · rw [valV_pos (p := (p.1, y)) e, valV_pos e, Option.map_some, if_pos (e.symm.trans h)]
      · rw [valV_neg (p := (p.1, y)) e, valV_neg e, ih]
    · rw [if_neg h]
      by_cases e : p.1 = j
      · rw [valV_pos (p := p) e, valV_pos e, Option.map_some, if_neg (fun z => h (e.trans z))]
      · rw [valV_neg (p := p) e, valV_neg e, ih]
theorem valV_snoc (k j : κ) (y : V) : ∀ kvs : List (κ × V), valV kvs k = none → valV (kvs ++ [(k, y)]) j = if j = k then some y else valV kvs j
  | [], _ => by
    by_cases e : k = j
    · rw [if_pos e.symm]; exact valV_pos (p := (k, y)) e
    · rw [if_neg (fun z => e z.symm)]; exact valV_neg (p := (k, y)) e
  | p :: r, hn => by
    rw [List.cons_append]
    have hk : ¬ p.1 = k := fun z => by rw [valV_pos z] at hn; cases hn
    rw [valV_neg hk] at hn
    have ih := valV_snoc k j y r hn
    by_cases e : p.1 = j
    · rw [valV_pos e, valV_pos e, if_neg (fun z => hk (e.trans z))]
    · rw [valV_neg e, valV_neg e, ih]
theorem valV_put (kvs : List (κ × V)) (k j : κ) (y : V) : valV (putK kvs k y) j = if j = k then some y else valV kvs j := by
  unfold putK
  by_cases a : (kvs.any fun kv => decide (kv.1 = k)) = true
  · rw [if_pos a, valV_map]
    rw [valV_any] at a
    by_cases e : j = k
    · obtain ⟨x, hx⟩ := Option.isSome_iff_exists.mp a
      rw [if_pos e, e, hx, Option.map_some, if_pos rfl]
    · rw [if_neg e]
      cases valV kvs j with
      | none => rfl
      | some x => rw [Option.map_some, if_neg e]
  · rw [if_neg a]
    refine valV_snoc k j y kvs ?_
    rw [valV_any] at a
    cases q : valV kvs k with
    | none => rfl
    | some x => rw [q] at a; exact (a rfl).elim
theorem length_putK (kvs : List (κ × V)) (k : κ) (v : V) : (putK kvs k v).length ≤ kvs.length + 1 := by
  unfold putK
  split
  · rw [List.length_map]; omega
  · rw [List.length_append, List.length_cons, List.length_nil]; omega
theorem putK_new {kvs : List (κ × V)} {k : κ} (v : V) (h : valV kvs k = none) : putK kvs k v = kvs ++ [(k, v)] := by
  unfold putK
  rw [valV_any, h]
  exact if_neg (by decide)
theorem RelO.isSome_eq {o : Option V} {u : Option Value} (r : RelO o u) : o.isSome = u.isSome := by
  cases o with
  | none => cases u with
    | none => rfl
    | some _ => exact (show False from r).elim
  | some _ => cases u with
    | none => exact (show False from r).elim
    | some _ => rfl
theorem RelO.getD {o : Option V} {u : Option Value} {d : V} {d' : Value} (r : RelO o u) (rd : RelV d d') : RelV (o.getD d) (u.getD d') := by
  cases o with
  | none => cases u with
    | none => exact rd
    | some _ => exact (show False from r).elim
  | some _ => cases u with
    | none => exact (show False from r).elim
    | some _ => exact r
theorem KV.val {kvs : List (κ × V)} {vs : List (κ × Value)} (r : KV kvs vs) (k : κ) : RelO (valV kvs k) (valueAt vs k) := by
  unfold KV at r
  induction r with
  | nil => exact True.intro
  | @cons p q ps qs h t ih =>
    obtain ⟨h1, h2⟩ := h
    by_cases e : p.1 = k
    · have e' : q.1 = k := h1.symm.trans e
      have b : valueAt (q :: qs) k = some q.2 := by simp [valueAt, List.find?_cons, e']
      rw [valV_pos e, b]; exact h2
    · have e' : ¬ q.1 = k := fun z => e (h1.trans z)
      have b : valueAt (q :: qs) k = valueAt qs k := by simp [valueAt, List.find?_cons, e']
      rw [valV_neg e, b]; exact ih
theorem KV.any {kvs : List (κ × V)} {vs : List (κ × Value)} (r : KV kvs vs) (k : κ) : (kvs.any fun kv => decide (kv.1 = k)) = vs.any fun kv => decide (kv.1 = k) := by
  unfold KV at r
  induction r with
  | nil => rfl
  | cons h t ih => rw [List.any_cons, List.any_cons, ih, h.1]
theorem KV.repl {kvs : List (κ × V)} {vs : List (κ × Value)} (r : KV kvs vs) (k : κ) {y : V} {u : Value} (ry : RelV y u) :
    KV (kvs.map fun kv => if kv.1 = k then (kv.1, y) else kv) (vs.map fun kv => if kv.1 = k then (kv.1, u) else kv) := by
  unfold KV at r ⊢
  induction r with
  | nil => exact .nil
  | @cons p q ps qs h t ih =>
    rw [List.map_cons, List.map_cons]
    refine .cons ?_ ih
    obtain ⟨h1, h2⟩ := h
    by_cases e : p.1 = k
    · rw [if_pos e, if_pos (h1.symm.trans e)]; exact ⟨h1, ry⟩
    · rw [if_neg e, if_neg (fun z => e (h1.trans z))]; exact ⟨h1, h2⟩
theorem KV.put {kvs : List (κ × V)} {vs : List (κ × Value)} (r : KV kvs vs) (k : κ) {y : V} {u : Value} (ry : RelV y u) : KV (putK kvs k y) (stored vs k u) := by
  unfold putK stored
  rw [r.any k]
  by_cases e : (vs.any fun kv => decide (kv.1 = k)) = true
  · rw [if_pos e, if_pos e]; exact r.repl k ry
  · rw [if_neg e, if_neg e]; exact Paired.snoc r ⟨rfl, ry⟩
theorem KV.length {kvs : List (κ × V)} {vs : List (κ × Value)} (r : KV kvs vs) : kvs.length = vs.length := Paired.length r
end
theorem kV_is {P : Program} {w : World} {k : Key} {u : Value} (r : RelV (kV k) u) : (mixKind P w).is k u = true := by
  cases k with
  | inl i => obtain ⟨t, e⟩ := (show ∃ t, u = Value.int i t from r); subst e; exact mixKind_int P w i t
  | inr x => obtain ⟨t, e⟩ := (show ∃ t, u = Value.str x t from r); subst e; exact mixKind_str P w x t
theorem items_are {P : Program} {w : World} : ∀ {ks : List Key} {us : List Value}, Vals (ks.map kV) us → ItemsAre (mixKind P w) ks us
  | [], _, r => by rw [List.map_nil] at r; cases r; exact .nil
  | k :: ks, _, r => by
    rw [List.map_cons] at r
    cases r with
    | cons h t => exact .cons (kV_is h) (items_are t)
abbrev KT (H : Hp) : List (List Key × V) → List (List Key × Addr × Value) → Prop := Paired fun p q => p.1 = q.1 ∧ H q.2.1 = some (.tup (p.1.map kV)) ∧ RelV p.2 q.2.2
theorem KT.val {H : Hp} {kvs : List (List Key × V)} {xs : List (List Key × Addr × Value)} (r : KT H kvs xs) (k : List Key) : RelO (valV kvs k) ((atKey xs k).map (·.2)) := by
  induction r with
  | nil => exact True.intro
  | @cons p q ps qs h t ih =>
    obtain ⟨h1, _, h2⟩ := h
    by_cases e : p.1 = k
    · have e' : q.1 = k := h1.symm.trans e
      have b : atKey (q :: qs) k = some q.2 := by simp [atKey, List.find?_cons, e']
      rw [valV_pos e, b]; exact h2
    · have e' : ¬ q.1 = k := fun z => e (h1.trans z)
      have b : atKey (q :: qs) k = atKey qs k := by simp [atKey, List.find?_cons, e']
      rw [valV_neg e, b]; exact ih
theorem KT.repl {H : Hp} {kvs : List (List Key × V)} {xs : List (List Key × Addr × Value)} (r : KT H kvs xs) (k : List Key) {y : V} {u : Value} (ry : RelV y u) :
    KT H (kvs.map fun kv => if kv.1 = k then (kv.1, y) else kv) (xs.map (putAt k u)) := by
  induction r with
  | nil => exact .nil
  | @cons p q ps qs h t ih =>
    rw [List.map_cons, List.map_cons]
    refine .cons ?_ ih
    obtain ⟨h1, h2, h3⟩ := h
    unfold putAt
    by_cases e : p.1 = k
    · rw [if_pos e, if_pos (h1.symm.trans e)]; exact ⟨h1, h2, ry⟩
    · rw [if_neg e, if_neg (fun z => e (h1.trans z))]; exact ⟨h1, h2, h3⟩
theorem KT.put {H : Hp} {kvs : List (List Key × V)} {xs : List (List Key × Addr × Value)} (r : KT H kvs xs) (k : List Key) {b : Addr} {y : V} {u : Value} (hb : H b = some (.tup (k.map kV))) (ry : RelV y u) :
    KT H (putK kvs k y) (storedH xs k b u) := by
  have e : (kvs.any fun kv => decide (kv.1 = k)) = (atKey xs k).isSome := by
    rw [valV_any, (r.val k).isSome_eq, Option.isSome_map]
  unfold putK storedH
  rw [e]
  by_cases q : (atKey xs k).isSome = true
  · rw [if_pos q, if_pos q]; exact r.repl k ry
  · rw [if_neg q, if_neg q]; exact Paired.snoc r ⟨rfl, hb, ry⟩
theorem KT.keeps {H H' : Hp} {kvs : List (List Key × V)} {xs : List (List Key × Addr × Value)} (r : KT H kvs xs) (ht : ∀ b ys, H b = some (.tup ys) → H' b = some (.tup ys)) : KT H' kvs xs :=
  Paired.mapP r fun _ _ z => ⟨z.1, ht _ _ z.2.1, z.2.2⟩
section
variable {P : Program} {w : World} {H : Hp} {h : Heap} {a : Addr}
theorem rd_of {u : HO} (ok : HOk P w H h) (e : Rd H a u) : ObjOk P w H h a u := e.ok ok
theorem dk_rd {kvs : List (Key × V)} (ok : HOk P w H h) (e : Rd H a (.dK kvs)) : kvs.length ≤ sizeLine ∧ (a == sysModules) = false ∧ ∃ vs, KV kvs vs ∧ h.DictOf (mixKind P w) a vs :=
  show ObjOk P w H h a (.dK kvs) from rd_of ok e
theorem dk_of {kvs : List (Key × V)} (ok : HOk P w H h) (e : H a = some (.dK kvs)) : kvs.length ≤ sizeLine ∧ (a == sysModules) = false ∧ ∃ vs, KV kvs vs ∧ h.DictOf (mixKind P w) a vs := dk_rd ok (.inl e)
theorem key_of {ks : List Key} (ok : HOk P w H h) (e : H a = some (.tup (ks.map kV))) : (tupleKind (mixKind P w)).is h ks a := by
  obtain ⟨_, its, r, o, h1, h2, n, h3⟩ := (show ObjOk P w H h a (.tup (ks.map kV)) from ok a _ e)
  exact ⟨o, its.toArray, n, h1, h2, h3, by simpa using items_are r⟩
theorem dt_rd {kvs : List (List Key × V)} (ok : HOk P w H h) (e : Rd H a (.dT kvs)) : kvs.length ≤ sizeLine ∧ (a == sysModules) = false ∧
    ∃ xs, KT H kvs xs ∧ h.DictOfH (tupleKind (mixKind P w)) a xs := by
  obtain ⟨z, y, xs, r, o, es, ep, h1, h2, h3, h4, h5⟩ := (show ObjOk P w H h a (.dT kvs) from rd_of ok e)
  refine ⟨z, y, xs, r, o, es, ep, h1, h2, h3, h4, fun x hx => ?_, h5⟩
  have all : ∀ {l : List (List Key × V)} {m : List (List Key × Addr × Value)}, KT H l m → ∀ x ∈ m, (tupleKind (mixKind P w)).is h x.1 x.2.1 := by
    intro l m q
    induction q with
    | nil => intro x hx; exact nomatch hx
    | @cons p q ps qs hq t ih =>
      intro x hx
      rcases List.mem_cons.mp hx with e | hx
      · subst e
        exact key_of ok (by rw [← hq.1]; exact hq.2.1)
      · exact ih x hx
  exact all r x hx
theorem dt_of {kvs : List (List Key × V)} (ok : HOk P w H h) (e : H a = some (.dT kvs)) : kvs.length ≤ sizeLine ∧ (a == sysModules) = false ∧
    ∃ xs, KT H kvs xs ∧ h.DictOfH (tupleKind (mixKind P w)) a xs := dt_rd ok (.inl e)
end
def DGet (H : Hp) (a : Addr) (y : V) (r : Option V) : Prop :=
  (∃ kvs k, Rd H a (.dK kvs) ∧ y = kV k ∧ r = valV kvs k) ∨ ∃ kvs k b, Rd H a (.dT kvs) ∧ y = .ref b ∧ H b = some (.tup (k.map kV)) ∧ r = valV kvs k
def DPut (H : Hp) (a : Addr) (y v : V) (H' : Hp) : Prop :=
  (∃ kvs k, H a = some (.dK kvs) ∧ y = kV k ∧ kvs.length < sizeLine ∧ H' = upd H a (.dK (putK kvs k v))) ∨
  ∃ kvs k b, H a = some (.dT kvs) ∧ y = .ref b ∧ H b = some (.tup (k.map kV)) ∧ kvs.length < sizeLine ∧ H' = upd H a (.dT (putK kvs k v))
theorem DGet.k {H : Hp} {a : Addr} {kvs : List (Key × V)} {k : Key} (e : H a = some (.dK kvs)) : DGet H a (kV k) (valV kvs k) := .inl ⟨kvs, k, .inl e, rfl, rfl⟩
theorem DGet.t {H : Hp} {a b : Addr} {kvs : List (List Key × V)} {k : List Key} (e : H a = some (.dT kvs)) (eb : H b = some (.tup (k.map kV))) : DGet H a (.ref b) (valV kvs k) := .inr ⟨kvs, k, b, .inl e, rfl, eb, rfl⟩
theorem DPut.k {H : Hp} {a : Addr} {kvs : List (Key × V)} {k : Key} {v : V} (e : H a = some (.dK kvs)) (hl : kvs.length < sizeLine) : DPut H a (kV k) v (upd H a (.dK (putK kvs k v))) := .inl ⟨kvs, k, e, rfl, hl, rfl⟩
theorem DPut.t {H : Hp} {a b : Addr} {kvs : List (List Key × V)} {k : List Key} {v : V} (e : H a = some (.dT kvs)) (eb : H b = some (.tup (k.map kV))) (hl : kvs.length < sizeLine) :
    DPut H a (.ref b) v (upd H a (.dT (putK kvs k v))) := .inr ⟨kvs, k, b, e, rfl, eb, hl, rfl⟩
section
variable {X : Cx} {pins : List (Addr × Obj)} {σ : St} {H : Hp} {s : Shared} {a : Addr} {y v : V} {u r : Value} {o : Option V} {A : Around} {E : Value → Shared → Prop}
theorem Inv.big (I : Inv X pins σ H s) : sysModules < s.heap.objs.size := by
  have h : mainGlobals < s.heap.objs.size := (I.mod.glob.keeps I.bk).lt
  exact Nat.lt_trans (by decide) h
theorem d_getItem {Q : Value → Shared → Prop} (hu : A.units + 1 < cLine) (I : Inv X pins σ H s) (g : DGet H a y (some v)) (ry : RelV y u) (h : ∀ w' s', Inv X pins σ H s' → RelV v w' → Q w' s') :
    wpAny (model X.prog X.w) A (getItem (.ref a) u) Q E s := by
  rcases g with ⟨kvs, k, e, ey, l⟩ | ⟨kvs, k, b, e, ey, eb, l⟩
  · subst ey
    obtain ⟨z, hd, vs, rel, dd⟩ := dk_rd I.hok e
    obtain ⟨w', hw, rw'⟩ := RelO.some_of (v := v) (o := valueAt vs k) (by rw [l]; exact rel.val k)
    exact wpAny_getItem_of (kV_is ry) dd.mapOf hw (h w' _ (I.tok _) rw')
  · subst ey
    cases (show u = Value.ref b from ry)
    obtain ⟨z, hd, xs, rel, dd⟩ := dt_rd I.hok e
    obtain ⟨w', hw, rw'⟩ := RelO.some_of (v := v) (o := (atKey xs k).map (·.2)) (by rw [l]; exact rel.val k)
    obtain ⟨p, hp, hp2⟩ := Option.map_eq_some_iff.mp hw
    refine wpAny_getItem_heap (tupleKind_room_in1 hu) (key_of I.hok eb) dd hp ?_
    rw [hp2]
    exact h w' _ (I.tok _) rw'
theorem d_in {Q : Value → Shared → Prop} (hu : A.units + 1 < cLine) (I : Inv X pins σ H s) (g : DGet H a y o) (ry : RelV y u) (h : ∀ s', Inv X pins σ H s' → Q (.bool o.isSome) s') :
    wpAny (model X.prog X.w) A (compareOp .In u (.ref a)) Q E s := by
  rcases g with ⟨kvs, k, e, ey, l⟩ | ⟨kvs, k, b, e, ey, eb, l⟩
  · subst ey
    obtain ⟨z, hd, vs, rel, dd⟩ := dk_rd I.hok e
    refine wpAny_in_of (kV_is ry) hd dd.mapOf ?_
    rw [← (rel.val k).isSome_eq, ← l]
    exact h _ (I.tok _)
  · subst ey
    cases (show u = Value.ref b from ry)
    obtain ⟨z, hd, xs, rel, dd⟩ := dt_rd I.hok e
    refine wpAny_in_heap (tupleKind_room_in1 hu) (key_of I.hok eb) hd dd ?_
    have q := (rel.val k).isSome_eq
    rw [Option.isSome_map] at q
    rw [← q, ← l]
    exact h _ (I.tok _)
theorem d_notIn {Q : Value → Shared → Prop} (hu : A.units + 1 < cLine) (I : Inv X pins σ H s) (g : DGet H a y o) (ry : RelV y u) (h : ∀ s', Inv X pins σ H s' → Q (.bool (!o.isSome)) s') :
    wpAny (model X.prog X.w) A (compareOp .NotIn u (.ref a)) Q E s := by
  rcases g with ⟨kvs, k, e, ey, l⟩ | ⟨kvs, k, b, e, ey, eb, l⟩
  · subst ey
    obtain ⟨z, hd, vs, rel, dd⟩ := dk_rd I.hok e
    refine wpAny_notIn_of (kV_is ry) hd dd.mapOf ?_
    rw [← (rel.val k).isSome_eq, ← l]
    exact h _ (I.tok _)
  · subst ey
    cases (show u = Value.ref b from ry)
    obtain ⟨z, hd, xs, rel, dd⟩ := dt_rd I.hok e
    refine wpAny_notIn_heap (tupleKind_room_in1 hu) (key_of I.hok eb) hd dd ?_
    have q := (rel.val k).isSome_eq
    rw [Option.isSome_map] at q
    rw [← q, ← l]
    exact h _ (I.tok _)
theorem d_write {h' : Heap} {t' : Nat} {ob : HO} (I : Inv X pins σ H s) (mu : Mut (H a)) (hs : Heap.SameBut a s.heap h') (he : ∃ q, h'.get? a = some q) (new : ObjOk X.prog X.w (upd H a ob) h' a ob) :
    Inv X pins σ (upd H a ob) { s with heap := h', toks := t' } :=
  I.write (x := a) (e := a) mu (.inl rfl) (fun b q hb z => (hs.2 b hb).trans z) he new
theorem dk_new {P : Program} {w : World} {H' : Hp} {h' : Heap} {kvs : List (Key × V)} {vs : List (Key × Value)} (z : kvs.length ≤ sizeLine) (hd : (a == sysModules) = false) (rel : KV kvs vs) (dd : h'.DictOf (mixKind P w) a vs) :
    ObjOk P w H' h' a (.dK kvs) := ⟨z, hd, vs, rel, dd⟩
theorem d_setItem {H' : Hp} {Q : Unit → Shared → Prop} (hu : A.units + 1 < cLine) (I : Inv X pins σ H s) (g : DPut H a y v H') (ry : RelV y u) (rv : RelV v r) (h : ∀ s', Inv X pins σ H' s' → Q () s') :
    wpAny (model X.prog X.w) A (setItem (.ref a) u r) Q E s := by
  rcases g with ⟨kvs, k, e, ey, l, eH⟩ | ⟨kvs, k, b, e, ey, eb, l, eH⟩
  · subst ey eH
    obtain ⟨z, hd, vs, rel, dd⟩ := dk_of I.hok e
    have hz : vs.length ≤ sizeLine := by rw [← rel.length]; exact z
    have hl : (putK kvs k v).length ≤ sizeLine := by have := length_putK kvs k v; omega
    refine wpAny_setItem_pairs (hsz := hz) (kV_is ry) dd fun h' dd' hs => h _ ?_
    have he : ∃ q, h'.get? a = some q := let ⟨q, _, _, hq, _⟩ := dd'; ⟨q, hq⟩
    exact d_write I (by rw [e]; exact True.intro) hs he (dk_new hl hd (rel.put k rv) dd')
  · subst ey eH
    cases (show u = Value.ref b from ry)
    obtain ⟨z, hd, xs, rel, dd⟩ := dt_of I.hok e
    have hz : xs.length ≤ sizeLine := by rw [← Paired.length rel]; exact z
    have hl : (putK kvs k v).length ≤ sizeLine := by have := length_putK kvs k v; omega
    refine wpAny_setItem_heap (hsz := hz) (tupleKind_room_in1 hu) (key_of I.hok eb) dd fun h' dd' hs => h _ ?_
    obtain ⟨q, es, ep, hq, h2, h3, h4, _, h5⟩ := dd'
    refine d_write I (by rw [e]; exact True.intro) hs ⟨q, hq⟩ ⟨hl, hd, _, (rel.put k eb rv).keeps fun c ys ec => ?_, q, es, ep, hq, h2, h3, h4, h5⟩
    rw [upd_ne (ne_of ec e (fun z => nomatch z))]
    exact ec
end
section
variable {X : Cx} {pins : List (Addr × Obj)} {σ : St} {H : Hp} {s : Shared} {a : Addr} {kvs : List (Key × V)} {k : Key} {u : Value} {A : Around} {E : Value → Shared → Prop}
theorem d_len {Q : Value → Shared → Prop} (I : Inv X pins σ H s) (e : Rd H a (.dK kvs)) (h : ∀ t s', Inv X pins σ H s' → Q (.int kvs.length t) s') : wpAny (model X.prog X.w) A (call (.builtin "len") [.ref a]) Q E s := by
  obtain ⟨z, hd, vs, rel, dd⟩ := dk_rd I.hok e
  refine call_len_dict hd dd (by rw [← rel.length]; rw [sizeLine_eq] at z; omega) ?_
  rw [← rel.length]
  exact h _ _ (I.tok _)
end
def NoSl (i : Expr) : Prop := ∀ ov iv, subscripted i false ov iv = operate [ov, iv] (getItem ov iv)
theorem subD_of {prog : Program} {w : World} {A : Around} {E : Value → Shared → Prop} {s : Shared} {env : Env} {value slice : Expr} {pos : Pos} {T id : String} {Q : Value → Shared → Prop}
    (hl : typeLookup (.type T) "__getitem__" = pure (some (.builtin id))) (hs : NoSl slice)
    (h : wpAny (model prog w) A (eval value env) (fun o s₁ => wpAny (model prog w) A (eval slice env) (fun i s₂ => s₂.TypeIs o T ∧ wpAny (model prog w) A (getItem o i) Q E s₂) E s₁) E s) :
    wpAny (model prog w) A (eval (.Subscript value slice pos) env) Q E s := by
  refine Subscript_ (wpAny_mono h (fun o s₁ h₁ => wpAny_mono h₁ (fun i s₂ h₂ => ?_) fun _ _ x => x) fun _ _ x => x)
  obtain ⟨hT, h₂⟩ := h₂
  unfold subscriptTail
  refine wpAny_bind ?_
  rw [getitemInPython_of_ne hT.not_modules]
  refine wpAny_bind (wpAny_specialOf hT hl ?_)
  have fin : wpAny (model prog w) A (subscripted slice false o i) (fun r s₃ => wpAny (model prog w) A (letTemporaryGo value o r >>= fun _ => pure r) Q E s₃) E s₂ := by
    rw [hs o i]
    exact wpAny_operating (wpAny_mono h₂ (fun r s₃ h₃ => wpAny_bind (wpAny_letTemporaryGo (wpAny_pure h₃))) fun _ _ x => x)
  first
    | exact wpAny_pure (wpAny_bind fin)
    | exact wpAny_bind (wpAny_pure (wpAny_bind fin))
    | exact wpAny_bind fin
theorem dict_typeIs {X : Cx} {pins : List (Addr × Obj)} {σ : St} {H : Hp} {s : Shared} {a : Addr} {y : V} {o : Option V} (I : Inv X pins σ H s) (g : DGet H a y o) : s.TypeIs (.ref a) "dict" := by
  rcases g with ⟨kvs, k, e, _, _⟩ | ⟨kvs, k, b, e, _, _, _⟩
  · obtain ⟨_, _, vs, _, dd⟩ := dk_rd I.hok e
    exact dd.typeIs
  · obtain ⟨_, _, xs, _, dd⟩ := dt_rd I.hok e
    exact dd.typeIs
def tDGet (td ty : TE) : TE := fun σ H Q => td σ H fun x H1 => ty σ H1 fun y H2 => ∃ a v, x = .ref a ∧ DGet H2 a y (some v) ∧ Q v H2
def tDIn (ty td : TE) : TE := fun σ H Q => ty σ H fun y H1 => td σ H1 fun x H2 => ∃ a o, x = .ref a ∧ DGet H2 a y o ∧ Q (.bl o.isSome) H2
def tDNotIn (ty td : TE) : TE := fun σ H Q => ty σ H fun y H1 => td σ H1 fun x H2 => ∃ a o, x = .ref a ∧ DGet H2 a y o ∧ Q (.bl (!o.isSome)) H2
def sDPut (td ty tv : TE) : TS := fun D σ H => tv σ H fun v H1 => td σ H1 fun x H2 => ty σ H2 fun y H3 => ∃ a H4, x = .ref a ∧ DPut H3 a y v H4 ∧ D.nx σ H4
section
variable {X : Cx} {o i e value : Expr} {pos pos' tpos : Pos} {td ty tv : TE}
theorem pe_dget (hu : X.A.units + 1 < cLine) (ho : PE X o td) (hi : PE X i ty) (hs : NoSl i) : PE X (.Subscript o i pos) (tDGet td ty) := by
  intro pins s σ H Q I h
  refine subD_of PySem.F.slot_dict_getitem.lookup hs (thn (ho pins s σ H _ I h) fun u s1 ⟨x, H1, I1, rx, q1⟩ => thn (hi pins s1 σ H1 _ I1 q1) fun iv s2 ⟨y, H2, I2, ry, a, v, ex, g, q2⟩ => ?_)
  subst ex
  obtain rfl : u = Value.ref a := rx
  exact ⟨dict_typeIs I2 g, d_getItem hu I2 g ry fun w' s3 I3 rw' => ⟨v, H2, I3, rw', q2⟩⟩
theorem pc_din (hu : X.A.units + 1 < cLine) (hi : PE X i ty) (ho : PE X o td) : PC X .In i o (tDIn ty td) := by
  intro pins s σ H Q I h
  refine thn (hi pins s σ H _ I h) fun iv s1 ⟨y, H1, I1, ry, q1⟩ => thn (ho pins s1 σ H1 _ I1 q1) fun u s2 ⟨x, H2, I2, rx, a, ov, ex, g, q2⟩ => ?_
  subst ex
  obtain rfl : u = Value.ref a := rx
  exact d_in hu I2 g ry fun s3 I3 => ⟨.bl ov.isSome, H2, I3, rfl, q2⟩
theorem pc_dnotin (hu : X.A.units + 1 < cLine) (hi : PE X i ty) (ho : PE X o td) : PC X .NotIn i o (tDNotIn ty td) := by
  intro pins s σ H Q I h
  refine thn (hi pins s σ H _ I h) fun iv s1 ⟨y, H1, I1, ry, q1⟩ => thn (ho pins s1 σ H1 _ I1 q1) fun u s2 ⟨x, H2, I2, rx, a, ov, ex, g, q2⟩ => ?_
  subst ex
  obtain rfl : u = Value.ref a := rx
  exact d_notIn hu I2 g ry fun s3 I3 => ⟨.bl (!ov.isSome), H2, I3, rfl, q2⟩
theorem ps_dput (hu : X.A.units + 1 < cLine) (ho : PE X o td) (hi : PE X i ty) (hv : PE X value tv) (hs : swapsWith value (some (.Subscript o i pos')) pos.line X.env = pure false) :
    PS X (.Assign [.Subscript o i pos'] value pos) (sDPut td ty tv) := by
  intro pins s σ H D I h
  refine wpAny_Assign_Subscript (thn (hv pins s σ H _ I h) fun r s1 ⟨v, H1, I1, rv, q1⟩ => thn (ho pins s1 σ H1 _ I1 q1) fun u s2 ⟨x, H2, I2, rx, q2⟩ => thn (hi pins s2 σ H2 _ I2 q2) fun iv s3 ⟨y, H3, I3, ry, a, H4, ex, g, q3⟩ => ?_) hs
  subst ex
  obtain rfl : u = Value.ref a := rx
  exact d_setItem hu I3 g ry rv fun s4 I4 => ⟨σ, H4, I4, q3⟩
end
theorem dk_empty {P : Program} {w : World} {H : Hp} (h : Heap) (hb : sysModules < h.objs.size) : ObjOk P w H (h.push { cls := .type "dict", data := .dict #[] }) h.objs.size (.dK []) :=
  ⟨Nat.zero_le _, beq_eq_false_iff_ne.mpr (Ne.symm (Nat.ne_of_lt hb)), [], .nil, Heap.DictOf.new h⟩
theorem dt_empty {P : Program} {w : World} {H : Hp} (h : Heap) (hb : sysModules < h.objs.size) : ObjOk P w H (h.push { cls := .type "dict", data := .dict #[] }) h.objs.size (.dT []) :=
  ⟨Nat.zero_le _, beq_eq_false_iff_ne.mpr (Ne.symm (Nat.ne_of_lt hb)), [], .nil, _, #[], 0, Heap.get?_push_size _ rfl, ⟨rfl, rfl, rfl⟩, rfl, rfl, List.nodup_nil⟩
def tDNewK : TE := fun _ H Q => ∀ p, H p = none → Q (.ref p) (upd H p (.dK []))
def tDNewT : TE := fun _ H Q => ∀ p, H p = none → Q (.ref p) (upd H p (.dT []))
section
variable {X : Cx} {pos : Pos}
theorem pe_dnewK : PE X (.Dict [] [] pos) tDNewK := fun pins s σ H Q I h =>
  wpAny_Dict_empty ⟨.ref s.heap.objs.size, _, I.laid (a := s.heap.objs.size) (o := .dK []) (t' := s.toks) (fun _ _ q => Heap.get?_push_of_some _ q) (Nat.le_refl _) (dk_empty s.heap I.big), rfl, h _ (I.hok.fresh (Nat.le_refl _))⟩
theorem pe_dnewT : PE X (.Dict [] [] pos) tDNewT := fun pins s σ H Q I h =>
  wpAny_Dict_empty ⟨.ref s.heap.objs.size, _, I.laid (a := s.heap.objs.size) (o := .dT []) (t' := s.toks) (fun _ _ q => Heap.get?_push_of_some _ q) (Nat.le_refl _) (dt_empty s.heap I.big), rfl, h _ (I.hok.fresh (Nat.le_refl _))⟩
end
def tPairs : List (TE × TE) → St → Hp → (List (V × V) → Hp → Prop) → Prop
  | [], _, H, Q => Q [] H
  | (tk, tv) :: r, σ, H, Q => tk σ H fun x H1 => tv σ H1 fun y H2 => tPairs r σ H2 fun ps H3 => Q ((x, y) :: ps) H3
abbrev VV : List (V × V) → List (Value × Value) → Prop := Paired fun p q => RelV p.1 q.1 ∧ RelV p.2 q.2
def PPs (X : Cx) (pos : Pos) (keys : List (Option Expr)) (values : List Expr) (trs : List (TE × TE)) : Prop :=
  ∀ (pins : List (Addr × Obj)) (s : Shared) (σ : St) (H : Hp) (Q : List (V × V) → Hp → Prop), Inv X pins σ H s → tPairs trs σ H Q →
    wpAny (model X.prog X.w) X.A (evalPairs (pairTrees keys values X.env pos)) (fun vs s' => ∃ ps H', Inv X pins σ H' s' ∧ VV ps vs ∧ Q ps H') X.xe s
theorem pps_nil {X : Cx} {pos : Pos} : PPs X pos [] [] [] := fun pins s σ H Q I h => pairTrees_nil_walk ⟨[], H, I, .nil, h⟩
theorem pps_cons {X : Cx} {pos : Pos} {k v : Expr} {ks : List (Option Expr)} {vs : List Expr} {tk tv : TE} {trs : List (TE × TE)} (hk : PE X k tk) (hv : PE X v tv) (hr : PPs X pos ks vs trs) :
    PPs X pos (some k :: ks) (v :: vs) ((tk, tv) :: trs) := fun pins s σ H Q I h =>
  pairTrees_cons_walk (thn (hk pins s σ H _ I h) fun u s1 ⟨x, H1, I1, rx, q1⟩ => thn (hv pins s1 σ H1 _ I1 q1) fun w2 s2 ⟨y, H2, I2, ry, q2⟩ =>
    thn (hr pins s2 σ H2 _ I2 q2) fun ws s3 ⟨ps, H3, I3, rel, q3⟩ => ⟨(x, y) :: ps, H3, I3, .cons ⟨rx, ry⟩ rel, q3⟩)
def mergeK (kvs more : List (Key × V)) : List (Key × V) := more.foldl (fun acc kv => putK acc kv.1 kv.2) kvs
theorem KV.merge : ∀ {more : List (Key × V)} {rs : List (Key × Value)} {kvs : List (Key × V)} {vs : List (Key × Value)}, KV more rs → KV kvs vs → KV (mergeK kvs more) (merged vs rs) := by
  intro more rs kvs vs r
  unfold KV at r
  induction r generalizing kvs vs with
  | nil => intro q; exact q
  | @cons p q ps qs h t ih =>
    intro r0
    have e : KV (putK kvs p.1 p.2) (stored vs q.1 q.2) := by
      have := r0.put p.1 h.2
      rw [← h.1]; exact this
    exact ih e
theorem length_mergeK : ∀ (more kvs : List (Key × V)), (mergeK kvs more).length ≤ kvs.length + more.length
  | [], kvs => by show kvs.length ≤ kvs.length + 0; omega
  | p :: r, kvs => by
    have h1 := length_mergeK r (putK kvs p.1 p.2)
    have h2 := length_putK kvs p.1 p.2
    show (mergeK (putK kvs p.1 p.2) r).length ≤ _
    rw [List.length_cons]; omega
theorem carries_of {P : Program} {w : World} : ∀ {kvs : List (Key × V)} {ws : List (Value × Value)}, VV (kvs.map fun kv => (kV kv.1, kv.2)) ws → ∃ rs, Carries (mixKind P w) ws rs ∧ KV kvs rs
  | [], _, r => by rw [List.map_nil] at r; cases r; exact ⟨[], True.intro, .nil⟩
  | p :: kvs, _, r => by
    rw [List.map_cons] at r
    cases r with
    | @cons a b as bs h t =>
      obtain ⟨rs, c, q⟩ := carries_of (P := P) (w := w) t
      obtain ⟨b1, b2⟩ := b
      exact ⟨(p.1, b2) :: rs, ⟨kV_is h.1, rfl, c⟩, .cons ⟨rfl, h.2⟩ q⟩
def tDisp (trs : List (TE × TE)) : TE := fun σ H Q => ∀ p, H p = none → tPairs trs σ (upd H p (.dK [])) fun ps H2 => H2 p = some (.dK []) ∧ ∃ kvs : List (Key × V), ps = kvs.map (fun kv => (kV kv.1, kv.2)) ∧ kvs.length ≤ 15 ∧ Q (.ref p) (upd H2 p (.dK (mergeK [] kvs)))
theorem pe_disp {X : Cx} {pos : Pos} {keys : List (Option Expr)} {values : List Expr} {trs : List (TE × TE)} (h : PPs X pos keys values trs) (hall : keys.all (·.isSome) = true) (hl : keys.length = values.length) (h0 : keys ≠ [])
    (h15 : keys.length ≤ 15) : PE X (.Dict keys values pos) (tDisp trs) := by
  intro pins s σ H Q I q
  have hn := I.hok.fresh (Nat.le_refl s.heap.objs.size)
  have I1 := I.laid (a := s.heap.objs.size) (o := .dK []) (h' := s.heap.push { cls := .type "dict", data := .dict #[] }) (t' := s.toks) (fun _ _ q => Heap.get?_push_of_some _ q) (Nat.le_refl _) (dk_empty s.heap I.big)
  refine wpAny_Dict_walk (knd := mixKind X.prog X.w) hall hl h0 h15 (thn (h pins _ σ _ _ I1 (q _ hn)) fun ws s2 ⟨ps, H2, I2, rel, e, kvs, ep, lk, q2⟩ => ?_)
  subst ep
  obtain ⟨rs, c, rk⟩ := carries_of (P := X.prog) (w := X.w) rel
  obtain ⟨z, hd, vs0, r0, dd⟩ := dk_of I2.hok e
  cases r0
  refine ⟨rs, c, dd, fun h' dd' hs => ⟨.ref s.heap.objs.size, _, ?_, rfl, q2⟩⟩
  have hz : (mergeK [] kvs).length ≤ sizeLine := by
    have h1 := length_mergeK kvs []
    rw [List.length_nil] at h1
    rw [sizeLine_eq]; omega
  have he : ∃ q, h'.get? s.heap.objs.size = some q := let ⟨q, _, _, hq, _⟩ := dd'; ⟨q, hq⟩
  exact d_write I2 (by rw [e]; exact True.intro) hs he (dk_new hz hd (rk.merge .nil) dd')
structure M1 (X : Cx) (o : Expr) (m : Str) (apos : Pos) (e : Expr) (cpos : Pos) : Prop where
  base : attributeBase o m X.env (eval o X.env) = eval o X.env
  few : ((backTo cpos (starEach [e] X.env)).all (fun x => !x.1) && (backToKw cpos (keywordEach [] X.env)).all (fun x => x.1.isSome)
    && decide (([e] : List Expr).length + ([] : List Keyword).length + (if ([] : List Keyword).isEmpty then 0 else 1) < 30)) = true
  line : (apos.endLine == cpos.line) = true
  trees : backTo cpos (starEach [e] X.env) = [(false, eval e X.env)]
structure M2 (X : Cx) (o : Expr) (m : Str) (apos : Pos) (e f : Expr) (cpos : Pos) : Prop where
  base : attributeBase o m X.env (eval o X.env) = eval o X.env
  few : ((backTo cpos (starEach [e, f] X.env)).all (fun x => !x.1) && (backToKw cpos (keywordEach [] X.env)).all (fun x => x.1.isSome)
    && decide (([e, f] : List Expr).length + ([] : List Keyword).length + (if ([] : List Keyword).isEmpty then 0 else 1) < 30)) = true
  line : (apos.endLine == cpos.line) = true
  trees : backTo cpos (starEach [e, f] X.env) = [(false, eval e X.env), (false, eval f X.env)]
def IsD (H : Hp) (a : Addr) : Prop := (∃ kvs, Rd H a (.dK kvs)) ∨ ∃ kvs, Rd H a (.dT kvs)
theorem isD_at {X : Cx} {pins : List (Addr × Obj)} {σ : St} {H : Hp} {s : Shared} {a : Addr} (I : Inv X pins σ H s) (d : IsD H a) :
    s.TypeIs (.ref a) "dict" ∧ (∀ b, Value.ref a = .ref b → ∃ ob, s.heap.get? b = some ob ∧ ob.dict = none) ∧ (a == sysModules) = false := by
  rcases d with ⟨kvs, e⟩ | ⟨kvs, e⟩
  · obtain ⟨_, hd, vs, _, dd⟩ := dk_rd I.hok e
    refine ⟨dd.typeIs, fun b q => ?_, hd⟩
    cases q
    obtain ⟨ob, _, _, h1, h2, _⟩ := dd
    exact ⟨ob, h1, h2.2.1⟩
  · obtain ⟨_, hd, xs, _, dd⟩ := dt_rd I.hok e
    refine ⟨dd.typeIs, fun b q => ?_, hd⟩
    cases q
    obtain ⟨ob, _, _, h1, h2, _⟩ := dd
    exact ⟨ob, h1, h2.2.1⟩
section
variable {X : Cx} {pins : List (Addr × Obj)} {σ : St} {H : Hp} {s : Shared} {a : Addr} {y d : V} {u r : Value} {o : Option V} {A : Around} {E : Value → Shared → Prop}
theorem d_get1 {Q : Value → Shared → Prop} (hu : A.units + 1 < cLine) (I : Inv X pins σ H s) (g : DGet H a y o) (ry : RelV y u) (h : ∀ w' s', Inv X pins σ H s' → RelV (o.getD .non) w' → Q w' s') :
    wpAny (model X.prog X.w) A (call (.builtin "dict.get") [.ref a, u]) Q E s := by
  rcases g with ⟨kvs, k, e, ey, l⟩ | ⟨kvs, k, b, e, ey, eb, l⟩
  · subst ey
    obtain ⟨z, hd, vs, rel, dd⟩ := dk_rd I.hok e
    refine call_meetsIn PySem.F.slot_dict_get dd.typeIs PySem.F.entry_dict_get (PySem.F.args_dict_get_2 _ _) (meets_dict_get (mixKind X.prog X.w) a (kV_is ry) hd) ⟨_, dd.mapOf, h _ _ (I.tok _) ?_⟩
    rw [l]
    exact (rel.val k).getD rfl
  · subst ey
    cases (show u = Value.ref b from ry)
    obtain ⟨z, hd, xs, rel, dd⟩ := dt_rd I.hok e
    refine call_meetsIn PySem.F.slot_dict_get dd.typeIs PySem.F.entry_dict_get (PySem.F.args_dict_get_2 _ _) (meetsH_dict_get (tupleKind (mixKind X.prog X.w)) a b hd) ⟨tupleKind_room_in1 hu, k, xs, key_of I.hok eb, dd, h _ _ (I.tok _) ?_⟩
    rw [l]
    exact (rel.val k).getD rfl
theorem d_get2 {Q : Value → Shared → Prop} (hu : A.units + 1 < cLine) (I : Inv X pins σ H s) (g : DGet H a y o) (ry : RelV y u) (rd : RelV d r) (h : ∀ w' s', Inv X pins σ H s' → RelV (o.getD d) w' → Q w' s') :
    wpAny (model X.prog X.w) A (call (.builtin "dict.get") [.ref a, u, r]) Q E s := by
  rcases g with ⟨kvs, k, e, ey, l⟩ | ⟨kvs, k, b, e, ey, eb, l⟩
  · subst ey
    obtain ⟨z, hd, vs, rel, dd⟩ := dk_rd I.hok e
    refine call_meetsIn PySem.F.slot_dict_get dd.typeIs PySem.F.entry_dict_get (PySem.F.args_dict_get_3 _ _ _) (meets_dict_get_default (mixKind X.prog X.w) a (kV_is ry) hd r) ⟨_, dd.mapOf, h _ _ (I.tok _) ?_⟩
    rw [l]
    exact (rel.val k).getD rd
  · subst ey
    cases (show u = Value.ref b from ry)
    obtain ⟨z, hd, xs, rel, dd⟩ := dt_rd I.hok e
    refine call_meetsIn PySem.F.slot_dict_get dd.typeIs PySem.F.entry_dict_get (PySem.F.args_dict_get_3 _ _ _) (meetsH_dict_get_default (tupleKind (mixKind X.prog X.w)) a b hd r) ⟨tupleKind_room_in1 hu, k, xs, key_of I.hok eb, dd, h _ _ (I.tok _) ?_⟩
    rw [l]
    exact (rel.val k).getD rd
end
def tDGet1 (td ty : TE) : TE := fun σ H Q => td σ H fun x H1 => ∃ a, x = .ref a ∧ IsD H1 a ∧ ty σ H1 fun y H2 => ∃ o, DGet H2 a y o ∧ Q (o.getD .non) H2
def tDGet2 (td ty tx : TE) : TE := fun σ H Q => td σ H fun x H1 => ∃ a, x = .ref a ∧ IsD H1 a ∧ ty σ H1 fun y H2 => tx σ H2 fun z H3 => ∃ o, DGet H3 a y o ∧ Q (o.getD z) H3
section
variable {X : Cx} {o e f : Expr} {apos cpos : Pos} {td ty tx : TE}
theorem pe_dget1 (hu : X.A.units + 1 < cLine) (ho : PE X o td) (he : PE X e ty) (m : M1 X o "get" apos e cpos) : PE X (.Call (.Attribute o "get" apos) [e] [] cpos) (tDGet1 td ty) := by
  intro pins s σ H Q I h
  refine wpAny_Call_method m.base m.few m.line PySem.F.plainAttrs_dict PySem.F.slot_dict_get PySem.F.type_dict_get (thn (ho pins s σ H _ I h) fun u s1 ⟨x, H1, I1, rx, a, ex, d, q1⟩ => ?_)
  subst ex
  obtain rfl : u = Value.ref a := rx
  obtain ⟨t1, t2, _⟩ := isD_at I1 d
  refine ⟨t1, t2, ?_⟩
  rw [m.trees]
  refine Calls.callWith_builtin rfl (Calls.evalArgs_plain (Calls.spliced_cons (thn (he pins s1 σ H1 _ I1 q1) fun iv s2 ⟨y, H2, I2, ry, ov, g, q2⟩ => Calls.spliced_nil ?_)))
  exact d_get1 hu I2 g ry fun w' s3 I3 rw' => ⟨_, H2, I3, rw', q2⟩
theorem pe_dget2 (hu : X.A.units + 1 < cLine) (ho : PE X o td) (he : PE X e ty) (hf : PE X f tx) (m : M2 X o "get" apos e f cpos) : PE X (.Call (.Attribute o "get" apos) [e, f] [] cpos) (tDGet2 td ty tx) := by
  intro pins s σ H Q I h
  refine wpAny_Call_method m.base m.few m.line PySem.F.plainAttrs_dict PySem.F.slot_dict_get PySem.F.type_dict_get (thn (ho pins s σ H _ I h) fun u s1 ⟨x, H1, I1, rx, a, ex, d, q1⟩ => ?_)
  subst ex
  obtain rfl : u = Value.ref a := rx
  obtain ⟨t1, t2, _⟩ := isD_at I1 d
  refine ⟨t1, t2, ?_⟩
  rw [m.trees]
  refine Calls.callWith_builtin rfl (Calls.evalArgs_plain (Calls.spliced_cons (thn (he pins s1 σ H1 _ I1 q1) fun iv s2 ⟨y, H2, I2, ry, q2⟩ =>
    Calls.spliced_cons (thn (hf pins s2 σ H2 _ I2 q2) fun fv s3 ⟨z, H3, I3, rz, ov, g, q3⟩ => Calls.spliced_nil ?_))))
  exact d_get2 hu I3 g ry rz fun w' s4 I4 rw' => ⟨_, H3, I4, rw', q3⟩
end
section
variable {X : Cx} {pins : List (Addr × Obj)} {σ : St} {H : Hp} {s : Shared} {a : Addr} {kvs : List (Key × V)} {A : Around} {E : Value → Shared → Prop}
end
section
variable {X : Cx} {pins : List (Addr × Obj)} {σ : St} {H : Hp} {s : Shared} {a : Addr} {y : V} {u : Value} {A : Around} {E : Value → Shared → Prop}
end
end L2
namespace L2
open PySem PySem.Spec PyProof.Rows
section
variable {prog : Program} {w : World} {A : Around} {E : Value → Shared → Prop}
end
section
variable {X : Cx}
end
end L2
namespace L2
open PySem PySem.Spec PyProof.Rows
theorem boot_reversed5 : bootBuiltins "reversed" = some (.type "reversed") := by decide +kernel
section
variable {X : Cx} {pins : List (Addr × Obj)} {σ : St} {H : Hp} {s : Shared} {h' : Heap}
theorem Inv.turnedNew {t' : Nat} {ch : List Addr} {T : Addr} {ob : HO} (I : Inv X pins σ H s) (k : ∀ b o, b ∉ ch → s.heap.get? b = some o → h'.get? b = some o) (hf : ∀ b ∈ ch, FpOk X pins H b) (hT : s.heap.objs.size ≤ T)
    (new : ObjOk X.prog X.w (upd H T ob) h' T ob) : Inv X pins σ (upd H T ob) { s with heap := h', toks := t' } := by
  have hn : H T = none := I.hok.fresh hT
  have nit : ∀ b u, H b = some u → b ∉ ch := fun b u e z => by
    have q := (hf b z).1
    rw [q] at e; cases e
  refine I.step (g' := s.gens) (d' := s.drawn) (ch := ch) (fun b hb => ⟨(hf b hb).2.2.2.1, (hf b hb).2.1, (hf b hb).2.2.2.2.1, (hf b hb).2.2.2.2.2⟩) (fun b o _ _ hc e _ => k b o hc e) (fun b o _ _ hc e _ => ⟨o.slots, k b o hc e⟩)
    (fun b o _ e n => ?_) (fun b o hc e => ⟨o, k b o hc e⟩) (fun b xs e => ?_) (fun b o u e => ?_) (fun b ps e => ⟨#[], ?_⟩) (fun m hm => ?_) (fun b u e => ?_) I.bare
  · rw [upd_ne (Nat.ne_of_lt (Nat.lt_of_lt_of_le (Heap.lt_size e) hT))]; exact n
  · rw [upd_ne (ne_of_none e hn)]; exact e
  · rw [upd_ne (ne_of_none e hn)]; exact e
  · rw [upd_ne (ne_of_none e hn), e]; simp
  · obtain ⟨o, es, ep, ho, r⟩ := hm
    exact ⟨o, es, ep, k _ o (fun z => (hf _ z).2.1 rfl) ho, r⟩
  · by_cases hb : b = T
    · subst hb
      rw [upd_same] at e
      cases e
      exact new
    · rw [upd_ne hb] at e
      refine (I.hok b u e).stay (fun c v hc q => k c v ?_ q) (fun c q => by rw [upd_ne (ne_of_none q hn)]; exact q) fun c xs q => by rw [upd_ne (ne_of_none q hn)]; exact q
      rcases hc with z | z
      · rw [z]; exact nit b u e
      · exact nit c _ z
theorem Inv.lock {d : Addr} {u : HO} (I : Inv X pins σ H s) (h : H d = some u) (mu : Mut (some u)) : ∃ od, Inv X pins σ (upd H d (.frz od u)) s := by
  have x := I.hok d u h
  have ex : ∃ od, s.heap.get? d = some od := by
    cases u with
    | lst xs => obtain ⟨_, _, _, _, e⟩ := x; exact ⟨_, e⟩
    | dK kvs => obtain ⟨_, _, _, _, o, _, _, e, _⟩ := x; exact ⟨o, e⟩
    | dT kvs => obtain ⟨_, _, _, _, o, _, _, e, _⟩ := x; exact ⟨o, e⟩
    | set S n => obtain ⟨o, _, _, _, e, _⟩ := x; exact ⟨o, e⟩
    | ins C dx fs => obtain ⟨_, _, _, e, _⟩ := x; exact ⟨_, e⟩
    | ext φ => obtain ⟨_, ⟨_, e⟩, _⟩ := x; exact ⟨_, e⟩
    | _ => exact False.elim mu
  obtain ⟨od, e⟩ := ex
  have new : ObjOk X.prog X.w (upd H d (.frz od u)) s.heap d (.frz od u) := by
    refine ⟨e, x.stay (fun b v _ q => q) (fun b q => ?_) fun b xs q => ?_⟩
    · rw [upd_ne (fun z => by rw [z, h] at q; cases q; exact mu)]; exact q
    · rw [upd_ne (fun z => by rw [z, h] at q; cases q; exact mu)]; exact q
  exact ⟨od, I.write (x := d) (e := d) (t' := s.toks) (h' := s.heap) (by rw [h]; exact mu) (.inl rfl) (fun b v _ q => q) ⟨od, e⟩ new⟩
theorem Inv.nofrz {d : Addr} {u : HO} (I : Inv X pins σ H s) (h : H d = some u) (mu : Mut (some u)) : ∀ o' u', X.H_0 d ≠ some (.frz o' u') := fun o' u' e => by
  have q := I.base.frzs d o' u' e
  rw [h] at q
  cases q
  exact mu
theorem Inv.unlock {d : Addr} {od : Obj} {u : HO} (I : Inv X pins σ H s) (h : H d = some (.frz od u)) (hn : ∀ o' u', X.H_0 d ≠ some (.frz o' u')) : Inv X pins σ (upd H d u) s := by
  have neH : ∀ b o, H b = some o → (∀ o' u', o ≠ .frz o' u') → b ≠ d := fun b o e hne z => by
    rw [z, h] at e
    cases e
    exact hne _ _ rfl
  have neN : ∀ b, H b = none → b ≠ d := fun b e z => by rw [z, h] at e; cases e
  refine ⟨I.ok, I.os, I.bare, ⟨I.base.keep, I.base.slot, fun b o e n hx => ?_, I.base.there, fun b xs e => ?_, fun b o x e => ?_, fun b ps e => ?_⟩, I.loc, I.cell, ?_, fun x c e => ?_, fun p hp => ?_, fun b o e => ?_, I.len⟩
  · rw [upd_ne (neN b (I.base.free b o e n hx))]; exact I.base.free b o e n hx
  · have q := I.base.tups b xs e
    rw [upd_ne (neH b _ q (fun _ _ z => nomatch z))]; exact q
  · have q := I.base.frzs b o x e
    rw [upd_ne (fun z => by rw [z] at e; exact hn _ _ e)]; exact q
  · obtain ⟨m, q⟩ := I.base.tbls b ps e
    exact ⟨m, by rw [upd_ne (neH b _ q (fun _ _ z => nomatch z))]; exact q⟩
  · rw [upd_ne (neN _ I.free)]; exact I.free
  · rw [upd_ne (neN c (I.freeC x c e))]; exact I.freeC x c e
  · obtain ⟨e, n, r⟩ := I.pin p hp
    exact ⟨e, by rw [upd_ne (neN _ n)]; exact n, r⟩
  · by_cases hb : b = d
    · rw [hb, upd_same] at e
      cases e
      rw [hb]
      obtain ⟨_, x⟩ := I.hok d _ h
      exact x.stay (fun c v _ q => q) (fun c q => by rw [upd_ne (neH c _ q (fun _ _ z => nomatch z))]; exact q) fun c xs q => by rw [upd_ne (neH c _ q (fun _ _ z => nomatch z))]; exact q
    · rw [upd_ne hb] at e
      exact (I.hok b o e).stay (fun c v _ q => q) (fun c q => by rw [upd_ne (neH c _ q (fun _ _ z => nomatch z))]; exact q) fun c xs q => by rw [upd_ne (neH c _ q (fun _ _ z => nomatch z))]; exact q
end
def tLock (t : TS) : TS := fun D σ H => ∃ d u, H d = some u ∧ Mut (some u) ∧ ∀ od, t ⟨fun σ' H' => H' d = some (.frz od u) ∧ D.nx σ' (upd H' d u), fun v H' => H' d = some (.frz od u) ∧ D.rt v (upd H' d u), fun σ' H' => H' d = some (.frz od u) ∧ D.bk σ' (upd H' d u), fun σ' H' => H' d = some (.frz od u) ∧ D.ct σ' (upd H' d u)⟩ σ (upd H d (.frz od u))
section
variable {X : Cx}
theorem ps_lock {st : Stmt} {t : TS} (h : PS X st t) : PS X st (tLock t) := by
  intro pins s σ H D I hw
  obtain ⟨d, u, hd, mu, hw⟩ := hw
  obtain ⟨od, I1⟩ := I.lock hd mu
  refine thn (h pins s σ _ _ I1 (hw od)) fun f s1 q => ?_
  cases f with
  | next => obtain ⟨σ', H', I2, e, q⟩ := q; exact ⟨σ', _, I2.unlock e (I.nofrz hd mu), q⟩
  | brk => obtain ⟨σ', H', I2, e, q⟩ := q; exact ⟨σ', _, I2.unlock e (I.nofrz hd mu), q⟩
  | cont => obtain ⟨σ', H', I2, e, q⟩ := q; exact ⟨σ', _, I2.unlock e (I.nofrz hd mu), q⟩
  | ret v => obtain ⟨x, σ', H', I2, r, e, q⟩ := q; exact ⟨x, σ', _, I2.unlock e (I.nofrz hd mu), r, q⟩
theorem pi_one {tg : Expr} {pins : List (Addr × Obj)} {σ : St} {H : Hp} {s : Shared} {R : It → Hp → Prop} {J : It} {tn : Nat → Heap → Prop} {tk : Nat} (I : Inv X pins σ H s) (o : Obj)
    (T : Turn X.prog X.w X.K tg J [s.heap.objs.size] s.heap.objs.size tn) (st : tn 0 (s.heap.push o)) (q : R J H) : PIE X pins σ tg R (.ref s.heap.objs.size) { s with heap := s.heap.push o, toks := tk } := by
  refine ⟨s.heap.objs.size, [s.heap.objs.size], tn, J, H, rfl, I.kept fun b ob e => Heap.get?_push_of_some _ e, T, st, fun b hb => ?_, q⟩
  have e : b = s.heap.objs.size := by simpa using hb
  subst e
  exact I.fpOk (Nat.le_refl _) (I.hok.fresh (Nat.le_refl _))
end
def Itc (lo c : Int) (n : Nat) : It := ⟨fun i _ => i < n, fun i H x H' => H' = H ∧ x = .int (lo + (i : Nat) * c), fun i _ => n ≤ i⟩
theorem turn_rangeC {P : Program} {w : World} {K : PySem.W.Frag} {tg : Expr} (it : Addr) (lo c : Int) (n : Nat) : Turn P w K tg (Itc lo c n) [it] it (fun i h => IsRangeIter h it (lo + (i : Nat) * c) ((n : Int) - (i : Nat)) c) where
  mem := by simp
  obj := fun i h st b hb => by
    have e : b = it := by simpa using hb
    subst e
    exact ⟨_, st, fun v z => nomatch z⟩
  keep := fun i h h' st k => k it (by simp) _ st
  item := by
    intro X hP hw hK hc i pins s σ H E I hf st hg
    subst hP hw hK
    obtain ⟨f0, f1, f2, f3, f4, f5⟩ := hf it (by simp)
    have W := Walks.range (prog := X.prog) (w := X.w) (I.ok.hd hc) it lo c n
    refine W.item i s _ _ hg st fun v h' tk hv st' kk => ?_
    obtain ⟨t, rfl⟩ := hv
    have I1 : Inv X pins σ H { s with heap := h', toks := tk } := I.turned (fun b o hb e => kk b o (by simpa using hb) e) f0 f1 f3 f4 f5
    exact ⟨_, rfl, go_of (s := { s with heap := h', toks := tk }) (n := "range_iterator") st' rfl rfl (by decide) ⟨.int (lo + (i : Nat) * c), H, I1, ⟨t, rfl⟩, ⟨rfl, rfl⟩, st', fun b hb => (hf b hb).1⟩⟩
  done := by
    intro X hP hw hK hc i pins s σ H E I hf st hg
    subst hP hw hK
    obtain ⟨f0, f1, f2, f3, f4, f5⟩ := hf it (by simp)
    exact wpAny_pyNext_range_end (I.ok.hd hc) st (by have : n ≤ i := hg; omega) fun h' eb => ⟨rfl, I.turned (t' := s.toks) (fun b o hb e => eb b o hb e) f0 f1 f3 f4 f5⟩
  self := fun A i s Q E st h => wpAny_pyIter_rangeiter st h
def RgC (i j c : Int) (n : Nat) : Prop := c ≠ 0 ∧ c.natAbs < 1073741824 ∧ Builtin.Range.small i j c = true ∧ Builtin.Range.rangeSize i j c = n
def iRng3 (ta : TA) : TI := fun σ H R => ta σ H fun vs H1 => ∃ (i j c : Int) (n : Nat), vs = [.int i, .int j, .int c] ∧ RgC i j c n ∧ R (Itc i c n) H1
section
variable {X : Cx} {tg : Expr}
theorem pi_range3 {a b c : Expr} {ta : TA} {p pos : Pos} (hg : Gl X "range") (hm : X.mg "range" = none) (ha : PA X [a, b, c] ta)
    (hs : starEach [a, b, c] X.env = (false, eval a X.env) :: starEach [b, c] X.env := by rfl) (hpl : (backTo pos (starEach [b, c] X.env)).any (·.1) = false := by rfl) :
    PI X tg (.Call (.Name "range" p) [a, b, c] [] pos) (iRng3 ta) := by
  intro pins s σ H R I h
  refine Call_ (ld_blt I hg hm boot_range (PyProof.Rows.callWith_type1 (thn (ha pos pins s σ H _ I h) fun us s1 ⟨vs, H1, I1, r1, q1⟩ => ?_) hs hpl))
  obtain ⟨i, j, k, n, e, ⟨c0, c1, c2, c3⟩, q⟩ := q1
  subst e
  cases r1 with
  | cons r rr =>
    cases rr with
    | cons r' rr =>
      cases rr with
      | cons r'' rr =>
        cases rr
        obtain ⟨t, rfl⟩ := r
        obtain ⟨t', rfl⟩ := r'
        obtain ⟨t'', rfl⟩ := r''
        refine call_range_3 c0 ?_ (.inl (PyProof.noPylong_small c1))
        refine wpAny_pyIter_range (IsRange.new ..) c2 ?_
        have I2 : Inv X pins σ H1 { s1 with heap := s1.heap.push { cls := .type "range", data := .fields #[.int i t, .int j t', .int k t''] } } := I1.kept (t' := s1.toks) fun b o e => Heap.get?_push_of_some _ e
        refine pi_one (tk := s1.toks) I2 _ (turn_rangeC _ i k n) ?_ q
        have e1 : i + ((0 : Nat) : Int) * k = i := by simp
        have e2 : (n : Int) - ((0 : Nat) : Int) = Builtin.Range.rangeSize i j k := by rw [c3]; simp
        show IsRangeIter _ _ (i + ((0 : Nat) : Int) * k) ((n : Int) - ((0 : Nat) : Int)) k
        rw [e1, e2]
        exact Heap.get?_push_size _ rfl
end
theorem for_rangeC {lo c : Int} {n : Nat} {g : TG} {tb : TS} {D : Ends} {σ : St} {H : Hp} (Pv : Nat → St → Hp → Prop) (h0 : Pv 0 σ H)
    (hs : ∀ i σ H, i < n → Pv i σ H → g (.int (lo + (i : Nat) * c)) σ H fun σ2 H2 => tb { D with nx := Pv (i + 1), ct := Pv (i + 1), bk := D.nx } σ2 H2) (hd : ∀ σ H, Pv n σ H → D.nx σ H) :
    ∃ W : Nat → Nat → St → Hp → Prop, (∃ m, W 0 m σ H) ∧ ∀ i m σ H, W i m σ H →
      ((Itc lo c n).stop i H ∧ D.nx σ H) ∨ ((Itc lo c n).go i H ∧ ∃ N : St → Hp → Prop, (∀ σ' H', N σ' H' → ∃ m', m' < m ∧ W (i + 1) m' σ' H') ∧ ∀ x H', (Itc lo c n).yld i H x H' → g x σ H' fun σ2 H2 => tb { D with nx := N, ct := N, bk := D.nx } σ2 H2) := by
  refine ⟨fun i m σ H => m = n - i ∧ i ≤ n ∧ Pv i σ H, ⟨n, by simp, Nat.zero_le _, h0⟩, ?_⟩
  rintro i m σ H ⟨rfl, hi, p⟩
  by_cases hlt : i < n
  · refine .inr ⟨hlt, Pv (i + 1), fun σ' H' p' => ⟨n - (i + 1), by omega, rfl, hlt, p'⟩, fun x H' y => ?_⟩
    obtain ⟨e, y⟩ := y
    subst e y
    exact hs i σ _ hlt p
  · have e : i = n := by omega
    subst e
    exact .inl ⟨Nat.le_refl _, hd σ H p⟩
section
variable {X : Cx} {tg : Expr}
end
section
variable {prog : Program} {w : World} {A : Around} {E : Value → Shared → Prop} {s : Shared}
end
theorem kv_get {κ : Type} {kvs : List (κ × V)} {vs : List (κ × Value)} (h : KV kvs vs) : ∀ {i : Nat} {k : κ} {v : V}, kvs[i]? = some (k, v) → ∃ u, vs[i]? = some (k, u) ∧ RelV v u := by
  unfold KV at h
  induction h with
  | nil => intro i k v e; simp at e
  | @cons a b l₁ l₂ r t ih =>
    intro i k v e
    cases i with
    | zero =>
      simp only [List.getElem?_cons_zero, Option.some.injEq] at e
      subst e
      refine ⟨b.2, ?_, r.2⟩
      simp only [List.getElem?_cons_zero]
      exact congrArg some (Prod.ext r.1.symm rfl)
    | succ j =>
      simp only [List.getElem?_cons_succ] at e ⊢
      exact ih e
theorem relV_key {k : Key} {u : Value} (h : keyIs k u = true) : RelV (kV k) u := by
  rcases keyIs_shape h with ⟨i, t, rfl, rfl⟩ | ⟨x, t, rfl, rfl⟩
  · exact ⟨t, rfl⟩
  · exact ⟨t, rfl⟩
section
variable {X : Cx} {pins : List (Addr × Obj)} {σ : St} {H : Hp} {s : Shared} {d : Addr} {o : Obj}
theorem Inv.frzK {kvs : List (Key × V)} (I : Inv X pins σ H s) (h : H d = some (.frz o (.dK kvs))) :
    (d == sysModules) = false ∧ s.heap.get? d = some o ∧ o.ExactDict ∧ ∃ (es : Array DictEntry) (ep : Nat) (vs : List (Key × Value)), o.data = .dict es ep ∧ es.size = kvs.length ∧ KV kvs vs ∧ s.heap.DictAt (mixKind X.prog X.w) d vs ep := by
  obtain ⟨hd, z, hs, vs, kv, o', es, ep, ho, hx, hdt, r⟩ := I.hok d _ h
  rw [hd] at ho
  cases ho
  refine ⟨hs, hd, hx, es, ep, vs, hdt, ?_, kv, o, es, hd, hx, hdt, r⟩
  have l1 := r.2.1.length
  have l2 : kvs.length = vs.length := Paired.length kv
  rw [Array.length_toList] at l1
  omega
end
def Iti (d : Addr) (o : Obj) (kvs : List (Key × V)) : It :=
  ⟨fun i H => H d = some (.frz o (.dK kvs)) ∧ i < kvs.length, fun i H x H' => ∃ T k v, kvs[i]? = some (k, v) ∧ x = .ref T ∧ H T = none ∧ H' = upd H T (.tup [kV k, v]), fun i H => H d = some (.frz o (.dK kvs)) ∧ kvs.length ≤ i⟩
theorem dict_ep {o : Obj} {es es' : Array DictEntry} {ep ep' : Nat} (h : o.data = .dict es ep) (h' : o.data = .dict es' ep') : es' = es ∧ ep' = ep := by
  rw [h] at h'
  cases h'
  exact ⟨rfl, rfl⟩
section
variable {P : Program} {w : World} {K : PySem.W.Frag} {tg : Expr} {d : Addr} {o : Obj} {es : Array DictEntry} {ep : Nat}
theorem turn_items {kvs : List (Key × V)} {elts : List Expr} {kk : Nat} {tpos : Pos} (it : Addr) (hod : o.data = .dict es ep) :
    Turn P w K (.Tuple elts kk tpos) (Iti d o kvs) [it] it (fun i h => ∃ ok ov, IsItemIter h it d i kvs.length ep ok ov) where
  mem := by simp
  obj := fun i h st b hb => by
    have e : b = it := by simpa using hb
    subst e
    obtain ⟨ok, ov, e⟩ := st
    exact ⟨_, e, fun v z => nomatch z⟩
  keep := fun i h h' st k => let ⟨ok, ov, e⟩ := st; ⟨ok, ov, k it (by simp) _ e⟩
  item := by
    intro X hP hw hK hc i pins s σ H E I hf st hg
    subst hP hw hK
    obtain ⟨hd, hi⟩ := hg
    obtain ⟨hs, hgd, hx, es', ep', vs, hdt, hsz, kv, hm⟩ := I.frzK hd
    obtain ⟨rfl, rfl⟩ := dict_ep hod hdt
    obtain ⟨⟨k, v⟩, hkv⟩ : ∃ p, kvs[i]? = some p := ⟨kvs[i], List.getElem?_eq_getElem hi⟩
    obtain ⟨u, hu, ru⟩ := kv_get kv hkv
    have hl : kvs.length = vs.length := Paired.length kv
    obtain ⟨ok, ov, he⟩ := st
    rw [hl] at he
    have hlt : it < s.heap.objs.size := Heap.lt_size he
    refine wpAny_pyNext_items_item he hm hu fun key h' hkey ho hT hz hk => ?_
    refine ⟨_, rfl, wpAny_letOwnedTupleGo_items (s := { s with heap := h' }) ho fun h'' he' sb => ?_⟩
    have hT2 : h''.get? s.heap.objs.size = some { cls := .type "tuple", data := .seq #[key, u] } := (sb.2 _ (Nat.ne_of_gt hlt)).trans hT
    have new : ObjOk X.prog X.w (upd H s.heap.objs.size (.tup [kV k, v])) h'' s.heap.objs.size (.tup [kV k, v]) :=
      ⟨by show 2 ≤ sizeLine; decide, [key, u], .cons (relV_key (show keyIs k key = true from hkey)) (.cons ru .nil), ⟨_, hT2, rfl, _, rfl⟩⟩
    have I1 : Inv X pins σ (upd H s.heap.objs.size (.tup [kV k, v])) { s with heap := h'' } :=
      I.turnedNew (t' := s.toks) (ch := [it]) (fun b ob hb e => (sb.2 b (by simpa using hb)).trans (hk b ob (by simpa using hb) e)) hf (Nat.le_refl _) new
    refine ⟨.ref s.heap.objs.size, _, I1, rfl, ⟨_, k, v, hkv, rfl, I.hok.fresh (Nat.le_refl _), rfl⟩, ⟨key, u, ?_⟩, fun b hb => ?_⟩
    · rw [hl]; exact he'
    · have e : b = it := by simpa using hb
      rw [e, upd_ne (Nat.ne_of_lt hlt)]
      exact (hf it (by simp)).1
  done := by
    intro X hP hw hK hc i pins s σ H E I hf st hg
    subst hP hw hK
    obtain ⟨hd, hi⟩ := hg
    obtain ⟨f0, f1, f2, f3, f4, f5⟩ := hf it (by simp)
    obtain ⟨hs, hgd, hx, es', ep', vs, hdt, hsz, kv, hm⟩ := I.frzK hd
    obtain ⟨rfl, rfl⟩ := dict_ep hod hdt
    have hl : kvs.length = vs.length := Paired.length kv
    obtain ⟨ok, ov, he⟩ := st
    rw [hl] at he
    exact wpAny_pyNext_items_end (I.ok.hd hc) he hm (List.getElem?_eq_none (by omega)) fun h' eb => ⟨rfl, I.turned (t' := s.toks) (fun b ob hb e => eb b ob hb e) f0 f1 f3 f4 f5⟩
  self := fun A i s Q E st h => let ⟨_, _, e⟩ := st; PySem.W.kcp_self e h
end
def iItems (td : TE) : TI := fun σ H R => td σ H fun x H1 => ∃ d o kvs, x = .ref d ∧ H1 d = some (.frz o (.dK kvs)) ∧ R (Iti d o kvs) H1
section
variable {X : Cx} {tg e : Expr} {td : TE} {apos cpos : Pos}
theorem pi_items {elts : List Expr} {kk : Nat} {tpos : Pos} (he : PE X e td) (hbase : attributeBase e "items" X.env (eval e X.env) = eval e X.env := by rfl) (hline : (apos.endLine == cpos.line) = true := by rfl) :
    PI X (.Tuple elts kk tpos) (.Call (.Attribute e "items" apos) [] [] cpos) (iItems td) := by
  intro pins s σ H R I h
  refine wpAny_Call_method (T := "dict") (id := "dict.items") hbase rfl hline F.plainAttrs_dict F.slot_dict_items F.type_dict_items (thn (he pins s σ H _ I h) fun u s1 ⟨x, H1, I1, rx, d, o, kvs, ex, hd, q⟩ => ?_)
  subst ex
  obtain rfl : u = Value.ref d := rx
  obtain ⟨hs, hgd, hx, es, ep, vs, hdt, hsz, kv, hm⟩ := I1.frzK hd
  have hl : kvs.length = vs.length := Paired.length kv
  refine ⟨hm.dictOf.typeIs, hm.dictOf.mapOf.noDict, ?_⟩
  have I2 : Inv X pins σ H1 { s1 with heap := s1.heap.push { cls := .type "dict_items", data := .fields #[.ref d] } } := I1.kept (t' := s1.toks) fun b ob q => Heap.get?_push_of_some _ q
  have fin : wpAny (model X.prog X.w) X.A (pyIter (.ref s1.heap.objs.size)) (PIE X pins σ (.Tuple elts kk tpos) R) X.xe { s1 with heap := s1.heap.push { cls := .type "dict_items", data := .fields #[.ref d] } } := by
    refine wpAny_pyIter_items (d := d) (knd := mixKind X.prog X.w) ⟨_, Heap.get?_push_size _ rfl, rfl, rfl⟩ (hm.push _) (pi_one (tk := s1.toks) I2 _ (turn_items _ hdt) ⟨.none, .none, ?_⟩ q)
    rw [hl]
    exact Heap.get?_push_size _ rfl
  show wpAny _ _ (callWith cpos (.builtin "dict.items") [.ref d] [] []) _ X.xe s1
  exact method_meetsIn F.slot_dict_items F.entry_dict_items rfl (PySem.evalArgs_none ⟨rfl, hm.dictOf.typeIs, F.args_dict_items_1 _, _, meets_dict_items (mixKind X.prog X.w) d hs, ⟨vs, hm.dictOf⟩, fin⟩)
end
def Ite (K : PySem.W.Frag) (a : Addr) : It :=
  ⟨fun i H => ∃ (xs : List V) (x : V), SqL K H a xs ∧ xs[i]? = some x, fun i H v H' => ∃ T x, v = .ref T ∧ H T = none ∧ H' = upd H T (.tup [.int (i : Nat), x]) ∧ ∀ xs, SqL K H a xs → xs[i]? = some x, fun i H => ∃ xs : List V, SqL K H a xs ∧ xs.length ≤ i⟩
theorem turn_enum {P : Program} {w : World} {K : PySem.W.Frag} {elts : List Expr} {kk : Nat} {tpos : Pos} (a e it : Addr) :
    Turn P w K (.Tuple elts kk tpos) (Ite K a) [e, it] e (fun i h => (∃ old, IsEnum h e it ((i : Nat) : Int) old) ∧ h.IsListIter it a i ∧ e ≠ it) where
  mem := by simp
  obj := fun i h st b hb => by
    obtain ⟨⟨old, he⟩, ⟨o, ho, hc, hd⟩, _⟩ := st
    have e' : b = e ∨ b = it := by simpa using hb
    rcases e' with z | z
    · rw [z]; exact ⟨_, he, fun v q => nomatch q⟩
    · rw [z]; exact ⟨o, ho, fun v q => by rw [hd] at q; cases q⟩
  keep := fun i h h' st k => let ⟨⟨old, he⟩, hi, hne⟩ := st; ⟨⟨old, k e (by simp) _ he⟩, hi.at fun o q => k it (by simp) o q, hne⟩
  item := by
    intro X hP hw hK hc i pins s σ H E I hf st hg
    subst hP hw hK
    obtain ⟨⟨old, he⟩, hit, hne⟩ := st
    obtain ⟨xs, x, hq, hx⟩ := hg
    obtain ⟨its, rv, p, hz⟩ := I.list hq
    obtain ⟨u, hu, ru⟩ := rv.get hx
    have hel : e < s.heap.objs.size := Heap.lt_size he
    have hil : it < s.heap.objs.size := by obtain ⟨_, q, _⟩ := hit; exact Heap.lt_size q
    refine wpAny_pyNext_enum_item he hit p.isList (x := u) (by simpa using hu) hne fun h' ho hit' hT hsz hk => ?_
    refine ⟨_, rfl, wpAny_letOwnedTupleGo_enum (s := { s with heap := h', toks := s.toks + 1 }) ho fun h'' he' sb => ?_⟩
    have hT2 : h''.get? s.heap.objs.size = some { cls := .type "tuple", data := .seq #[.int i s.toks, u] } := (sb.2 _ (Nat.ne_of_gt hel)).trans hT
    have new : ObjOk X.prog X.w (upd H s.heap.objs.size (.tup [.int (i : Nat), x])) h'' s.heap.objs.size (.tup [.int (i : Nat), x]) :=
      ⟨by show 2 ≤ sizeLine; decide, [.int i s.toks, u], .cons ⟨_, rfl⟩ (.cons ru .nil), ⟨_, hT2, rfl, _, rfl⟩⟩
    have I1 : Inv X pins σ (upd H s.heap.objs.size (.tup [.int (i : Nat), x])) { s with heap := h'', toks := s.toks + 1 } :=
      I.turnedNew (ch := [e, it]) (fun b ob hb q => (sb.2 b (fun z => hb (by simp [z]))).trans (hk b ob (fun z => hb (by simp [z])) (fun z => hb (by simp [z])) q)) hf (Nat.le_refl _) new
    refine ⟨.ref s.heap.objs.size, _, I1, rfl, ⟨_, x, rfl, I.hok.fresh (Nat.le_refl _), rfl, fun ys hy => by rw [I.list_inj hy hq]; exact hx⟩, ⟨⟨u, ?_⟩, hit'.at fun o q => (sb.2 it (Ne.symm hne)).trans q, hne⟩, fun b hb => ?_⟩
    · have e1 : ((i + 1 : Nat) : Int) = (i : Int) + 1 := by omega
      rw [e1]; exact he'
    · have hb' : b < s.heap.objs.size := by
        have e' : b = e ∨ b = it := by simpa using hb
        rcases e' with z | z
        · rw [z]; exact hel
        · rw [z]; exact hil
      rw [upd_ne (Nat.ne_of_lt hb')]
      exact (hf b hb).1
  done := by
    intro X hP hw hK hc i pins s σ H E I hf st hg
    subst hP hw hK
    obtain ⟨⟨old, he⟩, hit, hne⟩ := st
    obtain ⟨xs, hq, hx⟩ := hg
    obtain ⟨its, rv, p, hz⟩ := I.list hq
    obtain ⟨f0, f1, f2, f3, f4, f5⟩ := hf it (by simp)
    have hl := rv.length
    exact wpAny_pyNext_enum_end (I.ok.hd hc) he hit p.isList (by simp; omega) fun h' eb => ⟨rfl, I.turned (t' := s.toks) (fun b o hb q => eb b o hb q) f0 f1 f3 f4 f5⟩
  self := fun A i s Q E st h => let ⟨⟨_, he⟩, _⟩ := st; wpAny_pyIter_enum he h
def iEnum (K : PySem.W.Frag) (ta : TA) : TI := fun σ H R => ta σ H fun vs H1 => ∃ a xs, vs = [.ref a] ∧ SqL K H1 a xs ∧ R (Ite K a) H1
theorem pi_enum {X : Cx} {e : Expr} {ta : TA} {p pos tpos : Pos} {elts : List Expr} {kk : Nat} (hg : Gl X "enumerate") (hm : X.mg "enumerate" = none) (ha : PA X [e] ta) (hs : starEach [e] X.env = [(false, eval e X.env)] := by rfl) :
    PI X (.Tuple elts kk tpos) (.Call (.Name "enumerate" p) [e] [] pos) (iEnum X.K ta) := by
  intro pins s σ H R I h
  refine Call_ (ld_blt I hg hm boot_enumerate (PyProof.Rows.callWith_type1 (thn (ha pos pins s σ H _ I h) fun us s1 ⟨vs, H1, I1, r1, q1⟩ => ?_) hs rfl))
  obtain ⟨a, xs, ex, hq, q⟩ := q1
  subst ex
  cases r1 with
  | cons r rr =>
    cases rr
    cases r
    obtain ⟨its, rv, p', hz⟩ := I1.list hq
    refine call_enumerate_list p'.isList fun h' he hit hsz hk => wpAny_pyIter_enum he ?_
    have I2 : Inv X pins σ H1 { s1 with heap := h' } := I1.kept (t' := s1.toks) hk
    refine ⟨s1.heap.objs.size + 1, [s1.heap.objs.size + 1, s1.heap.objs.size], _, _, H1, rfl, I2, turn_enum a (s1.heap.objs.size + 1) s1.heap.objs.size, ⟨⟨.none, he⟩, hit, Nat.succ_ne_self _⟩, fun b hb => ?_, q⟩
    have e' : b = s1.heap.objs.size + 1 ∨ b = s1.heap.objs.size := by simpa using hb
    have hle : s1.heap.objs.size ≤ b := by
      rcases e' with z | z
      · rw [z]; exact Nat.le_add_right _ _
      · rw [z]; exact Nat.le_refl _
    exact I1.fpOk hle (I1.hok.fresh hle)
end L2
section
namespace Bits
open PySem PyProof.Rows
end Bits
end
section
namespace TL
open PySem PySem.Builtin PySem.Builtin.Str PySem.StrLaws
end TL
end
namespace L2
open PySem PySem.Spec PyProof.Rows
section
variable {X : Cx} {pins : List (Addr × Obj)} {σ : St} {H : Hp} {s : Shared} {Q : VK}
end
section
variable {X : Cx}
end
section
variable {X : Cx} {o e : Expr} {to te : TE}
end
end L2
namespace L2
open PySem PySem.Spec PyProof.Rows
section
variable {X : Cx}
end
end L2
namespace Att
open PySem PySem.W PySem.Calls PyProof.Rows
section
variable {prog : Program} {w : World} {A : Around} {E : Value → Shared → Prop} {s : Shared} {K : Frag}
end
end Att
namespace L2
open PySem PySem.Spec PyProof.Rows
end L2
namespace L2
open PySem PySem.Spec PyProof.Rows
abbrev KOf {K : PySem.W.Frag} {h : Heap} (_ : K.In h) : PySem.W.Frag := K
end L2
/- THE LAST THEOREM (shape; LID, My.* are yours):
   My.Adr: a structure of the addresses that your layer names (classes, functions); My.Txt K t: a structure (Prop) of the equations over K;
   My.txt_mk : {K} {implicit addresses ..} (e1 : nsIn K mainGlobals "law" = some (some (.ref f))) (e2 : K.lookup f = some ⟨oc, od, .func (fnOf "law" "law" params body scope dV kV doc pm an cdv ct), sl⟩) (e3 : codeIn K cdv "law" = true) .. : ∃ t, My.Txt K t
set_option maxRecDepth 100000 in
set_option maxHeartbeats 0 in
theorem PySem.Challenge.cw_LID_holds : PySem.Challenge.rw_LID.Holds := by
  w_on; o_law; k_head; (case hw => w_witness2)
  k_fill
  refine L2.walk_of (l := PySem.Challenge.rw_LID) (n := 63) (k := 40) (x := "script") (CX := fun w => ..) (sp := fun _ => My.sp_law) rfl (by decide) rfl ⟨rfl, by decide, by decide⟩ (fun w h Y => PySem.W.kIn_of Y) ?F ?S ?C
  case F =>
    intro w mg fa h KX G hmg
    have T : ∃ t, My.Txt (L2.KOf KX) t := by
      dsimp only [L2.KOf]                          -- K must stand as «<heap const> w.params» for k_is
      refine' My.txt_mk ?e1 ?e2 ?e3 ..
      (case e1 => PySem.W.k_is)                    -- in the order: a name -> its address -> its object -> its parts
      (case e2 => PySem.W.k_is)
      ..
    obtain ⟨t, T⟩ := T
    have e0 := hmg.symm.trans (PySem.W.mg_of KX G T.law)
    cases e0                                       -- fa is the law's own address
    exact ⟨_, fun s u => .of_eq rfl, fun base kb nb => My.law_fn T kb nb⟩     -- if «.of_eq rfl» comes too early: refine' ⟨_, ?b, fun base kb nb => My.law_fn T kb nb⟩; exact fun s u => .of_eq rfl
  case S => exact fun w H a ns hl hO hS => ..
  case C => exact ..
(the tactic k_is has no namespace: write k_is) -/
namespace L2
open PySem PySem.Spec PyProof.Rows
def inClass (s : Stmt) (j : Nat) : Stmt := match s with
  | .ClassDef _ _ _ body _ _ _ _ _ _ _ => body.getD j (.Pass ⟨0, 0, 0, 0⟩)
  | _ => .Pass ⟨0, 0, 0, 0⟩
def defArgs (s : Stmt) : Arguments := match s with
  | .FunctionDef _ a _ _ _ _ _ _ _ _ => a
  | _ => { posonlyargs := [], args := [], vararg := none, kwonlyargs := [], kw_defaults := [], kwarg := none, defaults := [] }
def defBody (s : Stmt) : List Stmt := match s with
  | .FunctionDef _ _ b _ _ _ _ _ _ _ => b
  | _ => []
def defScope (s : Stmt) : Scope := match s with
  | .FunctionDef _ _ _ _ _ _ sc _ _ _ => sc
  | _ => { kind := .function, names := [], isGenerator := false, isCoroutine := false }
abbrev CX0 : CXT := fun _ _ _ _ _ _ => False
abbrev E0 : XK := fun _ _ _ => False
theorem pass0 {X : Cx} : Passes CX0 X E0 := fun _ _ _ _ _ _ _ h => h.elim
structure Fun (K : PySem.W.Frag) (x qual : Str) (st : Stmt) (f : Addr) (fd : FuncData) : Prop where
  ex : ∃ (oc : Value) (od : Option Addr) (kV doc pm : Value) (an : Option Addr) (cdv ct : Value) (osl : Array (Option Value)),
    fd = PySem.W.fnOf x qual (defArgs st) (defBody st) (defScope st) .none kV doc pm an cdv ct ∧ K.lookup f = some ⟨oc, od, .func fd, osl⟩ ∧ PySem.W.codeIn K cdv qual = true
  kp : PySem.W.keepIn K (.ref f) = true
section
variable {P : Program} {w : World} {K : PySem.W.Frag} {mg : Str → Option Value} {base : Heap}
theorem Fun.ok {x qual : Str} {st : Stmt} {f : Addr} {fd : FuncData} {N ps : List Str} {k : Nat} {sp : Sp} (F : Fun K x qual st f fd) (S : FnScope N ps (defScope st)) (len : ∀ vs H Q E, sp vs H Q E → vs.length = ps.length)
    (hbody : ∀ (cdv : Value) (A : Around) (outer : List Env) (s : Shared) (H : Hp) (vs : List V) (Q : VK) (E : XK), Room k (A.deeper (envOfC qual (defScope st) s.heap.objs.size f cdv)) → sp vs H Q E →
      ∃ t, PSs (cxOf CX0 P w K mg base N qual (defScope st) f cdv A outer s H E).nox (defBody st) t ∧ t { nx := fun _ H' => Q .non H', rt := Q } (start N vs) H) : FnOk P w K mg base CX0 (k + 1) f fd ps sp := by
  obtain ⟨oc, od, kV, doc, pm, an, cdv, ct, osl, rfl, lk, hcd⟩ := F.ex
  refine fn_of lk hcd S len fun A outer s H vs Q E hr hsp => ?_
  obtain ⟨t, h, q⟩ := hbody cdv A outer s H vs Q E hr hsp
  exact ⟨t, h.nox, q⟩
theorem fun_mk {x qual : Str} {st : Stmt} {f : Addr} {oc : Value} {od an : Option Addr} {osl : Array (Option Value)} {kV doc pm cdv ct : Value} (l : K.lookup f = some ⟨oc, od, .func (PySem.W.fnOf x qual (defArgs st) (defBody st) (defScope st) .none kV doc pm an cdv ct), osl⟩)
    (c : PySem.W.codeIn K cdv qual = true) (k : PySem.W.keepIn K (.ref f) = true) : Fun K x qual st f (PySem.W.fnOf x qual (defArgs st) (defBody st) (defScope st) .none kV doc pm an cdv ct) := ⟨⟨oc, od, kV, doc, pm, an, cdv, ct, osl, rfl, l, c⟩, k⟩
end
theorem hu_of {A : Around} {k : Nat} (hr : Room k A) : A.units + 1 < cLine := Nat.lt_of_le_of_lt (Nat.add_le_add_left (by decide : 1 ≤ 64) _) hr.units
theorem small1000 {n : Nat} (h : n ≤ 1000) : n < sizeLine := Nat.lt_of_le_of_lt h (by decide)
section
variable {X : Cx}
theorem pv (i : Nat) {x : Str} {pos : Pos} (hN : X.N[i]? = some x := by rfl) (hv : Vis X.env.scope x := by first | exact Or.inl rfl | exact Or.inr (Or.inl rfl) | exact Or.inr (Or.inr rfl)) (hd : (x == ("__debug__" : Str)) = false := by decide)
    (hcd : (x == ("__classdict__" : Str)) = false := by decide) : PE X (.Name x pos) (tVar i) := pe_var hN hv hd hcd
theorem call_lenD : CallR X (.builtin "len") (fun xs H Q => ∃ a kvs, xs = [V.ref a] ∧ H a = some (.dK kvs) ∧ Q (.int kvs.length) H) := by
  intro pins s σ H xs us Q I r h
  obtain ⟨a, kvs, rfl, ha, q⟩ := h
  obtain ⟨u, rfl, ru⟩ := vals1 r
  cases ru
  exact d_len I (.inl ha) fun t s' I' => ⟨.int kvs.length, H, I', ⟨t, rfl⟩, q⟩
end
theorem iteF {A B : Prop} (h : B) : if false = true then A else B := by
  rw [if_neg Bool.false_ne_true]
  exact h
theorem iteT {A B : Prop} (h : A) : if true = true then A else B := by
  rw [if_pos rfl]
  exact h
theorem ite2 {c A B : Prop} [Decidable c] (h1 : c → A) (h2 : ¬ c → B) : if c then A else B := by
  by_cases h : c
  · rw [if_pos h]
    exact h1 h
  · rw [if_neg h]
    exact h2 h
def Same (H H' : Hp) : Prop := ∀ b o, H b = some o → H' b = some o
theorem Same.refl (H : Hp) : Same H H := fun _ _ h => h
theorem Same.trans {H H1 H2 : Hp} (a : Same H H1) (b : Same H1 H2) : Same H H2 := fun c o h => b c o (a c o h)
theorem Same.free {H H' : Hp} (e : Same H H') {l : Addr} (h : H' l = Option.none) : H l = Option.none := by
  cases q : H l with
  | none => rfl
  | some o =>
    rw [e l o q] at h
    cases h
theorem Same.seq {K : PySem.W.Frag} {H H' : Hp} {a : Addr} {xs : List V} (e : Same H H') (h : SqL K H a xs) : SqL K H' a xs := by
  rcases h with (h | ⟨o, h⟩) | h
  · exact .inl (.inl (e _ _ h))
  · exact .inl (.inr ⟨o, e _ _ h⟩)
  · exact .inr h
section
variable {κ : Type} [DecidableEq κ]
theorem valV_not {kvs : List (κ × V)} {k : κ} (h : valV kvs k = none) : ¬ k ∈ kvs.map (·.1) := by
  intro m
  obtain ⟨p, hp, e⟩ := List.mem_map.mp m
  have q : (kvs.any fun kv => decide (kv.1 = k)) = true := List.any_eq_true.mpr ⟨p, hp, decide_eq_true e⟩
  rw [valV_any, h] at q
  exact absurd q (by simp)
theorem valV_in {kvs : List (κ × V)} {k : κ} {v : V} (h : valV kvs k = some v) : k ∈ kvs.map (·.1) := by
  have q : (kvs.any fun kv => decide (kv.1 = k)) = true := by
    rw [valV_any, h]
    all_goals rfl
  obtain ⟨p, hp, e⟩ := List.any_eq_true.mp q
  exact List.mem_map.mpr ⟨p, hp, of_decide_eq_true e⟩
end
theorem Same.made {H H1 : Hp} {x dx C : Addr} (nx : H x = Option.none) (nd : H dx = Option.none) (k : ∀ b o, (upd (upd H dx (.own x)) x (.ins C dx [])) b = some o → b ≠ x → H1 b = some o) : Same H H1 := fun b o e =>
  k b o (by rw [upd_ne (ne_of_none e nx), upd_ne (ne_of_none e nd)]; exact e) (ne_of_none e nx)
end L2
end
section
set_option Elab.async false
set_option linter.all false
set_option maxRecDepth 100000
set_option maxHeartbeats 2000000
namespace L2
open PySem PySem.Spec PyProof.Rows
open PySem.W (WData Codec OpenSpec Well WellAll ReadsW ReadsAllW)
mutual
inductive Dw (K : PySem.W.Frag) (H : Hp) : V → WData → Prop
  | non : Dw K H .non .none
  | bl (b : Bool) : Dw K H (.bl b) (.bool b)
  | int (i : Int) : Dw K H (.int i) (.int i)
  | str (x : Str) : Dw K H (.str x) (.str x)
  | byt (b : Array UInt8) : Dw K H (.byt b) (.bytes b.toList)
  | lst {a : Addr} {xs : List V} {ds : List WData} : SqL K H a xs → DwAll K H xs ds → Dw K H (.ref a) (.list ds)
  | tup {a : Addr} {xs : List V} {ds : List WData} : SqT K H a xs → DwAll K H xs ds → Dw K H (.ref a) (.tuple ds)
inductive DwAll (K : PySem.W.Frag) (H : Hp) : List V → List WData → Prop
  | nil : DwAll K H [] []
  | cons {v : V} {vs : List V} {d : WData} {ds : List WData} : Dw K H v d → DwAll K H vs ds → DwAll K H (v :: vs) (d :: ds)
end
theorem dw_ints {K : PySem.W.Frag} {H : Hp} : ∀ ns : List Int, DwAll K H (ns.map V.int) (ns.map WData.int)
  | [] => .nil
  | n :: r => .cons (.int n) (dw_ints r)
theorem ints_dw {K : PySem.W.Frag} {H : Hp} : ∀ (ns : List Int) (xs : List V), DwAll K H xs (ns.map WData.int) → xs = ns.map V.int
  | [], xs, h => by
    cases h
    rfl
  | n :: r, xs, h => by
    cases h with
    | cons h1 h2 =>
      cases h1
      rw [ints_dw r _ h2] <;> rfl
section
variable {P : Program} {w : World} {K : PySem.W.Frag} {H : Hp} {h : Heap} {R : PySem.W.WRecords} {cl : Str → Option Addr}
theorem sqL_at {a : Addr} {xs : List V} (hok : HOk P w H h) (KX : K.In h) (q : SqL K H a xs) : ∃ (its : List Value) (o : Obj) (n : Nat), Vals xs its ∧ h.get? a = some o ∧ o.cls = .type "list" ∧ o.data = .seq its.toArray n := by
  rcases q with q | ⟨o, its, n, e, hc, _, hd, _, hv⟩
  · obtain ⟨_, its, n, hv, e⟩ := (show ObjOk P w H h a (.lst xs) from q.ok hok)
    exact ⟨its, _, n, hv, e, rfl, rfl⟩
  · exact ⟨its.toList, o, n, hv, KX _ _ e, hc, by simp [hd]⟩
theorem sqT_at {a : Addr} {xs : List V} (hok : HOk P w H h) (KX : K.In h) (q : SqT K H a xs) : ∃ (its : List Value) (o : Obj) (n : Nat), Vals xs its ∧ h.get? a = some o ∧ o.cls = .type "tuple" ∧ o.data = .seq its.toArray n := by
  rcases q with q | ⟨o, its, n, e, hc, hd, _, hv⟩
  · obtain ⟨_, its, hv, o, e, hc, n, hd⟩ := (show ObjOk P w H h a (.tup xs) from q.ok hok)
    exact ⟨its, o, n, hv, e, hc, hd⟩
  · exact ⟨its.toList, o, n, hv, KX _ _ e, hc, by simp [hd]⟩
mutual
theorem Dw.reads (hok : HOk P w H h) (KX : K.In h) : ∀ (d : WData) (v : V) (u : Value), Dw K H v d → RelV v u → ∃ as, ReadsW R cl h u d as
  | .none, _, _, x, r => by
    cases x
    cases r
    exact ⟨_, ReadsW.none⟩
  | .bool b, _, _, x, r => by
    cases x
    cases r
    exact ⟨_, ReadsW.bool b⟩
  | .int i, _, _, x, r => by
    cases x
    obtain ⟨t, rfl⟩ := r
    exact ⟨_, ReadsW.int i t⟩
  | .str s, _, _, x, r => by
    cases x
    obtain ⟨t, rfl⟩ := r
    exact ⟨_, ReadsW.str s t⟩
  | .bytes b, _, _, x, r => by
    cases x
    obtain ⟨t, rfl⟩ := r
    exact ⟨_, ReadsW.bytes _ t⟩
  | .list ds, _, _, x, r => by
    cases x with
    | lst hs ha =>
      cases r
      obtain ⟨its, o, n, rv, ho, hc, hd⟩ := sqL_at hok KX hs
      obtain ⟨as, hr⟩ := Dw.readsAll hok KX ds _ its ha rv
      exact ⟨_, ReadsW.list ho hc hd hr⟩
  | .tuple ds, _, _, x, r => by
    cases x with
    | tup hs ha =>
      cases r
      obtain ⟨its, o, n, rv, ho, hc, hd⟩ := sqT_at hok KX hs
      obtain ⟨as, hr⟩ := Dw.readsAll hok KX ds _ its ha rv
      exact ⟨_, ReadsW.tuple ho hc hd hr⟩
  | .float _, _, _, x, _ => by cases x
  | .dict _, _, _, x, _ => by cases x
  | .bytearray _, _, _, x, _ => by cases x
  | .set _, _, _, x, _ => by cases x
  | .frozenset _, _, _, x, _ => by cases x
  | .obj _ _, _, _, x, _ => by cases x
theorem Dw.readsAll (hok : HOk P w H h) (KX : K.In h) : ∀ (ds : List WData) (vs : List V) (us : List Value), DwAll K H vs ds → Vals vs us → ∃ as, ReadsAllW R cl h us ds as
  | [], _, _, x, r => by
    cases x
    cases r
    exact ⟨_, ReadsAllW.nil⟩
  | d :: ds, _, _, x, r => by
    cases x with
    | cons h1 h2 =>
      cases r with
      | cons r1 r2 =>
        obtain ⟨as, q1⟩ := Dw.reads hok KX d _ _ h1 r1
        obtain ⟨bs, q2⟩ := Dw.readsAll hok KX ds _ _ h2 r2
        exact ⟨_, ReadsAllW.cons q1 q2⟩
end
end
mutual
def plW : WData → Bool
  | .none => true
  | .bool _ => true
  | .int _ => true
  | .str _ => true
  | .bytes _ => true
  | .list xs => plWs xs
  | .tuple xs => plWs xs
  | _ => false
def plWs : List WData → Bool
  | [] => true
  | x :: r => plW x && plWs r
end
theorem plWs_map {α : Type} {f : α → WData} (h : ∀ a, plW (f a) = true) : ∀ l : List α, plWs (l.map f) = true
  | [] => rfl
  | x :: r => by
    show (plW (f x) && plWs (r.map f)) = true
    rw [h x, plWs_map h r] <;> rfl
theorem pl_enc : ∀ (c : Codec) (a : c.denote), plW (c.enc a) = true
  | .unit, _ => rfl
  | .bool, _ => rfl
  | .int _ _, _ => rfl
  | .nat _ _, _ => rfl
  | .u8, _ => rfl
  | .bytes _ _, _ => rfl
  | .text _ _ _ _, _ => rfl
  | .list _ _ c, a => plWs_map (fun x => pl_enc c x) a
  | .pair c d, a => by
    show (plW (c.enc a.1) && (plW (d.enc a.2) && true)) = true
    rw [pl_enc c a.1, pl_enc d a.2] <;> rfl
  | .triple c d e, a => by
    show (plW (c.enc a.1) && (plW (d.enc a.2.1) && (plW (e.enc a.2.2) && true))) = true
    rw [pl_enc c a.1, pl_enc d a.2.1, pl_enc e a.2.2] <;> rfl
  | .option c, none => rfl
  | .option c, some x => pl_enc c x
theorem pl_encAll : ∀ (cs : List Codec) (a : Codec.denoteAll cs), plWs (Codec.encAll cs a) = true
  | [], _ => rfl
  | c :: cs, a => by
    show (plW (c.enc a.1) && plWs (Codec.encAll cs a.2)) = true
    rw [pl_enc c a.1, pl_encAll cs a.2] <;> rfl
theorem weight_mem : ∀ {xs : List WData} {d : WData}, d ∈ xs → d.weight ≤ WData.weightAll xs
  | [], d, h => absurd h (by simp)
  | x :: r, d, h => by
    show d.weight ≤ x.weight + 1 + WData.weightAll r
    rcases List.mem_cons.mp h with e | m
    · rw [e]
      omega
    · have z := weight_mem m
      omega
def toV : Value → V
  | .none => .non
  | .bool b => .bl b
  | .int i _ => .int i
  | .str x _ => .str x
  | .bytes b _ => .byt b
  | .ref a => .ref a
  | _ => .non
def OkU (A : List Addr) : Value → Prop
  | .none => True
  | .bool _ => True
  | .int _ _ => True
  | .str _ _ => True
  | .bytes _ _ => True
  | .ref a => a ∈ A
  | _ => False
theorem OkU.mono {A B : List Addr} (h : ∀ a ∈ A, a ∈ B) : ∀ {u : Value}, OkU A u → OkU B u := fun {u} x => by
  cases u with
  | ref a => exact h a x
  | none => trivial
  | bool b => trivial
  | int i t => trivial
  | str s t => trivial
  | bytes b t => trivial
  | _ => exact False.elim x
theorem relV_toV {A : List Addr} {u : Value} (x : OkU A u) : RelV (toV u) u := by
  cases u with
  | ref a => rfl
  | none => rfl
  | bool b => rfl
  | int i t => exact ⟨t, rfl⟩
  | str s t => exact ⟨t, rfl⟩
  | bytes b t => exact ⟨t, rfl⟩
  | _ => exact False.elim x
theorem vals_toV {A : List Addr} : ∀ {vs : List Value}, (∀ u ∈ vs, OkU A u) → Vals (vs.map toV) vs
  | [], _ => .nil
  | u :: r, h => .cons (relV_toV (h u (List.mem_cons_self ..))) (vals_toV fun x hx => h x (List.mem_cons_of_mem _ hx))
def ArgOb (h : Heap) (A : List Addr) (a : Addr) : Prop := ∃ vs : List Value, vs.length ≤ sizeLine ∧ (∀ u ∈ vs, OkU A u) ∧
  (h.get? a = some { cls := .type "list", data := .seq vs.toArray } ∨ h.get? a = some { cls := .type "tuple", data := .seq vs.toArray })
theorem ArgOb.mono {h : Heap} {A B : List Addr} {a : Addr} (k : ∀ a ∈ A, a ∈ B) (x : ArgOb h A a) : ArgOb h B a := by
  obtain ⟨vs, h1, h2, h3⟩ := x
  exact ⟨vs, h1, fun u hu => (h2 u hu).mono k, h3⟩
theorem wellAll_len {P : Params} {h : Heap} : ∀ {vs : List Value} {ds : List WData}, WellAll P h vs ds → vs.length = ds.length
  | _, _, .nil => rfl
  | _, _, .cons _ b => by
    show _ + 1 = _ + 1
    rw [wellAll_len b]
theorem well_list {P : Params} {h : Heap} {v : Value} {ds : List WData} (x : Well P h v (.list ds)) : ∃ (a : Addr) (vs : List Value), v = .ref a ∧ h.get? a = some { cls := .type "list", data := .seq vs.toArray } ∧ WellAll P h vs ds := by
  cases x with
  | list ho hall => exact ⟨_, _, rfl, ho, hall⟩
theorem well_tuple {P : Params} {h : Heap} {v : Value} {ds : List WData} (x : Well P h v (.tuple ds)) : ∃ (a : Addr) (vs : List Value), v = .ref a ∧ h.get? a = some { cls := .type "tuple", data := .seq vs.toArray } ∧ WellAll P h vs ds := by
  cases x with
  | tuple ho hall => exact ⟨_, _, rfl, ho, hall⟩
theorem well_cons {P : Params} {h : Heap} {us : List Value} {d : WData} {ds : List WData} (x : WellAll P h us (d :: ds)) : ∃ (v : Value) (vs : List Value), us = v :: vs ∧ Well P h v d ∧ WellAll P h vs ds := by
  cases x with
  | cons a b => exact ⟨_, _, rfl, a, b⟩
theorem line_of {n : Nat} (h : n ≤ 1048576) : n ≤ sizeLine := Nat.le_trans h (by decide)
section
variable {P : Params} {h : Heap}
mutual
theorem area_one : ∀ (d : WData) (v : Value), Well P h v d → plW d = true → d.weight ≤ 1048576 → ∃ A : List Addr, OkU A v ∧ ∀ a ∈ A, ArgOb h A a
  | .none, _, x, _, _ => by
    cases x
    exact ⟨[], trivial, fun a m => absurd m (by simp)⟩
  | .bool b, _, x, _, _ => by
    cases x
    exact ⟨[], trivial, fun a m => absurd m (by simp)⟩
  | .int i, _, x, _, _ => by
    cases x
    exact ⟨[], trivial, fun a m => absurd m (by simp)⟩
  | .str s, _, x, _, _ => by
    cases x
    exact ⟨[], trivial, fun a m => absurd m (by simp)⟩
  | .bytes b, _, x, _, _ => by
    cases x
    exact ⟨[], trivial, fun a m => absurd m (by simp)⟩
  | .list ds, _, x, p, z => by
    obtain ⟨a, vs, rfl, ho, hall⟩ := well_list x
    have z2 : WData.weightAll ds ≤ 1048576 := z
    obtain ⟨A, h1, h2⟩ := area_all ds _ hall p fun d hd => Nat.le_trans (weight_mem hd) z2
    have k : ∀ b ∈ A, b ∈ a :: A := fun b hb => List.mem_cons_of_mem _ hb
    refine ⟨a :: A, List.mem_cons_self .., fun b hb => ?_⟩
    rcases List.mem_cons.mp hb with e | m
    · rw [e]
      exact ⟨vs, line_of (by rw [wellAll_len hall]; exact Nat.le_trans (PySem.W.length_le_weightAllW ds) z2), fun u hu => (h1 u hu).mono k, .inl ho⟩
    · exact (h2 b m).mono k
  | .tuple ds, _, x, p, z => by
    obtain ⟨a, vs, rfl, ho, hall⟩ := well_tuple x
    have z2 : WData.weightAll ds ≤ 1048576 := z
    obtain ⟨A, h1, h2⟩ := area_all ds _ hall p fun d hd => Nat.le_trans (weight_mem hd) z2
    have k : ∀ b ∈ A, b ∈ a :: A := fun b hb => List.mem_cons_of_mem _ hb
    refine ⟨a :: A, List.mem_cons_self .., fun b hb => ?_⟩
    rcases List.mem_cons.mp hb with e | m
    · rw [e]
      exact ⟨vs, line_of (by rw [wellAll_len hall]; exact Nat.le_trans (PySem.W.length_le_weightAllW ds) z2), fun u hu => (h1 u hu).mono k, .inr ho⟩
    · exact (h2 b m).mono k
  | .float _, _, _, p, _ => Bool.noConfusion (show false = true from p)
  | .dict _, _, _, p, _ => Bool.noConfusion (show false = true from p)
  | .bytearray _, _, _, p, _ => Bool.noConfusion (show false = true from p)
  | .set _, _, _, p, _ => Bool.noConfusion (show false = true from p)
  | .frozenset _, _, _, p, _ => Bool.noConfusion (show false = true from p)
  | .obj _ _, _, _, p, _ => Bool.noConfusion (show false = true from p)
theorem area_all : ∀ (ds : List WData) (vs : List Value), WellAll P h vs ds → plWs ds = true → (∀ d ∈ ds, d.weight ≤ 1048576) → ∃ A : List Addr, (∀ u ∈ vs, OkU A u) ∧ ∀ a ∈ A, ArgOb h A a
  | [], _, x, _, _ => by
    cases x
    exact ⟨[], fun u m => absurd m (by simp), fun a m => absurd m (by simp)⟩
  | d :: ds, _, x, p, z => by
    obtain ⟨v, vs, rfl, x1, x2⟩ := well_cons x
    have q : plW d = true ∧ plWs ds = true := Bool.and_eq_true_iff.mp p
    obtain ⟨A, a1, a2⟩ := area_one d v x1 q.1 (z d (List.mem_cons_self ..))
    obtain ⟨B, b1, b2⟩ := area_all ds vs x2 q.2 fun e he => z e (List.mem_cons_of_mem _ he)
    have kA : ∀ b ∈ A, b ∈ A ++ B := fun b hb => List.mem_append.mpr (.inl hb)
    have kB : ∀ b ∈ B, b ∈ A ++ B := fun b hb => List.mem_append.mpr (.inr hb)
    refine ⟨A ++ B, fun u hu => ?_, fun b hb => ?_⟩
    · rcases List.mem_cons.mp hu with e | m
      · rw [e]
        exact a1.mono kA
      · exact (b1 u m).mono kB
    · rcases List.mem_append.mp hb with m | m
      · exact (a2 b m).mono kA
      · exact (b2 b m).mono kB
end
end
def hoOf (o : Obj) : Option HO := match o.data with
  | .seq vs _ => if (o.cls == Value.type "list") = true then some (.frz o (.lst (vs.toList.map toV))) else some (.frz o (.tup (vs.toList.map toV)))
  | _ => none
def argH (K : PySem.W.Frag) (h : Heap) (A : List Addr) : Hp := fun b => if b ∈ A then (if (K.lookup b).isNone = true then (h.get? b).bind hoOf else none) else none
def OnlyF (H : Hp) : Prop := ∀ b, H b = none ∨ ∃ o u, H b = some (.frz o u)
theorem hoOf_lst (vs : List Value) : hoOf { cls := .type "list", data := .seq vs.toArray } = some (.frz { cls := .type "list", data := .seq vs.toArray } (.lst (vs.map toV))) := by
  show (if (Value.type "list" == Value.type "list") = true then some (HO.frz { cls := .type "list", data := .seq vs.toArray } (.lst (vs.toArray.toList.map toV))) else some (HO.frz { cls := .type "list", data := .seq vs.toArray } (.tup (vs.toArray.toList.map toV)))) = _
  rw [if_pos (beq_self_eq_true _)]
theorem hoOf_tup (vs : List Value) : hoOf { cls := .type "tuple", data := .seq vs.toArray } = some (.frz { cls := .type "tuple", data := .seq vs.toArray } (.tup (vs.map toV))) := by
  show (if (Value.type "tuple" == Value.type "list") = true then some (HO.frz { cls := .type "tuple", data := .seq vs.toArray } (.lst (vs.toArray.toList.map toV))) else some (HO.frz { cls := .type "tuple", data := .seq vs.toArray } (.tup (vs.toArray.toList.map toV)))) = _
  rw [if_neg (by decide)]
section
variable {P : Program} {w : World} {K : PySem.W.Frag} {h : Heap} {A : List Addr}
theorem argH_at {b : Addr} {o : Obj} (hb : b ∈ A) (hk : K.lookup b = none) (e : h.get? b = some o) : argH K h A b = hoOf o := by
  unfold argH
  rw [if_pos hb, hk, if_pos (show (none : Option Obj).isNone = true from rfl), e] <;> rfl
theorem of_argH {b : Addr} {u : HO} (q : argH K h A b = some u) : b ∈ A ∧ K.lookup b = none := by
  unfold argH at q
  by_cases hb : b ∈ A
  · rw [if_pos hb] at q
    cases hk : K.lookup b with
    | none => exact ⟨hb, rfl⟩
    | some o =>
      rw [hk, if_neg (by simp)] at q
      cases q
  · rw [if_neg hb] at q
    cases q
theorem argH_is (ar : ∀ a ∈ A, ArgOb h A a) {b : Addr} {u : HO} (q : argH K h A b = some u) : K.lookup b = none ∧ ∃ vs : List Value, vs.length ≤ sizeLine ∧ (∀ u ∈ vs, OkU A u) ∧
    ((h.get? b = some { cls := .type "list", data := .seq vs.toArray } ∧ u = .frz { cls := .type "list", data := .seq vs.toArray } (.lst (vs.map toV))) ∨
     (h.get? b = some { cls := .type "tuple", data := .seq vs.toArray } ∧ u = .frz { cls := .type "tuple", data := .seq vs.toArray } (.tup (vs.map toV)))) := by
  obtain ⟨hb, hk⟩ := of_argH q
  obtain ⟨vs, h1, h2, h3⟩ := ar b hb
  refine ⟨hk, vs, h1, h2, ?_⟩
  rcases h3 with e | e
  · rw [argH_at hb hk e, hoOf_lst] at q
    exact .inl ⟨e, (Option.some.inj q).symm⟩
  · rw [argH_at hb hk e, hoOf_tup] at q
    exact .inr ⟨e, (Option.some.inj q).symm⟩
theorem argH_only (ar : ∀ a ∈ A, ArgOb h A a) : OnlyF (argH K h A) := fun b => by
  cases q : argH K h A b with
  | none => exact .inl rfl
  | some u =>
    obtain ⟨_, vs, _, _, ⟨_, e⟩ | ⟨_, e⟩⟩ := argH_is ar q
    · exact .inr ⟨_, _, by rw [e]⟩
    · exact .inr ⟨_, _, by rw [e]⟩
theorem argH_ok (ar : ∀ a ∈ A, ArgOb h A a) : HOk P w (argH K h A) h := fun b u q => by
  obtain ⟨_, vs, h1, h2, ⟨e, rfl⟩ | ⟨e, rfl⟩⟩ := argH_is ar q
  · exact ⟨e, by rw [List.length_map]; exact h1, vs, _, vals_toV h2, e⟩
  · exact ⟨e, by rw [List.length_map]; exact h1, vs, vals_toV h2, _, e, rfl, _, rfl⟩
theorem seq_inj {c c' : Value} {vs us : List Value} (e : (some { cls := c, data := .seq vs.toArray } : Option Obj) = some { cls := c', data := .seq us.toArray }) : c = c' ∧ vs = us := by
  have e1 := Option.some.inj e
  have e2 : c = c' := congrArg Obj.cls e1
  have e3 : Data.seq vs.toArray = Data.seq us.toArray := congrArg Obj.data e1
  injection e3 with e4
  refine ⟨e2, ?_⟩
  have e5 := congrArg Array.toList e4
  simpa using e5
theorem argL (KX : K.In h) (ar : ∀ a ∈ A, ArgOb h A a) {a : Addr} {vs : List Value} (ha : a ∈ A) (e : h.get? a = some { cls := .type "list", data := .seq vs.toArray }) : (∀ u ∈ vs, OkU A u) ∧ SqL K (argH K h A) a (vs.map toV) := by
  obtain ⟨us, h1, h2, h3⟩ := ar a ha
  have hu : us = vs := by
    rcases h3 with q | q
    · rw [e] at q
      exact (seq_inj q).2.symm
    · rw [e] at q
      exact absurd (Value.type.inj (seq_inj q).1) (by decide)
  subst hu
  refine ⟨h2, ?_⟩
  cases hk : K.lookup a with
  | none => exact .inl (.inr ⟨_, by rw [argH_at ha hk e, hoOf_lst]⟩)
  | some o =>
    have e2 := KX a o hk
    rw [e] at e2
    obtain rfl := Option.some.inj e2
    exact .inr ⟨_, us.toArray, _, hk, rfl, rfl, rfl, by rw [List.size_toArray]; exact h1, by simpa using vals_toV h2⟩
theorem argT (KX : K.In h) (ar : ∀ a ∈ A, ArgOb h A a) {a : Addr} {vs : List Value} (ha : a ∈ A) (e : h.get? a = some { cls := .type "tuple", data := .seq vs.toArray }) : (∀ u ∈ vs, OkU A u) ∧ SqT K (argH K h A) a (vs.map toV) := by
  obtain ⟨us, h1, h2, h3⟩ := ar a ha
  have hu : us = vs := by
    rcases h3 with q | q
    · rw [e] at q
      exact absurd (Value.type.inj (seq_inj q).1) (by decide)
    · rw [e] at q
      exact (seq_inj q).2.symm
  subst hu
  refine ⟨h2, ?_⟩
  cases hk : K.lookup a with
  | none => exact .inl (.inr ⟨_, by rw [argH_at ha hk e, hoOf_tup]⟩)
  | some o =>
    have e2 := KX a o hk
    rw [e] at e2
    obtain rfl := Option.some.inj e2
    exact .inr ⟨_, us.toArray, _, hk, rfl, rfl, by rw [List.size_toArray]; exact h1, by simpa using vals_toV h2⟩
mutual
theorem dw_one {Pm : Params} (KX : K.In h) (ar : ∀ a ∈ A, ArgOb h A a) : ∀ (d : WData) (v : Value), Well Pm h v d → plW d = true → OkU A v → Dw K (argH K h A) (toV v) d
  | .none, _, x, _, _ => by
    cases x
    exact .non
  | .bool b, _, x, _, _ => by
    cases x
    exact .bl b
  | .int i, _, x, _, _ => by
    cases x
    exact .int i
  | .str s, _, x, _, _ => by
    cases x
    exact .str s
  | .bytes b, _, x, _, _ => by
    cases x
    have z := Dw.byt (K := K) (H := argH K h A) b.toArray
    exact z
  | .list ds, _, x, p, hu => by
    obtain ⟨a, vs, rfl, ho, hall⟩ := well_list x
    obtain ⟨h2, hs⟩ := argL KX ar hu ho
    exact .lst hs (dw_all KX ar ds _ hall p h2)
  | .tuple ds, _, x, p, hu => by
    obtain ⟨a, vs, rfl, ho, hall⟩ := well_tuple x
    obtain ⟨h2, hs⟩ := argT KX ar hu ho
    exact .tup hs (dw_all KX ar ds _ hall p h2)
  | .float _, _, _, p, _ => Bool.noConfusion (show false = true from p)
  | .dict _, _, _, p, _ => Bool.noConfusion (show false = true from p)
  | .bytearray _, _, _, p, _ => Bool.noConfusion (show false = true from p)
  | .set _, _, _, p, _ => Bool.noConfusion (show false = true from p)
  | .frozenset _, _, _, p, _ => Bool.noConfusion (show false = true from p)
  | .obj _ _, _, _, p, _ => Bool.noConfusion (show false = true from p)
theorem dw_all {Pm : Params} (KX : K.In h) (ar : ∀ a ∈ A, ArgOb h A a) : ∀ (ds : List WData) (vs : List Value), WellAll Pm h vs ds → plWs ds = true → (∀ u ∈ vs, OkU A u) → DwAll K (argH K h A) (vs.map toV) ds
  | [], _, x, _, _ => by
    cases x
    exact .nil
  | d :: ds, _, x, p, hu => by
    obtain ⟨v, vs, rfl, x1, x2⟩ := well_cons x
    have q : plW d = true ∧ plWs ds = true := Bool.and_eq_true_iff.mp p
    exact .cons (dw_one KX ar d v x1 q.1 (hu _ (List.mem_cons_self ..))) (dw_all KX ar ds vs x2 q.2 fun u m => hu u (List.mem_cons_of_mem _ m))
end
end
theorem spec_call {P : Program} {w : World} {K : PySem.W.Frag} {mg mb : Str → Option Value} {CX : CXT} {k : Nat} {fa : Addr} {fd : FuncData} {ps : List Str} {sp : Sp} {s₁ : Shared} {vals : List Value} {ds : List WData} {R : PySem.W.WRecords} {cl : Str → Option Addr} {d0 : WData}
    (KX : K.In s₁.heap) (hns : s₁.heap.Ns mainGlobals mg) (hb : s₁.heap.Ns builtinsNs mb) (hbb : ∀ x : Str, x ≠ "__name__" → mb x = bootBuiltins x) (hlim : s₁.heap.NoLimit) (hg : s₁.gens = #[])
    (hwl : WellAll w.params s₁.heap vals ds) (hpl : plWs ds = true) (hwt : ∀ d ∈ ds, d.weight ≤ 1048576) (hr : Room k callerA)
    (F : ∀ base : Heap, K.In base → base.Ns mainGlobals mg → FnOk P w K mg base CX k fa fd ps sp) (hbind : ∀ (s : Shared) (us : List Value), us.length = ps.length → BindsTo s fd ⟨us, []⟩ (ps.zip us)) (hlen : ds.length = ps.length)
    (hsp : ∀ (H : Hp) (xs : List V), OnlyF H → DwAll K H xs ds → sp xs H (fun v H' => Dw K H' v d0) fun _ _ _ => False)
    (hCX : ∀ H e s', CX [] H s₁ (fun _ _ _ => False) e s' → False) :
    codeAny (model P w) callerA (.call (.ref fa) ⟨vals, []⟩) (fun r s' => ∃ u as, r = .ok (.ret u) ∧ ReadsW R cl s'.heap u d0 as ∧ OldK s₁.heap s'.heap ∧ s'.os = s₁.os ∧ AllBare s'.gens) s₁ := by
  obtain ⟨A, ho, ar⟩ := area_all ds vals hwl hpl hwt
  have hO : OnlyF (argH K s₁.heap A) := argH_only ar
  have hok : HOk P w (argH K s₁.heap A) s₁.heap := argH_ok ar
  have hS := dw_all KX ar ds vals hwl hpl ho
  have hV := vals_toV ho
  have hK : ∀ b u, argH K s₁.heap A b = some u → K.lookup b = none := fun b u q => (argH_is ar q).1
  have noA : ∀ {b : Addr} {o : Obj} {es : Array DictEntry} {ep : Nat}, s₁.heap.get? b = some o → o.data = .dict es ep → argH K s₁.heap A b = none := fun {b o es ep} e d => by
    cases q : argH K s₁.heap A b with
    | none => rfl
    | some u =>
      obtain ⟨_, vs, _, _, ⟨e2, _⟩ | ⟨e2, _⟩⟩ := argH_is ar q
      · rw [e2] at e
        cases e
        have d' : Data.seq vs.toArray _ = Data.dict es ep := d
        cases d'
      · rw [e2] at e
        cases e
        have d' : Data.seq vs.toArray _ = Data.dict es ep := d
        cases d'
  generalize argH K s₁.heap A = H at hO hok hS hK noA
  have base_of : ∀ {b : Addr} {o : Obj}, s₁.heap.get? b = some o → H b = none → (hidT s₁.heap H).get? b = some o := fun e n => hidT_get e n
  have nsK : ∀ {b : Addr} {m : Str → Option Value}, s₁.heap.Ns b m → (hidT s₁.heap H).Ns b m := fun {b m} ⟨o, es, ep, e, d, r⟩ => ⟨o, es, ep, base_of e (noA e d), d, r⟩
  have nK : ∀ b o, K.lookup b = some o → H b = none := fun b o e => by
    cases q : H b with
    | none => rfl
    | some u =>
      rw [hK b u q] at e
      cases e
  have hKb : K.In (hidT s₁.heap H) := fun b o e => base_of (KX b o e) (nK b o e)
  have hM : Mod K mg (hidT s₁.heap H) := ⟨hKb, nsK hns, ⟨mb, nsK hb, hbb⟩, let ⟨mc, h1, h2⟩ := hlim; ⟨mc, nsK h1, h2⟩⟩
  have e0 : Env0 P w K mg (hidT s₁.heap H) callerA [] s₁ H := ⟨rfl, hM, fun b o e => of_hidT e, Nat.le_of_eq (hidT_size _ _), trivial, fun b hb => absurd (show b ∈ ([] : List Addr) from hb) (by simp), hok, .of_eq hg⟩
  have hl : vals.length = ps.length := by rw [wellAll_len hwl]; exact hlen
  refine codeAny_mono ((F _ hKb (nsK hns)).run callerA [] s₁ H ⟨vals, []⟩ vals (vals.map toV) _ _ hr e0 (hbind s₁ vals hl) hV (hsp H _ hO hS)) fun r s' x => ?_
  cases r with
  | error e => exact (hCX H e s' x).elim
  | ok fl =>
    cases fl with
    | next => exact False.elim x
    | brk => exact False.elim x
    | cont => exact False.elim x
    | ret u =>
      obtain ⟨v, H', os, bare, un, hok', r', q⟩ := x
      have kept : ∀ b o, s₁.heap.get? b = some o → s'.heap.get? b = some o := fun b o e => by
        cases q2 : H b with
        | none => exact un.keep b o e q2 (by intro z; exact absurd (show b ∈ ([] : List Addr) from z) (by simp)) (by simp)
        | some u2 =>
          rcases hO b with z | ⟨ob, u3, z⟩
          · rw [q2] at z
            cases z
          · have z2 := un.frzs b ob _ z
            obtain ⟨e1, _⟩ := hok b _ z
            obtain ⟨e2, _⟩ := hok' b _ z2
            rw [e] at e1
            cases e1
            exact e2
      have KX' : K.In s'.heap := fun b o e => kept b o (KX b o e)
      obtain ⟨as, hrd⟩ := Dw.reads (R := R) (cl := cl) hok' KX' d0 v u q r'
      exact ⟨u, as, rfl, hrd, OldK.of_keep kept, os, bare⟩
theorem layable_weight {ds : List WData} (h : WData.layableAll ds = true) : ∀ d ∈ ds, d.weight ≤ 1048576 := fun d hd =>
  (PySem.W.layableW_iff.mp (List.all_eq_true.mp h d hd)).2.2
theorem encAll_len : ∀ (cs : List Codec) (a : Codec.denoteAll cs), (Codec.encAll cs a).length = cs.length
  | [], _ => rfl
  | c :: cs, a => by
    show (Codec.encAll cs a.2).length + 1 = cs.length + 1
    rw [encAll_len cs a.2]
theorem walk_spec {r : OpenSpec} {k : Nat} {q : Program} {loose : List Str} {XP : (Str → Option Value) → Heap → Prop} {YP : World → Heap → Prop} {d : DefRec} {K : Params → PySem.W.Frag} {CX : World → CXT} {ps : List Str} {sp : World → Sp}
    (hwell : r.wellSaid = true) (hdf : d.params.defaults = []) (hlen : r.args.length = ps.length) (hr : Room k callerA)
    (hY : ∀ (w : World) (h : Heap), YP w h → (K w.params).In h)
    (F : ∀ (w : World) (mg : Str → Option Value) (fa : Addr) (h : Heap), YP w h → (K w.params).In h → h.Ns mainGlobals mg → mg d.name = some (.ref fa) →
      ∃ fd : FuncData, (∀ (s : Shared) (us : List Value), us.length = ps.length → BindsTo s fd ⟨us, []⟩ (ps.zip us)) ∧
        ∀ base : Heap, (K w.params).In base → base.Ns mainGlobals mg → FnOk r.prog w (K w.params) mg base (CX w) k fa fd ps (sp w))
    (hsp : ∀ (w : World) (H : Hp) (xs : List V) (a : Codec.denoteAll r.args), OnlyF H → Codec.withinAll r.args a = true → Codec.app r.args r.asked a = true → DwAll (K w.params) H xs (Codec.encAll r.args a) →
      sp w xs H (fun v H' => Dw (K w.params) H' v (r.ret.enc (Codec.app r.args r.f a))) fun _ _ _ => False)
    (hCX : ∀ (w : World) (H : Hp) (s : Shared) (e : Value) (s' : Shared), CX w [] H s (fun _ _ _ => False) e s' → False) :
    PySem.W.WalkOS q loose XP YP r d [] (fun f vs => PySem.call f vs) := by
  intro w s_0 s₁ mg mb G Y fa o pm cd doc dV kV ho hd hcd hD hmg hg args vals as hpre hlay hrd hwl hlo
  obtain ⟨a, e1, e2⟩ := PySem.W.os_pre_some hpre
  obtain ⟨e3, hwi⟩ := Codec.encAll_of_decAll r.args args a e1
  subst e3
  have KX := hY w _ Y
  obtain ⟨fd, hb, hF⟩ := F w mg fa _ Y KX G.T.g hmg
  refine PySem.W.enter_call (codeAny_mono (spec_call (R := []) (cl := classAt s_0.heap) (d0 := r.ret.enc (Codec.app r.args r.f a)) KX G.T.g G.T.b G.T.builtins G.T.nolimit hg hwl (pl_encAll _ _) (layable_weight hlay) hr hF hb (by rw [encAll_len]; exact hlen)
    (fun H xs hO hS => hsp w H xs a hO hwi e2 hS) fun H e s' => hCX w H s₁ e s') fun r' s' hq => ?_)
  obtain ⟨u, as', rfl, h1, h2, h3, h4⟩ := hq
  exact ⟨.inl ⟨u, _, as', rfl, fun _ => rfl, h1, (OpenSpec.post_iff hwell hwi _ _).mpr rfl, fun z => Bool.noConfusion (show false = true from z)⟩, h2, h3, h4⟩
theorem walk_specK {r : OpenSpec} {k : Nat} {q : Program} {loose : List Str} {XP : (Str → Option Value) → Heap → Prop} {YP : World → Heap → Prop} {d : DefRec} {K : Params → PySem.W.Frag} {CX : CXT} {ps : List Str} {sp : PySem.W.Frag → Sp}
    (hwell : r.wellSaid = true) (hdf : d.params.defaults = []) (hlen : r.args.length = ps.length) (hr : Room k callerA)
    (hY : ∀ (w : World) (h : Heap), YP w h → (K w.params).In h)
    (F : ∀ (w : World) (mg : Str → Option Value) (fa : Addr) (h : Heap), YP w h → (K w.params).In h → h.Ns mainGlobals mg → mg d.name = some (.ref fa) →
      ∃ fd : FuncData, (∀ (s : Shared) (us : List Value), us.length = ps.length → BindsTo s fd ⟨us, []⟩ (ps.zip us)) ∧
        ∀ base : Heap, (K w.params).In base → base.Ns mainGlobals mg → FnOk r.prog w (K w.params) mg base CX k fa fd ps (sp (K w.params)))
    (hsp : ∀ (K : PySem.W.Frag) (H : Hp) (xs : List V) (a : Codec.denoteAll r.args), OnlyF H → Codec.withinAll r.args a = true → Codec.app r.args r.asked a = true → DwAll K H xs (Codec.encAll r.args a) →
      sp K xs H (fun v H' => Dw K H' v (r.ret.enc (Codec.app r.args r.f a))) fun _ _ _ => False)
    (hCX : ∀ (H : Hp) (s : Shared) (e : Value) (s' : Shared), CX [] H s (fun _ _ _ => False) e s' → False) :
    PySem.W.WalkOS q loose XP YP r d [] (fun f vs => PySem.call f vs) :=
  walk_spec (K := K) (CX := fun _ => CX) (sp := fun w => sp (K w.params)) hwell hdf hlen hr hY F (fun w H xs a h1 h2 h3 h4 => hsp (K w.params) H xs a h1 h2 h3 h4) fun _ H s e s' => hCX H s e s'
end L2
end
set_option Elab.async false
namespace Bm
def at0 (ns : List Int) (i : Nat) : Int := ns.getD i 0
def stepB (s n k : Int) : Bool := if n = 0 then (decide (s = 0) && decide (k = 0)) else (decide (s ≤ 31) && (decide (n ≤ 15) && decide (k ≤ 15)))
def stepAt (ns : List Int) (j : Nat) : Bool := stepB (at0 ns (3 + 3 * j)) (at0 ns (3 + 3 * j + 1)) (at0 ns (3 + 3 * j + 2))
def stepsB (ns : List Int) : Bool := (List.range ((ns.length - 3) / 3)).all (stepAt ns)
def headB (ns : List Int) : Bool := decide (at0 ns 0 ≤ 1) && (decide (at0 ns 1 ≤ 19) && decide (at0 ns 2 ≤ 19))
def lenB (n : Nat) : Bool := (decide (3 ≤ n) && decide (n ≤ 33)) && decide (n % 3 = 0)
def rowB (ns : List Int) : Bool := lenB ns.length && (headB ns && stepsB ns)
theorem range_all {n : Nat} {p : Nat → Bool} : (List.range n).all p = true ↔ ∀ j, j < n → p j = true := by
  rw [List.all_eq_true]
  exact ⟨fun h j hj => h j (List.mem_range.mpr hj), fun h j hj => h j (List.mem_range.mp hj)⟩
theorem stepsB_true {ns : List Int} (h : ∀ j, j < (ns.length - 3) / 3 → stepAt ns j = true) : stepsB ns = true := range_all.mpr h
theorem stepsB_false {ns : List Int} {j : Nat} (hj : j < (ns.length - 3) / 3) (h : stepAt ns j = false) : stepsB ns = false := by
  cases e : stepsB ns with
  | false => rfl
  | true =>
    have q := range_all.mp e j hj
    rw [h] at q
    cases q
theorem nats_getD (ns : List Int) (i : Nat) : (BkNeutral.nats ns).getD i 0 = (at0 ns i).toNat := by
  unfold BkNeutral.nats at0
  rw [List.getD_eq_getElem?_getD, List.getD_eq_getElem?_getD, List.getElem?_map]
  cases ns[i]? <;> rfl
theorem nats_len (ns : List Int) : (BkNeutral.nats ns).length = ns.length := by
  unfold BkNeutral.nats
  rw [List.length_map]
theorem at0_nn {ns : List Int} (h : ∀ x ∈ ns, 0 ≤ x) (i : Nat) : 0 ≤ at0 ns i := by
  unfold at0
  rw [List.getD_eq_getElem?_getD]
  cases e : ns[i]? with
  | none => exact Int.le_refl 0
  | some x => exact h x (List.mem_of_getElem? e)
theorem by_take {k : Nat} (hk : 0 < k) : ∀ (n : Nat) (l : List Nat), l.length < n → l.length % k = 0 →
    Na.by_ k n l = (List.range (l.length / k)).map fun j => (l.drop (k * j)).take k
  | 0, l, h, _ => by omega
  | n + 1, l, h, h0 => by
    unfold Na.by_
    by_cases e : l = []
    · subst e
      simp
    · rw [if_neg e]
      have hp : 0 < l.length := List.length_pos_iff.mpr e
      have hkl : k ≤ l.length := by
        rcases Nat.lt_or_ge l.length k with q | q
        · rw [Nat.mod_eq_of_lt q] at h0; omega
        · exact q
      have hd : (l.drop k).length = l.length - k := List.length_drop ..
      have hm : (l.drop k).length % k = 0 := by
        rw [hd]
        have := Nat.sub_mul_mod (x := l.length) (k := 1) (n := k) (by omega)
        rw [Nat.mul_one] at this
        omega
      rw [by_take hk n (l.drop k) (by omega) hm, hd]
      have hq : l.length / k = (l.length - k) / k + 1 := by
        rw [Nat.div_eq_sub_div hk hkl]
      rw [hq, List.range_succ_eq_map, List.map_cons, List.map_map]
      congr 1
      refine List.map_congr_left fun j _ => ?_
      show ((l.drop k).drop (k * j)).take k = (l.drop (k * (j + 1))).take k
      rw [List.drop_drop, Nat.mul_add, Nat.mul_one, Nat.add_comm]
theorem groups_eq {k : Nat} (hk : 0 < k) {l : List Nat} (h0 : l.length % k = 0) : Na.groups k l = (List.range (l.length / k)).map fun j => (l.drop (k * j)).take k :=
  by_take hk _ l (Nat.lt_succ_self _) h0
theorem getD_take_drop {l : List Nat} {a k i : Nat} (h : i < k) : ((l.drop a).take k).getD i 0 = l.getD (a + i) 0 := by
  rw [List.getD_eq_getElem?_getD, List.getD_eq_getElem?_getD, List.getElem?_take_of_lt h, List.getElem?_drop]
theorem getD_drop {l : List Nat} {a i : Nat} : (l.drop a).getD i 0 = l.getD (a + i) 0 := by
  rw [List.getD_eq_getElem?_getD, List.getD_eq_getElem?_getD, List.getElem?_drop]
theorem move_eq {s n k : Int} (hs : 0 ≤ s) (hn : 0 ≤ n) (hk : 0 ≤ k) {l : List Nat} (e0 : l.getD 0 0 = s.toNat) (e1 : l.getD 1 0 = n.toNat) (e2 : l.getD 2 0 = k.toNat) : Na.moveGood l = stepB s n k := by
  unfold Na.moveGood stepB
  rw [e0, e1, e2]
  by_cases h : n = 0
  · rw [if_pos (by omega), if_pos h]
    have a1 : (s.toNat == 0) = decide (s = 0) := by rw [Bool.beq_eq_decide_eq]; exact decide_eq_decide.mpr (by omega)
    have a2 : (k.toNat == 0) = decide (k = 0) := by rw [Bool.beq_eq_decide_eq]; exact decide_eq_decide.mpr (by omega)
    rw [a1, a2]
  · rw [if_neg (by omega), if_neg h]
    have a1 : decide (s.toNat < Na.STROKES) = decide (s ≤ 31) := decide_eq_decide.mpr (by unfold Na.STROKES; omega)
    have a2 : decide (n.toNat ≤ 15) = decide (n ≤ 15) := decide_eq_decide.mpr (by omega)
    have a3 : decide (k.toNat ≤ 15) = decide (k ≤ 15) := decide_eq_decide.mpr (by omega)
    rw [a1, a2, a3]
theorem steps_eq {ns : List Int} (h : ∀ x ∈ ns, 0 ≤ x) (h3 : 3 ≤ ns.length) (hm : ns.length % 3 = 0) : (Na.groups 3 ((BkNeutral.nats ns).drop 3)).all Na.moveGood = stepsB ns := by
  have hl : ((BkNeutral.nats ns).drop 3).length = ns.length - 3 := by rw [List.length_drop, nats_len]
  rw [groups_eq (by decide) (by rw [hl]; omega), hl, List.all_map]
  unfold stepsB
  congr 1
  funext j
  show Na.moveGood _ = stepAt ns j
  unfold stepAt
  refine move_eq (at0_nn h _) (at0_nn h _) (at0_nn h _) ?_ ?_ ?_
  · rw [getD_take_drop (by decide), getD_drop, nats_getD]
    congr 2
  · rw [getD_take_drop (by decide), getD_drop, nats_getD]
    congr 2
  · rw [getD_take_drop (by decide), getD_drop, nats_getD]
    congr 2
theorem row_eq {ns : List Int} (h : ∀ x ∈ ns, 0 ≤ x) : Na.rowGood (BkNeutral.nats ns) = rowB ns := by
  unfold Na.rowGood rowB lenB headB
  have n0 := at0_nn h 0
  have n1 := at0_nn h 1
  have n2 := at0_nn h 2
  rw [nats_len, nats_getD, nats_getD, nats_getD]
  have b0 : decide ((at0 ns 0).toNat ≤ 1) = decide (at0 ns 0 ≤ 1) := decide_eq_decide.mpr (by omega)
  have b1 : decide ((at0 ns 1).toNat < Na.DIGITS) = decide (at0 ns 1 ≤ 19) := decide_eq_decide.mpr (by unfold Na.DIGITS; omega)
  have b2 : decide ((at0 ns 2).toNat < Na.DIGITS) = decide (at0 ns 2 ≤ 19) := decide_eq_decide.mpr (by unfold Na.DIGITS; omega)
  have b3 : (ns.length % 3 == 0) = decide (ns.length % 3 = 0) := Bool.beq_eq_decide_eq _ _
  have b4 : decide (ns.length ≤ 3 + 3 * Na.MOVES) = decide (ns.length ≤ 33) := decide_eq_decide.mpr (by unfold Na.MOVES; omega)
  rw [b0, b1, b2, b3, b4]
  by_cases c1 : 3 ≤ ns.length
  · by_cases c2 : ns.length % 3 = 0
    · rw [steps_eq h c1 c2]
      simp only [c1, c2, decide_true, Bool.true_and, Bool.and_true, Bool.and_assoc]
    · simp [c2]
  · simp [c1]
def keyOf (ns : List Int) : List Int := [at0 ns 0, at0 ns 1, at0 ns 2]
def bad : Nat → List (List Int) → List (List Int) → Option Nat
  | _, _, [] => none
  | i, ks, ns :: r => if rowB ns = false ∨ keyOf ns ∈ ks then some i else bad (i + 1) (ks ++ [keyOf ns]) r
def told (o : Option Nat) : List Int := match o with
  | none => [0]
  | some i => [-5, 9, (i : Int)]
theorem any_key {ns : List Int} (h : ∀ x ∈ ns, 0 ≤ x) : ∀ {b : Na.Book} {ks : List (List Int)}, b.map (fun r => [(r.op : Int), (r.d : Int), (r.x : Int)]) = ks →
    (b.any (fun (x : Na.Rule) => x.op == (Na.rowRule (BkNeutral.nats ns)).op && (x.d == (Na.rowRule (BkNeutral.nats ns)).d && x.x == (Na.rowRule (BkNeutral.nats ns)).x)) = true ↔ keyOf ns ∈ ks) := by
  intro b ks e
  subst e
  have n0 := at0_nn h 0
  have n1 := at0_nn h 1
  have n2 := at0_nn h 2
  have o0 : (Na.rowRule (BkNeutral.nats ns)).op = (at0 ns 0).toNat := nats_getD ns 0
  have o1 : (Na.rowRule (BkNeutral.nats ns)).d = (at0 ns 1).toNat := nats_getD ns 1
  have o2 : (Na.rowRule (BkNeutral.nats ns)).x = (at0 ns 2).toNat := nats_getD ns 2
  rw [List.any_eq_true, List.mem_map, o0, o1, o2]
  constructor
  · rintro ⟨r, hr, q⟩
    rw [Bool.and_eq_true, Bool.and_eq_true] at q
    obtain ⟨q0, q1, q2⟩ := q
    have q0 := eq_of_beq q0
    have q1 := eq_of_beq q1
    have q2 := eq_of_beq q2
    refine ⟨r, hr, ?_⟩
    unfold keyOf
    rw [q0, q1, q2, Int.toNat_of_nonneg n0, Int.toNat_of_nonneg n1, Int.toNat_of_nonneg n2]
  · rintro ⟨r, hr, q⟩
    unfold keyOf at q
    injection q with q0 q
    injection q with q1 q
    injection q with q2 q
    refine ⟨r, hr, ?_⟩
    rw [← q0, ← q1, ← q2, Int.toNat_natCast, Int.toNat_natCast, Int.toNat_natCast]
    simp
theorem from_eq : ∀ (l : List (List Int)) (i : Nat) (b : Na.Book) (ks : List (List Int)), (∀ ns ∈ l, ∀ x ∈ ns, 0 ≤ x) → b.map (fun r => [(r.op : Int), (r.d : Int), (r.x : Int)]) = ks →
    (match Na.bookFrom i b (BkNeutral.rows l) with | .error e => [-5, (e.rule : Int), (e.place : Int)] | .ok _ => [0]) = told (bad i ks l)
  | [], i, b, ks, _, _ => rfl
  | ns :: r, i, b, ks, h, e => by
    have hn := h ns (List.mem_cons_self ..)
    show (match Na.bookFrom i b (BkNeutral.nats ns :: BkNeutral.rows r) with | .error e => [-5, (e.rule : Int), (e.place : Int)] | .ok _ => [0]) = told (bad i ks (ns :: r))
    unfold Na.bookFrom bad
    have c : (Na.rowGood (BkNeutral.nats ns) = false ∨ b.any (fun (x : Na.Rule) => x.op == (Na.rowRule (BkNeutral.nats ns)).op && (x.d == (Na.rowRule (BkNeutral.nats ns)).d && x.x == (Na.rowRule (BkNeutral.nats ns)).x)) = true) ↔ (rowB ns = false ∨ keyOf ns ∈ ks) := by
      rw [row_eq hn, any_key hn e]
    by_cases q : rowB ns = false ∨ keyOf ns ∈ ks
    · rw [if_pos (c.mpr q), if_pos q]
      rfl
    · rw [if_neg (fun z => q (c.mp z)), if_neg q]
      refine from_eq r (i + 1) _ _ (fun m hm => h m (List.mem_cons_of_mem _ hm)) ?_
      rw [List.map_append, e]
      congr 1
      show [[((Na.rowRule (BkNeutral.nats ns)).op : Int), _, _]] = [keyOf ns]
      have n0 := at0_nn hn 0
      have n1 := at0_nn hn 1
      have n2 := at0_nn hn 2
      have o0 : (Na.rowRule (BkNeutral.nats ns)).op = (at0 ns 0).toNat := nats_getD ns 0
      have o1 : (Na.rowRule (BkNeutral.nats ns)).d = (at0 ns 1).toNat := nats_getD ns 1
      have o2 : (Na.rowRule (BkNeutral.nats ns)).x = (at0 ns 2).toNat := nats_getD ns 2
      rw [o0, o1, o2, Int.toNat_of_nonneg n0, Int.toNat_of_nonneg n1, Int.toNat_of_nonneg n2]
      rfl
theorem bad_drop {l : List (List Int)} {i : Nat} {ns : List Int} {ks : List (List Int)} (h : l[i]? = some ns) : bad i ks (l.drop i) = if rowB ns = false ∨ keyOf ns ∈ ks then some i else bad (i + 1) (ks ++ [keyOf ns]) (l.drop (i + 1)) := by
  obtain ⟨hi, e⟩ := List.getElem?_eq_some_iff.mp h
  rw [List.drop_eq_getElem_cons hi, e]
  rfl
end Bm
set_option Elab.async false
namespace Sm
open Na
def Fits : List Deck → Push → Prop
  | [], [] => True
  | d :: ds, k :: p => k ≤ d.beads ∧ Fits ds p
  | _, _ => False
theorem mem_pushes : ∀ {ds : List Deck} {p : Push}, p ∈ pushes ds ↔ Fits ds p
  | [], [] => by simp [pushes, Fits]
  | [], k :: p => by simp [pushes, Fits]
  | d :: ds, [] => by simp [pushes, Fits]
  | d :: ds, k :: p => by
    simp only [pushes, Fits, List.mem_flatMap, List.mem_range, List.mem_map]
    constructor
    · rintro ⟨a, ha, q, hq, e⟩
      cases e
      exact ⟨by omega, mem_pushes.mp hq⟩
    · rintro ⟨h1, h2⟩
      exact ⟨k, by omega, p, mem_pushes.mpr h2, rfl⟩
theorem Fits.len : ∀ {ds : List Deck} {p : Push}, Fits ds p → p.length = ds.length
  | [], [], _ => rfl
  | d :: ds, k :: p, h => by rw [List.length_cons, List.length_cons, Fits.len h.2]
  | [], _ :: _, h => h.elim
  | _ :: _, [], h => h.elim
theorem Fits.at_ : ∀ {ds : List Deck} {p : Push} {i : Nat} {d : Deck} {k : Nat}, Fits ds p → ds[i]? = some d → p[i]? = some k → k ≤ d.beads
  | [], [], i, d, k, _, e, _ => by simp at e
  | d' :: ds, k' :: p, 0, d, k, h, e1, e2 => by
    have e1 : d' = d := Option.some.inj e1
    have e2 : k' = k := Option.some.inj e2
    rw [← e1, ← e2]
    exact h.1
  | d' :: ds, k' :: p, i + 1, d, k, h, e1, e2 => Fits.at_ (i := i) h.2 e1 e2
  | [], _ :: _, _, _, _, h, _, _ => h.elim
  | _ :: _, [], _, _, _, h, _, _ => h.elim
theorem Fits.set : ∀ {ds : List Deck} {p : Push} {i : Nat} {d : Deck} {k : Nat}, Fits ds p → ds[i]? = some d → k ≤ d.beads → Fits ds (p.set i k)
  | [], [], i, d, k, h, _, _ => h
  | d' :: ds, k' :: p, 0, d, k, h, e1, hk => by
    have e1 : d' = d := Option.some.inj e1
    subst e1
    exact ⟨hk, h.2⟩
  | d' :: ds, k' :: p, i + 1, d, k, h, e1, hk => ⟨h.1, Fits.set (i := i) h.2 e1 hk⟩
  | [], _ :: _, _, _, _, h, _, _ => h.elim
  | _ :: _, [], _, _, _, h, _, _ => h.elim
theorem pushed_fits {ds : List Deck} {p q : Push} {x : Reach} {n : Nat} (h : Fits ds p) (e : pushed ds p x n = some q) : Fits ds q := by
  unfold pushed at e
  by_cases c : n < 1 ∨ x.most < n
  · rw [if_pos c] at e
    cases e
  · rw [if_neg c] at e
    cases ed : ds[x.deck]? with
    | none =>
      rw [ed] at e
      cases e
    | some d =>
      cases ep : p[x.deck]? with
      | none =>
        rw [ed, ep] at e
        cases e
      | some a =>
        rw [ed, ep] at e
        have ha := h.at_ ed ep
        dsimp only at e
        by_cases t : x.to_ = true
        · rw [if_pos t] at e
          by_cases z : a + n ≤ d.beads
          · rw [if_pos z] at e
            rw [← Option.some.inj e]
            exact h.set ed z
          · rw [if_neg z] at e
            cases e
        · rw [if_neg t] at e
          by_cases z : n ≤ a
          · rw [if_pos z] at e
            rw [← Option.some.inj e]
            exact h.set ed (by omega)
          · rw [if_neg z] at e
            cases e
theorem stroke_fits {ds : List Deck} {p q : Push} {s : Stroke} {n k : Nat} (h : Fits ds p) (e : strokeOn ds s n k p = some q) : Fits ds q := by
  unfold strokeOn at e
  cases e1 : pushed ds p s.first n with
  | none =>
    rw [e1] at e
    cases e
  | some q1 =>
    rw [e1] at e
    have h1 := pushed_fits h e1
    have e : (match s.second with | none => if k = 0 then some q1 else none | some y => pushed ds q1 y k) = some q := e
    cases s2 : s.second with
    | none =>
      rw [s2] at e
      dsimp only at e
      by_cases z : k = 0
      · rw [if_pos z] at e
        rw [← Option.some.inj e]
        exact h1
      · rw [if_neg z] at e
        cases e
    | some y =>
      rw [s2] at e
      exact pushed_fits h1 e
theorem below_irr : ∀ l : List Nat, below l l = false
  | [] => rfl
  | x :: l => by
    show (decide (x < x) || (x == x && below l l)) = false
    rw [below_irr l]
    simp
theorem below_trans : ∀ {a b c : List Nat}, below a b = true → below b c = true → below a c = true
  | [], _, _, h, _ => by simp [below] at h
  | _ :: _, [], _, h, _ => by simp [below] at h
  | _ :: _, _ :: _, [], _, h => by simp [below] at h
  | x :: a, y :: b, z :: c, h1, h2 => by
    simp only [below, Bool.or_eq_true, Bool.and_eq_true, decide_eq_true_eq, beq_iff_eq] at h1 h2 ⊢
    rcases h1 with h1 | ⟨rfl, h1⟩
    · rcases h2 with h2 | ⟨rfl, h2⟩
      · exact .inl (by omega)
      · exact .inl h1
    · rcases h2 with h2 | ⟨rfl, h2⟩
      · exact .inl h2
      · exact .inr ⟨rfl, below_trans h1 h2⟩
theorem below_tot : ∀ {a b : List Nat}, a.length = b.length → a ≠ b → below a b = true ∨ below b a = true
  | [], [], _, h => absurd rfl h
  | [], _ :: _, h, _ => by simp at h
  | _ :: _, [], h, _ => by simp at h
  | x :: a, y :: b, hl, h => by
    simp only [below, Bool.or_eq_true, Bool.and_eq_true, decide_eq_true_eq, beq_iff_eq]
    rcases Nat.lt_trichotomy x y with c | c | c
    · exact .inl (.inl c)
    · subst c
      have h' : a ≠ b := fun z => h (by rw [z])
      rcases below_tot (by simpa using hl) h' with q | q
      · exact .inl (.inr ⟨rfl, q⟩)
      · exact .inr (.inr ⟨rfl, q⟩)
    · exact .inr (.inl c)
theorem nicer_iff {p q : Push} : nicer p q = true ↔ total p < total q ∨ (total p = total q ∧ below q p = true) := by
  unfold nicer
  simp only [Bool.or_eq_true, Bool.and_eq_true, decide_eq_true_eq, beq_iff_eq]
theorem nicer_irr (p : Push) : nicer p p = false := by
  unfold nicer
  rw [below_irr p]
  simp
theorem nicer_trans {a b c : Push} (h1 : nicer a b = true) (h2 : nicer b c = true) : nicer a c = true := by
  rw [nicer_iff] at h1 h2 ⊢
  rcases h1 with h1 | ⟨e1, h1⟩
  · rcases h2 with h2 | ⟨e2, h2⟩
    · exact .inl (by omega)
    · exact .inl (by omega)
  · rcases h2 with h2 | ⟨e2, h2⟩
    · exact .inl (by omega)
    · exact .inr ⟨e1.trans e2, below_trans h2 h1⟩
theorem nicer_tot {a b : Push} (hl : a.length = b.length) (h : a ≠ b) : nicer a b = true ∨ nicer b a = true := by
  rw [nicer_iff, nicer_iff]
  rcases Nat.lt_trichotomy (total a) (total b) with c | c | c
  · exact .inl (.inl c)
  · rcases below_tot hl h with q | q
    · exact .inr (.inr ⟨c.symm, q⟩)
    · exact .inl (.inr ⟨c, q⟩)
  · exact .inr (.inl c)
theorem nicest_from : ∀ (l : List Push) (q : Push), (∀ x ∈ l, x.length = q.length) → ∃ p, l.foldl (fun (a : Option Push) (p : Push) => match a with
    | none => some p
    | some q => if nicer p q = true then some p else some q) (some q) = some p ∧ (p = q ∨ p ∈ l) ∧ nicer q p = false ∧ ∀ x ∈ l, nicer x p = false
  | [], q, _ => ⟨q, rfl, .inl rfl, nicer_irr q, fun x h => by simp at h⟩
  | y :: l, q, hl => by
    have hy := hl y (List.mem_cons_self ..)
    rw [List.foldl_cons]
    dsimp only
    by_cases c : nicer y q = true
    · rw [if_pos c]
      obtain ⟨p, e, hp, h1, h2⟩ := nicest_from l y fun x hx => (hl x (List.mem_cons_of_mem _ hx)).trans hy.symm
      refine ⟨p, e, ?_, ?_, fun x hx => ?_⟩
      · rcases hp with hp | hp
        · exact .inr (by rw [hp]; exact List.mem_cons_self ..)
        · exact .inr (List.mem_cons_of_mem _ hp)
      · refine Bool.eq_false_iff.mpr fun z => ?_
        rw [nicer_trans c z] at h1
        cases h1
      · rcases List.mem_cons.mp hx with hx | hx
        · rw [hx]
          exact h1
        · exact h2 x hx
    · rw [if_neg c]
      obtain ⟨p, e, hp, h1, h2⟩ := nicest_from l q fun x hx => hl x (List.mem_cons_of_mem _ hx)
      refine ⟨p, e, ?_, h1, fun x hx => ?_⟩
      · rcases hp with hp | hp
        · exact .inl hp
        · exact .inr (List.mem_cons_of_mem _ hp)
      · rcases List.mem_cons.mp hx with hx | hx
        · rw [hx]
          refine Bool.eq_false_iff.mpr fun z => ?_
          by_cases e : y = q
          · rw [e, h1] at z
            cases z
          · rcases nicer_tot hy e with k | k
            · exact c k
            · rw [nicer_trans k z] at h1
              cases h1
        · exact h2 x hx
theorem nicest_some {l : List Push} {n : Nat} (hl : ∀ x ∈ l, x.length = n) (hn : l ≠ []) : ∃ p, nicest l = some p ∧ p ∈ l ∧ ∀ x ∈ l, nicer x p = false := by
  cases l with
  | nil => exact absurd rfl hn
  | cons q l =>
    obtain ⟨p, e, hp, h1, h2⟩ := nicest_from l q fun x hx => (hl x (List.mem_cons_of_mem _ hx)).trans (hl q (List.mem_cons_self ..)).symm
    refine ⟨p, e, List.mem_cons.mpr hp, fun x hx => ?_⟩
    rcases List.mem_cons.mp hx with hx | hx
    · rw [hx]
      exact h1
    · exact h2 x hx
theorem nicest_is {l : List Push} {n : Nat} {p : Push} (hl : ∀ x ∈ l, x.length = n) (hp : p ∈ l) (h : ∀ x ∈ l, nicer x p = false) : nicest l = some p := by
  obtain ⟨q, e, hq, h2⟩ := nicest_some hl (List.ne_nil_of_mem hp)
  rw [e]
  congr 1
  refine Classical.byContradiction fun c => ?_
  rcases nicer_tot ((hl q hq).trans (hl p hp).symm) c with k | k
  · rw [h q hq] at k
    cases k
  · rw [h2 p hp] at k
    cases k
theorem form_is {r : Rod} {d : Nat} (h : ∃ p, Fits r.decks p ∧ worthOf r.decks p = d) : Fits r.decks (formOf r d) ∧ worthOf r.decks (formOf r d) = d ∧ ∀ x, Fits r.decks x → worthOf r.decks x = d → nicer x (formOf r d) = false := by
  obtain ⟨p, h1, h2⟩ := h
  have hm : p ∈ (pushes r.decks).filter fun (p : Push) => worthOf r.decks p == d := List.mem_filter.mpr ⟨mem_pushes.mpr h1, by simpa using h2⟩
  obtain ⟨q, e, hq, hn⟩ := nicest_some (n := r.decks.length) (fun x hx => (mem_pushes.mp (List.mem_filter.mp hx).1).len) (List.ne_nil_of_mem hm)
  have ef : formOf r d = q := by
    unfold formOf
    rw [e]
    rfl
  obtain ⟨q1, q2⟩ := List.mem_filter.mp hq
  rw [ef]
  exact ⟨mem_pushes.mp q1, by simpa using q2, fun x hx hw => hn x (List.mem_filter.mpr ⟨mem_pushes.mpr hx, by simpa using hw⟩)⟩
theorem whole_iff {r : Rod} : r.whole = true ↔ ∀ d, d < r.ratio → ∃ p, Fits r.decks p ∧ worthOf r.decks p = d := by
  unfold Rod.whole
  rw [List.all_eq_true]
  constructor
  · intro h d hd
    obtain ⟨p, hp, e⟩ := List.any_eq_true.mp (h d (List.mem_range.mpr hd))
    exact ⟨p, mem_pushes.mp hp, by simpa using e⟩
  · intro h d hd
    obtain ⟨p, hp, e⟩ := h d (List.mem_range.mp hd)
    exact List.any_eq_true.mpr ⟨p, mem_pushes.mpr hp, by simpa using e⟩
def weight : List Todo → Nat
  | [] => 0
  | .digit _ _ :: r => 2 + weight r
  | .moves _ _ :: r => 1 + weight r
def mu (u : Under) (l : List Todo) : Nat := 3 * (STEPS - u.steps) + weight l
section
variable {m : Make} {h : Hand} {b : Book} {op : Nat} {u : Under} {i d : Nat} {ms : List Move} {r : List Todo} {s n k : Nat}
theorem on_digit : onward m h b op u (.digit i d :: r) = if m.length ≤ i then .error .over else match shownAt m u.s i with
    | none => .error .wrong
    | some x => .ok (u, .moves i (ruleOf b op d x) :: r) := rfl
theorem on_nil : onward m h b op u (.moves i [] :: r) = .ok (u, r) := rfl
theorem on_carry : onward m h b op u (.moves i (.carry :: ms) :: r) = if STEPS ≤ u.steps then .error .long else .ok ({ u with steps := u.steps + 1 }, .digit (i + 1) 1 :: .moves i ms :: r) := rfl
theorem on_act : onward m h b op u (.moves i (.act s n k :: ms) :: r) = if STEPS ≤ u.steps then .error .long else match acted m h u.s ⟨i, s, n, k⟩ with
    | none => .error .wrong
    | some t => .ok (⟨t, ⟨i, s, n, k⟩ :: u.acts, u.steps + 1⟩, .moves i ms :: r) := rfl
end
theorem onward_less {m : Make} {h : Hand} {b : Book} {op : Nat} {u v : Under} {x : Todo} {l r : List Todo} (hu : u.steps ≤ STEPS) (e : onward m h b op u (x :: l) = .ok (v, r)) : mu v r < mu u (x :: l) ∧ v.steps ≤ STEPS := by
  unfold mu
  cases x with
  | digit i d =>
    rw [on_digit] at e
    by_cases c : m.length ≤ i
    · rw [if_pos c] at e
      cases e
    · rw [if_neg c] at e
      cases es : shownAt m u.s i with
      | none =>
        rw [es] at e
        cases e
      | some x =>
        rw [es] at e
        cases e
        exact ⟨by simp only [weight]; omega, hu⟩
  | moves i ms =>
    cases ms with
    | nil =>
      rw [on_nil] at e
      cases e
      exact ⟨by simp only [weight]; omega, hu⟩
    | cons mv ms =>
      cases mv with
      | carry =>
        rw [on_carry] at e
        by_cases c : STEPS ≤ u.steps
        · rw [if_pos c] at e
          cases e
        · rw [if_neg c] at e
          cases e
          exact ⟨by simp only [weight]; omega, by dsimp only; omega⟩
      | act s n k =>
        rw [on_act] at e
        by_cases c : STEPS ≤ u.steps
        · rw [if_pos c] at e
          cases e
        · rw [if_neg c] at e
          cases ea : acted m h u.s ⟨i, s, n, k⟩ with
          | none =>
            rw [ea] at e
            cases e
          | some t =>
            rw [ea] at e
            cases e
            exact ⟨by simp only [weight]; omega, by dsimp only; omega⟩
theorem carried_fuel {m : Make} {h : Hand} {b : Book} {op : Nat} : ∀ (f g : Nat) (u : Under) (l : List Todo), u.steps ≤ STEPS → mu u l ≤ f → mu u l ≤ g → carried m h b op f u l = carried m h b op g u l
  | f, g, u, [], _, _, _ => by
    cases f <;> cases g <;> simp [carried]
  | 0, g, u, x :: l, _, hf, _ => by
    exfalso
    unfold mu at hf
    cases x <;> simp only [weight] at hf <;> omega
  | f + 1, 0, u, x :: l, _, _, hg => by
    exfalso
    unfold mu at hg
    cases x <;> simp only [weight] at hg <;> omega
  | f + 1, g + 1, u, x :: l, hu, hf, hg => by
    unfold carried
    cases e : onward m h b op u (x :: l) with
    | error e => rfl
    | ok vr =>
      obtain ⟨v, r⟩ := vr
      obtain ⟨h1, h2⟩ := onward_less hu e
      exact carried_fuel f g v r h2 (by omega) (by omega)
theorem carried_step {m : Make} {h : Hand} {b : Book} {op : Nat} {f : Nat} {u v : Under} {x : Todo} {l r : List Todo} (hu : u.steps ≤ STEPS) (hf : mu u (x :: l) ≤ f) (e : onward m h b op u (x :: l) = .ok (v, r)) :
    carried m h b op f u (x :: l) = carried m h b op f v r := by
  obtain ⟨h1, h2⟩ := onward_less hu e
  cases f with
  | zero => omega
  | succ f =>
    rw [show carried m h b op (f + 1) u (x :: l) = carried m h b op f v r by rw [carried, e]]
    exact carried_fuel f (f + 1) v r h2 (by omega) (by omega)
theorem carried_fail {m : Make} {h : Hand} {b : Book} {op : Nat} {f : Nat} {u : Under} {x : Todo} {l : List Todo} {k : Fail} (hf : 0 < f) (e : onward m h b op u (x :: l) = .error k) : carried m h b op f u (x :: l) = .error k := by
  cases f with
  | zero => omega
  | succ f => rw [carried, e]
end Sm
set_option Elab.async false
namespace Mm
open Na Sm
theorem find_none {α : Type} {p : α → Bool} {l : List α} (h : ∀ (i : Nat) (x : α), l[i]? = some x → p x = false) : l.findIdx? p = none := by
  rw [List.findIdx?_eq_none_iff]
  intro x hx
  obtain ⟨i, hi⟩ := List.getElem?_of_mem hx
  exact h i x hi
theorem find_some {α : Type} {p : α → Bool} {l : List α} {i : Nat} {x : α} (hi : l[i]? = some x) (hx : p x = true) (hb : ∀ (j : Nat) (y : α), j < i → l[j]? = some y → p y = false) : l.findIdx? p = some i := by
  obtain ⟨hl, e⟩ := List.getElem?_eq_some_iff.mp hi
  rw [List.findIdx?_eq_some_iff_getElem]
  refine ⟨hl, by rw [e]; exact hx, fun j hj => ?_⟩
  rw [hb j _ hj (List.getElem?_eq_getElem (by omega))]
  simp
def grp (k : Nat) (l : List Nat) (j : Nat) : List Nat := (l.drop (k * j)).take k
theorem groups_is {k : Nat} (hk : 0 < k) {l : List Nat} (h0 : l.length % k = 0) : groups k l = (List.range (l.length / k)).map (grp k l) := Bm.groups_eq hk h0
theorem groups_at {k : Nat} (hk : 0 < k) {l : List Nat} (h0 : l.length % k = 0) {j : Nat} {g : List Nat} : (groups k l)[j]? = some g ↔ j < l.length / k ∧ g = grp k l j := by
  rw [groups_is hk h0, List.getElem?_map]
  by_cases c : j < l.length / k
  · rw [List.getElem?_range c]
    exact ⟨fun e => ⟨c, (Option.some.inj e).symm⟩, fun e => by rw [e.2]; rfl⟩
  · rw [List.getElem?_eq_none (by simpa using c)]
    exact ⟨fun e => (by cases e), fun e => absurd e.1 c⟩
def MakeLen (l : List Nat) : Prop := l.length % 7 = 0 ∧ l.length ≠ 0 ∧ l.length ≤ 448
theorem make_len {l : List Nat} (h : ¬ MakeLen l) : makeOf l = .error ⟨1, 0⟩ := by
  unfold makeOf
  rw [if_pos]
  unfold MakeLen at h
  have : RODS = 64 := rfl
  omega
theorem make_if {l : List Nat} (h : MakeLen l) : makeOf l = match (groups 7 l).findIdx? fun (g : List Nat) => rodWrong g != 0 with
    | some i => .error ⟨rodWrong ((groups 7 l).getD i []), i⟩
    | none => .ok ((groups 7 l).map rodOf) := by
  unfold makeOf
  rw [if_neg]
  · rfl
  · obtain ⟨h1, h2, h3⟩ := h
    have : RODS = 64 := rfl
    omega
theorem make_bad {l : List Nat} {j : Nat} (h : MakeLen l) (hj : j < l.length / 7) (hb : rodWrong (grp 7 l j) ≠ 0) (hg : ∀ i, i < j → rodWrong (grp 7 l i) = 0) : makeOf l = .error ⟨rodWrong (grp 7 l j), j⟩ := by
  have e := (groups_at (by decide) h.1).mpr ⟨hj, rfl⟩
  rw [make_if h, find_some e (by simpa using hb) fun i y hi ey => by
    rw [((groups_at (by decide) h.1).mp ey).2, hg i hi]
    rfl]
  show Except.error (⟨rodWrong ((groups 7 l).getD j []), j⟩ : Fault) = _
  rw [List.getD_eq_getElem?_getD, e]
  rfl
theorem make_ok {l : List Nat} (h : MakeLen l) (hg : ∀ i, i < l.length / 7 → rodWrong (grp 7 l i) = 0) : makeOf l = .ok ((List.range (l.length / 7)).map fun j => rodOf (grp 7 l j)) := by
  rw [make_if h, find_none fun i y ey => by
    obtain ⟨hi, e⟩ := (groups_at (by decide) h.1).mp ey
    rw [e, hg i hi]
    rfl]
  show Except.ok ((groups 7 l).map rodOf) = _
  rw [groups_is (by decide) h.1, List.map_map]
  rfl
def DeckIn (b w : Nat) : Prop := 1 ≤ b ∧ b ≤ 15 ∧ 1 ≤ w ∧ w ≤ 63
def RodIn (q b0 w0 b1 w1 b2 w2 : Nat) : Prop := (2 ≤ q ∧ q ≤ 20) ∧ DeckIn b0 w0 ∧ ((b1 = 0 ∧ w1 = 0 ∧ b2 = 0 ∧ w2 = 0) ∨ (DeckIn b1 w1 ∧ ((b2 = 0 ∧ w2 = 0) ∨ DeckIn b2 w2)))
def decks3 (b0 w0 b1 w1 b2 w2 : Nat) : List Deck := if b1 = 0 then [⟨b0, w0⟩] else if b2 = 0 then [⟨b0, w0⟩, ⟨b1, w1⟩] else [⟨b0, w0⟩, ⟨b1, w1⟩, ⟨b2, w2⟩]
theorem deck_good {b w : Nat} : (⟨b, w⟩ : Deck).good = true ↔ DeckIn b w := by
  unfold Deck.good DeckIn
  simp only [Bool.and_eq_true, decide_eq_true_eq]
theorem rodOf_eq {l : List Nat} (h0 : l.getD 1 0 ≠ 0) (h1 : l.getD 3 0 ≠ 0 ∨ l.getD 5 0 = 0) : rodOf l = ⟨l.getD 0 0, decks3 (l.getD 1 0) (l.getD 2 0) (l.getD 3 0) (l.getD 4 0) (l.getD 5 0) (l.getD 6 0)⟩ := by
  unfold rodOf decks3
  congr 1
  rw [show List.range 3 = [0, 1, 2] by decide]
  have c0 : (l.getD (1 + 2 * 0) 0 != 0) = true := by simpa using h0
  by_cases c1 : l.getD 3 0 = 0
  · have c2 : l.getD 5 0 = 0 := by omega
    rw [List.filter_cons, if_pos c0, List.filter_cons, if_neg (by simpa using c1), List.filter_cons, if_neg (by simpa using c2), List.filter_nil, if_pos c1]
    rfl
  · by_cases c2 : l.getD 5 0 = 0
    · rw [List.filter_cons, if_pos c0, List.filter_cons, if_pos (by simpa using c1), List.filter_cons, if_neg (by simpa using c2), List.filter_nil, if_neg c1, if_pos c2]
      rfl
    · rw [List.filter_cons, if_pos c0, List.filter_cons, if_pos (by simpa using c1), List.filter_cons, if_pos (by simpa using c2), List.filter_nil, if_neg c1, if_neg c2]
      rfl
theorem rodGood_iff {l : List Nat} : rodGood l = true ↔ RodIn (l.getD 0 0) (l.getD 1 0) (l.getD 2 0) (l.getD 3 0) (l.getD 4 0) (l.getD 5 0) (l.getD 6 0) := by
  have start : rodGood l = true ↔ (l.getD 1 0 ≠ 0 ∧ ((l.getD 1 0 = 0 ↔ l.getD 2 0 = 0) ∧ (l.getD 3 0 = 0 ↔ l.getD 4 0 = 0) ∧ (l.getD 5 0 = 0 ↔ l.getD 6 0 = 0))) ∧ (l.getD 3 0 ≠ 0 ∨ l.getD 5 0 = 0) ∧ (rodOf l).formed_ = true := by
    unfold rodGood
    rw [show List.range 3 = [0, 1, 2] by decide]
    simp only [List.all_cons, List.all_nil, Bool.and_true, Bool.and_eq_true, Bool.or_eq_true, bne_iff_ne, beq_iff_eq]
    simp only [Nat.mul_zero, Nat.add_zero, Nat.mul_one, show 1 + 2 * 2 = 5 from rfl, show 2 + 2 * 2 = 6 from rfl, show 1 + 2 = 3 from rfl, show 2 + 2 = 4 from rfl]
    have b : ∀ x y : Nat, ((x == 0) = (y == 0)) ↔ (x = 0 ↔ y = 0) := fun x y => by
      rw [Bool.eq_iff_iff, beq_iff_eq, beq_iff_eq]
    rw [b, b, b]
  rw [start]
  generalize e0 : l.getD 0 0 = q at *
  generalize e1 : l.getD 1 0 = b0 at *
  generalize e2 : l.getD 2 0 = w0 at *
  generalize e3 : l.getD 3 0 = b1 at *
  generalize e4 : l.getD 4 0 = w1 at *
  generalize e5 : l.getD 5 0 = b2 at *
  generalize e6 : l.getD 6 0 = w2 at *
  by_cases h0 : b0 = 0
  · constructor
    · intro h
      exact absurd h0 h.1.1
    · intro h
      have := h.2.1.1
      omega
  · by_cases h1 : b1 ≠ 0 ∨ b2 = 0
    · have er : rodOf l = ⟨q, decks3 b0 w0 b1 w1 b2 w2⟩ := by
        rw [rodOf_eq (by rw [e1]; exact h0) (by rw [e3, e5]; exact h1), e0, e1, e2, e3, e4, e5, e6]
      have ef : (rodOf l).formed_ = true ↔ (2 ≤ q ∧ q ≤ 20) ∧ ∀ d ∈ decks3 b0 w0 b1 w1 b2 w2, d.good = true := by
        rw [er]
        unfold Rod.formed_
        simp only [Bool.and_eq_true, decide_eq_true_eq, List.all_eq_true]
        have hl : 1 ≤ (decks3 b0 w0 b1 w1 b2 w2).length ∧ (decks3 b0 w0 b1 w1 b2 w2).length ≤ 3 := by
          unfold decks3
          by_cases c1 : b1 = 0
          · rw [if_pos c1]
            simp
          · by_cases c2 : b2 = 0
            · rw [if_neg c1, if_pos c2]
              simp
            · rw [if_neg c1, if_neg c2]
              simp
        constructor
        · rintro ⟨a, b, _, _, c⟩
          exact ⟨⟨a, b⟩, c⟩
        · rintro ⟨⟨a, b⟩, c⟩
          exact ⟨a, b, hl.1, hl.2, c⟩
      rw [ef]
      unfold RodIn decks3
      by_cases c1 : b1 = 0
      · have c2 : b2 = 0 := by omega
        rw [if_pos c1]
        simp only [List.mem_singleton, forall_eq, deck_good]
        constructor
        · rintro ⟨⟨_, h3⟩, _, h4, h5⟩
          exact ⟨h4, h5, .inl ⟨c1, by omega, c2, by omega⟩⟩
        · rintro ⟨h4, h5, h6 | ⟨h6, _⟩⟩
          · exact ⟨⟨h0, ⟨by unfold DeckIn at h5; omega, by omega, by omega⟩⟩, h1, h4, h5⟩
          · unfold DeckIn at h6
            omega
      · by_cases c2 : b2 = 0
        · rw [if_neg c1, if_pos c2]
          simp only [List.mem_cons, List.not_mem_nil, or_false, forall_eq_or_imp, forall_eq, deck_good]
          constructor
          · rintro ⟨⟨_, h3⟩, _, h4, h5, h6⟩
            exact ⟨h4, h5, .inr ⟨h6, .inl ⟨c2, by omega⟩⟩⟩
          · rintro ⟨h4, h5, h6 | ⟨h6, h7⟩⟩
            · omega
            · refine ⟨⟨h0, ⟨by unfold DeckIn at h5; omega, by unfold DeckIn at h6; omega, ?_⟩⟩, h1, h4, h5, h6⟩
              rcases h7 with h7 | h7
              · omega
              · unfold DeckIn at h7
                omega
        · rw [if_neg c1, if_neg c2]
          simp only [List.mem_cons, List.not_mem_nil, or_false, forall_eq_or_imp, forall_eq, deck_good]
          constructor
          · rintro ⟨⟨_, h3⟩, _, h4, h5, h6, h7⟩
            exact ⟨h4, h5, .inr ⟨h6, .inr h7⟩⟩
          · rintro ⟨h4, h5, h6 | ⟨h6, h7⟩⟩
            · omega
            · rcases h7 with h7 | h7
              · omega
              · exact ⟨⟨h0, ⟨by unfold DeckIn at h5; omega, by unfold DeckIn at h6; omega, by unfold DeckIn at h7; omega⟩⟩, h1, h4, h5, h6, h7⟩
    · constructor
      · intro h
        exact absurd h.2.1 h1
      · rintro ⟨_, _, h | ⟨h, _⟩⟩
        · omega
        · unfold DeckIn at h
          omega
theorem rod_is {l : List Nat} (h : rodGood l = true) : rodOf l = ⟨l.getD 0 0, decks3 (l.getD 1 0) (l.getD 2 0) (l.getD 3 0) (l.getD 4 0) (l.getD 5 0) (l.getD 6 0)⟩ := by
  obtain ⟨_, h1, h2⟩ := rodGood_iff.mp h
  unfold DeckIn at h1 h2
  exact rodOf_eq (by omega) (by omega)
theorem most3 {q b0 w0 b1 w1 b2 w2 : Nat} (h : RodIn q b0 w0 b1 w1 b2 w2) : (⟨q, decks3 b0 w0 b1 w1 b2 w2⟩ : Rod).most = b0 * w0 + b1 * w1 + b2 * w2 := by
  unfold Rod.most decks3 total
  dsimp only
  by_cases c1 : b1 = 0
  · have c2 : b2 = 0 := by
      obtain ⟨_, _, h | h⟩ := h
      · exact h.2.2.1
      · have := h.1.1
        omega
    rw [if_pos c1, c1, c2]
    simp
  · by_cases c2 : b2 = 0
    · rw [if_neg c1, if_pos c2, c2]
      simp
    · rw [if_neg c1, if_neg c2]
      simp [Nat.add_assoc]
def HandLen (l : List Nat) : Prop := l ≠ [] ∧ l.getD 0 0 ≤ 255 ∧ (l.length - 1) % 7 = 0 ∧ l.length - 1 ≤ 224
theorem hand_len {l : List Nat} (h : ¬ HandLen l) : handOf l = .error ⟨6, 0⟩ := by
  cases l with
  | nil => rfl
  | cons o r =>
    unfold handOf
    dsimp only
    rw [if_pos]
    have : STROKES = 32 := rfl
    have e : ¬ (o ≤ 255 ∧ r.length % 7 = 0 ∧ r.length ≤ 224) := fun z => h ⟨by simp, z.1, z.2.1, z.2.2⟩
    omega
theorem hand_if {l : List Nat} (h : HandLen l) : handOf l = match (groups 7 (l.drop 1)).findIdx? fun (g : List Nat) => !strokeGood g with
    | some i => .error ⟨7, i⟩
    | none => .ok ⟨l.getD 0 0, (groups 7 (l.drop 1)).map strokeOf⟩ := by
  cases l with
  | nil => exact absurd rfl h.1
  | cons o r =>
    obtain ⟨_, h1, h2, h3⟩ := h
    have h1 : o ≤ 255 := h1
    have h2 : r.length % 7 = 0 := h2
    have h3 : r.length ≤ 224 := h3
    unfold handOf
    dsimp only
    rw [if_neg]
    · rfl
    · have : STROKES = 32 := rfl
      omega
theorem hand_mod {l : List Nat} (h : HandLen l) : (l.drop 1).length % 7 = 0 := by
  rw [List.length_drop]
  exact h.2.2.1
theorem hand_bad {l : List Nat} {j : Nat} (h : HandLen l) (hj : j < (l.length - 1) / 7) (hb : strokeGood (grp 7 (l.drop 1) j) = false) (hg : ∀ i, i < j → strokeGood (grp 7 (l.drop 1) i) = true) : handOf l = .error ⟨7, j⟩ := by
  have e := (groups_at (k := 7) (by decide) (hand_mod h)).mpr ⟨by rw [List.length_drop]; exact hj, rfl⟩
  rw [hand_if h, find_some e (by rw [hb]; rfl) fun i y hi ey => by
    rw [((groups_at (by decide) (hand_mod h)).mp ey).2, hg i hi]
    rfl]
theorem hand_ok {l : List Nat} (h : HandLen l) (hg : ∀ i, i < (l.length - 1) / 7 → strokeGood (grp 7 (l.drop 1) i) = true) : handOf l = .ok ⟨l.getD 0 0, (List.range ((l.length - 1) / 7)).map fun j => strokeOf (grp 7 (l.drop 1) j)⟩ := by
  rw [hand_if h, find_none fun i y ey => by
    obtain ⟨hi, e⟩ := (groups_at (by decide) (hand_mod h)).mp ey
    rw [List.length_drop] at hi
    rw [e, hg i hi]
    rfl]
  show Except.ok (⟨l.getD 0 0, (groups 7 (l.drop 1)).map strokeOf⟩ : Hand) = _
  rw [groups_is (by decide) (hand_mod h), List.map_map, List.length_drop]
  rfl
def StrokeIn (a t m a2 t2 m2 c : Nat) : Prop := a ≤ 2 ∧ (1 ≤ t ∧ t ≤ 2) ∧ (1 ≤ m ∧ m ≤ 15) ∧ ((a2 = 0 ∧ t2 = 0 ∧ m2 = 0) ∨ (a2 ≤ 2 ∧ (1 ≤ t2 ∧ t2 ≤ 2) ∧ (1 ≤ m2 ∧ m2 ≤ 15) ∧ a2 ≠ a)) ∧ 1 ≤ c ∧ c ≤ 255
theorem strokeGood_iff {l : List Nat} : strokeGood l = true ↔ StrokeIn (l.getD 0 0) (l.getD 1 0) (l.getD 2 0) (l.getD 3 0) (l.getD 4 0) (l.getD 5 0) (l.getD 6 0) := by
  unfold strokeGood strokeOf Stroke.good Reach.good reachOf StrokeIn
  dsimp only
  rw [Bm.getD_drop, Bm.getD_drop, Bm.getD_drop]
  generalize l.getD 0 0 = a
  generalize l.getD 1 0 = t
  generalize l.getD 2 0 = m
  simp only [show 3 + 0 = 3 from rfl, show 3 + 1 = 4 from rfl, show 3 + 2 = 5 from rfl]
  generalize l.getD 3 0 = a2
  generalize l.getD 4 0 = t2
  generalize l.getD 5 0 = m2
  generalize l.getD 6 0 = c
  by_cases z : t2 = 0
  · rw [if_pos z]
    simp only [Bool.and_eq_true, Bool.or_eq_true, decide_eq_true_eq, bne_iff_ne, beq_iff_eq, and_true]
    omega
  · rw [if_neg z]
    simp only [Bool.and_eq_true, Bool.or_eq_true, decide_eq_true_eq, bne_iff_ne, beq_iff_eq]
    omega
end Mm
set_option Elab.async false
namespace Rm
open Na Sm Mm
def pad (p : Push) : List Nat := [p.getD 0 0, p.getD 1 0, p.getD 2 0]
def Fit3 (b0 b1 b2 : Nat) (t : List Nat) : Prop := ∃ x y z, t = [x, y, z] ∧ x ≤ b0 ∧ y ≤ b1 ∧ z ≤ b2
def w3 (w0 w1 w2 : Nat) (t : List Nat) : Nat := t.getD 0 0 * w0 + t.getD 1 0 * w1 + t.getD 2 0 * w2
theorem fits1 {d : Deck} {p : Push} : Fits [d] p ↔ ∃ x, p = [x] ∧ x ≤ d.beads := by
  constructor
  · intro h
    match p, h with
    | [x], h => exact ⟨x, rfl, h.1⟩
  · rintro ⟨x, rfl, h⟩
    exact ⟨h, trivial⟩
theorem fits2 {d e : Deck} {p : Push} : Fits [d, e] p ↔ ∃ x y, p = [x, y] ∧ x ≤ d.beads ∧ y ≤ e.beads := by
  constructor
  · intro h
    match p, h with
    | [x, y], h => exact ⟨x, y, rfl, h.1, h.2.1⟩
  · rintro ⟨x, y, rfl, h1, h2⟩
    exact ⟨h1, h2, trivial⟩
theorem fits3 {d e f : Deck} {p : Push} : Fits [d, e, f] p ↔ ∃ x y z, p = [x, y, z] ∧ x ≤ d.beads ∧ y ≤ e.beads ∧ z ≤ f.beads := by
  constructor
  · intro h
    match p, h with
    | [x, y, z], h => exact ⟨x, y, z, rfl, h.1, h.2.1, h.2.2.1⟩
  · rintro ⟨x, y, z, rfl, h1, h2, h3⟩
    exact ⟨h1, h2, h3, trivial⟩
section
variable {q b0 w0 b1 w1 b2 w2 : Nat}
theorem decks_cases (h : RodIn q b0 w0 b1 w1 b2 w2) : (b1 = 0 ∧ w1 = 0 ∧ b2 = 0 ∧ w2 = 0 ∧ decks3 b0 w0 b1 w1 b2 w2 = [⟨b0, w0⟩]) ∨ (b1 ≠ 0 ∧ b2 = 0 ∧ w2 = 0 ∧ decks3 b0 w0 b1 w1 b2 w2 = [⟨b0, w0⟩, ⟨b1, w1⟩]) ∨
    (b1 ≠ 0 ∧ b2 ≠ 0 ∧ decks3 b0 w0 b1 w1 b2 w2 = [⟨b0, w0⟩, ⟨b1, w1⟩, ⟨b2, w2⟩]) := by
  obtain ⟨_, _, h | ⟨h1, h2⟩⟩ := h
  · obtain ⟨e1, e2, e3, e4⟩ := h
    exact .inl ⟨e1, e2, e3, e4, by unfold decks3; rw [if_pos e1]⟩
  · have n1 : b1 ≠ 0 := by have := h1.1; omega
    rcases h2 with ⟨e1, e2⟩ | h2
    · exact .inr (.inl ⟨n1, e1, e2, by unfold decks3; rw [if_neg n1, if_pos e1]⟩)
    · have n2 : b2 ≠ 0 := by have := h2.1; omega
      exact .inr (.inr ⟨n1, n2, by unfold decks3; rw [if_neg n1, if_neg n2]⟩)
theorem fits_pad (h : RodIn q b0 w0 b1 w1 b2 w2) {p : Push} (hp : Fits (decks3 b0 w0 b1 w1 b2 w2) p) : Fit3 b0 b1 b2 (pad p) := by
  rcases decks_cases h with ⟨_, _, _, _, e⟩ | ⟨_, _, _, e⟩ | ⟨_, _, e⟩ <;> rw [e] at hp
  · obtain ⟨x, rfl, hx⟩ := fits1.mp hp
    exact ⟨x, 0, 0, rfl, hx, Nat.zero_le _, Nat.zero_le _⟩
  · obtain ⟨x, y, rfl, hx, hy⟩ := fits2.mp hp
    exact ⟨x, y, 0, rfl, hx, hy, Nat.zero_le _⟩
  · obtain ⟨x, y, z, rfl, hx, hy, hz⟩ := fits3.mp hp
    exact ⟨x, y, z, rfl, hx, hy, hz⟩
theorem fits_of (h : RodIn q b0 w0 b1 w1 b2 w2) {t : List Nat} (ht : Fit3 b0 b1 b2 t) : ∃ p, Fits (decks3 b0 w0 b1 w1 b2 w2) p ∧ pad p = t := by
  obtain ⟨x, y, z, rfl, hx, hy, hz⟩ := ht
  rcases decks_cases h with ⟨e1, _, e2, _, e⟩ | ⟨_, e2, _, e⟩ | ⟨_, _, e⟩ <;> rw [e]
  · have : y = 0 := by omega
    have : z = 0 := by omega
    subst y z
    exact ⟨[x], fits1.mpr ⟨x, rfl, hx⟩, rfl⟩
  · have : z = 0 := by omega
    subst z
    exact ⟨[x, y], fits2.mpr ⟨x, y, rfl, hx, hy⟩, rfl⟩
  · exact ⟨[x, y, z], fits3.mpr ⟨x, y, z, rfl, hx, hy, hz⟩, rfl⟩
theorem worth_pad (h : RodIn q b0 w0 b1 w1 b2 w2) {p : Push} (hp : Fits (decks3 b0 w0 b1 w1 b2 w2) p) : worthOf (decks3 b0 w0 b1 w1 b2 w2) p = w3 w0 w1 w2 (pad p) := by
  rcases decks_cases h with ⟨_, _, _, _, e⟩ | ⟨_, _, _, e⟩ | ⟨_, _, e⟩ <;> rw [e] at hp ⊢
  · obtain ⟨x, rfl, hx⟩ := fits1.mp hp
    simp [worthOf, total, w3, pad]
  · obtain ⟨x, y, rfl, hx, hy⟩ := fits2.mp hp
    simp [worthOf, total, w3, pad]
  · obtain ⟨x, y, z, rfl, hx, hy, hz⟩ := fits3.mp hp
    simp [worthOf, total, w3, pad, Nat.add_assoc]
theorem pad_inj (h : RodIn q b0 w0 b1 w1 b2 w2) {p p' : Push} (hp : Fits (decks3 b0 w0 b1 w1 b2 w2) p) (hp' : Fits (decks3 b0 w0 b1 w1 b2 w2) p') (e : pad p = pad p') : p = p' := by
  rcases decks_cases h with ⟨_, _, _, _, e1⟩ | ⟨_, _, _, e1⟩ | ⟨_, _, e1⟩ <;> rw [e1] at hp hp'
  · obtain ⟨x, rfl, hx⟩ := fits1.mp hp
    obtain ⟨x', rfl, hx⟩ := fits1.mp hp'
    simp [pad] at e
    simp [e]
  · obtain ⟨x, y, rfl, hx⟩ := fits2.mp hp
    obtain ⟨x', y', rfl, hx⟩ := fits2.mp hp'
    simp [pad] at e
    simp [e]
  · obtain ⟨x, y, z, rfl, hx⟩ := fits3.mp hp
    obtain ⟨x', y', z', rfl, hx⟩ := fits3.mp hp'
    simp [pad] at e
    simp [e]
theorem nicer_pad (h : RodIn q b0 w0 b1 w1 b2 w2) {p p' : Push} (hp : Fits (decks3 b0 w0 b1 w1 b2 w2) p) (hp' : Fits (decks3 b0 w0 b1 w1 b2 w2) p') : nicer (pad p) (pad p') = nicer p p' := by
  rcases decks_cases h with ⟨_, _, _, _, e1⟩ | ⟨_, _, _, e1⟩ | ⟨_, _, e1⟩ <;> rw [e1] at hp hp'
  · obtain ⟨x, rfl, hx⟩ := fits1.mp hp
    obtain ⟨x', rfl, hx⟩ := fits1.mp hp'
    simp [pad, nicer, total, below]
    rfl
  · obtain ⟨x, y, rfl, hx⟩ := fits2.mp hp
    obtain ⟨x', y', rfl, hx⟩ := fits2.mp hp'
    simp [pad, nicer, total, below]
    rfl
  · obtain ⟨x, y, z, rfl, hx⟩ := fits3.mp hp
    obtain ⟨x', y', z', rfl, hx⟩ := fits3.mp hp'
    simp [pad, nicer, total, below]
    rfl
end
def push3 (bs : List Nat) (t : List Nat) (j : Nat) (to_ : Bool) (most n : Nat) : Option (List Nat) :=
  if (1 ≤ n ∧ n ≤ most) ∧ n ≤ (if to_ = true then bs.getD j 0 - t.getD j 0 else t.getD j 0) then some (t.set j (if to_ = true then t.getD j 0 + n else t.getD j 0 - n)) else none
theorem push_eq (l : List Deck) (p : Push) (x : Reach) (n : Nat) {d : Deck} {a : Nat} (e1 : l[x.deck]? = some d) (e2 : p[x.deck]? = some a) :
    pushed l p x n = if (1 ≤ n ∧ n ≤ x.most) ∧ (if x.to_ = true then a + n ≤ d.beads else n ≤ a) then some (p.set x.deck (if x.to_ = true then a + n else a - n)) else none := by
  unfold pushed
  rw [e1, e2]
  by_cases c : n < 1 ∨ x.most < n
  · rw [if_pos c, if_neg (fun z => by have := z.1; omega)]
  · have c' : 1 ≤ n ∧ n ≤ x.most := by omega
    rw [if_neg c]
    dsimp only
    cases x.to_ with
    | true =>
      simp only [if_true]
      by_cases k : a + n ≤ d.beads
      · rw [if_pos k, if_pos ⟨c', k⟩]
      · rw [if_neg k, if_neg (fun z => k z.2)]
    | false =>
      simp only [Bool.false_eq_true, if_false]
      by_cases k : n ≤ a
      · rw [if_pos k, if_pos ⟨c', k⟩]
      · rw [if_neg k, if_neg (fun z => k z.2)]
theorem push_none (l : List Deck) (p : Push) (x : Reach) (n : Nat) (e1 : l[x.deck]? = none) : pushed l p x n = none := by
  unfold pushed
  rw [e1]
  by_cases c : n < 1 ∨ x.most < n
  · rw [if_pos c]
  · rw [if_neg c]
theorem push_one {l : List Deck} {p : Push} {x : Reach} {n : Nat} {d : Deck} {a : Nat} {bs t : List Nat} (e1 : l[x.deck]? = some d) (e2 : p[x.deck]? = some a) (hb : bs.getD x.deck 0 = d.beads) (ha : t.getD x.deck 0 = a) (hle : a ≤ d.beads)
    (hs : ∀ v, pad (p.set x.deck v) = t.set x.deck v) : push3 bs t x.deck x.to_ x.most n = (pushed l p x n).map pad := by
  rw [push_eq l p x n e1 e2]
  unfold push3
  rw [hb, ha]
  cases x.to_ with
  | true =>
    simp only [if_true]
    by_cases k : (1 ≤ n ∧ n ≤ x.most) ∧ a + n ≤ d.beads
    · rw [if_pos k, if_pos ⟨k.1, by have := k.2; omega⟩]
      simp only [Option.map_some, hs]
    · rw [if_neg k, if_neg (fun z => k ⟨z.1, by have := z.2; have := z.1.1; omega⟩)]
      rfl
  | false =>
    simp only [Bool.false_eq_true, if_false]
    by_cases k : (1 ≤ n ∧ n ≤ x.most) ∧ n ≤ a
    · rw [if_pos k, if_pos k]
      simp only [Option.map_some, hs]
    · rw [if_neg k, if_neg k]
      rfl
theorem push_out {l : List Deck} {p : Push} {x : Reach} {n : Nat} {bs t : List Nat} (e1 : l[x.deck]? = none) (hb : bs.getD x.deck 0 = 0) (ha : t.getD x.deck 0 = 0) : push3 bs t x.deck x.to_ x.most n = (pushed l p x n).map pad := by
  rw [push_none l p x n e1]
  unfold push3
  rw [hb, ha, if_neg]
  · rfl
  · rintro ⟨⟨h1, _⟩, h2⟩
    cases x.to_ <;> simp at h2 <;> omega
theorem push_pad {q b0 w0 b1 w1 b2 w2 : Nat} (h : RodIn q b0 w0 b1 w1 b2 w2) {p : Push} (hp : Fits (decks3 b0 w0 b1 w1 b2 w2) p) {x : Reach} (hx : x.deck ≤ 2) (n : Nat) :
    push3 [b0, b1, b2] (pad p) x.deck x.to_ x.most n = (pushed (decks3 b0 w0 b1 w1 b2 w2) p x n).map pad := by
  have hx : x.deck = 0 ∨ x.deck = 1 ∨ x.deck = 2 := by omega
  rcases decks_cases h with ⟨e1, _, e2, _, e⟩ | ⟨_, e2, _, e⟩ | ⟨_, _, e⟩ <;> rw [e] at hp ⊢
  · obtain ⟨a, rfl, ha⟩ := fits1.mp hp
    rcases hx with c | c | c
    · exact push_one (d := ⟨b0, w0⟩) (a := a) (by rw [c]; rfl) (by rw [c]; rfl) (by rw [c]; rfl) (by rw [c]; rfl) ha (fun v => by rw [c]; rfl)
    · exact push_out (by rw [c]; rfl) (by rw [c]; exact e1) (by rw [c]; rfl)
    · exact push_out (by rw [c]; rfl) (by rw [c]; exact e2) (by rw [c]; rfl)
  · obtain ⟨a, b, rfl, ha, hb⟩ := fits2.mp hp
    rcases hx with c | c | c
    · exact push_one (d := ⟨b0, w0⟩) (a := a) (by rw [c]; rfl) (by rw [c]; rfl) (by rw [c]; rfl) (by rw [c]; rfl) ha (fun v => by rw [c]; rfl)
    · exact push_one (d := ⟨b1, w1⟩) (a := b) (by rw [c]; rfl) (by rw [c]; rfl) (by rw [c]; rfl) (by rw [c]; rfl) hb (fun v => by rw [c]; rfl)
    · exact push_out (by rw [c]; rfl) (by rw [c]; exact e2) (by rw [c]; rfl)
  · obtain ⟨a, b, d, rfl, ha, hb, hd⟩ := fits3.mp hp
    rcases hx with c | c | c
    · exact push_one (d := ⟨b0, w0⟩) (a := a) (by rw [c]; rfl) (by rw [c]; rfl) (by rw [c]; rfl) (by rw [c]; rfl) ha (fun v => by rw [c]; rfl)
    · exact push_one (d := ⟨b1, w1⟩) (a := b) (by rw [c]; rfl) (by rw [c]; rfl) (by rw [c]; rfl) (by rw [c]; rfl) hb (fun v => by rw [c]; rfl)
    · exact push_one (d := ⟨b2, w2⟩) (a := d) (by rw [c]; rfl) (by rw [c]; rfl) (by rw [c]; rfl) (by rw [c]; rfl) hd (fun v => by rw [c]; rfl)
theorem push_len {bs t u : List Nat} {j : Nat} {to_ : Bool} {most n : Nat} (e : push3 bs t j to_ most n = some u) : u.length = t.length := by
  unfold push3 at e
  generalize (if to_ = true then t.getD j 0 + n else t.getD j 0 - n) = v at e
  by_cases c : (1 ≤ n ∧ n ≤ most) ∧ n ≤ (if to_ = true then bs.getD j 0 - t.getD j 0 else t.getD j 0)
  · rw [if_pos c] at e
    rw [← Option.some.inj e]
    simp
  · rw [if_neg c] at e
    cases e
def SIn (s : List Nat) : Prop := s.length = 7 ∧ StrokeIn (s.getD 0 0) (s.getD 1 0) (s.getD 2 0) (s.getD 3 0) (s.getD 4 0) (s.getD 5 0) (s.getD 6 0)
def stroke3 (bs : List Nat) (t : List Nat) (s : List Nat) (n k : Nat) : Option (List Nat) := (push3 bs t (s.getD 0 0) (s.getD 1 0 == 1) (s.getD 2 0) n).bind fun u =>
  if (s.getD 3 0 = 0 ∧ s.getD 4 0 = 0 ∧ s.getD 5 0 = 0) then (if k = 0 then some u else none) else push3 bs u (s.getD 3 0) (s.getD 4 0 == 1) (s.getD 5 0) k
theorem stroke_len {bs t u s : List Nat} {n k : Nat} (e : stroke3 bs t s n k = some u) : u.length = t.length := by
  unfold stroke3 at e
  cases e1 : push3 bs t (s.getD 0 0) (s.getD 1 0 == 1) (s.getD 2 0) n with
  | none =>
    rw [e1] at e
    cases e
  | some v =>
    rw [e1, Option.bind_some] at e
    by_cases c : s.getD 3 0 = 0 ∧ s.getD 4 0 = 0 ∧ s.getD 5 0 = 0
    · rw [if_pos c] at e
      by_cases k0 : k = 0
      · rw [if_pos k0] at e
        cases e
        exact push_len e1
      · rw [if_neg k0] at e
        cases e
    · rw [if_neg c] at e
      exact (push_len e).trans (push_len e1)
theorem stroke_pad {q b0 w0 b1 w1 b2 w2 : Nat} (h : RodIn q b0 w0 b1 w1 b2 w2) {p : Push} (hp : Fits (decks3 b0 w0 b1 w1 b2 w2) p) {s : List Nat} (hs : SIn s) (n k : Nat) :
    stroke3 [b0, b1, b2] (pad p) s n k = (strokeOn (decks3 b0 w0 b1 w1 b2 w2) (strokeOf s) n k p).map pad := by
  obtain ⟨_, s1, s2, s3, s4, s5⟩ := hs
  unfold stroke3 strokeOn
  have e1 := push_pad h hp (x := (strokeOf s).first) (show s.getD 0 0 ≤ 2 from s1) n
  have e1 : push3 [b0, b1, b2] (pad p) (s.getD 0 0) (s.getD 1 0 == 1) (s.getD 2 0) n = (pushed (decks3 b0 w0 b1 w1 b2 w2) p (strokeOf s).first n).map pad := e1
  rw [e1]
  cases e2 : pushed (decks3 b0 w0 b1 w1 b2 w2) p (strokeOf s).first n with
  | none => rfl
  | some u =>
    have hu := pushed_fits hp e2
    rw [Option.map_some, Option.bind_some, Option.bind_some]
    by_cases c : s.getD 4 0 = 0
    · have es : (strokeOf s).second = none := by
        unfold strokeOf
        dsimp only
        rw [if_pos c]
      rw [if_pos (by omega), es]
      dsimp only
      by_cases k0 : k = 0
      · rw [if_pos k0, if_pos k0]
        rfl
      · rw [if_neg k0, if_neg k0]
        rfl
    · have es : (strokeOf s).second = some (reachOf (s.drop 3)) := by
        unfold strokeOf
        dsimp only
        rw [if_neg c]
      rw [if_neg (by omega), es]
      dsimp only
      have g0 : (reachOf (s.drop 3)).deck = s.getD 3 0 := Bm.getD_drop
      have g1 : (reachOf (s.drop 3)).to_ = (s.getD 4 0 == 1) := by
        show ((s.drop 3).getD 1 0 == 1) = _
        rw [Bm.getD_drop]
      have g2 : (reachOf (s.drop 3)).most = s.getD 5 0 := Bm.getD_drop
      have e3 := push_pad h hu (x := reachOf (s.drop 3)) (by rw [g0]; omega) k
      rw [g0, g1, g2] at e3
      exact e3
abbrev Step := Nat × Nat × Nat
def mv (s : Step) : Move := if s.2.1 = 0 then .carry else .act s.1 s.2.1 s.2.2
def isC (s : Step) : Bool := s.1 == 0 && (s.2.1 == 0 && s.2.2 == 0)
def StepIn (s : Step) : Prop := s.2.1 = 0 → s.1 = 0 ∧ s.2.2 = 0
theorem isC_iff {s : Step} (h : StepIn s) : isC s = true ↔ s.2.1 = 0 := by
  unfold isC StepIn at *
  simp only [Bool.and_eq_true, beq_iff_eq]
  constructor
  · intro z
    exact z.2.1
  · intro z
    obtain ⟨h1, h2⟩ := h z
    exact ⟨h1, z, h2⟩
abbrev Ways := List (Nat × List Nat)
def wrow (q b w : Nat) (cp : Nat × List Nat) : Ways := (List.range (b + 1)).filterMap fun m => if cp.1 + m * w < q then some (cp.1 + m * w, cp.2 ++ [m]) else none
def wstep (q b w : Nat) (ws : Ways) : Ways := ws.flatMap (wrow q b w)
theorem mem_wstep {q b w c : Nat} {t : List Nat} {ws : Ways} : (c, t) ∈ wstep q b w ws ↔ ∃ c0 t0 m, (c0, t0) ∈ ws ∧ m ≤ b ∧ c = c0 + m * w ∧ t = t0 ++ [m] ∧ c < q := by
  unfold wstep wrow
  simp only [List.mem_flatMap, List.mem_filterMap, List.mem_range]
  constructor
  · rintro ⟨⟨c0, t0⟩, h1, m, hm, e⟩
    by_cases z : c0 + m * w < q
    · rw [if_pos z] at e
      cases e
      exact ⟨c0, t0, m, h1, by omega, rfl, rfl, z⟩
    · rw [if_neg z] at e
      cases e
  · rintro ⟨c0, t0, m, h1, hm, rfl, rfl, z⟩
    exact ⟨(c0, t0), h1, m, by omega, by rw [if_pos z]⟩
def wayN (q : Nat) (b w : Nat → Nat) : Nat → Ways
  | 0 => [(0, [])]
  | j + 1 => wstep q (b j) (w j) (wayN q b w j)
theorem mem_way3 {q : Nat} {b w : Nat → Nat} {c : Nat} {t : List Nat} (_ : 0 < q) : (c, t) ∈ wayN q b w 3 ↔ Fit3 (b 0) (b 1) (b 2) t ∧ c = w3 (w 0) (w 1) (w 2) t ∧ c < q := by
  show (c, t) ∈ wstep q (b 2) (w 2) (wstep q (b 1) (w 1) (wstep q (b 0) (w 0) [(0, [])])) ↔ _
  rw [mem_wstep]
  constructor
  · rintro ⟨c2, t2, z, h2, hz, rfl, rfl, hc⟩
    obtain ⟨c1, t1, y, h1, hy, rfl, rfl, _⟩ := mem_wstep.mp h2
    obtain ⟨c0, t0, x, h0, hx, rfl, rfl, _⟩ := mem_wstep.mp h1
    rw [List.mem_singleton] at h0
    cases h0
    exact ⟨⟨x, y, z, rfl, hx, hy, hz⟩, by simp [w3], hc⟩
  · rintro ⟨⟨x, y, z, rfl, hx, hy, hz⟩, rfl, hc⟩
    have e : w3 (w 0) (w 1) (w 2) [x, y, z] = x * w 0 + y * w 1 + z * w 2 := rfl
    rw [e] at hc ⊢
    refine ⟨x * w 0 + y * w 1, [x, y], z, mem_wstep.mpr ⟨x * w 0, [x], y, mem_wstep.mpr ⟨0, [], x, List.mem_singleton.mpr rfl, hx, by simp, rfl, by omega⟩, hy, rfl, rfl, by omega⟩, hz, rfl, rfl, hc⟩
def formIn (ws : Ways) (d : Nat) : Option (List Nat) := nicest ((ws.filter fun (x : Nat × List Nat) => x.1 == d).map fun (x : Nat × List Nat) => x.2)
theorem nicest_snoc (l : List Push) (p : Push) : nicest (l ++ [p]) = match nicest l with
    | none => some p
    | some q => if nicer p q = true then some p else some q := by
  unfold nicest
  rw [List.foldl_append]
  rfl
theorem formIn_snoc (ws : Ways) (c : Nat) (p : List Nat) (d : Nat) : formIn (ws ++ [(c, p)]) d = if c = d then (match formIn ws d with
    | none => some p
    | some q => if nicer p q = true then some p else some q) else formIn ws d := by
  unfold formIn
  rw [List.filter_append, List.map_append]
  by_cases e : c = d
  · rw [if_pos e]
    refine Eq.trans (congrArg nicest ?_) (nicest_snoc _ _)
    rw [List.filter_cons, if_pos (by simpa using e)]
    rfl
  · rw [if_neg e, List.filter_cons, if_neg (by simpa using e)]
    simp
section
variable {q b0 w0 b1 w1 b2 w2 : Nat} {b w : Nat → Nat}
theorem form_some (h : RodIn q b0 w0 b1 w1 b2 w2) (hb : b 0 = b0 ∧ b 1 = b1 ∧ b 2 = b2) (hw : w 0 = w0 ∧ w 1 = w1 ∧ w 2 = w2) {d : Nat} (hd : d < q) (he : ∃ p, Fits (decks3 b0 w0 b1 w1 b2 w2) p ∧ worthOf (decks3 b0 w0 b1 w1 b2 w2) p = d) :
    formIn (wayN q b w 3) d = some (pad (formOf ⟨q, decks3 b0 w0 b1 w1 b2 w2⟩ d)) := by
  obtain ⟨f1, f2, f3⟩ := form_is (r := ⟨q, decks3 b0 w0 b1 w1 b2 w2⟩) he
  unfold formIn
  have hm : ∀ t : List Nat, t ∈ ((wayN q b w 3).filter fun (x : Nat × List Nat) => x.1 == d).map (fun (x : Nat × List Nat) => x.2) ↔ Fit3 b0 b1 b2 t ∧ w3 w0 w1 w2 t = d := by
    intro t
    rw [List.mem_map]
    constructor
    · rintro ⟨⟨c, u⟩, hx, rfl⟩
      obtain ⟨h1, h2⟩ := List.mem_filter.mp hx
      obtain ⟨k1, k2, k3⟩ := (mem_way3 (by omega)).mp h1
      rw [hb.1, hb.2.1, hb.2.2] at k1
      rw [hw.1, hw.2.1, hw.2.2] at k2
      exact ⟨k1, by rw [← k2]; simpa using h2⟩
    · rintro ⟨h1, h2⟩
      refine ⟨(d, t), List.mem_filter.mpr ⟨(mem_way3 (by omega)).mpr ⟨?_, ?_, hd⟩, by simp⟩, rfl⟩
      · rw [hb.1, hb.2.1, hb.2.2]
        exact h1
      · rw [hw.1, hw.2.1, hw.2.2]
        exact h2.symm
  refine nicest_is (n := 3) (fun x hx => ?_) ((hm _).mpr ⟨fits_pad h f1, ?_⟩) fun x hx => ?_
  · obtain ⟨⟨_, _, _, e, _⟩, _⟩ := (hm x).mp hx
    rw [e]
    rfl
  · rw [← worth_pad h f1]
    exact f2
  · obtain ⟨h1, h2⟩ := (hm x).mp hx
    obtain ⟨p, hp, rfl⟩ := fits_of h h1
    have e := nicer_pad h hp f1
    exact e.trans (f3 p hp (by rw [← h2]; exact worth_pad h hp))
theorem form_none (h : RodIn q b0 w0 b1 w1 b2 w2) (hb : b 0 = b0 ∧ b 1 = b1 ∧ b 2 = b2) (hw : w 0 = w0 ∧ w 1 = w1 ∧ w 2 = w2) {d : Nat} (he : ¬ (d < q ∧ ∃ p, Fits (decks3 b0 w0 b1 w1 b2 w2) p ∧ worthOf (decks3 b0 w0 b1 w1 b2 w2) p = d)) :
    formIn (wayN q b w 3) d = none := by
  unfold formIn
  have e : (wayN q b w 3).filter (fun (x : Nat × List Nat) => x.1 == d) = [] := by
    rw [List.filter_eq_nil_iff]
    rintro ⟨c, t⟩ hx z
    have z : c = d := by simpa using z
    have hq : 0 < q := by have := h.1.1; omega
    obtain ⟨k1, k2, k3⟩ := (mem_way3 hq).mp hx
    rw [hb.1, hb.2.1, hb.2.2] at k1
    rw [hw.1, hw.2.1, hw.2.2] at k2
    obtain ⟨p, hp, e⟩ := fits_of h k1
    exact he ⟨by omega, p, hp, by rw [worth_pad h hp, e, ← k2, z]⟩
  rw [e]
  rfl
end
theorem pigeon : ∀ {n : Nat} {l : List Nat}, l.Nodup → (∀ x ∈ l, x < n) → l.length ≤ n
  | 0, [], _, _ => Nat.le_refl _
  | 0, x :: l, _, h => absurd (h x (List.mem_cons_self ..)) (by omega)
  | n + 1, l, hn, h => by
    have h1 : (l.filter fun x => decide (x ≠ n)).length ≤ n := pigeon (hn.filter _) fun x hx => by
      obtain ⟨a, b⟩ := List.mem_filter.mp hx
      have := h x a
      have := of_decide_eq_true b
      omega
    by_cases c : n ∈ l
    · have := hn.length_le_of_subset (l₂ := n :: l.filter fun x => decide (x ≠ n)) (fun x hx => by
        by_cases e : x = n
        · exact List.mem_cons.mpr (.inl e)
        · exact List.mem_cons.mpr (.inr (List.mem_filter.mpr ⟨hx, decide_eq_true e⟩)))
      rw [List.length_cons] at this
      omega
    · have e : l.filter (fun x => decide (x ≠ n)) = l := List.filter_eq_self.mpr fun x hx => decide_eq_true fun z => c (by rw [← z]; exact hx)
      rw [e] at h1
      omega
def DeckOk (b w : Nat) : Prop := (b = 0 ∧ w = 0) ∨ DeckIn b w
theorem rodIn_iff {q b0 w0 b1 w1 b2 w2 : Nat} : RodIn q b0 w0 b1 w1 b2 w2 ↔ (2 ≤ q ∧ q ≤ 20) ∧ (DeckOk b0 w0 ∧ DeckOk b1 w1 ∧ DeckOk b2 w2) ∧ b0 ≠ 0 ∧ (b2 = 0 ∨ 0 < b1) := by
  unfold RodIn DeckOk DeckIn
  omega
def RIn (g : List Nat) : Prop := RodIn (g.getD 0 0) (g.getD 1 0) (g.getD 2 0) (g.getD 3 0) (g.getD 4 0) (g.getD 5 0) (g.getD 6 0)
def bsOf (g : List Nat) : List Nat := [g.getD 1 0, g.getD 3 0, g.getD 5 0]
def mostOf (g : List Nat) : Nat := g.getD 1 0 * g.getD 2 0 + g.getD 3 0 * g.getD 4 0 + g.getD 5 0 * g.getD 6 0
def beOf (g : List Nat) (j : Nat) : Nat := g.getD (1 + 2 * j) 0
def woOf (g : List Nat) (j : Nat) : Nat := g.getD (2 + 2 * j) 0
def waysOf (g : List Nat) (j : Nat) : Ways := wayN (g.getD 0 0) (beOf g) (woOf g) j
def Whole (g : List Nat) : Prop := ∀ d, d < g.getD 0 0 → formIn (waysOf g 3) d ≠ none
def formR (g : List Nat) (d : Nat) : List Nat := pad (formOf (rodOf g) d)
theorem rod_eq {g : List Nat} (h : RIn g) : rodOf g = ⟨g.getD 0 0, decks3 (g.getD 1 0) (g.getD 2 0) (g.getD 3 0) (g.getD 4 0) (g.getD 5 0) (g.getD 6 0)⟩ := rod_is (rodGood_iff.mpr h)
theorem whole_is {g : List Nat} (h : RIn g) : (rodOf g).whole = true ↔ Whole g := by
  rw [rod_eq h, whole_iff]
  unfold Whole
  constructor
  · intro z d hd
    have e := form_some (b := beOf g) (w := woOf g) h ⟨rfl, rfl, rfl⟩ ⟨rfl, rfl, rfl⟩ hd (z d hd)
    intro k
    have k : formIn (wayN (g.getD 0 0) (beOf g) (woOf g) 3) d = none := k
    rw [e] at k
    cases k
  · intro z d hd
    refine Classical.byContradiction fun c => ?_
    exact z d hd (form_none (b := beOf g) (w := woOf g) h ⟨rfl, rfl, rfl⟩ ⟨rfl, rfl, rfl⟩ fun k => c k.2)
theorem form_at {g : List Nat} (h : RIn g) (hw : Whole g) {d : Nat} (hd : d < g.getD 0 0) : formIn (waysOf g 3) d = some (formR g d) := by
  have hz := (whole_is h).mpr hw
  rw [rod_eq h, whole_iff] at hz
  unfold formR
  rw [rod_eq h]
  exact form_some (b := beOf g) (w := woOf g) h ⟨rfl, rfl, rfl⟩ ⟨rfl, rfl, rfl⟩ hd (hz d hd)
theorem form_fits {g : List Nat} (h : RIn g) (hw : Whole g) {d : Nat} (hd : d < g.getD 0 0) : Fits (decks3 (g.getD 1 0) (g.getD 2 0) (g.getD 3 0) (g.getD 4 0) (g.getD 5 0) (g.getD 6 0)) (formOf (rodOf g) d) := by
  have hz := (whole_is h).mpr hw
  rw [rod_eq h, whole_iff] at hz
  have := (form_is (r := ⟨g.getD 0 0, decks3 (g.getD 1 0) (g.getD 2 0) (g.getD 3 0) (g.getD 4 0) (g.getD 5 0) (g.getD 6 0)⟩) (hz d hd)).1
  rw [rod_eq h]
  exact this
theorem wrong2 {g : List Nat} (h : ¬ RIn g) : rodWrong g = 2 := by
  unfold rodWrong
  rw [if_pos]
  exact Bool.eq_false_iff.mpr fun z => h (rodGood_iff.mp z)
theorem most_is {g : List Nat} (h : RIn g) : (rodOf g).most = mostOf g := by
  rw [rod_eq h]
  exact most3 h
theorem wrong3 {g : List Nat} (h : RIn g) (hm : 255 < mostOf g) : rodWrong g = 3 := by
  unfold rodWrong
  rw [if_neg (by rw [rodGood_iff.mpr h]; simp), if_pos (by rw [most_is h]; exact hm)]
theorem wrong4 {g : List Nat} (h : RIn g) (hm : ¬ 255 < mostOf g) (hw : ¬ Whole g) : rodWrong g = 4 := by
  unfold rodWrong
  rw [if_neg (by rw [rodGood_iff.mpr h]; simp), if_neg (by rw [most_is h]; exact hm), if_pos]
  exact Bool.eq_false_iff.mpr fun z => hw ((whole_is h).mp z)
theorem wrong0 {g : List Nat} (h : RIn g) (hm : ¬ 255 < mostOf g) (hw : Whole g) : rodWrong g = 0 := by
  unfold rodWrong
  rw [if_neg (by rw [rodGood_iff.mpr h]; simp), if_neg (by rw [most_is h]; exact hm), if_neg]
  rw [(whole_is h).mpr hw]
  simp
theorem right0 {g : List Nat} (h : rodWrong g = 0) : RIn g ∧ Whole g := by
  by_cases c : RIn g
  · by_cases m : 255 < mostOf g
    · rw [wrong3 c m] at h
      cases h
    · by_cases w : Whole g
      · exact ⟨c, w⟩
      · rw [wrong4 c m w] at h
        cases h
  · rw [wrong2 c] at h
    cases h
def stepsOf (l : List Nat) : List Step := (List.range ((l.length - 3) / 3)).map fun j => (l.getD (3 + 3 * j) 0, l.getD (3 + 3 * j + 1) 0, l.getD (3 + 3 * j + 2) 0)
def key3 (l : List Nat) : List Nat := [l.getD 0 0, l.getD 1 0, l.getD 2 0]
theorem row_parts {l : List Nat} (h : rowGood l = true) : 3 ≤ l.length ∧ l.length % 3 = 0 ∧ l.length ≤ 33 ∧ (groups 3 (l.drop 3)).all moveGood = true := by
  unfold rowGood at h
  simp only [Bool.and_eq_true, decide_eq_true_eq, beq_iff_eq] at h
  exact ⟨h.1, h.2.1, h.2.2.1, h.2.2.2.2.2.2⟩
theorem steps_at {l : List Nat} (h : rowGood l = true) : groups 3 (l.drop 3) = (List.range ((l.length - 3) / 3)).map fun j => ((l.drop 3).drop (3 * j)).take 3 := by
  obtain ⟨h3, hm, _, _⟩ := row_parts h
  rw [Bm.groups_eq (by decide) (by rw [List.length_drop]; omega), List.length_drop]
theorem three {l : List Nat} {j i : Nat} (hi : i < 3) : (((l.drop 3).drop (3 * j)).take 3).getD i 0 = l.getD (3 + 3 * j + i) 0 := by
  rw [Bm.getD_take_drop hi, Bm.getD_drop, Nat.add_assoc]
theorem moves_eq {l : List Nat} (h : rowGood l = true) : (rowRule l).moves = (stepsOf l).map mv := by
  show (groups 3 (l.drop 3)).map moveOf = _
  rw [steps_at h]
  unfold stepsOf
  rw [List.map_map, List.map_map]
  refine List.map_congr_left fun j _ => ?_
  show moveOf (((l.drop 3).drop (3 * j)).take 3) = mv _
  unfold moveOf mv
  rw [three (by decide), three (by decide), three (by decide)]
  rfl
theorem steps_in {l : List Nat} (h : rowGood l = true) : ∀ s ∈ stepsOf l, StepIn s := by
  intro s hs
  obtain ⟨j, hj, rfl⟩ := List.mem_map.mp hs
  obtain ⟨_, _, _, ha⟩ := row_parts h
  rw [steps_at h] at ha
  have q := List.all_eq_true.mp ha _ (List.mem_map.mpr ⟨j, hj, rfl⟩)
  unfold moveGood at q
  rw [three (by decide), three (by decide), three (by decide)] at q
  intro z
  have z : l.getD (3 + 3 * j + 1) 0 = 0 := z
  rw [if_pos z] at q
  simpa using q
def rowFor (rows : List (List Nat)) (op d x : Nat) : Option (List Nat) := rows.find? fun l => key3 l == [op, d, x]
def stepsFor (rows : List (List Nat)) (op d x : Nat) : List Step := ((rowFor rows op d x).map stepsOf).getD []
theorem ruleOf_eq {rows : List (List Nat)} (h : ∀ l ∈ rows, rowGood l = true) (op d x : Nat) : ruleOf (rows.map rowRule) op d x = (stepsFor rows op d x).map mv := by
  unfold ruleOf stepsFor rowFor
  rw [List.find?_map, Option.map_map]
  have e : ((fun (r : Rule) => r.op == op && (r.d == d && r.x == x)) ∘ rowRule) = fun l => key3 l == [op, d, x] := by
    funext l
    show (l.getD 0 0 == op && (l.getD 1 0 == d && l.getD 2 0 == x)) = ([l.getD 0 0, l.getD 1 0, l.getD 2 0] == [op, d, x])
    rw [Bool.eq_iff_iff]
    simp
  rw [e]
  cases e2 : rows.find? fun l => key3 l == [op, d, x] with
  | none => rfl
  | some l => exact moves_eq (h l (List.mem_of_find?_eq_some e2))
theorem stepsFor_in {rows : List (List Nat)} (h : ∀ l ∈ rows, rowGood l = true) (op d x : Nat) : ∀ s ∈ stepsFor rows op d x, StepIn s := by
  unfold stepsFor rowFor
  cases e2 : rows.find? fun l => key3 l == [op, d, x] with
  | none =>
    intro s hs
    simp at hs
  | some l => exact steps_in (h l (List.mem_of_find?_eq_some e2))
theorem from_ok : ∀ (l : List (List Nat)) (i : Nat) (b b' : Book), bookFrom i b l = .ok b' → b' = b ++ l.map rowRule
  | [], i, b, b', e => by
    cases e
    simp
  | r :: l, i, b, b', e => by
    unfold bookFrom at e
    by_cases c : rowGood r = false ∨ b.any (fun (x : Rule) => x.op == (rowRule r).op && (x.d == (rowRule r).d && x.x == (rowRule r).x)) = true
    · rw [if_pos c] at e
      cases e
    · rw [if_neg c] at e
      rw [from_ok l _ _ _ e, List.map_cons, List.append_assoc]
      rfl
theorem nats_ints (l : List Nat) : BkNeutral.nats (BkNeutral.ints l) = l := by
  unfold BkNeutral.nats BkNeutral.ints
  rw [List.map_map]
  exact List.map_id'' (fun _ => rfl) l
theorem ints_nats {l : List Int} (h : ∀ x ∈ l, 0 ≤ x) : BkNeutral.ints (BkNeutral.nats l) = l := by
  unfold BkNeutral.nats BkNeutral.ints
  rw [List.map_map]
  refine (List.map_congr_left fun x hx => ?_).trans (List.map_id l)
  exact Int.toNat_of_nonneg (h x hx)
theorem ints_nn (l : List Nat) : ∀ x ∈ BkNeutral.ints l, 0 ≤ x := by
  intro x hx
  obtain ⟨n, _, rfl⟩ := List.mem_map.mp hx
  exact Int.natCast_nonneg n
theorem rows_ints (rows : List (List Nat)) : BkNeutral.rows (rows.map BkNeutral.ints) = rows := by
  unfold BkNeutral.rows
  rw [List.map_map]
  exact List.map_id'' (fun l => nats_ints l) rows
theorem rows_nn (rows : List (List Nat)) : ∀ ns ∈ rows.map BkNeutral.ints, ∀ x ∈ ns, 0 ≤ x := by
  intro ns hn
  obtain ⟨l, _, rfl⟩ := List.mem_map.mp hn
  exact ints_nn l
theorem book_ok {rows : List (List Nat)} (h : Bm.bad 0 [] (rows.map BkNeutral.ints) = none) : bookOf rows = .ok (rows.map rowRule) := by
  have e := Bm.from_eq (rows.map BkNeutral.ints) 0 [] [] (rows_nn rows) rfl
  rw [h, rows_ints] at e
  unfold bookOf
  cases k : bookFrom 0 [] rows with
  | error f =>
    rw [k] at e
    cases e
  | ok b => rw [from_ok rows 0 [] b k]; rfl
theorem book_bad {rows : List (List Nat)} {i : Nat} (h : Bm.bad 0 [] (rows.map BkNeutral.ints) = some i) : bookOf rows = .error ⟨9, i⟩ := by
  have e := Bm.from_eq (rows.map BkNeutral.ints) 0 [] [] (rows_nn rows) rfl
  rw [h, rows_ints] at e
  unfold bookOf
  cases k : bookFrom 0 [] rows with
  | error f =>
    rw [k] at e
    obtain ⟨r, p⟩ := f
    have e : [(-5 : Int), (r : Int), (p : Int)] = [-5, 9, (i : Int)] := e
    injection e with _ e
    injection e with e1 e
    injection e with e2 e
    have e1 : r = 9 := by omega
    have e2 : p = i := by omega
    rw [e1, e2]
  | ok b =>
    rw [k] at e
    cases e
theorem bad_none : ∀ (l : List (List Int)) (i : Nat) (ks : List (List Int)), Bm.bad i ks l = none → (∀ ns ∈ l, Bm.rowB ns = true) ∧ ∀ j ns, l[j]? = some ns → ¬ Bm.keyOf ns ∈ ks ++ (l.take j).map Bm.keyOf
  | [], _, _, _ => ⟨fun _ h => by simp at h, fun j ns e => by simp at e⟩
  | r :: l, i, ks, h => by
    unfold Bm.bad at h
    by_cases c : Bm.rowB r = false ∨ Bm.keyOf r ∈ ks
    · rw [if_pos c] at h
      cases h
    · rw [if_neg c] at h
      obtain ⟨h1, h2⟩ := bad_none l _ _ h
      refine ⟨fun ns hn => ?_, fun j ns e => ?_⟩
      · rcases List.mem_cons.mp hn with rfl | hn
        · cases k : Bm.rowB ns with
          | true => rfl
          | false => exact absurd (.inl k) c
        · exact h1 ns hn
      · cases j with
        | zero =>
          cases e
          rw [List.take_zero, List.map_nil, List.append_nil]
          exact fun z => c (.inr z)
        | succ j =>
          have := h2 j ns e
          rw [List.take_succ_cons, List.map_cons]
          rwa [List.append_assoc] at this
theorem key_ints (l : List Nat) : Bm.keyOf (BkNeutral.ints l) = BkNeutral.ints (key3 l) := by
  have e : ∀ i, Bm.at0 (BkNeutral.ints l) i = ((l.getD i 0 : Nat) : Int) := fun i => by
    have q := Bm.nats_getD (BkNeutral.ints l) i
    rw [nats_ints] at q
    have := Bm.at0_nn (ints_nn l) i
    omega
  unfold Bm.keyOf
  rw [e, e, e]
  rfl
theorem at_ints (l : List Nat) (i : Nat) : Bm.at0 (BkNeutral.ints l) i = ((l.getD i 0 : Nat) : Int) := by
  have q := Bm.nats_getD (BkNeutral.ints l) i
  rw [nats_ints] at q
  have := Bm.at0_nn (ints_nn l) i
  omega
theorem good_rows {rows : List (List Nat)} (h : Bm.bad 0 [] (rows.map BkNeutral.ints) = none) : (∀ l ∈ rows, rowGood l = true) ∧ ∀ j l, rows[j]? = some l → ∀ l' ∈ rows.take j, key3 l' ≠ key3 l := by
  obtain ⟨h1, h2⟩ := bad_none _ _ _ h
  refine ⟨fun l hl => ?_, fun j l e l' hl' z => ?_⟩
  · have := Bm.row_eq (ints_nn l)
    rw [nats_ints] at this
    rw [this]
    exact h1 _ (List.mem_map.mpr ⟨l, hl, rfl⟩)
  · refine h2 j (BkNeutral.ints l) (by rw [List.getElem?_map, e]; rfl) ?_
    rw [List.nil_append, ← List.map_take, key_ints, ← z]
    exact List.mem_map.mpr ⟨BkNeutral.ints l', List.mem_map.mpr ⟨l', hl', rfl⟩, key_ints l'⟩
def tellF (r p : Nat) : List Int := [-5, (r : Int), (p : Int)]
end Rm
namespace Fo
open Na Sm Rm
theorem total_snoc : ∀ (l : List Nat) (m : Nat), total (l ++ [m]) = total l + m
  | [], m => by simp [total]
  | a :: l, m => by
    have := total_snoc l m
    show a + total (l ++ [m]) = a + total l + m
    omega
theorem below_snoc : ∀ (a b : List Nat) (m : Nat), a.length = b.length → below (a ++ [m]) (b ++ [m]) = below a b
  | [], [], m, _ => by simp [below]
  | x :: a, y :: b, m, h => by
    have := below_snoc a b m (by simpa using h)
    show (decide (x < y) || (x == y && below (a ++ [m]) (b ++ [m]))) = (decide (x < y) || (x == y && below a b))
    rw [this]
  | [], _ :: _, _, h => by simp at h
  | _ :: _, [], _, h => by simp at h
theorem nicer_snoc {a b : List Nat} (m : Nat) (h : a.length = b.length) : nicer (a ++ [m]) (b ++ [m]) = nicer a b := by
  unfold nicer
  rw [total_snoc, total_snoc, below_snoc b a m h.symm]
  congr 1
  · exact decide_eq_decide.mpr (by omega)
  · congr 1
    rw [Bool.eq_iff_iff]
    simp
def at_ (ws : Ways) (d : Nat) : List Push := (ws.filter fun (x : Nat × List Nat) => x.1 == d).map fun (x : Nat × List Nat) => x.2
theorem mem_at {ws : Ways} {d : Nat} {p : Push} : p ∈ at_ ws d ↔ (d, p) ∈ ws := by
  unfold at_
  rw [List.mem_map]
  constructor
  · rintro ⟨⟨c, q⟩, h, rfl⟩
    obtain ⟨h1, h2⟩ := List.mem_filter.mp h
    have e : c = d := by simpa using h2
    rw [← e]
    exact h1
  · intro h
    exact ⟨(d, p), List.mem_filter.mpr ⟨h, by simp⟩, rfl⟩
theorem form_none {ws : Ways} {d : Nat} : formIn ws d = none ↔ ∀ p, (d, p) ∉ ws := by
  constructor
  · intro h p hp
    have hm := mem_at.mpr hp
    have e : formIn ws d = nicest (at_ ws d) := rfl
    rw [e] at h
    unfold nicest at h
    obtain ⟨l1, l2, el⟩ := List.append_of_mem hm
    have : ∀ (l : List Push) (a : Option Push), a ≠ none → l.foldl (fun (a : Option Push) (p : Push) => match a with
      | none => some p
      | some q => if nicer p q = true then some p else some q) a ≠ none := by
      intro l
      induction l with
      | nil => intro a ha; exact ha
      | cons x l ih =>
        intro a ha
        rw [List.foldl_cons]
        refine ih _ ?_
        cases a with
        | none => simp
        | some q => dsimp only; split <;> simp
    rw [el, List.foldl_append, List.foldl_cons] at h
    refine this _ _ ?_ h
    split <;> (try split) <;> simp
  · intro h
    have e : at_ ws d = [] := by
      cases q : at_ ws d with
      | nil => rfl
      | cons p l => exact absurd (mem_at.mp (by rw [q]; exact List.mem_cons_self)) (h p)
    show nicest (at_ ws d) = none
    rw [e]
    rfl
theorem form_some {ws : Ways} {d n : Nat} {p : Push} (hl : ∀ x ∈ ws, x.2.length = n) : formIn ws d = some p ↔ (d, p) ∈ ws ∧ ∀ x, (d, x) ∈ ws → nicer x p = false := by
  have hl' : ∀ x ∈ at_ ws d, x.length = n := fun x hx => hl _ (mem_at.mp hx)
  constructor
  · intro h
    have hne : at_ ws d ≠ [] := fun z => by
      have e : formIn ws d = nicest (at_ ws d) := rfl
      rw [e, z] at h
      cases h
    obtain ⟨q, h1, h2, h3⟩ := nicest_some hl' hne
    have e : formIn ws d = nicest (at_ ws d) := rfl
    rw [e, h1] at h
    cases h
    exact ⟨mem_at.mp h2, fun x hx => h3 x (mem_at.mpr hx)⟩
  · rintro ⟨h1, h2⟩
    exact nicest_is hl' (mem_at.mpr h1) fun x hx => h2 x (mem_at.mp hx)
structure Best (n : Nat) (fl ws : Ways) : Prop where
  len : ∀ x ∈ ws, x.2.length = n
  sub : ∀ x ∈ fl, formIn ws x.1 = some x.2
  all : ∀ d p, formIn ws d = some p → (d, p) ∈ fl
theorem Best.mem {n : Nat} {fl ws : Ways} (h : Best n fl ws) {x : Nat × List Nat} (hx : x ∈ fl) : x ∈ ws := ((form_some h.len).mp (h.sub x hx)).1
theorem step_len {n q b w : Nat} {ws : Ways} (h : ∀ x ∈ ws, x.2.length = n) : ∀ x ∈ wstep q b w ws, x.2.length = n + 1 := fun ⟨c, p⟩ hx => by
  obtain ⟨c0, t0, m, h0, _, _, rfl, _⟩ := mem_wstep.mp hx
  have := h _ h0
  show (t0 ++ [m]).length = n + 1
  rw [List.length_append]
  have e : t0.length = n := this
  rw [e]
  rfl
theorem form_step {n q b w : Nat} {fl ws : Ways} (h : Best n fl ws) (d : Nat) : formIn (wstep q b w fl) d = formIn (wstep q b w ws) d := by
  have hsub : ∀ c p, (c, p) ∈ wstep q b w fl → (c, p) ∈ wstep q b w ws := fun c p hx => by
    obtain ⟨c0, t0, m, h0, r⟩ := mem_wstep.mp hx
    exact mem_wstep.mpr ⟨c0, t0, m, h.mem h0, r⟩
  have l2 := step_len (q := q) (b := b) (w := w) h.len
  have l1 : ∀ x ∈ wstep q b w fl, x.2.length = n + 1 := fun ⟨c, p⟩ hx => l2 _ (hsub c p hx)
  cases e : formIn (wstep q b w ws) d with
  | none => exact form_none.mpr fun p hp => form_none.mp e p (hsub d p hp)
  | some P =>
    obtain ⟨h1, h2⟩ := (form_some l2).mp e
    refine (form_some l1).mpr ⟨?_, fun x hx => h2 x (hsub d x hx)⟩
    obtain ⟨c, p, m, h0, hm, rfl, rfl, hq⟩ := mem_wstep.mp h1
    cases e2 : formIn ws c with
    | none => exact absurd h0 (form_none.mp e2 p)
    | some p' =>
      obtain ⟨k1, k2⟩ := (form_some h.len).mp e2
      by_cases z : p = p'
      · rw [z]
        exact mem_wstep.mpr ⟨c, p', m, h.all c p' e2, hm, rfl, rfl, hq⟩
      · exfalso
        have hlen : p.length = p'.length := (h.len _ h0).trans (h.len _ k1).symm
        rcases nicer_tot hlen z with t | t
        · rw [k2 p h0] at t
          cases t
        · have := h2 (p' ++ [m]) (mem_wstep.mpr ⟨c, p', m, k1, hm, rfl, rfl, hq⟩)
          rw [nicer_snoc m hlen.symm, t] at this
          cases this
end Fo
set_option Elab.async false
namespace Su
open Na Sm Mm Rm
abbrev dk (g : List Nat) : List Deck := decks3 (g.getD 1 0) (g.getD 2 0) (g.getD 3 0) (g.getD 4 0) (g.getD 5 0) (g.getD 6 0)
theorem rod_dk {g : List Nat} (h : RIn g) : (rodOf g).decks = dk g := by rw [rod_eq h]
theorem rod_ratio (g : List Nat) : (rodOf g).ratio = g.getD 0 0 := rfl
structure Std (gs : List (List Nat)) (s : Standing) (ts : List (List Nat)) : Prop where
  len : s.length = gs.length
  len3 : ts.length = gs.length
  at_ : ∀ (i : Nat) (g : List Nat) (p : Push) (t : List Nat), gs[i]? = some g → s[i]? = some p → ts[i]? = some t → Fits (dk g) p ∧ pad p = t
theorem Std.get {gs : List (List Nat)} {s : Standing} {ts : List (List Nat)} (h : Std gs s ts) {i : Nat} {g : List Nat} (hg : gs[i]? = some g) : ∃ p t, s[i]? = some p ∧ ts[i]? = some t ∧ Fits (dk g) p ∧ pad p = t := by
  have hi := (List.getElem?_eq_some_iff.mp hg).1
  have e1 : s[i]? = some (s[i]'(by rw [h.len]; exact hi)) := List.getElem?_eq_getElem _
  have e2 : ts[i]? = some (ts[i]'(by rw [h.len3]; exact hi)) := List.getElem?_eq_getElem _
  exact ⟨_, _, e1, e2, h.at_ i g _ _ hg e1 e2⟩
theorem set_get {α : Type} {l : List α} {i j : Nat} {x y : α} (h : (l.set i x)[j]? = some y) : (j = i ∧ y = x) ∨ (j ≠ i ∧ l[j]? = some y) := by
  by_cases e : j = i
  · subst e
    rw [List.getElem?_set] at h
    simp only [if_true] at h
    split at h
    · exact .inl ⟨rfl, (Option.some.inj h).symm⟩
    · cases h
  · rw [List.getElem?_set_ne (fun z => e z.symm)] at h
    exact .inr ⟨e, h⟩
theorem Std.set {gs : List (List Nat)} {s : Standing} {ts : List (List Nat)} (h : Std gs s ts) {i : Nat} {g : List Nat} (hg : gs[i]? = some g) {p : Push} (hp : Fits (dk g) p) : Std gs (s.set i p) (ts.set i (pad p)) := by
  refine ⟨by rw [List.length_set]; exact h.len, by rw [List.length_set]; exact h.len3, fun j g' p' t' e1 e2 e3 => ?_⟩
  rcases set_get e2 with ⟨rfl, rfl⟩ | ⟨n2, e2⟩
  · rcases set_get e3 with ⟨_, rfl⟩ | ⟨n3, _⟩
    · rw [hg] at e1
      cases e1
      exact ⟨hp, rfl⟩
    · exact absurd rfl n3
  · rcases set_get e3 with ⟨z, _⟩ | ⟨_, e3⟩
    · exact absurd z n2
    · exact h.at_ j g' p' t' e1 e2 e3
def cnt (g t : List Nat) : Nat := w3 (g.getD 2 0) (g.getD 4 0) (g.getD 6 0) t
def InForm (g t : List Nat) : Prop := cnt g t < g.getD 0 0 ∧ t = formR g (cnt g t)
theorem form_iff {g : List Nat} (h : RIn g) (hw : Whole g) {p : Push} (hp : Fits (dk g) p) : (worthOf (rodOf g).decks p < (rodOf g).ratio ∧ p = formOf (rodOf g) (worthOf (rodOf g).decks p)) ↔ InForm g (pad p) := by
  have e : worthOf (rodOf g).decks p = cnt g (pad p) := by
    rw [rod_dk h]
    exact worth_pad h hp
  rw [e, rod_ratio]
  unfold InForm formR
  constructor
  · rintro ⟨h1, h2⟩
    exact ⟨h1, congrArg pad h2⟩
  · rintro ⟨h1, h2⟩
    exact ⟨h1, pad_inj h hp (form_fits h hw h1) h2⟩
def Rods (gs : List (List Nat)) : Prop := ∀ g ∈ gs, RIn g ∧ Whole g
theorem formed_iff {gs : List (List Nat)} (hg : Rods gs) {s : Standing} {ts : List (List Nat)} (h : Std gs s ts) : formed (gs.map rodOf) s = true ↔ ∀ (i : Nat) (g t : List Nat), gs[i]? = some g → ts[i]? = some t → InForm g t := by
  unfold formed
  rw [Bool.and_eq_true, List.length_map]
  have hl : (s.length == gs.length) = true := by simpa using h.len
  rw [hl, List.all_eq_true]
  simp only [true_and]
  constructor
  · intro z i g t e1 e2
    obtain ⟨p, t', e3, e4, hp, rfl⟩ := h.get e1
    rw [e4] at e2
    cases e2
    have hm : (rodOf g, p) ∈ List.zip (gs.map rodOf) s := by
      refine List.mem_of_getElem? (i := i) ?_
      rw [List.getElem?_zip_eq_some]
      exact ⟨by rw [List.getElem?_map, e1]; rfl, e3⟩
    have q := z _ hm
    simp only [Bool.and_eq_true, decide_eq_true_eq, beq_iff_eq] at q
    obtain ⟨r1, r2⟩ := hg g (List.mem_of_getElem? e1)
    exact (form_iff r1 r2 hp).mp q
  · rintro z ⟨r, p⟩ hm
    obtain ⟨i, hi⟩ := List.getElem?_of_mem hm
    rw [List.getElem?_zip_eq_some] at hi
    obtain ⟨h1, h2⟩ := hi
    rw [List.getElem?_map] at h1
    cases e1 : gs[i]? with
    | none =>
      rw [e1] at h1
      cases h1
    | some g =>
      rw [e1] at h1
      have h1 : rodOf g = r := Option.some.inj h1
      subst h1
      obtain ⟨p', t', e3, e4, hp, e5⟩ := h.get e1
      rw [show s[i]? = some p from h2] at e3
      cases e3
      obtain ⟨r1, r2⟩ := hg g (List.mem_of_getElem? e1)
      have q := (form_iff r1 r2 hp).mpr (by rw [e5]; exact z i g t' e1 e4)
      simp only [Bool.and_eq_true, decide_eq_true_eq, beq_iff_eq]
      exact q
theorem shown_some {gs : List (List Nat)} (hg : Rods gs) {s : Standing} {ts : List (List Nat)} (h : Std gs s ts) {i : Nat} {g t : List Nat} (e1 : gs[i]? = some g) (e2 : ts[i]? = some t) (hf : InForm g t) : shownAt (gs.map rodOf) s i = some (cnt g t) := by
  obtain ⟨p, t', e3, e4, hp, rfl⟩ := h.get e1
  rw [e4] at e2
  cases e2
  obtain ⟨r1, r2⟩ := hg g (List.mem_of_getElem? e1)
  unfold shownAt
  rw [List.getElem?_map, e1, e3]
  dsimp only [Option.map_some]
  rw [if_pos ((form_iff r1 r2 hp).mpr hf), rod_dk r1]
  congr 1
  exact worth_pad r1 hp
theorem shown_none {gs : List (List Nat)} (hg : Rods gs) {s : Standing} {ts : List (List Nat)} (h : Std gs s ts) {i : Nat} {g t : List Nat} (e1 : gs[i]? = some g) (e2 : ts[i]? = some t) (hf : ¬ InForm g t) : shownAt (gs.map rodOf) s i = none := by
  obtain ⟨p, t', e3, e4, hp, rfl⟩ := h.get e1
  rw [e4] at e2
  cases e2
  obtain ⟨r1, r2⟩ := hg g (List.mem_of_getElem? e1)
  unfold shownAt
  rw [List.getElem?_map, e1, e3]
  dsimp only [Option.map_some]
  rw [if_neg (fun z => hf ((form_iff r1 r2 hp).mp z))]
theorem acted_no {gs ss : List (List Nat)} {o : Nat} {s : Standing} {i k n k2 : Nat} (e : ss[k]? = none) : acted (gs.map rodOf) ⟨o, ss.map strokeOf⟩ s ⟨i, k, n, k2⟩ = none := by
  unfold acted
  dsimp only
  rw [List.getElem?_map (f := strokeOf), e]
  split
  · rename_i z
    cases z
  · rfl
theorem acted_is {gs ss : List (List Nat)} {o : Nat} (hg : Rods gs) (hs : ∀ s ∈ ss, SIn s) {s : Standing} {ts : List (List Nat)} (h : Std gs s ts) {i k n k2 : Nat} {g t st : List Nat} (e1 : gs[i]? = some g) (e2 : ts[i]? = some t) (e3 : ss[k]? = some st) :
    (stroke3 (bsOf g) t st n k2 = none → acted (gs.map rodOf) ⟨o, ss.map strokeOf⟩ s ⟨i, k, n, k2⟩ = none) ∧
    ∀ u, stroke3 (bsOf g) t st n k2 = some u → ∃ s', acted (gs.map rodOf) ⟨o, ss.map strokeOf⟩ s ⟨i, k, n, k2⟩ = some s' ∧ Std gs s' (ts.set i u) := by
  obtain ⟨p, t', e4, e5, hp, rfl⟩ := h.get e1
  rw [e5] at e2
  cases e2
  obtain ⟨r1, _⟩ := hg g (List.mem_of_getElem? e1)
  have ea : acted (gs.map rodOf) ⟨o, ss.map strokeOf⟩ s ⟨i, k, n, k2⟩ = (strokeOn (dk g) (strokeOf st) n k2 p).map fun (q : Push) => s.set i q := by
    unfold acted
    dsimp only
    rw [List.getElem?_map, List.getElem?_map, e1, e3, e4]
    dsimp only [Option.map_some]
    rw [rod_dk r1]
  have es := stroke_pad r1 hp (hs st (List.mem_of_getElem? e3)) n k2
  have es : stroke3 (bsOf g) (pad p) st n k2 = (strokeOn (dk g) (strokeOf st) n k2 p).map pad := es
  rw [ea, es]
  cases e6 : strokeOn (dk g) (strokeOf st) n k2 p with
  | none => exact ⟨fun _ => rfl, fun u z => by cases z⟩
  | some q =>
    refine ⟨fun z => (by cases z), fun u z => ?_⟩
    cases z
    exact ⟨_, rfl, h.set e1 (stroke_fits hp e6)⟩
theorem there_at {gs : List (List Nat)} (hg : Rods gs) {k : Nat} {g : List Nat} (e : gs[k / 3]? = some g) : thereAt (gs.map rodOf) k = beOf g (k % 3) := by
  obtain ⟨r1, _⟩ := hg g (List.mem_of_getElem? e)
  unfold thereAt
  rw [List.getElem?_map, e]
  dsimp only [Option.map_some, Option.bind_some]
  rw [rod_dk r1]
  have hm : k % 3 = 0 ∨ k % 3 = 1 ∨ k % 3 = 2 := by omega
  unfold beOf
  rcases decks_cases r1 with ⟨z1, _, z2, _, z⟩ | ⟨_, z2, _, z⟩ | ⟨_, _, z⟩ <;> rw [show dk g = _ from z] <;> rcases hm with m | m | m <;> rw [m] <;> first | rfl | exact z1.symm | exact z2.symm
theorem standing_len {gs : List (List Nat)} {l : List Nat} (h : l.length ≠ 3 * gs.length) : standingOf (gs.map rodOf) l = .error ⟨5, l.length⟩ := by
  unfold standingOf
  rw [if_pos (by rw [List.length_map]; exact h)]
theorem standing_bad {gs : List (List Nat)} {l : List Nat} {k : Nat} (h : l.length = 3 * gs.length) (hk : k < l.length) (hb : thereAt (gs.map rodOf) k < l.getD k 0) (hg : ∀ j, j < k → ¬ thereAt (gs.map rodOf) j < l.getD j 0) : standingOf (gs.map rodOf) l = .error ⟨5, k⟩ := by
  unfold standingOf
  rw [if_neg (by rw [List.length_map]; omega)]
  have e : (List.range l.length).find? (fun (k : Nat) => decide (thereAt (gs.map rodOf) k < l.getD k 0)) = some k := by
    rw [List.find?_range_eq_some]
    refine ⟨decide_eq_true hb, List.mem_range.mpr hk, fun j hj => ?_⟩
    rw [decide_eq_false (hg j hj)]
    rfl
  rw [e]
theorem fits_three {g : List Nat} (h : RIn g) {x y z : Nat} (hx : x ≤ g.getD 1 0) (hy : y ≤ g.getD 3 0) (hz : z ≤ g.getD 5 0) : Fits (dk g) ([x, y, z].take (dk g).length) ∧ pad ([x, y, z].take (dk g).length) = [x, y, z] := by
  rcases decks_cases h with ⟨z1, _, z2, _, e⟩ | ⟨_, z2, _, e⟩ | ⟨_, _, e⟩ <;> rw [show dk g = _ from e]
  · have : y = 0 := by omega
    have : z = 0 := by omega
    subst y z
    exact ⟨fits1.mpr ⟨x, rfl, hx⟩, rfl⟩
  · have : z = 0 := by omega
    subst z
    exact ⟨fits2.mpr ⟨x, y, rfl, hx, hy⟩, rfl⟩
  · exact ⟨fits3.mpr ⟨x, y, z, rfl, hx, hy, hz⟩, rfl⟩
def three3 (l : List Nat) (i : Nat) : List Nat := [l.getD (3 * i) 0, l.getD (3 * i + 1) 0, l.getD (3 * i + 2) 0]
theorem standing_ok {gs : List (List Nat)} (hR : Rods gs) {l : List Nat} (h : l.length = 3 * gs.length) (hg : ∀ j, j < l.length → ¬ thereAt (gs.map rodOf) j < l.getD j 0) : ∃ s, standingOf (gs.map rodOf) l = .ok s ∧ Std gs s ((List.range gs.length).map (three3 l)) := by
  unfold standingOf
  rw [if_neg (by rw [List.length_map]; omega)]
  have e : (List.range l.length).find? (fun (k : Nat) => decide (thereAt (gs.map rodOf) k < l.getD k 0)) = none := by
    rw [List.find?_eq_none]
    intro j hj z
    exact hg j (List.mem_range.mp hj) (of_decide_eq_true z)
  rw [e]
  refine ⟨_, rfl, by simp, by simp, fun i g p t e1 e2 e3 => ?_⟩
  have hi := (List.getElem?_eq_some_iff.mp e1).1
  obtain ⟨r1, _⟩ := hR g (List.mem_of_getElem? e1)
  rw [List.getElem?_map, List.getElem?_zipIdx, List.getElem?_map, e1] at e2
  rw [List.getElem?_map, List.getElem?_range hi] at e3
  have e3 : three3 l i = t := Option.some.inj e3
  have e2 := Option.some.inj e2
  dsimp only at e2
  rw [Nat.zero_add, rod_dk r1] at e2
  have t0 := hg (3 * i) (by omega)
  have t1 := hg (3 * i + 1) (by omega)
  have t2 := hg (3 * i + 2) (by omega)
  rw [there_at hR (g := g) (by rw [show 3 * i / 3 = i by omega]; exact e1), show 3 * i % 3 = 0 by omega] at t0
  rw [there_at hR (g := g) (by rw [show (3 * i + 1) / 3 = i by omega]; exact e1), show (3 * i + 1) % 3 = 1 by omega] at t1
  rw [there_at hR (g := g) (by rw [show (3 * i + 2) / 3 = i by omega]; exact e1), show (3 * i + 2) % 3 = 2 by omega] at t2
  have t0 : ¬ g.getD 1 0 < l.getD (3 * i) 0 := t0
  have t1 : ¬ g.getD 3 0 < l.getD (3 * i + 1) 0 := t1
  have t2 : ¬ g.getD 5 0 < l.getD (3 * i + 2) 0 := t2
  obtain ⟨f1, f2⟩ := fits_three r1 (x := l.getD (3 * i) 0) (y := l.getD (3 * i + 1) 0) (z := l.getD (3 * i + 2) 0) (by omega) (by omega) (by omega)
  have ep : p = (three3 l i).take (dk g).length := by
    rw [← e2]
    unfold three3
    rcases decks_cases r1 with ⟨_, _, _, _, z⟩ | ⟨_, _, _, z⟩ | ⟨_, _, z⟩ <;> rw [show dk g = _ from z] <;> rfl
  rw [ep, ← e3]
  exact ⟨f1, f2⟩
theorem numbers_pad : ∀ {gs : List (List Nat)} {s : Standing} {ts : List (List Nat)}, Std gs s ts → standingNumbers s = ts.flatten
  | [], [], [], _ => rfl
  | g :: gs, p :: s, t :: ts, h => by
    have h0 := h.at_ 0 g p t rfl rfl rfl
    have ih := numbers_pad (gs := gs) (s := s) (ts := ts) ⟨by simpa using h.len, by simpa using h.len3, fun i g' p' t' e1 e2 e3 => h.at_ (i + 1) g' p' t' e1 e2 e3⟩
    show ((List.range 3).map fun (j : Nat) => p.getD j 0) ++ standingNumbers s = t ++ ts.flatten
    rw [ih, ← h0.2]
    rfl
  | [], _ :: _, _, h => by have := h.len; simp at this
  | _ :: _, [], _, h => by have := h.len; simp at this
  | [], [], _ :: _, h => by have := h.len3; simp at this
  | _ :: _, _ :: _, [], h => by have := h.len3; simp at this
end Su
set_option Elab.async false
namespace An
open Na Sm Mm Rm Su
section
variable {op order h v : Nat} {m hd st : List Nat} {rows : List (List Nat)}
abbrev sumI (op order h v : Nat) (m hd st : List Nat) (rows : List (List Nat)) : List Int := PyYqacca.sum_of op order h v (BkNeutral.ints m) (BkNeutral.ints hd) (BkNeutral.ints st) (rows.map BkNeutral.ints)
theorem sum_is : sumI op order h v m hd st rows = BkNeutral.told (Bk.answer (.sum op order h v m hd st rows)) := by
  show BkNeutral.told (Bk.answer (.sum ((op : Int).toNat) ((order : Int).toNat) ((h : Int).toNat) ((v : Int).toNat) (BkNeutral.nats (BkNeutral.ints m)) (BkNeutral.nats (BkNeutral.ints hd)) (BkNeutral.nats (BkNeutral.ints st)) (BkNeutral.rows (rows.map BkNeutral.ints)))) = _
  rw [nats_ints, nats_ints, nats_ints, rows_ints, Int.toNat_natCast, Int.toNat_natCast, Int.toNat_natCast, Int.toNat_natCast]
theorem sum_make {e : Fault} (h1 : makeOf m = .error e) : sumI op order h v m hd st rows = tellF e.rule e.place := by
  rw [sum_is]
  unfold Bk.answer Bk.both
  dsimp only
  rw [h1]
  rfl
theorem sum_hand {x : Make} {e : Fault} (h1 : makeOf m = .ok x) (h2 : handOf hd = .error e) : sumI op order h v m hd st rows = tellF e.rule e.place := by
  rw [sum_is]
  unfold Bk.answer Bk.both
  dsimp only
  rw [h1, h2]
  rfl
theorem sum_standing {x : Make} {y : Hand} {e : Fault} (h1 : makeOf m = .ok x) (h2 : handOf hd = .ok y) (h3 : standingOf x st = .error e) : sumI op order h v m hd st rows = tellF e.rule e.place := by
  rw [sum_is]
  unfold Bk.answer Bk.both
  dsimp only
  rw [h1, h2]
  dsimp only
  rw [h3]
  rfl
theorem sum_book {x : Make} {y : Hand} {u : Standing} {e : Fault} (h1 : makeOf m = .ok x) (h2 : handOf hd = .ok y) (h3 : standingOf x st = .ok u) (h4 : bookOf rows = .error e) : sumI op order h v m hd st rows = tellF e.rule e.place := by
  rw [sum_is]
  unfold Bk.answer Bk.both Bk.withBook
  dsimp only
  rw [h1, h2]
  dsimp only
  rw [h3, h4]
  rfl
theorem sum_whole {x : Make} {y : Hand} {u : Standing} {b : Book} (h1 : makeOf m = .ok x) (h2 : handOf hd = .ok y) (h3 : standingOf x st = .ok u) (h4 : bookOf rows = .ok b) : sumI op order h v m hd st rows = BkNeutral.told (if x.length ≤ h ∨ 1 < op ∨ 1 < order then Bk.no 1 else if span x ≤ v then Bk.no 4 else if formed x u = false then Bk.no 3 else match sumBy x y b op order u v with
      | .error e => Bk.failed e
      | .ok (t, l) => .nums (costs y h l :: (standingNumbers t ++ l.flatMap actNumbers))) := by
  rw [sum_is]
  unfold Bk.answer Bk.both Bk.withBook
  dsimp only
  rw [h1, h2]
  dsimp only
  rw [h3, h4]
  rfl
theorem sum_no1 {x : Make} {y : Hand} {u : Standing} {b : Book} (h1 : makeOf m = .ok x) (h2 : handOf hd = .ok y) (h3 : standingOf x st = .ok u) (h4 : bookOf rows = .ok b) (h5 : x.length ≤ h ∨ 1 < op ∨ 1 < order) : sumI op order h v m hd st rows = [-1] := by
  rw [sum_whole h1 h2 h3 h4, if_pos h5]
  rfl
theorem sum_no4 {x : Make} {y : Hand} {u : Standing} {b : Book} (h1 : makeOf m = .ok x) (h2 : handOf hd = .ok y) (h3 : standingOf x st = .ok u) (h4 : bookOf rows = .ok b) (h5 : ¬ (x.length ≤ h ∨ 1 < op ∨ 1 < order)) (h6 : span x ≤ v) : sumI op order h v m hd st rows = [-4] := by
  rw [sum_whole h1 h2 h3 h4, if_neg h5, if_pos h6]
  rfl
theorem sum_no3 {x : Make} {y : Hand} {u : Standing} {b : Book} (h1 : makeOf m = .ok x) (h2 : handOf hd = .ok y) (h3 : standingOf x st = .ok u) (h4 : bookOf rows = .ok b) (h5 : ¬ (x.length ≤ h ∨ 1 < op ∨ 1 < order)) (h6 : ¬ span x ≤ v) (h7 : formed x u = false) : sumI op order h v m hd st rows = [-3] := by
  rw [sum_whole h1 h2 h3 h4, if_neg h5, if_neg h6, if_pos h7]
  rfl
def failN : Fail → Int
  | .wrong => -9
  | .over => -6
  | .long => -8
theorem sum_fail {x : Make} {y : Hand} {u : Standing} {b : Book} {e : Fail} (h1 : makeOf m = .ok x) (h2 : handOf hd = .ok y) (h3 : standingOf x st = .ok u) (h4 : bookOf rows = .ok b) (h5 : ¬ (x.length ≤ h ∨ 1 < op ∨ 1 < order)) (h6 : ¬ span x ≤ v) (h7 : ¬ formed x u = false) (h8 : sumBy x y b op order u v = .error e) : sumI op order h v m hd st rows = [failN e] := by
  rw [sum_whole h1 h2 h3 h4, if_neg h5, if_neg h6, if_neg h7, h8]
  cases e <;> rfl
theorem sum_ok {x : Make} {y : Hand} {u t : Standing} {b : Book} {l : List Act} (h1 : makeOf m = .ok x) (h2 : handOf hd = .ok y) (h3 : standingOf x st = .ok u) (h4 : bookOf rows = .ok b) (h5 : ¬ (x.length ≤ h ∨ 1 < op ∨ 1 < order)) (h6 : ¬ span x ≤ v) (h7 : ¬ formed x u = false) (h8 : sumBy x y b op order u v = .ok (t, l)) :
    sumI op order h v m hd st rows = 0 :: BkNeutral.ints (costs y h l :: (standingNumbers t ++ l.flatMap actNumbers)) := by
  rw [sum_whole h1 h2 h3 h4, if_neg h5, if_neg h6, if_neg h7, h8]
  rfl
end
section
variable {i w : Nat} {m hd : List Nat}
end
def lastRod (r : Nat) (l : List Act) : Nat := (l.getLast?.map fun a => a.rod).getD r
theorem lastRod_snoc (r : Nat) (l : List Act) (a : Act) : lastRod r (l ++ [a]) = a.rod := by
  unfold lastRod
  simp
theorem costs_snoc (h : Hand) (a : Act) : ∀ (l : List Act) (r : Nat), costs h r (l ++ [a]) = costs h r l + costOf h (lastRod r l) a
  | [], r => by simp [costs, lastRod]
  | b :: l, r => by
    have ih := costs_snoc h a l b.rod
    have e : lastRod b.rod l = lastRod r (b :: l) := by
      unfold lastRod
      cases l with
      | nil => rfl
      | cons c l =>
        rw [List.getLast?_cons_cons, List.getLast?_cons]
        rfl
    rw [List.cons_append, costs, ih, costs, e, Nat.add_assoc]
theorem span_map (gs : List (List Nat)) : span (gs.map rodOf) = gs.foldr (fun g n => g.getD 0 0 * n) 1 := by
  unfold span
  rw [List.foldr_map]
  rfl
theorem span_take (gs : List (List Nat)) {i : Nat} {g : List Nat} (h : gs[i]? = some g) : span ((gs.take (i + 1)).map rodOf) = span ((gs.take i).map rodOf) * g.getD 0 0 := by
  have e : ∀ (l : List (List Nat)) (n : Nat), l.foldr (fun g n => g.getD 0 0 * n) n = l.foldr (fun g n => g.getD 0 0 * n) 1 * n := by
    intro l n
    induction l with
    | nil => simp
    | cons a l ih => rw [List.foldr_cons, List.foldr_cons, ih, Nat.mul_assoc]
  obtain ⟨hi, eg⟩ := List.getElem?_eq_some_iff.mp h
  rw [span_map, span_map, List.take_add_one, h]
  show (gs.take i ++ [g]).foldr _ 1 = _
  rw [List.foldr_append, e]
  simp
def restAt (gs : List (List Nat)) (v : Nat) : Nat → Nat
  | 0 => v
  | i + 1 => restAt gs v i / (gs.getD i []).getD 0 0
theorem digits_at : ∀ (gs : List (List Nat)) (v i : Nat) (g : List Nat), gs[i]? = some g → (digits (gs.map rodOf) v)[i]? = some (restAt gs v i % g.getD 0 0)
  | [], v, i, g, h => by simp at h
  | a :: gs, v, 0, g, h => by
    cases h
    rfl
  | a :: gs, v, i + 1, g, h => by
    have ih := digits_at gs (v / a.getD 0 0) i g h
    have e : ∀ i, restAt (a :: gs) v (i + 1) = restAt gs (v / a.getD 0 0) i := fun i => by
      induction i with
      | zero => rfl
      | succ i ih2 =>
        show restAt (a :: gs) v (i + 1) / ((a :: gs).getD (i + 1) []).getD 0 0 = restAt gs (v / a.getD 0 0) i / (gs.getD i []).getD 0 0
        rw [ih2]
        rfl
    rw [e]
    exact ih
theorem digits_len : ∀ (gs : List (List Nat)) (v : Nat), (digits (gs.map rodOf) v).length = gs.length
  | [], _ => rfl
  | a :: gs, v => by
    show (digits (gs.map rodOf) (v / (rodOf a).ratio)).length + 1 = gs.length + 1
    rw [digits_len gs]
end An
set_option Elab.async false
set_option maxRecDepth 100000
set_option maxHeartbeats 2000000
namespace Com
open PySem PySem.Spec PyProof.Rows L2
open PySem.W (WData)
theorem andR {p r : Bool} {Q : VK} {H : Hp} {T : Prop} (k : Q (.bl (p && r)) H) (h1 : p = true → Q (.bl r) H → T) : if p = true then T else Q (.bl false) H := by
  cases p with
  | true => exact iteT (h1 rfl k)
  | false => exact iteF k
theorem bt_len : bootBuiltins "len" = some (.builtin "len") := by decide +kernel
theorem bt_abs : bootBuiltins "abs" = some (.builtin "abs") := by decide +kernel
theorem bt_min : bootBuiltins "min" = some (.builtin "min") := by decide +kernel
theorem bt_sum : bootBuiltins "sum" = some (.builtin "sum") := by decide +kernel
theorem bt_all : bootBuiltins "all" = some (.builtin "all") := by decide +kernel
theorem bt_list : bootBuiltins "list" = some (.type "list") := by decide +kernel
theorem bt_tuple : bootBuiltins "tuple" = some (.type "tuple") := by decide +kernel
abbrev IntG (mg : Str → Option Value) (x : Str) (i : Int) : Prop := ∃ t, mg x = some (.int i t)
theorem pe_gi {X : Cx} {x : Str} {i : Int} {pos : Pos} (hg : Gl X x) (h : IntG X.mg x i) (hd : (x == ("__debug__" : Str)) = false := by decide) : PE X (.Name x pos) (tC (.int i)) := by
  obtain ⟨t, ht⟩ := h
  exact pe_glob hg ht ⟨t, rfl⟩ hd
abbrev TupG (K : PySem.W.Frag) (mg : Str → Option Value) (x : Str) (vs : List V) : Prop := ∃ a, mg x = some (.ref a) ∧ ∀ H : Hp, SqT K H a vs
theorem pe_gt {X : Cx} {x : Str} {vs : List V} {pos : Pos} (hg : Gl X x) (h : TupG X.K X.mg x vs) (hd : (x == ("__debug__" : Str)) = false := by decide) : PE X (.Name x pos) (fun _ H Q => ∀ a, SqT X.K H a vs → Q (.ref a) H) := by
  obtain ⟨a, ha, hs⟩ := h
  intro pins s σ H Q I q
  exact pe_glob (v := .ref a) hg ha rfl hd pins s σ H Q I (q a (hs H))
theorem get_list {X : Cx} : PGet X (rIxL X.K) := by
  intro pins s σ H x y v u Q I rx ry h
  obtain ⟨p, xs, i, z, rfl, rfl, hq, he, q⟩ := h
  cases rx
  obtain ⟨t, rfl⟩ := ry
  obtain ⟨its, r, pl, hz⟩ := I.list hq
  obtain ⟨j, h1, h2, h3, h4, h5⟩ := atI_get he
  obtain ⟨w, ew, rw'⟩ := r.get h2
  have hl := r.length
  have hn := line63
  have fin : EP X pins σ Q w s := ⟨z, H, I, rw', q⟩
  by_cases h0 : 0 ≤ i
  · have hj : i.toNat = j := by
      rw [seqIndex_of h0 h5] at h1
      exact Option.some.inj h1
    exact wpAny_getItem_list pl.isList h0 (by omega) (by rw [hj]; simpa using ew) fin
  · have hj : (i + (its.toArray.size : Int)).toNat = j := by
      rw [seqIndex_neg (by omega) h4] at h1
      rw [List.size_toArray, ← hl]
      exact Option.some.inj h1
    exact wpAny_getItem_list_neg pl.isList (by omega) (by rw [List.size_toArray] <;> omega) (by omega) (by rw [hj]; simpa using ew) fin
section
variable {X : Cx} (K : PySem.W.Frag)
def rLen : List V → Hp → VK → Prop := fun xs H Q => ∃ p ys, xs = [.ref p] ∧ (SqL K H p ys ∨ SqT K H p ys) ∧ Q (.int ys.length) H
def rListOf : List V → Hp → VK → Prop := fun xs H Q => ∃ p ys, xs = [.ref p] ∧ (SqL K H p ys ∨ SqT K H p ys) ∧ ∀ l, H l = none → Q (.ref l) (upd H l (.lst ys))
def rTupOf : List V → Hp → VK → Prop := fun xs H Q => ∃ p ys, xs = [.ref p] ∧ ((SqL K H p ys ∧ ∀ l, H l = none → Q (.ref l) (upd H l (.tup ys))) ∨ (SqT K H p ys ∧ Q (.ref p) H))
theorem ix_l (e : X.K = K := by rfl) : IxR X (rIxL K) := by subst e; exact ix_list
theorem ix_t (e : X.K = K := by rfl) : IxR X (rIxT K) := by subst e; exact ix_tup
theorem sl_l (e : X.K = K := by rfl) : SlR X (rSlL K) := by subst e; exact sl_list
theorem len_s (e : X.K = K := by rfl) : CallR X (.builtin "len") (rLen K) := by subst e; exact call_len_seq
theorem list_o (e : X.K = K := by rfl) : CallR X (.type "list") (rListOf K) := by subst e; exact call_list_of
theorem tup_o (e : X.K = K := by rfl) : CallR X (.type "tuple") (rTupOf K) := by subst e; exact call_tuple_of
theorem sum_l (hc : X.calm = true) (e : X.K = K := by rfl) : CallR X (.builtin "sum") (rSum K) := by subst e; exact cr_sum hc
theorem all_l (hc : X.calm = true) (e : X.K = K := by rfl) : CallR X (.builtin "all") (rAll K) := by subst e; exact cr_all hc
theorem eq_d (hu : X.A.units + 64 < cLine) (e : X.K = K := by rfl) : OpR X (compareOp .Eq) (rEqD K) := by subst e; exact op_eqD hu
end
structure DefAt (K : PySem.W.Frag) (mg : Str → Option Value) (x : Str) (st : Stmt) (ps : List Str) (f : Addr) (fd : FuncData) : Prop where
  fn : Fun K x x st f fd
  mg : mg x = some (.ref f)
  ba : ∀ us : List Value, us.length = ps.length → bindArgs fd ⟨us, []⟩ = pure (ps.zip us)
theorem DefAt.bd {K : PySem.W.Frag} {mg : Str → Option Value} {x : Str} {st : Stmt} {ps : List Str} {f : Addr} {fd : FuncData} (D : DefAt K mg x st ps f fd) : Binds K fd ps [] := .all D.ba
theorem DefAt.mk' {K : PySem.W.Frag} {mg : Str → Option Value} {h : Heap} {x : Str} {st : Stmt} {ps : List Str} {f : Addr} {oc : Value} {od an : Option Addr} {osl : Array (Option Value)} {kV doc pm cdv ct : Value} (X : K.In h) (G : h.Ns mainGlobals mg)
    (a : PySem.W.nsIn K mainGlobals x = some (some (.ref f))) (l : K.lookup f = some ⟨oc, od, .func (PySem.W.fnOf x x (defArgs st) (defBody st) (defScope st) .none kV doc pm an cdv ct), osl⟩) (c : PySem.W.codeIn K cdv x = true) (k : PySem.W.keepIn K (.ref f) = true)
    (b : ∀ (kV doc pm : Value) (an : Option Addr) (cdv ct : Value) (us : List Value), us.length = ps.length → bindArgs (PySem.W.fnOf x x (defArgs st) (defBody st) (defScope st) .none kV doc pm an cdv ct) ⟨us, []⟩ = pure (ps.zip us)) :
    ∃ f fd, DefAt K mg x st ps f fd := by
  have F := fun_mk (st := st) l c k
  exact ⟨f, _, F, PySem.W.mg_of X G a, b kV doc pm an cdv ct⟩
structure Callee (P : Program) (w : World) (K : PySem.W.Frag) (mg : Str → Option Value) (base : Heap) (k : Nat) (x : Str) (ps : List Str) (sp : Sp) : Prop where
  ex : ∃ (f : Addr) (fd : FuncData), FnOk P w K mg base CX0 k f fd ps sp ∧ mg x = some (.ref f) ∧ PySem.W.keepIn K (.ref f) = true ∧ Binds K fd ps []
theorem Callee.of {P : Program} {w : World} {K : PySem.W.Frag} {mg : Str → Option Value} {base : Heap} {k : Nat} {x : Str} {st : Stmt} {ps : List Str} {sp : Sp} (D : ∃ f fd, DefAt K mg x st ps f fd) (h : ∀ f fd, DefAt K mg x st ps f fd → FnOk P w K mg base CX0 k f fd ps sp) : Callee P w K mg base k x ps sp := by
  obtain ⟨f, fd, D⟩ := D
  exact ⟨f, fd, h f fd D, D.mg, D.fn.kp, D.bd⟩
theorem pe_c {X : Cx} {k j : Nat} {x : Str} {ps : List Str} {sp : Sp} {p pos : Pos} {e : Expr} {es : List Expr} {t : TA} (C : Callee X.prog X.w X.K X.mg X.base k x ps sp) (hr : Room j X.A) (hk : k ≤ j) (hg : Gl X x) (ha : PA X (e :: es) t)
    (hdb : (x == ("__debug__" : Str)) = false := by decide) (he : starEach (e :: es) X.env = (false, eval e X.env) :: starEach es X.env := by rfl) (hpl : (backTo pos (starEach es X.env)).any (·.1) = false := by rfl) :
    PE X (.Call (.Name x p) (e :: es) [] pos) (tCall sp [] E0 t) := by
  obtain ⟨f, fd, F, hm, kp, b⟩ := C.ex
  exact pe_call F (hr.mono hk) hg hm kp b .nil pass0 ha hdb he hpl
def at0 (ns : List Int) (i : Nat) : Int := ns.getD i 0
theorem ints_get {ns : List Int} {j : Nat} (h : j < ns.length) : (ns.map V.int)[j]? = some (.int (at0 ns j)) := by
  rw [List.getElem?_map, List.getElem?_eq_getElem h]
  unfold at0
  rw [List.getD_eq_getElem?_getD, List.getElem?_eq_getElem h]
  rfl
theorem ints_at {ns : List Int} {j : Nat} {z : Int} (h : j < ns.length) (e : z = (j : Int) := by omega) : atI (ns.map V.int) z = some (.int (at0 ns j)) := by
  subst e
  exact atI_nat (ints_get h)
theorem map_at {α : Type} {g : α → V} {l : List α} {i : Nat} {y : V} (h : (l.map g)[i]? = some y) : ∃ c, l[i]? = some c ∧ y = g c := by
  rw [List.getElem?_map] at h
  cases e : l[i]? with
  | none =>
    rw [e] at h
    cases h
  | some c =>
    rw [e] at h
    exact ⟨c, rfl, (Option.some.inj h).symm⟩
theorem take_snoc {α : Type} {l : List α} {i : Nat} {x : α} (h : l[i]? = some x) : l.take (i + 1) = l.take i ++ [x] := by
  obtain ⟨hi, e⟩ := List.getElem?_eq_some_iff.mp h
  rw [List.take_add_one, h]
  rfl
theorem Same.new {H H' : Hp} {p : Addr} {o : HO} (s : Same H H') (n : H' p = none) : Same H (upd H' p o) := fun b u e => by
  rw [upd_ne (ne_of_none (s b u e) n)]
  exact s b u e
theorem Same.put {H H' : Hp} {p : Addr} {o : HO} (s : Same H H') (n : H p = none) : Same H (upd H' p o) := fun b u e => by
  rw [upd_ne (ne_of_none e n)]
  exact s b u e
theorem for_enum {K : PySem.W.Frag} {a : Addr} {xs : List V} {g : TG} {tb : TS} {D : Ends} {σ : L2.St} {H : Hp} (Pv : Nat → L2.St → Hp → Prop) (h0 : Pv 0 σ H) (hl : ∀ i σ H, i ≤ xs.length → Pv i σ H → SqL K H a xs)
    (hs : ∀ i x T σ H, xs[i]? = some x → H T = none → Pv i σ H → g (.ref T) σ (upd H T (.tup [.int (i : Nat), x])) fun σ2 H2 => tb { D with nx := Pv (i + 1), ct := Pv (i + 1), bk := D.nx } σ2 H2) (hd : ∀ σ H, Pv xs.length σ H → D.nx σ H) :
    ∃ W : Nat → Nat → L2.St → Hp → Prop, (∃ m, W 0 m σ H) ∧ ∀ i m σ H, W i m σ H →
      ((Ite K a).stop i H ∧ D.nx σ H) ∨ ((Ite K a).go i H ∧ ∃ N : L2.St → Hp → Prop, (∀ σ' H', N σ' H' → ∃ m', m' < m ∧ W (i + 1) m' σ' H') ∧ ∀ x H', (Ite K a).yld i H x H' → g x σ H' fun σ2 H2 => tb { D with nx := N, ct := N, bk := D.nx } σ2 H2) := by
  refine ⟨fun i m σ H => m = xs.length - i ∧ i ≤ xs.length ∧ Pv i σ H, ⟨xs.length, by simp, Nat.zero_le _, h0⟩, ?_⟩
  rintro i m σ H ⟨rfl, hi, p⟩
  have q := hl i σ H hi p
  by_cases hlt : i < xs.length
  · refine .inr ⟨⟨xs, xs[i], q, by simp [hlt]⟩, Pv (i + 1), fun σ' H' p' => ⟨xs.length - (i + 1), by omega, rfl, hlt, p'⟩, fun x H' y => ?_⟩
    obtain ⟨T, y, rfl, hT, rfl, hy⟩ := y
    exact hs i y T σ _ (hy xs q) hT p
  · have e : i = xs.length := by omega
    subst e
    exact .inl ⟨⟨xs, q, Nat.le_refl _⟩, hd σ H p⟩
theorem rgC {i j c : Int} {n : Nat} (hc : 0 < c) (hc2 : c < 1000000) (hi : -1000000 ≤ i) (hi2 : i ≤ 1000000) (hj : -1000000 ≤ j) (hj2 : j ≤ 1000000) (hn : (n : Int) = if i < j then (j - i - 1) / c + 1 else 0) : RgC i j c n := by
  have e : Builtin.Range.rangeSize i j c = (n : Int) := by
    unfold Builtin.Range.rangeSize
    rw [if_pos (by omega), hn]
  have b : (n : Int) ≤ 3000000 := by
    rw [hn]
    by_cases q : i < j
    · rw [if_pos q]
      have := Int.ediv_le_self (a := j - i - 1) c (by omega)
      omega
    · rw [if_neg q]
      decide
  have fit : ∀ z : Int, -4000000 ≤ z → z ≤ 4000000 → Builtin.Range.rangeFitsLong z = true := fun z h1 h2 => by
    unfold Builtin.Range.rangeFitsLong
    rw [Bool.and_eq_true, decide_eq_true_eq, decide_eq_true_eq]
    omega
  refine ⟨by omega, by omega, ?_, e⟩
  unfold Builtin.Range.small
  rw [e, fit i (by omega) (by omega), fit j (by omega) (by omega), fit c (by omega) (by omega), fit n (by omega) (by omega), if_pos (show c > 0 from hc), fit (j + (c - 1)) (by omega) (by omega), Bool.or_true]
  rfl
theorem rows_dw {K : PySem.W.Frag} {H : Hp} : ∀ (rows : List (List Int)) (xs : List V), DwAll K H xs (rows.map fun r => WData.list (r.map WData.int)) →
    ∃ as : List Addr, xs = as.map V.ref ∧ as.length = rows.length ∧ ∀ (i : Nat) (a : Addr) (ns : List Int), as[i]? = some a → rows[i]? = some ns → SqL K H a (ns.map V.int)
  | [], xs, h => by
    cases h
    exact ⟨[], rfl, rfl, fun i a ns e => by simp at e⟩
  | r :: rows, xs, h => by
    cases h with
    | cons h1 h2 =>
      obtain ⟨as, e, hl, hr⟩ := rows_dw rows _ h2
      subst e
      cases h1 with
      | lst hs ha =>
        have e := ints_dw r _ ha
        subst e
        rename_i a
        refine ⟨a :: as, rfl, by rw [List.length_cons, List.length_cons, hl], fun i b ns e1 e2 => ?_⟩
        cases i with
        | zero =>
          cases e1
          cases e2
          exact hs
        | succ i => exact hr i b ns e1 e2
end Com
set_option Elab.async false
set_option maxRecDepth 100000
set_option maxHeartbeats 2000000
namespace Com
open PySem PySem.Spec PyProof.Rows L2
open PySem.W (WData)
theorem ints_item : ∀ {vs : List Value} {ns : List Int}, IntsAre vs ns → ∀ j, j < vs.length → ∃ t, vs[j]? = some (.int (ns.getD j 0) t) ∧ ns.drop j = ns.getD j 0 :: ns.drop (j + 1)
  | _, _, .nil, j, h => absurd h (Nat.not_lt_zero _)
  | _, _, .cons n t h, 0, _ => ⟨t, rfl, rfl⟩
  | _, _, .cons n t h, j + 1, hj => by
    obtain ⟨u, e1, e2⟩ := ints_item h j (Nat.lt_of_succ_lt_succ hj)
    exact ⟨u, e1, e2⟩
theorem rcGt_int (A : Around) (s : Shared) (a : Int) (t : Tok) (c : Int) (u : Tok) (prog : Program) (w : World) (E : Value → Shared → Prop) (Q : Value → Shared → Prop) (h : Q (.bool (decide (c < a))) s) :
    wpAny (model prog w) A (richCompare .Gt (.int a t) (.int c u)) Q E s :=
  (PyProof.Rows.gt_int h : wpAny (model prog w) A (compareOp .Gt (.int a t) (.int c u)) Q E s)
section
open PySem.SeqAt
open PySem.AutoSeq1 (wpAny_loadPart')
open PySem.MeetsSeq PySem.MeetsSeq2 PySem.MeetsSeq3 PySem.SeqRoads2
theorem gt_loopAt (l b : Addr) (items items2 : Array Value) (n n2 : Nat) (dd dd2 : Option Addr) (sl sl2 : Array (Option Value)) (hsz : items.size = items2.size) (ns ms : List Int) (hi : IntsAre items.toList ns) (hj : IntsAre items2.toList ms) (k : Nat) :
    ∀ i : Nat, items.size - i = k → Meets (Builtin.«list.__eq__.loop» ⟨[.ref l, .ref b, rawInt i, rawInt 4], []⟩)
      (fun _ R s => s.heap.get? l = some { cls := .type "list", dict := dd, data := .seq items n, slots := sl } ∧ s.heap.get? b = some { cls := .type "list", dict := dd2, data := .seq items2 n2, slots := sl2 } ∧
        R (.ok (.ret (.bool (HT.lexLt (ms.drop i) (ns.drop i))))) s) := by
  have z1 : items.size = ns.length := by rw [← hi.length]; simp
  have z2 : items2.size = ms.length := by rw [← hj.length]; simp
  induction k with
  | zero =>
    intro i hk prog w A R s h
    obtain ⟨hp, g, d, tk, os⟩ := s; obtain ⟨hl, hb, h⟩ := h
    wp_walk using wpAny_loadPart' hl, wpAny_loadPart' hb
    have hi1 : items[((i : Nat) : Int).toNat]? = none := by simp; omega
    have hi2 : items2[((i : Nat) : Int).toNat]? = none := by simp; omega
    rw [List.drop_eq_nil_of_le (by omega), List.drop_eq_nil_of_le (by omega), HT.lexLt_nil_nil] at h
    rw [hi1, hi2]
    wp_walk using wpAny_loadPart' hl, wpAny_loadPart' hb
    show R (.ok (.ret (.bool (decide (items.size > items2.size))))) _
    rw [hsz]
    simpa using h
  | succ k ih =>
    intro i hk prog w A R s h
    obtain ⟨hp, g, d, tk, os⟩ := s; obtain ⟨hl, hb, h⟩ := h
    wp_walk using wpAny_loadPart' hl, wpAny_loadPart' hb
    obtain ⟨t, e1, d1⟩ := ints_item hi i (by simp; omega)
    obtain ⟨u, e2, d2⟩ := ints_item hj i (by simp; omega)
    have hi1 : items[((i : Nat) : Int).toNat]? = some (.int (ns.getD i 0) t) := by
      rw [Int.toNat_natCast, ← e1]
      simp
    have hi2 : items2[((i : Nat) : Int).toNat]? = some (.int (ms.getD i 0) u) := by
      rw [Int.toNat_natCast, ← e2]
      simp
    have hc : ((i : Int) + 1) = ((i + 1 : Nat) : Int) := by push_cast; rfl
    rw [d1, d2, HT.lexLt_cons] at h
    rw [hi1, hi2]
    generalize ns.getD i 0 = a at *
    generalize ms.getD i 0 = c at *
    refine wpAny_bind (EqAt.int_int a t c u prog w _ _ ?_)
    cases hb' : (a == c) with
    | true =>
      have e : c = a := (eq_of_beq hb').symm
      rw [if_pos e] at h
      wp_walk
      rw [hc]
      exact ⟨plainId_quiet plain_eq_loop _, codeAny_builtin entry_eq_loop (by
        rw [Around.under_plainId plain_eq_loop _]
        exact ih (i + 1) (by omega) prog w A R _ ⟨hl, hb, h⟩)⟩
    | false =>
      have e : ¬ c = a := fun z => by rw [z] at hb'; simp at hb'
      rw [if_neg e] at h
      wp_walk using wpAny_loadPart' hl, wpAny_loadPart' hb
      rw [hi1, hi2]
      have hri := rcGt_int A.in1 ⟨hp, g, d, tk, os⟩ a t c u prog w
      wp_walk using hri
      exact h
theorem list_gt_ints (l b : Addr) (items items2 : Array Value) (n n2 : Nat) (dd dd2 : Option Addr) (sl sl2 : Array (Option Value)) (hsz : items.size = items2.size) (ns ms : List Int) (hi : IntsAre items.toList ns) (hj : IntsAre items2.toList ms) :
    Meets (Builtin.«list.__gt__» ⟨[.ref l, .ref b], []⟩)
      (fun _ R s => s.heap.get? l = some { cls := .type "list", dict := dd, data := .seq items n, slots := sl } ∧ s.heap.get? b = some { cls := .type "list", dict := dd2, data := .seq items2 n2, slots := sl2 } ∧
        R (.ok (.ret (.bool (HT.lexLt ms ns)))) s) := by
  intro prog w A R s h
  obtain ⟨hp, g, d, tk, os⟩ := s; obtain ⟨hl, hb, h⟩ := h
  have f3 := AutoSeq1.sub_list_list
  wp_walk using wpAny_loadPart' hl, wpAny_loadPart' hb
  exact ⟨plainId_quiet plain_eq_loop _, codeAny_builtin entry_eq_loop (by
    rw [Around.under_plainId plain_eq_loop _]
    exact gt_loopAt l b items items2 n n2 dd dd2 sl sl2 hsz ns ms hi hj _ 0 rfl prog w A R _ ⟨hl, hb, h⟩)⟩
end
def rGtL (K : PySem.W.Frag) : R2 := fun x y H Q => ∃ a b ns ms, x = .ref a ∧ y = .ref b ∧ SqL K H a (ns.map V.int) ∧ SqL K H b (ms.map V.int) ∧ ns.length = ms.length ∧ Q (.bl (HT.lexLt ms ns)) H
theorem op_gtL {X : Cx} (hu : X.A.units < cLine) : OpR X (compareOp .Gt) (rGtL X.K) := by
  intro pins s σ H x y v u Q I rx ry h
  obtain ⟨a, b, ns, ms, rfl, rfl, ha, hb, hl, q⟩ := h
  cases rx
  cases ry
  obtain ⟨its, r1, ⟨⟨cls, dd, data, sl⟩, n, ho, hc, _, hd⟩, _⟩ := I.list ha
  obtain ⟨its2, r2, ⟨⟨cls2, dd2, data2, sl2⟩, n2, ho2, hc2, _, hd2⟩, _⟩ := I.list hb
  simp only at hc hd hc2 hd2
  subst hc hd hc2 hd2
  have i1 : IntsAre its.toArray.toList ns := intsAre_of r1
  have i2 : IntsAre its2.toArray.toList ms := intsAre_of r2
  have hsz : its.toArray.size = its2.toArray.size := by
    have h1 := i1.length
    have h2 := i2.length
    simp only [List.size_toArray]
    simp only at h1 h2
    omega
  exact richCompare_meets_room (op := .Gt) ⟨_, ho, rfl⟩ ⟨_, ho2, rfl⟩ PySem.F.slot_list_gt PySem.F.entry_list_gt (PySem.F.args_list_gt_2 _ _) (list_gt_ints a b its.toArray its2.toArray n n2 dd dd2 sl sl2 hsz ns ms i1 i2)
    ⟨ho, ho2, show Value.bool (HT.lexLt ms ns) ≠ Value.notImplemented ∧ EP X pins σ Q (.bool (HT.lexLt ms ns)) s from ⟨(fun x => nomatch x), ⟨.bl (HT.lexLt ms ns), H, I, rfl, q⟩⟩⟩ hu
theorem gt_l {X : Cx} (K : PySem.W.Frag) (hu : X.A.units < cLine) (e : X.K = K := by rfl) : OpR X (compareOp .Gt) (rGtL K) := by subst e; exact op_gtL hu
theorem lc_rangeC {lo c : Int} {n : Nat} {g : TG} {tt : TT} {te : TE} {vs : List Nat} {σ : L2.St} {H1 : Hp} {D : Addr} {Qd : Hp → Prop} (Pv : Nat → Hp → Prop) (h0 : Pv 0 (upd H1 D (.lst [])))
    (hs : ∀ i H, i < n → Pv i H → g (.int (lo + (i : Nat) * c)) (wipe σ vs) H fun σ2 H2 => wipe σ2 vs = wipe σ vs ∧ tt σ2 H2 fun b H3 =>
      if b = true then te σ2 H3 fun y H4 => ∃ acc, H4 D = some (.lst acc) ∧ acc.length < sizeLine ∧ Pv (i + 1) (upd H4 D (.lst (acc ++ [y]))) else Pv (i + 1) H3) (hd : ∀ H, Pv n H → Qd H) :
    ∃ W : Nat → Nat → Hp → Prop, (∃ m, W 0 m (upd H1 D (.lst []))) ∧ ∀ i m H, W i m H →
      ((Itc lo c n).stop i H ∧ Qd H) ∨ ((Itc lo c n).go i H ∧ ∃ Nx : Hp → Prop, (∀ H', Nx H' → ∃ m', m' < m ∧ W (i + 1) m' H') ∧ ∀ x H', (Itc lo c n).yld i H x H' → g x (wipe σ vs) H' fun σ2 H2 => wipe σ2 vs = wipe σ vs ∧ tt σ2 H2 fun b H3 =>
        if b = true then te σ2 H3 fun y H4 => ∃ acc, H4 D = some (.lst acc) ∧ acc.length < sizeLine ∧ Nx (upd H4 D (.lst (acc ++ [y]))) else Nx H3) := by
  refine ⟨fun i m H => m = n - i ∧ i ≤ n ∧ Pv i H, ⟨n, by simp, Nat.zero_le _, h0⟩, ?_⟩
  rintro i m H ⟨rfl, hi, p⟩
  by_cases hlt : i < n
  · refine .inr ⟨hlt, Pv (i + 1), fun H' p' => ⟨n - (i + 1), by omega, rfl, hlt, p'⟩, fun x H' y => ?_⟩
    obtain ⟨e, y⟩ := y
    subst e y
    exact hs i _ hlt p
  · have e : i = n := by omega
    subst e
    exact .inl ⟨Nat.le_refl _, hd H p⟩
end Com
set_option Elab.async false
set_option maxRecDepth 100000
namespace Com
open PySem PySem.Spec PyProof.Rows L2
section
variable {X : Cx}
def ipC (c : Int → Int → Prop) (f : Int → Int → Int) : TIp := fun x y H Q => ∃ i j, x = .int i ∧ y = .int j ∧ c i j ∧ Q (.int (f i j)) H
theorem ip_mul : PIp X .Mult (ipC CMul fun i j => i * j) := by
  intro pins s σ H x y v u Q I r1 r2 h
  obtain ⟨i, j, e1, e2, c, q⟩ := h
  subst e1; subst e2
  obtain ⟨t, rfl⟩ := r1
  obtain ⟨t', rfl⟩ := r2
  exact imul_int ⟨.int _, H, I.tok _, ⟨_, rfl⟩, q⟩ c.ok
theorem ip_fdiv : PIp X .FloorDiv (ipC CDiv fun i j => i / j) := by
  intro pins s σ H x y v u Q I r1 r2 h
  obtain ⟨i, j, e1, e2, c, q⟩ := h
  subst e1; subst e2
  obtain ⟨t, rfl⟩ := r1
  obtain ⟨t', rfl⟩ := r2
  refine ifloordiv_int (by have := c.1; omega) ?_ (.inl (PyProof.noPylong_small (by have := c.1; have := c.2; omega)))
  rw [Int.fdiv_eq_ediv_of_nonneg _ (by have := c.1; omega)]
  exact ⟨.int _, H, I.tok _, ⟨_, rfl⟩, q⟩
end
theorem for_items {d : Addr} {od : Obj} {kvs : List (Key × V)} {g : TG} {tb : TS} {D : Ends} {σ : L2.St} {H : Hp} (Pv : Nat → L2.St → Hp → Prop) (h0 : Pv 0 σ H) (hl : ∀ i σ H, i ≤ kvs.length → Pv i σ H → H d = some (.frz od (.dK kvs)))
    (hs : ∀ i k v T σ H, kvs[i]? = some (k, v) → H T = none → Pv i σ H → g (.ref T) σ (upd H T (.tup [kV k, v])) fun σ2 H2 => tb { D with nx := Pv (i + 1), ct := Pv (i + 1), bk := D.nx } σ2 H2) (hd : ∀ σ H, Pv kvs.length σ H → D.nx σ H) :
    ∃ W : Nat → Nat → L2.St → Hp → Prop, (∃ m, W 0 m σ H) ∧ ∀ i m σ H, W i m σ H →
      ((Iti d od kvs).stop i H ∧ D.nx σ H) ∨ ((Iti d od kvs).go i H ∧ ∃ N : L2.St → Hp → Prop, (∀ σ' H', N σ' H' → ∃ m', m' < m ∧ W (i + 1) m' σ' H') ∧ ∀ x H', (Iti d od kvs).yld i H x H' → g x σ H' fun σ2 H2 => tb { D with nx := N, ct := N, bk := D.nx } σ2 H2) := by
  refine ⟨fun i m σ H => m = kvs.length - i ∧ i ≤ kvs.length ∧ Pv i σ H, ⟨kvs.length, by simp, Nat.zero_le _, h0⟩, ?_⟩
  rintro i m σ H ⟨rfl, hi, p⟩
  have q := hl i σ H hi p
  by_cases hlt : i < kvs.length
  · refine .inr ⟨⟨q, hlt⟩, Pv (i + 1), fun σ' H' p' => ⟨kvs.length - (i + 1), by omega, rfl, hlt, p'⟩, fun x H' y => ?_⟩
    obtain ⟨T, k, v, hk, rfl, hT, rfl⟩ := y
    exact hs i k v T σ _ hk hT p
  · have e : i = kvs.length := by omega
    subst e
    exact .inl ⟨⟨q, Nat.le_refl _⟩, hd σ H p⟩
def tFrz (td : TE) : TE := fun σ H Q => td σ H fun x H1 => ∃ d kvs, x = .ref d ∧ H1 d = some (.dK kvs) ∧ ∀ od, Q x (upd H1 d (.frz od (.dK kvs)))
theorem pe_frz {X : Cx} {e : Expr} {td : TE} (he : PE X e td) : PE X e (tFrz td) := by
  intro pins s σ H Q I h
  refine thn (he pins s σ H _ I h) fun u s1 ⟨x, H1, I1, rx, d, kvs, ex, hd, q⟩ => ?_
  obtain ⟨od, I2⟩ := I1.lock hd True.intro
  exact ⟨x, _, I2, rx, q od⟩
end Com
set_option Elab.async false
set_option maxRecDepth 100000
namespace Ex
open PySem PySem.Spec PyProof.Rows L2
open PySem.W (hideAll hideAll_get of_hideAll hideAll_none funFrames_hide excIn exmOne)
def CX1 (P : Program) (w : World) : CXT := fun outer H s E e s' => ∃ (ea C : Addr) (H' : Hp) (B : Heap) (a0 : Value),
  e = .ref ea ∧ Heap.FlyingW B outer ea (.ref C) a0 s'.heap ∧ HOk P w H' B ∧ s'.os = s.os ∧ AllBare s'.gens ∧ Un (frs outer) [] H H' s.heap s'.heap ∧
  (∀ b o, s.heap.get? b = some o → H b = none → b ∉ frs outer → B.get? b = some o) ∧ (∀ b o, s.heap.get? b = some o → b ∉ frs outer → ∃ o', B.get? b = some o') ∧ E (.ref C) none H'
structure Body (X : Cx) (E : XK) : Prop where
  xe : X.xe = fun e s' => wpAny (model X.prog X.w) X.A (leaving X.env e) (fun _ s'' => CX1 X.prog X.w X.outer X.H_0 X.s_0 E e s'') (fun e' s'' => CX1 X.prog X.w X.outer X.H_0 X.s_0 E e' s'') s'
  stk : X.stack = X.env :: X.outer
  fr : X.env.frame = some X.env.locals
  ex : X.ex = []
theorem body_cx {P : Program} {w : World} {K : PySem.W.Frag} {mg : Str → Option Value} {base : Heap} {N : List Str} {qual : Str} {scope : Scope} {f : Addr} {cd : Value} {A : Around} {outer : List Env} {s : Shared} {H : Hp} {E : XK} :
    Body (cxOf (CX1 P w) P w K mg base N qual scope f cd A outer s H E) E := ⟨rfl, rfl, rfl, rfl⟩
section
variable {X : Cx} {pins : List (Addr × Obj)} {σ : L2.St} {H H' : Hp} {s s' : Shared} {E : XK}
theorem hok_hide {P : Program} {w : World} {h : Heap} {l : List Addr} (x : HOk P w H h) (hl : ∀ b ∈ l, H b = none) : HOk P w H (hideAll h l) := fun a o e =>
  (x a o e).stay (fun b u hb q => hideAll_get _ q fun hm => by
    have := hl b hm
    rcases hb with z | z
    · rw [z, e] at this; cases this
    · rw [z] at this; cases this) (fun _ q => q) fun _ _ q => q
theorem neLoc (I : Inv X pins σ H s) {b : Addr} {o : Obj} (e : X.s_0.heap.get? b = some o) : b ≠ X.env.locals := Nat.ne_of_lt (Nat.lt_of_lt_of_le (Heap.lt_size e) I.ok.above)
theorem noStk (I : Inv X pins σ H s) {b : Addr} {o : Obj} (e : X.s_0.heap.get? b = some o) (hb : b ∉ frs X.outer) : b ∉ frs X.stack := fun z =>
  (List.mem_cons.mp (I.stkSub b z)).elim (neLoc I e) hb
theorem frame_data (I : Inv X pins σ H s) {b : Addr} (hb : b ∈ frs X.outer) {o : Obj} (e : s.heap.get? b = some o) : ∀ vs, o.data ≠ .fields vs := by
  obtain ⟨_, o', ho', hd⟩ := I.funs.mem hb
  rw [e] at ho'
  cases ho'
  exact hd
theorem xe_made (Bd : Body X E) (I : Inv X pins σ H s) {h' : Heap} {e C : Addr} {vs : List Value} (hx : Heap.MadeExcOf s.heap h' e (.ref C) vs) (hE : E (.ref C) none H) : X.xe (.ref e) { s with heap := h' } := by
  rw [Bd.xe]
  have hex : ∀ b : Addr, b ∉ X.ex := fun b z => by rw [Bd.ex] at z; simp at z
  have kb : (hideAll s.heap (frs X.stack)).StaysIn s.heap := fun b o q => of_hideAll _ q
  have hl : s.heap.FunFrames (hideAll s.heap (frs X.stack)) (X.env :: X.outer) := by
    rw [← Bd.stk]
    exact funFrames_hide I.stack fun env he a ha => List.mem_filterMap.mpr ⟨env, he, ha⟩
  refine wpAny_leaves_madeW (s := { s with heap := h' }) (by rw [I.ok.frames, Bd.stk]) Bd.fr kb hl hx fun h'' t x1 _ _ x4 => ?_
  have inB : ∀ b o, X.s_0.heap.get? b = some o → X.H_0 b = none → b ∉ frs X.outer → (hideAll s.heap (frs X.stack)).get? b = some o := fun b o e n hb =>
    hideAll_get _ (I.base.keep b o e n hb (hex b)) (noStk I e hb)
  have slot : ∀ b o, X.s_0.heap.get? b = some o → X.H_0 b = none → b ∈ frs X.outer → ∃ sl, h''.get? b = some { o with slots := sl } := fun b o e n hb => by
    obtain ⟨sl, e1⟩ := I.base.slot b o e n hb (hex b)
    obtain ⟨sl2, e2⟩ := x4 b _ (hx.keeps _ _ e1) (frame_data I hb e1)
    exact ⟨sl2, e2⟩
  have thB : ∀ b o, X.s_0.heap.get? b = some o → b ∉ frs X.outer → ∃ o', (hideAll s.heap (frs X.stack)).get? b = some o' := fun b o e hb => by
    obtain ⟨o', e1⟩ := I.base.there b o e (hex b)
    exact ⟨o', hideAll_get _ e1 (noStk I e hb)⟩
  refine ⟨e, C, H, hideAll s.heap (frs X.stack), .ref t, rfl, x1, hok_hide I.hok I.stkFree, I.os, I.bare, ⟨fun b o e n hb _ => x1.1 b o (inB b o e n hb), fun b o e n hb _ => slot b o e n hb, fun b o e n _ => I.base.free b o e n (hex b), fun b o e _ => ?_, I.base.tups, I.base.frzs, I.base.tbls⟩, inB, thB, hE⟩
  by_cases hb : b ∈ frs X.outer
  · obtain ⟨sl, q⟩ := slot b o e (I.ok.frf b hb) hb
    exact ⟨_, q⟩
  · obtain ⟨o', q⟩ := thB b o e hb
    exact ⟨o', x1.1 b o' q⟩
theorem pass1 (Bd : Body X E) : Passes (CX1 X.prog X.w) X E := by
  rintro pins σ H s e s' I ⟨ea, C, H', B, a0, rfl, fl, hokB, os, bare, un, bk, bt, hE⟩
  rw [Bd.stk] at fl
  rw [Bd.xe]
  have hex : ∀ b : Addr, b ∉ X.ex := fun b z => by rw [Bd.ex] at z; simp at z
  refine wpAny_leaves_onW (by rw [I.ok.frames, Bd.stk]) Bd.fr fl fun h' x1 x2 => ?_
  have inS : ∀ b ∈ frs X.outer, b ∈ frs X.stack := fun b hb => by
    rw [Bd.stk]
    show b ∈ (X.env :: X.outer).filterMap (·.frame)
    rw [List.filterMap_cons, Bd.fr]
    exact List.mem_cons_of_mem _ hb
  have inB : ∀ b o, X.s_0.heap.get? b = some o → X.H_0 b = none → b ∉ frs X.outer → B.get? b = some o := fun b o e n hb =>
    bk b o (I.base.keep b o e n hb (hex b)) (I.base.free b o e n (hex b)) (noStk I e hb)
  have slot : ∀ b o, X.s_0.heap.get? b = some o → X.H_0 b = none → b ∈ frs X.outer → ∃ sl, h'.get? b = some { o with slots := sl } := fun b o e n hb => by
    obtain ⟨sl, e1⟩ := I.base.slot b o e n hb (hex b)
    obtain ⟨sl2, e2⟩ := un.slot b _ e1 (I.base.free b o e n (hex b)) (inS b hb) (by simp)
    obtain ⟨sl3, e3⟩ := x2 b _ e2 (fun vs => frame_data I hb e1 vs)
    exact ⟨sl3, e3⟩
  have thB : ∀ b o, X.s_0.heap.get? b = some o → b ∉ frs X.outer → ∃ o', B.get? b = some o' := fun b o e hb => by
    obtain ⟨o', e1⟩ := I.base.there b o e (hex b)
    exact bt b o' e1 (noStk I e hb)
  refine ⟨ea, C, H', B, a0, rfl, x1, hokB, os.trans I.os, bare, ⟨fun b o e n hb _ => x1.1 b o (inB b o e n hb), fun b o e n hb _ => slot b o e n hb, fun b o e n _ => ?_, fun b o e _ => ?_, fun b xs q => un.tups b xs (I.base.tups b xs q), fun b o u q => un.frzs b o u (I.base.frzs b o u q), fun b ps q => ?_⟩, inB, thB, hE⟩
  · obtain ⟨o1, e1⟩ := I.base.there b o e (hex b)
    exact un.free b o1 e1 (I.base.free b o e n (hex b)) (by simp)
  · by_cases hb : b ∈ frs X.outer
    · obtain ⟨sl, q⟩ := slot b o e (I.ok.frf b hb) hb
      exact ⟨_, q⟩
    · obtain ⟨o', q⟩ := thB b o e hb
      exact ⟨o', x1.1 b o' q⟩
  · obtain ⟨m1, e1⟩ := I.base.tbls b ps q
    obtain ⟨m2, e2⟩ := un.tbls b _ e1
    exact ⟨m1 ++ m2, by rw [e2, Array.append_assoc]⟩
abbrev bmE : List Value := [.type "Exception", .type "BaseException", .type "object"]
structure ExcC (K : PySem.W.Frag) (mg : Str → Option Value) (x : Str) (C : Addr) : Prop where
  mg : mg x = some (.ref C)
  ok : excIn K C bmE "Exception.__new__" = true
theorem exc_obj {K : PySem.W.Frag} {h : Heap} {C : Addr} {bmB : List Value} {newId : String} (Y : K.In h) (q : excIn K C bmB newId = true) :
    ∃ bm N nm q bs hdct sn sub ab col dd k0 k1 k2 k3 k5 mN, h.get? C = some (excClassObj nm q C N bs bm hdct sn sub ab col dd k0 k1 k2 k3 k5 newId) ∧ h.Ns N mN ∧ mN "__init__" = none ∧ OwnTail h bmB bm := by
  unfold PySem.W.excIn at q
  split at q
  · rename_i dd cd sl ho
    split at q
    · rename_i C' bm k0 k1 k2 k3 n k5 hm hs
      simp only [Bool.and_eq_true, beq_iff_eq, Bool.not_eq_true'] at q
      obtain ⟨⟨⟨⟨⟨rfl, rfl⟩, hdel⟩, ht⟩, hok⟩, hni⟩ := q
      obtain ⟨nm, bs, mro, ns, qn, hd, sn, sub, ab, col, del⟩ := cd
      dsimp only at hm hdel hok hni
      subst hm hdel
      have hsl : sl = #[k0, k1, k2, k3, some (.builtin n), k5] := by
        obtain ⟨l⟩ := sl
        simp only at hs
        rw [hs]
      subst hsl
      exact ⟨bm, ns, nm, qn, bs, hd, sn, sub, ab, col, dd, k0, k1, k2, k3, k5, _, Y _ _ ho, .of_isNs (PySem.W.isNs_of_in Y hok), PySem.W.nsMap_none_of_in Y hok hni, PySem.W.tail_of_in Y ht⟩
    · cases q
  · cases q
def tRaise (E : XK) (C : Addr) : TS := fun _ _ H => E (.ref C) none H
theorem ps_raise0 {x : Str} {np cpos pos : Pos} {C : Addr} (Bd : Body X E) (hg : Gl X x) (hc : X.calm = true) (O : ExcC X.K X.mg x C) (hd : (x == ("__debug__" : Str)) = false := by decide) :
    PS X (.Raise (some (.Call (.Name x np) [] [] cpos)) none pos) (tRaise E C) := by
  intro pins s σ H D I hE
  obtain ⟨tl, N, nm, q, bs, hdct, sn, sub, ab, col, dd, k0, k1, k2, k3, k5, mN, hC, hN, hni, T⟩ := exc_obj I.kIn O.ok
  refine wpAny_Raise_call_subT (C := C) (nm := nm) (q := q) (N := N) (bs := bs) (bm := tl) (hdct := hdct) (sn := sn) (sub := sub) (ab := ab) (col := col) (dd := dd) (k0 := k0) (k1 := k1) (k2 := k2) (k3 := k3) (k5 := k5)
    PySem.F.excBase_Exception (mN := mN) (T.hasType PySem.F.excBase_Exception.hasBase) (I.ok.hd hc) rfl hni (ld_glob I hg O.mg ⟨rfl, ?_⟩ hd)
  exact evalArgs_empty ⟨rfl, Nat.zero_le _, hC, hN, T, fun h' e hm => xe_made Bd I hm hE⟩
end
def Xb (X : Cx) (pins : List (Addr × Obj)) (Et : XK) : Cx := { X with pn := X.pn ++ pins, xe := fun e s' => ∃ (pins' : List (Addr × Obj)) (σ : L2.St) (H : Hp) (s : Shared), Inv { X with pn := X.pn ++ pins } pins' σ H s ∧ CX1 X.prog X.w X.stack H s Et e s' }
section
variable {X : Cx} {pins pins' : List (Addr × Obj)} {σ : L2.St} {H H' : Hp} {s s' : Shared} {Et : XK}
theorem ok_pn (ok : X.Ok) (p : List (Addr × Obj)) : Cx.Ok { X with pn := p } := ⟨ok.mod, ok.kind, ok.glob, ok.blt, ok.above, ok.inj, ok.has, ok.cab, ok.hd, ok.frames, ok.stk, ok.exf, ok.bs, ok.bsz, ok.noex, ok.exfs, ok.funs, ok.frf⟩
theorem ok_unpn {p : List (Addr × Obj)} (ok : Cx.Ok { X with pn := p }) : X.Ok := ⟨ok.mod, ok.kind, ok.glob, ok.blt, ok.above, ok.inj, ok.has, ok.cab, ok.hd, ok.frames, ok.stk, ok.exf, ok.bs, ok.bsz, ok.noex, ok.exfs, ok.funs, ok.frf⟩
theorem inv_pn (I : Inv X pins σ H s) : Inv { X with pn := X.pn ++ pins } [] σ H s := ⟨ok_pn I.ok _, I.os, I.bare, I.base, I.loc, I.cell, I.free, I.freeC, fun p hp => I.pin p (by rw [List.append_nil] at hp; exact hp), I.hok, I.len⟩
theorem inv_unpn (I : Inv { X with pn := X.pn ++ pins } pins' σ H s) : Inv X pins σ H s := ⟨ok_unpn I.ok, I.os, I.bare, I.base, I.loc, I.cell, I.free, I.freeC, fun p hp => I.pin p (List.mem_append_left _ hp), I.hok, I.len⟩
theorem inv_xb (I : Inv X pins σ H s) : Inv (Xb X pins Et) [] σ H s := (inv_pn I).wish _
theorem inv_unxb (I : Inv (Xb X pins Et) pins' σ H s) : Inv X pins σ H s := inv_unpn (I.unwish (X := { X with pn := X.pn ++ pins }))
theorem passT : Passes (CX1 X.prog X.w) (Xb X pins Et) Et := fun pins' σ H s e s' I h => ⟨pins', σ, H, s, I.unwish (X := { X with pn := X.pn ++ pins }), h⟩
theorem landed (I : Inv X pins σ H s) {ea C : Addr} {B : Heap} {a0 : Value} (fl0 : s'.os = s.os) (bare : AllBare s'.gens) (un : Un (frs X.stack) [] H H' s.heap s'.heap) (hokB : HOk X.prog X.w H' B)
    (bk : ∀ b o, s.heap.get? b = some o → H b = none → b ∉ frs X.stack → B.get? b = some o) (bt : ∀ b o, s.heap.get? b = some o → b ∉ frs X.stack → ∃ o', B.get? b = some o')
    {h' : Heap} (fl : Heap.FlyingW B X.stack ea (.ref C) a0 h') (up : s'.heap.UpToSlots h') : Inv X pins σ H' { s' with heap := h' } := by
  have slot : ∀ b o, s.heap.get? b = some o → H b = none → b ∈ frs X.stack → ∃ sl, h'.get? b = some { o with slots := sl } := fun b o e n hb => by
    obtain ⟨sl2, e2⟩ := un.slot b o e n hb (by simp)
    obtain ⟨_, o', ho', hd⟩ := I.stack.mem hb
    rw [e] at ho'
    cases ho'
    obtain ⟨sl3, e3⟩ := up b _ e2 (fun vs => hd vs)
    exact ⟨sl3, e3⟩
  refine I.call' (s' := { s' with heap := h' }) (ch := []) fl0 ⟨fun b o e n hb _ => fl.1 b o (bk b o e n hb), fun b o e n hb _ => slot b o e n hb, un.free, fun b o e _ => ?_, un.tups, un.frzs, un.tbls⟩ (hokB.kept fl.1) bare (fun b z => absurd z (by simp))
  by_cases hb : b ∈ frs X.stack
  · obtain ⟨sl, q⟩ := slot b o e (I.stkFree b hb) hb
    exact ⟨_, q⟩
  · obtain ⟨o', q⟩ := bt b o e hb
    exact ⟨o', fl.1 b o' q⟩
def Xm (X : Cx) (e : Value) : Cx := { X with A := X.A.mark (some e), calm := false, xe := notedBy (model X.prog X.w) (X.A.mark (some e)) X.env (cameBackBy (model X.prog X.w) X.A X.env X.xe) }
theorem inv_xm (I : Inv X pins σ H s) {e : Value} : Inv (Xm X e) pins σ H s :=
  ⟨⟨I.ok.mod, I.ok.kind, I.ok.glob, I.ok.blt, I.ok.above, I.ok.inj, I.ok.has, I.ok.cab, (fun z => absurd z (by show ¬ (false = true); decide)), I.ok.frames, I.ok.stk, I.ok.exf, I.ok.bs, I.ok.bsz, I.ok.noex, I.ok.exfs, I.ok.funs, I.ok.frf⟩, I.os, I.bare, I.base, I.loc, I.cell, I.free, I.freeC, I.pin, I.hok, I.len⟩
theorem inv_unxm {e : Value} (ok : X.Ok) (I : Inv (Xm X e) pins σ H s) : Inv X pins σ H s := ⟨ok, I.os, I.bare, I.base, I.loc, I.cell, I.free, I.freeC, I.pin, I.hok, I.len⟩
def PH (X : Cx) (hs : List ExceptHandler) (C : Addr) (t : TS) : Prop :=
  ∀ (pins : List (Addr × Obj)) (s : Shared) (σ : L2.St) (H : Hp) (D : Ends) (ea : Addr) (B : Heap) (a0 : Value) , Inv X pins σ H s → Heap.FlyingW B X.stack ea (.ref C) a0 s.heap →
    (∀ h', Heap.FlyingW B X.stack ea (.ref C) a0 h' → s.heap.UpToSlots h' → Inv X pins σ H { s with heap := h' }) → t D σ H → wpAny (model X.prog X.w) X.A (handleBy (.ref ea) X.env hs) (SP X pins D) X.xe s
theorem ty_of {M : Model} {B h : Heap} {l : List Env} {ea : Addr} {cls a0 : Value} (fl : Heap.FlyingW B l ea cls a0 h) : PySem.W.Looks M h (typeOf (.ref ea)) cls := by
  obtain ⟨ob, hob, hc⟩ := fl.there
  subst hc
  exact (PySem.W.Looks.ld hob).andThen .now
theorem ph_no {x : Str} {np pos : Pos} {body : List Stmt} {nm : Option Str} {rest : List ExceptHandler} {C C' : Addr} {t : TS} (hg : Gl X x) (hm : X.mg x = some (.ref C')) (hx : exmOne X.K (.ref C) (.ref C') = some false) (hr : PH X rest C t)
    (hd : (x == ("__debug__" : Str)) = false := by decide) : PH X (.ExceptHandler (some (.Name x np)) nm body pos :: rest) C t := by
  intro pins s σ H D ea B a0 I fl up ht
  refine wpAny_handleBy_cons (codeAny_handlers_test (ld_glob (X := Xm X (.ref ea)) (inv_xm I) hg hm ?_ hd)) (by intro q; cases q)
  exact (PySem.W.exm_one I.kIn (ty_of fl) hx).here (hr pins s σ H D ea B a0 I fl up ht)
theorem ph_yes {x : Str} {np pos : Pos} {b0 : Stmt} {suite : List Stmt} {rest : List ExceptHandler} {C : Addr} {t : TS} (hg : Gl X x) (hm : X.mg x = some (.ref C)) (hx : exmOne X.K (.ref C) (.ref C) = some true) (hs : ∀ e, PSs (Xm X e) (b0 :: suite) t)
    (hd : (x == ("__debug__" : Str)) = false := by decide) : PH X (.ExceptHandler (some (.Name x np)) none (b0 :: suite) pos :: rest) C t := by
  intro pins s σ H D ea B a0 I fl up ht
  refine wpAny_handleBy_cons (codeAny_handlers_test (ld_glob (X := Xm X (.ref ea)) (inv_xm I) hg hm ?_ hd)) (by intro q; cases q)
  refine (PySem.W.exm_one I.kIn (ty_of fl) hx).here ?_
  refine codeAny_handlers_suite (lands_againW fl fun h6 fl6 up6 => ?_)
  refine thn (hs (.ref ea) pins _ σ H D (inv_xm (up h6 fl6 up6)) ht) fun f s2 q => ?_
  cases f with
  | next => obtain ⟨σ', H', J, q⟩ := q; exact ⟨σ', H', inv_unxm I.ok J, q⟩
  | brk => obtain ⟨σ', H', J, q⟩ := q; exact ⟨σ', H', inv_unxm I.ok J, q⟩
  | cont => obtain ⟨σ', H', J, q⟩ := q; exact ⟨σ', H', inv_unxm I.ok J, q⟩
  | ret u => obtain ⟨v, σ', H', J, r, q⟩ := q; exact ⟨v, σ', H', inv_unxm I.ok J, r, q⟩
def tTry (cs : List (Addr × TS)) (tb : XK → TS) : TS := fun D σ H => tb (fun cls _ H' => ∃ c ∈ cs, cls = .ref c.1 ∧ ∀ σ', c.2 D σ' H') D σ H
theorem ps_try {body : List Stmt} {h0 : ExceptHandler} {hs : List ExceptHandler} {pos : Pos} {cs : List (Addr × TS)} {tb : XK → TS} (hstk : X.stack = X.env :: X.outer) (hfr : X.env.frame = some X.env.locals)
    (hb : ∀ pins Et, PSs (Xb X pins Et) body (tb Et)) (hh : ∀ c ∈ cs, PH X (h0 :: hs) c.1 c.2) : PS X (.Try body (h0 :: hs) [] [] pos) (tTry cs tb) := by
  intro pins s σ H D I ht
  refine wpAny_Try_except (wpAny_mono (hb pins _ [] s σ H D (inv_xb I) ht) (fun f s1 q => ?_) fun e s1 q => ?_)
  · cases f with
    | next => obtain ⟨σ', H', J, q⟩ := q; exact wpAny_execs_nil ⟨σ', H', inv_unxb J, q⟩
    | brk => obtain ⟨σ', H', J, q⟩ := q; exact ⟨σ', H', inv_unxb J, q⟩
    | cont => obtain ⟨σ', H', J, q⟩ := q; exact ⟨σ', H', inv_unxb J, q⟩
    | ret u => obtain ⟨v, σ', H', J, r, q⟩ := q; exact ⟨v, σ', H', inv_unxb J, r, q⟩
  · obtain ⟨pins', σ1, H1, s2, I1, ea, C, H', B, a0, rfl, fl, hokB, os, bare, un, bk, bt, c, hc, ecls, hq⟩ := q
    cases ecls
    have J := inv_unpn I1
    have fl' := fl
    rw [hstk] at fl
    refine wpAny_looks_onW (by rw [J.ok.frames, hstk]) hfr fl fun h4 held4 up4 => ?_
    refine wpAny_landsW held4 fun h5 fl5 up5 => ?_
    rw [← hstk] at fl5
    have up : ∀ h', Heap.FlyingW B X.stack ea (.ref c.1) a0 h' → h5.UpToSlots h' → Inv X pins σ1 H' { s1 with heap := h' } := fun h' f u => landed J os bare un hokB bk bt f ((up4.trans up5).trans u)
    exact hh c hc pins { s1 with heap := h5 } σ1 H' D ea B a0 (landed J os bare un hokB bk bt fl5 (up4.trans up5)) fl5 up (hq σ1)
end
end Ex
set_option Elab.async false
set_option maxRecDepth 100000
namespace Rv
open PySem PySem.Spec PyProof.Rows
theorem nolen_lri : typeLookup (.type "list_reverseiterator") "__len__" = pure none := by rw [typeLookup_type, builtinLookup_eq_fast]; kernel_rfl
theorem hint_lri : typeLookup (.type "list_reverseiterator") "__length_hint__" = pure (some (.builtin "list_reverseiterator.__length_hint__")) := by rw [typeLookup_type, builtinLookup_eq_fast]; kernel_rfl
section
variable {prog : Program} {w : World} {A : Around} {E : Value → Shared → Prop} {s : Shared}
theorem hint_rev {I : Addr} {Q : Bool → Shared → Prop} (hT : s.TypeIs (.ref I) "list_reverseiterator") (h : Q false s) : wpAny (model prog w) A (Builtin.List.listLengthHint (.ref I)) Q E s := by
  unfold Builtin.List.listLengthHint
  refine wpAny_bind (wpAny_specialOf hT nolen_lri ?_)
  show wpAny _ A (specialOf (Value.ref I) (Str.ofString "__length_hint__") >>= _) _ _ _
  refine wpAny_bind (wpAny_specialOf hT hint_lri ?_)
  generalize hid : ("list_reverseiterator.__length_hint__" : String) = id0
  wp_delta
  rw [show splitId id0 = some ("list_reverseiterator", "__length_hint__") from by subst hid; decide +kernel]
  subst hid
  refine wpAny_bind (wpAny_isInstance (b := true) hT (by rw [isSubtype_type]; kernel_rfl) ?_)
  exact wpAny_pure h
theorem ext_rev {R : Result → Shared → Prop} {I l S : Addr} {items : Array Value} (hh : A.handled = none) (hit : s.heap.IsRevIter I l ((items.size : Int) - 1)) (hl : s.heap.IsList l items) (hne : l ≠ I) (hn : items.size ≤ sizeLine) (hSI : S ≠ I) (hSl : S ≠ l) {c0 : Nat}
    (hS : s.heap.get? S = some { cls := .type "list", data := .seq #[] c0 })
    (hR : ∀ h' tk acc' c', (∀ b o, b ≠ S → b ≠ I → s.heap.get? b = some o → h'.get? b = some o) → h'.get? S = some { cls := .type "list", dict := none, data := .seq acc' c', slots := #[] } → ItemsOf (fun i v => items[items.size - 1 - i]? = some v) acc' items.size → R (.ok (.ret .none)) { s with heap := h', toks := tk }) :
    wpAny (model prog w) A.in1 (Builtin.List.listExtendWith (.ref S) (.ref I) .none)
      (fun fin s' => match fin with | .done f => R (.ok f) s' | .again c' => c'.quiet = true ∧ codeAny (model prog w) A c' R s') (fun e s' => R (.error e) s') s := by
  have W := Walks.listRev (prog := prog) (w := w) (A := A.in1) hh I l hne items
  have hSf : S ∉ [I, l] := by simp only [List.mem_cons, List.not_mem_nil, or_false, not_or]; exact ⟨hSI, hSl⟩
  unfold Builtin.List.listExtendWith
  refine wpAny_bind (wpAny_typeOf hit.typeIs ?_)
  have h1 : Builtin.List.listSameRef (.ref S) (.ref I) = false := by simp [Builtin.List.listSameRef, hSI]
  rw [if_neg (by rw [h1]; decide)]
  refine wpAny_bind (wpAny_pyIter_revIter hit ?_)
  refine wpAny_bind (wpAny_holding (hint_rev hit.typeIs ?_))
  rw [if_neg (by decide)]
  refine wpAny_pure ⟨plainId_quiet PySem.F.plain_extend_loop _, ?_⟩
  refine codeAny_extend_loopS W.toS hn S hSf _ items.size 0 s #[] c0 rfl (Nat.zero_le _) ⟨Nat.zero_le _, by simpa using hit, hl⟩ hS (ItemsOf.nil _) fun s' acc' c' hm hS' hacc => ?_
  rw [Moved.eq_with hm]
  exact hR s'.heap s'.toks acc' c' (fun b o n1 n2 e => hm.heap b o (by simp [n1, n2]) e) hS' hacc
theorem call_list_rev {I l : Addr} {items : Array Value} {Q : Value → Shared → Prop} (hh : A.handled = none) (hit : s.heap.IsRevIter I l ((items.size : Int) - 1)) (hl : s.heap.IsList l items) (hne : l ≠ I) (hn : items.size ≤ sizeLine)
    (hQ : ∀ h' tk acc' c', (∀ b o, b ≠ I → s.heap.get? b = some o → h'.get? b = some o) → h'.get? s.heap.objs.size = some { cls := .type "list", dict := none, data := .seq acc' c', slots := #[] } → ItemsOf (fun i v => items[items.size - 1 - i]? = some v) acc' items.size → Q (.ref s.heap.objs.size) { s with heap := h', toks := tk }) :
    wpAny (model prog w) A (call (.type "list") [.ref I]) Q E s := by
  refine callType_codes (Q₁ := fun obj s₁ => obj = .ref s.heap.objs.size ∧ s₁ = { s with heap := s.heap.push { cls := .type "list", data := .seq #[] } }) PySem.F.called_list (PySem.F.typeCall_list_1 _) PySem.F.entry_list_init
    (code_list_new _ ⟨rfl, rfl⟩) fun obj s₁ h₁ => ?_
  obtain ⟨rfl, rfl⟩ := h₁
  have hS : (s.heap.push { cls := .type "list", data := .seq #[] }).get? s.heap.objs.size = some { cls := .type "list", data := .seq #[] } := Heap.get?_push_size _ rfl
  obtain ⟨oI, hoI, _⟩ := id hit
  obtain ⟨ol, hol, _⟩ := id hl
  have nSI : s.heap.objs.size ≠ I := Nat.ne_of_gt (Heap.lt_size hoI)
  have nSl : s.heap.objs.size ≠ l := Nat.ne_of_gt (Heap.lt_size hol)
  refine ⟨⟨_, hS, rfl⟩, PySem.F.args_list_init_2 _ _, ?_⟩
  show wpAny _ _ (do let old ← Builtin.List.listItems (.ref s.heap.objs.size); Builtin.List.listUpdate (.ref s.heap.objs.size) (fun _ => #[]); letGo old.toList.reverse; Builtin.List.listExtendWith (.ref s.heap.objs.size) (.ref I) .none) _ _ _
  refine wpAny_bind ?_
  unfold Builtin.List.listItems
  refine wpAny_bind (wpAny_seqItems hS rfl (wpAny_pure ?_))
  show wpAny _ _ (updateSeq s.heap.objs.size (fun _ => #[]) >>= fun _ => letGo (#[] : Array Value).toList.reverse >>= fun _ => Builtin.List.listExtendWith (.ref s.heap.objs.size) (.ref I) .none) _ _ _
  refine wpAny_bind (wpAny_updateSeq hS rfl ?_)
  have hS₂ := Heap.get?_update_self (Obj.mapSeq (fun _ => (#[] : Array Value))) hS rfl
  have oth : ∀ b o, s.heap.get? b = some o → ((s.heap.push { cls := .type "list", data := .seq #[] }).update s.heap.objs.size (Obj.mapSeq (fun _ => (#[] : Array Value)))).get? b = some o :=
    fun b o e => (Heap.get?_update_other _ _ (Nat.ne_of_gt (Heap.lt_size e))).trans (Heap.get?_push_of_some _ e)
  refine wpAny_bind (wpAny_letGo ?_)
  refine ext_rev (A := A.in1) hh (hit.at fun o e => oth _ o e) (hl.at fun o e => oth _ o e) hne hn nSI nSl hS₂ fun h' tk acc' c' hk hS' hacc => ?_
  exact ⟨rfl, hQ h' tk acc' c' (fun b o nb e => hk b o (Nat.ne_of_lt (Heap.lt_size e)) nb (oth b o e)) hS' hacc⟩
end
open L2
theorem vals_rev : ∀ {xs : List V} {us : List Value}, Vals xs us → Vals xs.reverse us.reverse
  | _, _, .nil => .nil
  | _, _, .cons r t => by
    rw [List.reverse_cons, List.reverse_cons]
    exact (vals_rev t).append (.cons r .nil)
theorem items_rev {items acc : Array Value} (h : ItemsOf (fun i v => items[items.size - 1 - i]? = some v) acc items.size) : acc.toList = items.toList.reverse := by
  refine List.ext_getElem? fun j => ?_
  by_cases hj : j < items.size
  · have h1 : acc[j]? = some (acc[j]'(by rw [h.1]; exact hj)) := Array.getElem?_eq_getElem _
    have h2 := h.2 j _ h1
    rw [Array.getElem?_toList, h1, List.getElem?_reverse (by simpa using hj), Array.getElem?_toList]
    rw [← h2]
    simp
  · rw [List.getElem?_eq_none (by rw [Array.length_toList, h.1]; omega), List.getElem?_eq_none (by rw [List.length_reverse, Array.length_toList]; omega)]
section
variable {X : Cx}
def tListRev (K : PySem.W.Frag) (ta : TA) : TE := fun σ H Q => ta σ H fun vs H1 => ∃ a xs, vs = [.ref a] ∧ SqL K H1 a xs ∧ xs.length ≤ 1000 ∧ ∀ l, H1 l = none → Q (.ref l) (upd H1 l (.lst xs.reverse))
theorem pe_listRev {e : Expr} {ta : TA} {p1 p2 q1 q2 : Pos} (hg1 : Gl X "list") (hg2 : Gl X "reversed") (hc : X.calm = true) (hm1 : X.mg "list" = none) (hm2 : X.mg "reversed" = none) (ha : PA X [e] ta)
    (hs1 : starEach [.Call (.Name "reversed" p2) [e] [] q2] X.env = [(false, eval (.Call (.Name "reversed" p2) [e] [] q2) X.env)] := by rfl) (hs2 : starEach [e] X.env = [(false, eval e X.env)] := by rfl) :
    PE X (.Call (.Name "list" p1) [.Call (.Name "reversed" p2) [e] [] q2] [] q1) (tListRev X.K ta) := by
  intro pins s σ H Q I h
  refine Call_ (ld_blt I hg1 hm1 Com.bt_list (PyProof.Rows.callWith_type1 ?_ hs1 rfl))
  refine spliced_more ?_ hs1
  refine Call_ (ld_blt I hg2 hm2 boot_reversed5 (PyProof.Rows.callWith_type1 (thn (ha q2 pins s σ H _ I h) fun us s1 ⟨vs, H1, I1, r1, a, xs, ea, hq, hz, q⟩ => ?_) hs2 rfl))
  · subst ea
    cases r1 with
    | cons r rr =>
      cases rr
      cases r
      obtain ⟨its, rv, p', hzz⟩ := I1.list hq
      have hl := rv.length
      refine call_reversed_list p'.isList (spliced_none ?_)
      have hlist := p'.isList
      obtain ⟨ol, hol, hocl, _⟩ := id hlist
      have hlt := Heap.lt_size hol
      have ksz : ∀ b o, s1.heap.get? b = some o → (s1.heap.push (revObj a ((its.toArray.size : Int) - 1))).get? b = some o := fun b o e => Heap.get?_push_of_some _ e
      refine call_list_rev (s := { s1 with heap := s1.heap.push (revObj a ((its.toArray.size : Int) - 1)) }) (I := s1.heap.objs.size) (l := a) (items := its.toArray) (I1.ok.hd hc) ⟨_, Heap.get?_push_size _ rfl, rfl, rfl⟩ (hlist.at fun o e => ksz _ _ e) (Nat.ne_of_lt hlt) (by rw [List.size_toArray]; omega) fun h' tk acc' c' hk hL hacc => ?_
      have e1 : acc'.toList = its.reverse := by
        have := items_rev hacc
        simpa using this
      have hsz : (s1.heap.push (revObj a ((its.toArray.size : Int) - 1))).objs.size = s1.heap.objs.size + 1 := Heap.size_push _ _
      have kk : ∀ b u, s1.heap.get? b = some u → h'.get? b = some u := fun b u e => hk b u (Nat.ne_of_lt (Heap.lt_size e)) (ksz b u e)
      have hfr : H1 (s1.heap.push (revObj a ((its.toArray.size : Int) - 1))).objs.size = none := I1.hok.fresh (by rw [hsz]; exact Nat.le_succ _)
      refine ⟨.ref _, _, I1.laid (a := (s1.heap.push (revObj a ((its.toArray.size : Int) - 1))).objs.size) (o := .lst xs.reverse) (t' := tk) kk (by rw [hsz]; exact Nat.le_succ _) ?_, rfl, q _ hfr⟩
      refine ⟨by rw [List.length_reverse]; exact hzz, its.reverse, c', vals_rev rv, ?_⟩
      rw [← e1]
      exact hL
end
end Rv
set_option Elab.async false
set_option maxRecDepth 100000
namespace Ex
open PySem PySem.Spec PyProof.Rows L2
theorem okX {P : Program} {w : World} {K : PySem.W.Frag} {mg : Str → Option Value} {base : Heap} {x qual : Str} {st : Stmt} {f : Addr} {fd : FuncData} {N ps : List Str} {k : Nat} {sp : Sp} (F : Fun K x qual st f fd) (S : FnScope N ps (defScope st)) (len : ∀ vs H Q E, sp vs H Q E → vs.length = ps.length)
    (hbody : ∀ (cdv : Value) (A : Around) (outer : List Env) (s : Shared) (H : Hp) (vs : List V) (Q : VK) (E : XK), Room k (A.deeper (envOfC qual (defScope st) s.heap.objs.size f cdv)) → sp vs H Q E →
      ∃ t, PSs (cxOf (CX1 P w) P w K mg base N qual (defScope st) f cdv A outer s H E) (defBody st) t ∧ t { nx := fun _ H' => Q .non H', rt := Q } (start N vs) H) : FnOk P w K mg base (CX1 P w) (k + 1) f fd ps sp := by
  obtain ⟨oc, od, kV, doc, pm, an, cdv, ct, osl, rfl, lk, hcd⟩ := F.ex
  exact fn_of lk hcd S len fun A outer s H vs Q E hr hsp => hbody cdv A outer s H vs Q E hr hsp
section
variable {X : Cx}
theorem phs_nil {hs : List ExceptHandler} : ∀ c ∈ ([] : List (Addr × TS)), PH X hs c.1 c.2 := fun c h => by simp at h
theorem phs_cons {hs : List ExceptHandler} {C : Addr} {t : TS} {cs : List (Addr × TS)} (h : PH X hs C t) (r : ∀ c ∈ cs, PH X hs c.1 c.2) : ∀ c ∈ (C, t) :: cs, PH X hs c.1 c.2 := fun c hc => by
  rcases List.mem_cons.mp hc with rfl | hc
  · exact h
  · exact r c hc
end
end Ex
namespace Ex
open PySem PySem.Spec PyProof.Rows L2
theorem exm_of {K : PySem.W.Frag} {C D : Addr} {x : _} {b : Bool} (h1 : PySem.W.subIn K (.ref D) (.type "BaseException") = some true) (h2 : PySem.W.clsIn K D = some x) (h3 : PySem.W.typeIn K (.ref D) = some (.type "type")) (h4 : PySem.W.subIn K (.ref C) (.ref D) = some b) : PySem.W.exmOne K (.ref C) (.ref D) = some b := by
  unfold PySem.W.exmOne
  rw [if_pos (by rw [h1]; rfl)]
  unfold PySem.W.kitCls
  dsimp only
  rw [if_pos (by rw [h2, h3]; rfl)]
  exact h4
end Ex
namespace Com
open PySem PySem.Spec PyProof.Rows L2
section
variable {P : Program} {w : World} {K : PySem.W.Frag} {mg : Str → Option Value} {base : Heap} {CX : CXT}
def NoAll (K : PySem.W.Frag) (C : Addr) : List Str → Prop
  | [] => True
  | a :: r => NoAttr K C a ∧ NoAll K C r
structure ClsAt (K : PySem.W.Frag) (mg : Str → Option Value) (x : Str) (C : Addr) (as : List Str) : Prop where
  cl : Cls K C
  mg : mg x = some (.ref C)
  all : NoAll K C as
theorem noAll_at {C : Addr} : ∀ {as : List Str} {i : Nat} {a : Str}, NoAll K C as → as[i]? = some a → NoAttr K C a
  | [], i, a, _, h => by simp at h
  | b :: r, 0, a, n, h => by
    cases h
    exact n.1
  | b :: r, i + 1, a, n, h => noAll_at n.2 h
theorem ClsAt.no {x : Str} {C : Addr} {as : List Str} (c : ClsAt K mg x C as) (i : Nat) {a : Str} (h : as[i]? = some a := by rfl) : NoAttr K C a := noAll_at c.all h
structure MethAt (K : PySem.W.Frag) (C : Addr) (m qual : Str) (st : Stmt) (ps : List Str) (f : Addr) (fd : FuncData) : Prop where
  fn : Fun K m qual st f fd
  me : Meth K C m f
  ba : ∀ us : List Value, us.length = ps.length → bindArgs fd ⟨us, []⟩ = pure (ps.zip us)
theorem MethAt.mk' {C : Addr} {m qual : Str} {st : Stmt} {ps : List Str} {f : Addr} {oc : Value} {od an : Option Addr} {osl : Array (Option Value)} {kV doc pm cdv ct : Value}
    (a : PySem.W.findIn K (.ref C) m = some (some (.ref f))) (i : PySem.W.isFn K (.ref f) = true) (l : K.lookup f = some ⟨oc, od, .func (PySem.W.fnOf m qual (defArgs st) (defBody st) (defScope st) .none kV doc pm an cdv ct), osl⟩) (c : PySem.W.codeIn K cdv qual = true) (k : PySem.W.keepIn K (.ref f) = true)
    (b : ∀ (kV doc pm : Value) (an : Option Addr) (cdv ct : Value) (us : List Value), us.length = ps.length → bindArgs (PySem.W.fnOf m qual (defArgs st) (defBody st) (defScope st) .none kV doc pm an cdv ct) ⟨us, []⟩ = pure (ps.zip us)) :
    ∃ f fd, MethAt K C m qual st ps f fd := ⟨f, _, fun_mk (st := st) l c k, ⟨a, i, k⟩, b kV doc pm an cdv ct⟩
structure InitAt (K : PySem.W.Frag) (mg : Str → Option Value) (x : Str) (C : Addr) (qual : Str) (st : Stmt) (ps : List Str) (f : Addr) (fd : FuncData) : Prop where
  fn : Fun K "__init__" qual st f fd
  makes : Mk K C f
  mg : mg x = some (.ref C)
  ba : ∀ us : List Value, us.length = ps.length → bindArgs fd ⟨us, []⟩ = pure (ps.zip us)
theorem InitAt.mk' {h : Heap} {x : Str} {C : Addr} {qual : Str} {st : Stmt} {ps : List Str} {f : Addr} {oc : Value} {od an : Option Addr} {osl : Array (Option Value)} {kV doc pm cdv ct : Value} (X : K.In h) (G : h.Ns mainGlobals mg) (aC : PySem.W.nsIn K mainGlobals x = some (some (.ref C)))
    (mk : PySem.W.makesIn K C = true) (kc : PySem.W.keepIn K (.ref C) = true)
    (a : PySem.W.findIn K (.ref C) "__init__" = some (some (.ref f))) (i : PySem.W.isFn K (.ref f) = true) (l : K.lookup f = some ⟨oc, od, .func (PySem.W.fnOf "__init__" qual (defArgs st) (defBody st) (defScope st) .none kV doc pm an cdv ct), osl⟩) (c : PySem.W.codeIn K cdv qual = true) (k : PySem.W.keepIn K (.ref f) = true)
    (b : ∀ (kV doc pm : Value) (an : Option Addr) (cdv ct : Value) (us : List Value), us.length = ps.length → bindArgs (PySem.W.fnOf "__init__" qual (defArgs st) (defBody st) (defScope st) .none kV doc pm an cdv ct) ⟨us, []⟩ = pure (ps.zip us)) :
    ∃ f fd, InitAt K mg x C qual st ps f fd := ⟨f, _, fun_mk (st := st) l c k, ⟨mk, a, i, kc⟩, PySem.W.mg_of X G aC, b kV doc pm an cdv ct⟩
structure CalleeM (P : Program) (w : World) (K : PySem.W.Frag) (mg : Str → Option Value) (base : Heap) (CX : CXT) (k : Nat) (C : Addr) (m : Str) (ps : List Str) (sp : Sp) : Prop where
  ex : ∃ (f : Addr) (fd : FuncData), FnOk P w K mg base CX k f fd ps sp ∧ Meth K C m f ∧ Binds K fd ps []
theorem CalleeM.of {k : Nat} {C : Addr} {m qual : Str} {st : Stmt} {ps : List Str} {sp : Sp} (D : ∃ f fd, MethAt K C m qual st ps f fd) (h : ∀ f fd, MethAt K C m qual st ps f fd → FnOk P w K mg base CX k f fd ps sp) : CalleeM P w K mg base CX k C m ps sp := by
  obtain ⟨f, fd, D⟩ := D
  exact ⟨f, fd, h f fd D, D.me, .all D.ba⟩
structure CalleeI (P : Program) (w : World) (K : PySem.W.Frag) (mg : Str → Option Value) (base : Heap) (k : Nat) (x : Str) (C : Addr) (ps : List Str) (sp : Sp) : Prop where
  ex : ∃ (f : Addr) (fd : FuncData), FnOk P w K mg base CX0 k f fd ps sp ∧ Mk K C f ∧ mg x = some (.ref C) ∧ Binds K fd ps []
theorem CalleeI.of {k : Nat} {x : Str} {C : Addr} {qual : Str} {st : Stmt} {ps : List Str} {sp : Sp} (D : ∃ f fd, InitAt K mg x C qual st ps f fd) (h : ∀ f fd, InitAt K mg x C qual st ps f fd → FnOk P w K mg base CX0 k f fd ps sp) : CalleeI P w K mg base k x C ps sp := by
  obtain ⟨f, fd, D⟩ := D
  exact ⟨f, fd, h f fd D, D.makes, D.mg, .all D.ba⟩
structure CalleeX (P : Program) (w : World) (K : PySem.W.Frag) (mg : Str → Option Value) (base : Heap) (k : Nat) (x : Str) (ps : List Str) (sp : Sp) : Prop where
  ex : ∃ (f : Addr) (fd : FuncData), FnOk P w K mg base (Ex.CX1 P w) k f fd ps sp ∧ mg x = some (.ref f) ∧ PySem.W.keepIn K (.ref f) = true ∧ Binds K fd ps []
theorem CalleeX.of {k : Nat} {x : Str} {st : Stmt} {ps : List Str} {sp : Sp} (D : ∃ f fd, DefAt K mg x st ps f fd) (h : ∀ f fd, DefAt K mg x st ps f fd → FnOk P w K mg base (Ex.CX1 P w) k f fd ps sp) : CalleeX P w K mg base k x ps sp := by
  obtain ⟨f, fd, D⟩ := D
  exact ⟨f, fd, h f fd D, D.mg, D.fn.kp, D.bd⟩
end
section
variable {X : Cx} {CX : CXT} {k j : Nat} {C : Addr} {x m : Str} {ps : List Str} {sp : Sp} {p pos apos : Pos} {e o : Expr} {es : List Expr} {ta : TE} {t : TA} {E : XK}
theorem pe_cX (C : CalleeX X.prog X.w X.K X.mg X.base k x ps sp) (hr : Room j X.A) (hk : k ≤ j) (hg : Gl X x) (hx : Passes (Ex.CX1 X.prog X.w) X E) (ha : PA X (e :: es) t)
    (hdb : (x == ("__debug__" : Str)) = false := by decide) (he : starEach (e :: es) X.env = (false, eval e X.env) :: starEach es X.env := by rfl) (hpl : (backTo pos (starEach es X.env)).any (·.1) = false := by rfl) :
    PE X (.Call (.Name x p) (e :: es) [] pos) (tCall sp [] E t) := by
  obtain ⟨f, fd, F, hm, kp, b⟩ := C.ex
  exact pe_call F (hr.mono hk) hg hm kp b .nil hx ha hdb he hpl
theorem pe_m {pl : Sem Bool} (c : Cls X.K C) (M : CalleeM X.prog X.w X.K X.mg X.base CX k C m ps sp) (hr : Room j X.A) (hk : k ≤ j) (hx : Passes CX X E) (he : PE X o ta) (ha : PA X (e :: es) t)
    (hst : starEach (e :: es) X.env = (false, eval e X.env) :: starEach es X.env := by rfl) (hpl : (backTo pos (starEach es X.env)).any (·.1) = false := by rfl)
    (ht : eval (.Call (.Attribute o m apos) (e :: es) [] pos) X.env = (do
      let ov ← eval o X.env
      standAt apos.atName
      let (f, first) ← holding [ov] (getMethod ov m pl)
      callWith pos f first (backTo pos (starEach (e :: es) X.env)) (backToKw pos (keywordEach [] X.env))) := by rfl) :
    PE X (.Call (.Attribute o m apos) (e :: es) [] pos) (tMeth C m sp [] E ta t) := by
  obtain ⟨f, fd, F, hm, b⟩ := M.ex
  exact pe_meth he c hm F (hr.mono hk) b .nil hx ha hst hpl ht
theorem pe_m0 {pl : Sem Bool} (c : Cls X.K C) (M : CalleeM X.prog X.w X.K X.mg X.base CX k C m ps sp) (hr : Room j X.A) (hk : k ≤ j) (hx : Passes CX X E) (he : PE X o ta)
    (ht : eval (.Call (.Attribute o m apos) [] [] pos) X.env = (do
      let ov ← eval o X.env
      standAt apos.atName
      let (f, first) ← holding [ov] (getMethod ov m pl)
      callWith pos f first (backTo pos (starEach [] X.env)) (backToKw pos (keywordEach [] X.env))) := by rfl) :
    PE X (.Call (.Attribute o m apos) [] [] pos) (tMeth C m sp [] E ta tNil) := by
  obtain ⟨f, fd, F, hm, b⟩ := M.ex
  exact pe_meth0 he c hm F (hr.mono hk) b .nil hx ht
theorem pe_mk (I : CalleeI X.prog X.w X.K X.mg X.base k x C ps sp) (hr : Room j X.A) (hk : k + 1 ≤ j) (hg : Gl X x) (ha : PA X (e :: es) t)
    (hdb : (x == ("__debug__" : Str)) = false := by decide) (he : starEach (e :: es) X.env = (false, eval e X.env) :: starEach es X.env := by rfl) (hpl : (backTo pos (starEach es X.env)).any (·.1) = false := by rfl) :
    PE X (.Call (.Name x p) (e :: es) [] pos) (tMake C sp [] E0 t) := by
  obtain ⟨f, fd, F, M, hm, b⟩ := I.ex
  exact pe_make M F (hr.mono hk) hg hm b .nil pass0 ha hdb he hpl
theorem pg_two (K : PySem.W.Frag) {i j : Nat} {x y : Str} {p1 p2 tpos : Pos} {kk : Nat} (hc : X.calm = true) (hN : X.N.Nodup) (hi : X.N[i]? = some x) (hj : X.N[j]? = some y) (hx : Loc X.env.scope x) (hy : Loc X.env.scope y)
    (hf : X.fn x = true ∨ X.env.scope.names.lookup x = some .local := by first | exact .inl rfl | exact .inr rfl | assumption) (hf2 : X.fn y = true ∨ X.env.scope.names.lookup y = some .local := by first | exact .inl rfl | exact .inr rfl | assumption) (e : X.K = K := by rfl) :
    PG X (.Tuple [.Name x p1, .Name y p2] kk tpos) (gTup K 2 (gCons (gName i) (gCons (gName j) gNil))) := by
  subst e
  exact pg_tup hc (pgs_cons (pg_name (i := i) hN hi hx hf) (pgs_cons (pg_name (i := j) hN hj hy hf2) pgs_nil))
theorem lc_enum {K : PySem.W.Frag} {a : Addr} {xs : List V} {g : TG} {tt : TT} {te : TE} {vs : List Nat} {σ : L2.St} {H1 : Hp} {D : Addr} {Qd : Hp → Prop} (Pv : Nat → Hp → Prop) (h0 : Pv 0 (upd H1 D (.lst []))) (hl : ∀ i H, i ≤ xs.length → Pv i H → SqL K H a xs)
    (hs : ∀ i x T H, xs[i]? = some x → H T = none → Pv i H → g (.ref T) (wipe σ vs) (upd H T (.tup [.int (i : Nat), x])) fun σ2 H2 => wipe σ2 vs = wipe σ vs ∧ tt σ2 H2 fun b H3 =>
      if b = true then te σ2 H3 fun y H4 => ∃ acc, H4 D = some (.lst acc) ∧ acc.length < sizeLine ∧ Pv (i + 1) (upd H4 D (.lst (acc ++ [y]))) else Pv (i + 1) H3) (hd : ∀ H, Pv xs.length H → Qd H) :
    ∃ W : Nat → Nat → Hp → Prop, (∃ m, W 0 m (upd H1 D (.lst []))) ∧ ∀ i m H, W i m H →
      ((Ite K a).stop i H ∧ Qd H) ∨ ((Ite K a).go i H ∧ ∃ Nx : Hp → Prop, (∀ H', Nx H' → ∃ m', m' < m ∧ W (i + 1) m' H') ∧ ∀ x H', (Ite K a).yld i H x H' → g x (wipe σ vs) H' fun σ2 H2 => wipe σ2 vs = wipe σ vs ∧ tt σ2 H2 fun b H3 =>
        if b = true then te σ2 H3 fun y H4 => ∃ acc, H4 D = some (.lst acc) ∧ acc.length < sizeLine ∧ Nx (upd H4 D (.lst (acc ++ [y]))) else Nx H3) := by
  refine ⟨fun i m H => m = xs.length - i ∧ i ≤ xs.length ∧ Pv i H, ⟨xs.length, by simp, Nat.zero_le _, h0⟩, ?_⟩
  rintro i m H ⟨rfl, hi, p⟩
  have q := hl i H hi p
  by_cases hlt : i < xs.length
  · refine .inr ⟨⟨xs, xs[i], q, by simp [hlt]⟩, Pv (i + 1), fun H' p' => ⟨xs.length - (i + 1), by omega, rfl, hlt, p'⟩, fun x H' y => ?_⟩
    obtain ⟨T, y, rfl, hT, rfl, hy⟩ := y
    exact hs i y T _ (hy xs q) hT p
  · have e : i = xs.length := by omega
    subst e
    exact .inl ⟨⟨xs, q, Nat.le_refl _⟩, hd H p⟩
end
end Com
set_option Elab.async false
set_option maxRecDepth 100000
set_option maxHeartbeats 4000000
namespace Sg
open PySem PySem.Spec PyProof.Rows L2 Com
open PySem.W (Codec WData)
theorem ints_at0 {ns : List Int} {j : Nat} {z : Int} (h : j < ns.length) (e : z = (j : Int) := by omega) : atI (ns.map V.int) z = some (.int (Bm.at0 ns j)) := ints_at h e
def kOf (k : List Int) : List Key := k.map Sum.inl
def kvOf (ks : List (List Int)) : List (List Key × V) := ks.map fun k => (kOf k, V.bl true)
theorem kOf_inj {a b : List Int} (h : kOf a = kOf b) : a = b := by
  unfold kOf at h
  exact (List.map_inj_right (fun _ _ e => Sum.inl.inj e)).mp h
theorem val_in {ks : List (List Int)} {k : List Int} : (valV (kvOf ks) (kOf k)).isSome = decide (k ∈ ks) := by
  have e := valV_any (kvs := kvOf ks) (k := kOf k)
  rw [← e]
  unfold kvOf
  rw [List.any_map]
  by_cases h : k ∈ ks
  · rw [decide_eq_true h]
    exact List.any_eq_true.mpr ⟨k, h, decide_eq_true rfl⟩
  · rw [decide_eq_false h]
    refine Bool.eq_false_iff.mpr fun z => ?_
    obtain ⟨k', hk', e'⟩ := List.any_eq_true.mp z
    have e2 : kOf k' = kOf k := of_decide_eq_true e'
    rw [kOf_inj e2] at hk'
    exact h hk'
theorem put_new {ks : List (List Int)} {k : List Int} (h : ¬ k ∈ ks) : putK (kvOf ks) (kOf k) (V.bl true) = kvOf (ks ++ [k]) := by
  have e : valV (kvOf ks) (kOf k) = none := by
    have q := val_in (ks := ks) (k := k)
    rw [decide_eq_false h] at q
    exact Option.isNone_iff_eq_none.mp (by cases z : valV (kvOf ks) (kOf k) with
      | none => rfl
      | some v => rw [z] at q; cases q)
  rw [putK_new _ e]
  unfold kvOf
  rw [List.map_append]
  rfl
abbrev nz := BkNeutral.ints
abbrev NL (K : PySem.W.Frag) (H : Hp) (a : Addr) (g : List Nat) : Prop := SqL K H a ((nz g).map V.int)
abbrev lstN (g : List Nat) : HO := .lst ((nz g).map V.int)
theorem ints_len (g : List Nat) : (nz g).length = g.length := List.length_map ..
theorem vi_len (g : List Nat) : ((nz g).map V.int).length = g.length := by rw [List.length_map, ints_len]
theorem at_n {g : List Nat} {j : Nat} {z : Int} (h : j < g.length) (e : z = (j : Int) := by omega) : atI ((nz g).map V.int) z = some (.int ((g.getD j 0 : Nat) : Int)) := by
  rw [ints_at (ns := nz g) (j := j) (by rw [ints_len]; exact h) e]
  congr 2
  exact Rm.at_ints g j
theorem at_r {as : List Addr} {j : Nat} {a : Addr} {z : Int} (h : as[j]? = some a) (e : z = (j : Int) := by omega) : atI (as.map V.ref) z = some (.ref a) := by
  subst e
  exact atI_nat (by rw [List.getElem?_map, h]; rfl)
theorem cut_n {l : List Nat} {u v : Nat} {lo hi : Int} (h : u ≤ v) (hv : v ≤ l.length) (e1 : lo = (u : Int) := by omega) (e2 : hi = (v : Int) := by omega) : cutV ((nz l).map V.int) (some lo) (some hi) = (nz ((l.drop u).take (v - u))).map V.int := by
  subst e1 e2
  unfold cutV
  rw [HT.sIx_nat, HT.sIx_nat, vi_len, Nat.min_eq_left (show u ≤ l.length by omega), Nat.min_eq_left hv]
  unfold nz BkNeutral.ints
  rw [← List.map_drop, ← List.map_take, ← List.map_drop, ← List.map_take]
def Lists (K : PySem.W.Frag) (H : Hp) (as : List Addr) (gs : List (List Nat)) : Prop := as.length = gs.length ∧ ∀ (j : Nat) (b : Addr) (g : List Nat), as[j]? = some b → gs[j]? = some g → NL K H b g
theorem Lists.keep {K : PySem.W.Frag} {H H' : Hp} {as : List Addr} {gs : List (List Nat)} (h : Lists K H as gs) (s : Same H H') : Lists K H' as gs := ⟨h.1, fun j b g e1 e2 => s.seq (h.2 j b g e1 e2)⟩
theorem get_snoc {α : Type} {l : List α} {x y : α} {j : Nat} (h : (l ++ [x])[j]? = some y) : (j < l.length ∧ l[j]? = some y) ∨ (j = l.length ∧ y = x) := by
  by_cases c : j < l.length
  · rw [List.getElem?_append_left c] at h
    exact .inl ⟨c, h⟩
  · rw [List.getElem?_append_right (by omega)] at h
    have hj : j - l.length < 1 := by
      have := (List.getElem?_eq_some_iff.mp h).1
      simpa using this
    have e : j = l.length := by omega
    rw [e, Nat.sub_self] at h
    exact .inr ⟨e, (Option.some.inj h).symm⟩
theorem line_of {n : Nat} (h : n ≤ 10000000) : n ≤ sizeLine := by rw [sizeLine_eq]; omega
theorem line_lt {n : Nat} (h : n ≤ 10000000) : n < sizeLine := by rw [sizeLine_eq]; omega
theorem getD_take {l : List Nat} {j k : Nat} (h : j < k) : (l.take k).getD j 0 = l.getD j 0 := by
  rw [List.getD_eq_getElem?_getD, List.getD_eq_getElem?_getD, List.getElem?_take_of_lt h]
def Forms (H : Hp) (kvs : List (Key × V)) (ws : Rm.Ways) : Prop := ∀ d : Nat, match Rm.formIn ws d with
  | none => valV kvs (Sum.inl (d : Int)) = none
  | some p => ∃ q, valV kvs (Sum.inl (d : Int)) = some (.ref q) ∧ H q = some (lstN p)
def StepsAt (H : Hp) (ts : List Addr) (st : List Rm.Step) : Prop := ts.length = st.length ∧ ∀ (j : Nat) (t : Addr) (s : Rm.Step), ts[j]? = some t → st[j]? = some s → H t = some (.tup [.int (s.1 : Nat), .int (s.2.1 : Nat), .int (s.2.2 : Nat)])
theorem StepsAt.keep {H H' : Hp} {ts : List Addr} {st : List Rm.Step} (h : StepsAt H ts st) (s : Same H H') : StepsAt H' ts st := ⟨h.1, fun j t u e1 e2 => s _ _ (h.2 j t u e1 e2)⟩
def keyN (k : List Nat) : List Key := (nz k).map Sum.inl
def Rules (H : Hp) (kvs : List (List Key × V)) (rows : List (List Nat)) : Prop := ∀ op d x : Nat, match Rm.rowFor rows op d x with
  | none => valV kvs (keyN [op, d, x]) = none
  | some r => ∃ p ts, valV kvs (keyN [op, d, x]) = some (.ref p) ∧ H p = some (.lst (ts.map V.ref)) ∧ StepsAt H ts (Rm.stepsOf r)
def PartIn (p : List Nat) : Prop := p.getD 0 0 < 3 ∧ (1 ≤ p.getD 1 0 ∧ p.getD 1 0 ≤ 2) ∧ (1 ≤ p.getD 2 0 ∧ p.getD 2 0 ≤ 15)
theorem part1 {s : List Nat} (h : s.length = 7) : s.take 3 = [s.getD 0 0, s.getD 1 0, s.getD 2 0] := by
  match s, h with
  | [_, _, _, _, _, _, _], _ => rfl
theorem part2 {s : List Nat} (h : s.length = 7) : (s.drop 3).take 3 = [s.getD 3 0, s.getD 4 0, s.getD 5 0] := by
  match s, h with
  | [_, _, _, _, _, _, _], _ => rfl
theorem dp3 {K : PySem.W.Frag} {H : Hp} {a : Addr} {x y z : Int} (h : SqL K H a [.int x, .int y, .int z]) : Dp K H (.ref a) (.list [.int x, .int y, .int z]) := .lst h (.cons (.int x) (.cons (.int y) (.cons (.int z) .nil)))
theorem dpT {K : PySem.W.Frag} {H : Hp} {a : Addr} {x y z : Int} (h : SqT K H a [.int x, .int y, .int z]) : Dp K H (.ref a) (.tuple [.int x, .int y, .int z]) := .tup h (.cons (.int x) (.cons (.int y) (.cons (.int z) .nil)))
theorem eqv3 (x y z x' y' z' : Int) : PyData.eqv (.list [.int x, .int y, .int z]) (.list [.int x', .int y', .int z']) = decide (x = x' ∧ y = y' ∧ z = z') := by
  show (x == x' && (y == y' && (z == z' && true))) = _
  rw [Bool.and_true, Bool.eq_iff_iff]
  simp
theorem eqvT (x y z x' y' z' : Int) : PyData.eqv (.tuple [.int x, .int y, .int z]) (.tuple [.int x', .int y', .int z']) = decide (x = x' ∧ y = y' ∧ z = z') := by
  show (x == x' && (y == y' && (z == z' && true))) = _
  rw [Bool.and_true, Bool.eq_iff_iff]
  simp
abbrev kN (d : Nat) : Key := Sum.inl (d : Int)
theorem kN_inj {d e : Nat} (h : kN d = kN e) : d = e := by
  have := Sum.inl.inj h
  omega
def FDict (H : Hp) (kvs : List (Key × V)) (fl : Rm.Ways) : Prop := kvs.length = fl.length ∧ ∀ (j c : Nat) (p : List Nat), fl[j]? = some (c, p) → ∃ q, kvs[j]? = some (kN c, .ref q) ∧ H q = some (lstN p)
def Keys (kvs : List (Key × V)) (n : Nat) : Prop := ∃ ds : List Nat, ds.Nodup ∧ kvs.map (·.1) = ds.map kN ∧ ∀ d ∈ ds, d < n
theorem SqL.keepX {K : PySem.W.Frag} {H H' : Hp} {a f : Addr} {xs : List V} {kvs : List (Key × V)} (hf : H f = some (.dK kvs)) (h : SqL K H a xs) (s : ∀ b o, b ≠ f → H b = some o → H' b = some o) : SqL K H' a xs := by
  rcases h with (h | ⟨o, h⟩) | h
  · exact .inl (.inl (s _ _ (ne_of h hf (by intro z; cases z)) h))
  · exact .inl (.inr ⟨o, s _ _ (ne_of h hf (by intro z; cases z)) h⟩)
  · exact .inr h
def DigAt (kvs : List (List Key × V)) (g : List Nat) : Prop := ∀ t : List Nat, t.length = 3 → (Su.InForm g t → valV kvs (keyN t) = some (.int (Su.cnt g t : Nat))) ∧ (¬ Su.InForm g t → valV kvs (keyN t) = none)
def DigsAt (H : Hp) (ds : List Addr) (gs : List (List Nat)) : Prop := ds.length = gs.length ∧ ∀ (j : Nat) (b : Addr) (g : List Nat), ds[j]? = some b → gs[j]? = some g → ∃ kvs, H b = some (.dT kvs) ∧ DigAt kvs g
def Rows (n : Nat) (H : Hp) (ps : List Addr) (ts : List (List Nat)) : Prop := ps.length = ts.length ∧ ∀ (j : Nat) (b : Addr) (t : List Nat), ps[j]? = some b → ts[j]? = some t → H b = some (lstN t) ∧ t.length = n
def ffs (r p d : Addr) : List (Str × V) := [("rods", .ref r), ("pushed", .ref p), ("digits", .ref d)]
structure Fr3 (K : PySem.W.Frag) (C : Addr) (H : Hp) (fr p : Addr) (gs : List (List Nat)) : Prop where
  ex : ∃ dx r d rs ds, H fr = some (.ins C dx (ffs r p d)) ∧ (r ≠ p ∧ d ≠ p) ∧ H r = some (.lst (rs.map V.ref)) ∧ Lists K H rs gs ∧ H d = some (.lst (ds.map V.ref)) ∧ DigsAt H ds gs
def Pu (H : Hp) (p : Addr) (ts : List (List Nat)) : Prop := ∃ ps, H p = some (.lst (ps.map V.ref)) ∧ Rows 3 H ps ts
def rfs (i : Nat) (st : Addr) (b : Nat) : List (Str × V) := [("number", .int (i : Nat)), ("steps", .ref st), ("begun", .int (b : Nat))]
def sfs (op : Nat) (fr st ru u n a : Nat) : List (Str × V) := [("op", .int (op : Nat)), ("frame", .ref fr), ("strokes", .ref st), ("rules", .ref ru), ("under_way", .ref u), ("steps_begun", .int (n : Nat)), ("acts", .ref a)]
abbrev Und := Nat × List Rm.Step × Nat
def Unds (C : Addr) (H2 H : Hp) (P U A : Addr) (us : List Addr) (st : List Und) : Prop := us.length = st.length ∧ ∀ (j : Nat) (u : Addr) (x : Und), us[j]? = some u → st[j]? = some x → H2 u = none ∧ ∃ dx s ts, H u = some (.ins C dx (rfs x.1 s x.2.2)) ∧ (s ≠ P ∧ s ≠ U ∧ s ≠ A) ∧ H s = some (.lst (ts.map V.ref)) ∧ StepsAt H ts x.2.1
structure Mach where
  ts : List (List Nat)
  acts : List (List Nat)
  n : Nat
  st : List Und
structure SumFix (K : PySem.W.Frag) (cF : Addr) (H2 : Hp) (S P : Addr) (gs ss rows : List (List Nat)) (fr sk ru : Addr) : Prop where
  frame : Fr3 K cF H2 fr P gs
  nS : ∃ c dx fs, H2 S = some (.ins c dx fs)
  nP : ∃ ps, H2 P = some (.lst (ps.map V.ref)) ∧ ps ≠ [] ∧ ∀ b ∈ ps, ∃ t, H2 b = some (lstN t)
  neF : fr ≠ S
  good : ∀ g ∈ gs, g.length = 7 ∧ Rm.RIn g ∧ Rm.Whole g
  strokes : ∃ as, H2 sk = some (.lst (as.map V.ref)) ∧ sk ≠ P ∧ Lists K H2 as ss
  sin : ∀ s ∈ ss, Rm.SIn s
  rules : ∃ kvs, H2 ru = some (.dT kvs) ∧ Rules H2 kvs rows
  rgood : ∀ l ∈ rows, Na.rowGood l = true
structure SumAt (cS cR : Addr) (H2 H : Hp) (S P U A : Addr) (op fr sk ru : Nat) (gs : List (List Nat)) (M : Mach) : Prop where
  keep : ∀ b o, b ≠ S → b ≠ P → H2 b = some o → H b = some o
  self : ∃ dx, H S = some (.ins cS dx (sfs op fr sk ru U M.n A))
  pu : Pu H P M.ts
  plen : M.ts.length = gs.length
  und : ∃ us, H U = some (.lst (us.map V.ref)) ∧ us.Nodup ∧ Unds cR H2 H P U A us M.st
  act : ∃ as, H A = some (.lst (as.map V.ref)) ∧ Rows 4 H as M.acts
  new : H2 U = none ∧ H2 A = none
  apart : U ≠ P ∧ A ≠ P ∧ U ≠ A
  inS : ∃ c dx fs, H2 S = some (.ins c dx fs)
  alen : M.acts.length ≤ M.n
  nlen : M.n ≤ 65536
  slen : M.st.length ≤ 131072
def PairsAt (H : Hp) (ts : List Addr) (xs : List (Nat × Nat)) : Prop := ts.length = xs.length ∧ ∀ (j : Nat) (t : Addr) (x : Nat × Nat), ts[j]? = some t → xs[j]? = some x → H t = some (.tup [.int (x.1 : Nat), .int (x.2 : Nat)])
noncomputable def beginN (gs rows : List (List Nat)) (op i d : Nat) (M : Mach) : Except Na.Fail Mach := match gs[i]?, M.ts[i]? with
  | some g, some t => by
    classical
    exact if Su.InForm g t then .ok { M with st := M.st ++ [(i, Rm.stepsFor rows op d (Su.cnt g t), 0)] } else .error .wrong
  | _, _ => .error .over
noncomputable def goN (gs ss rows : List (List Nat)) (op : Nat) (ts acts : List (List Nat)) (n : Nat) (r : List Und) (i : Nat) (st : List Rm.Step) (b : Nat) : Except Na.Fail Mach := match st[b]? with
  | none => .ok ⟨ts, acts, n, r⟩
  | some s => if n = 65536 then .error .long else if Rm.isC s = true then beginN gs rows op (i + 1) 1 ⟨ts, acts, n + 1, r ++ [(i, st, b + 1)]⟩ else match ss[s.1]?, gs[i]?, ts[i]? with
    | some k, some g, some t => match Rm.stroke3 (Rm.bsOf g) t k s.2.1 s.2.2 with
      | some u => .ok ⟨ts.set i u, acts ++ [[i, s.1, s.2.1, s.2.2]], n + 1, r ++ [(i, st, b + 1)]⟩
      | none => .error .wrong
    | _, _, _ => .error .wrong
def undTodo (x : Und) : Na.Todo := .moves x.1 ((x.2.1.drop x.2.2).map Rm.mv)
def runN (gs ss rows : List (List Nat)) (op o : Nat) (s : Na.Standing) (M : Mach) (W : List Na.Todo) : Except Na.Fail Na.Under := Na.carried (gs.map Na.rodOf) ⟨o, ss.map Na.strokeOf⟩ (rows.map Na.rowRule) op Na.FUEL ⟨s, (M.acts.map fun l => (⟨l.getD 0 0, l.getD 1 0, l.getD 2 0, l.getD 3 0⟩ : Na.Act)).reverse, M.n⟩ (M.st.reverse.map undTodo ++ W)
theorem putF_len (f : Str) (v : V) : ∀ fs : List (Str × V), (putF f v fs).length ≤ fs.length + 1
  | [] => Nat.le_refl _
  | (g, x) :: r => by
    have := putF_len f v r
    unfold putF
    split
    · simp
    · simp only [List.length_cons]
      omega
theorem ffs_r {r p d : Addr} : (ffs r p d).lookup ("rods" : Str) = some (.ref r) := by kernel_rfl
theorem ffs_p {r p d : Addr} : (ffs r p d).lookup ("pushed" : Str) = some (.ref p) := by kernel_rfl
theorem ffs_d {r p d : Addr} : (ffs r p d).lookup ("digits" : Str) = some (.ref d) := by kernel_rfl
theorem keyN_kV (t : List Nat) : (keyN t).map kV = (nz t).map V.int := by
  unfold keyN
  rw [List.map_map]
  rfl
theorem at_len {α β : Type} {l : List α} {m : List β} {i : Nat} {y : β} (h : l.length = m.length) (e : m[i]? = some y) : ∃ x, l[i]? = some x := by
  have := (List.getElem?_eq_some_iff.mp e).1
  exact ⟨_, List.getElem?_eq_getElem (by omega)⟩
theorem lst_snoc (l : List Nat) (x : Nat) {z : Int} (e : z = (x : Int)) : (nz l).map V.int ++ [V.int z] = (nz (l ++ [x])).map V.int := by
  rw [e]
  unfold nz BkNeutral.ints
  rw [List.map_append, List.map_append]
  rfl
theorem groups_le {l : List Nat} (h : l.length % 7 = 0) (h2 : l.length ≤ 500) : (Na.groups 7 l).length ≤ 71 := by
  rw [Mm.groups_is (by decide) h, List.length_map, List.length_range]
  omega
theorem SqL.keepL {K : PySem.W.Frag} {H : Hp} {a L : Addr} {xs ys zs : List V} (hL : H L = some (.lst ys)) (h : SqL K H a xs) (hne : xs ≠ ys) : SqL K (upd H L (.lst zs)) a xs := by
  rcases h with (h | ⟨o, h⟩) | h
  · refine .inl (.inl ?_)
    rw [upd_ne (fun z => by rw [z, hL] at h; cases h; exact hne rfl)]
    exact h
  · refine .inl (.inr ⟨o, ?_⟩)
    rw [upd_ne (fun z => by rw [z, hL] at h; cases h)]
    exact h
  · exact .inr h
theorem updS {H : Hp} {a : Addr} {o : HO} (h : H a = some o) : upd H a o = H := by
  funext b
  by_cases e : b = a
  · rw [e, upd_same, h]
  · rw [upd_ne e]
theorem rest_succ {gs : List (List Nat)} {v i : Nat} {g : List Nat} (h : gs[i]? = some g) : An.restAt gs v (i + 1) = An.restAt gs v i / g.getD 0 0 := by
  show An.restAt gs v i / (gs.getD i []).getD 0 0 = _
  have e : gs.getD i [] = g := by rw [List.getD_eq_getElem?_getD, h]; rfl
  rw [e]
theorem apart_abs (x y : Nat) : (if ((x : Int) - y) < 0 then -((x : Int) - y) else (x : Int) - y) = ((Na.apartBy x y : Nat) : Int) := by
  unfold Na.apartBy
  split <;> omega
theorem SqL.keepI {K : PySem.W.Frag} {H H' : Hp} {a fr C dx : Addr} {fs : List (Str × V)} {xs : List V} (hf : H fr = some (.ins C dx fs)) (h : SqL K H a xs) (s : ∀ b o, b ≠ fr → H b = some o → H' b = some o) : SqL K H' a xs := by
  rcases h with (h | ⟨o, h⟩) | h
  · exact .inl (.inl (s _ _ (ne_of h hf (by intro z; cases z)) h))
  · exact .inl (.inr ⟨o, s _ _ (ne_of h hf (by intro z; cases z)) h⟩)
  · exact .inr h
theorem Lists.keepI {K : PySem.W.Frag} {H H' : Hp} {as : List Addr} {gs : List (List Nat)} {fr C dx : Addr} {fs : List (Str × V)} (h : Lists K H as gs) (hf : H fr = some (.ins C dx fs)) (s : ∀ b o, b ≠ fr → H b = some o → H' b = some o) : Lists K H' as gs := ⟨h.1, fun j b g e1 e2 => SqL.keepI hf (h.2 j b g e1 e2) s⟩
theorem ixN_nat {n j : Nat} (h : j < n) : ixN n (j : Int) = some j := by
  unfold ixN
  rw [if_pos (by omega), if_pos (by omega)]
  rfl
theorem rows_ne {n : Nat} {H : Hp} {b L : Addr} {t : List Nat} {us : List Addr} (h : H b = some (lstN t)) (ht : t.length = n) (hn : n ≠ 0) (hL : H L = some (.lst (us.map V.ref))) : b ≠ L := fun z => by
  rw [z, hL] at h
  cases t with
  | nil => exact hn ht.symm
  | cons x t =>
    cases us with
    | nil => cases h
    | cons u us => cases h
theorem Rows.mono {n : Nat} {H H' : Hp} {ps : List Addr} {ts : List (List Nat)} (h : Rows n H ps ts) (k : ∀ b t, H b = some (lstN t) → t.length = n → H' b = some (lstN t)) : Rows n H' ps ts := ⟨h.1, fun j b t e1 e2 => ⟨k b t (h.2 j b t e1 e2).1 (h.2 j b t e1 e2).2, (h.2 j b t e1 e2).2⟩⟩
theorem Rows.snoc {n : Nat} {H : Hp} {ps : List Addr} {ts : List (List Nat)} {b : Addr} {t : List Nat} (h : Rows n H ps ts) (hb : H b = some (lstN t)) (ht : t.length = n) : Rows n H (ps ++ [b]) (ts ++ [t]) := by
  refine ⟨by rw [List.length_append, List.length_append, h.1]; rfl, fun j b' g' e1 e2 => ?_⟩
  rcases get_snoc e1 with ⟨k1, e1⟩ | ⟨k1, rfl⟩
  · rcases get_snoc e2 with ⟨k2, e2⟩ | ⟨k2, e2⟩
    · exact h.2 j b' g' e1 e2
    · have := h.1
      omega
  · rcases get_snoc e2 with ⟨k2, e2⟩ | ⟨k2, e2⟩
    · have := h.1
      omega
    · rw [e2]
      exact ⟨hb, ht⟩
theorem Unds.mono {C : Addr} {H2 H H' : Hp} {P U A : Addr} {us : List Addr} {st : List Und} (h : Unds C H2 H P U A us st) (k1 : ∀ b dx fs, b ∈ us → H b = some (.ins C dx fs) → H' b = some (.ins C dx fs)) (k2 : ∀ s xs, s ≠ P → s ≠ U → s ≠ A → H s = some (.lst xs) → H' s = some (.lst xs)) (k3 : ∀ t xs, H t = some (.tup xs) → H' t = some (.tup xs)) : Unds C H2 H' P U A us st :=
  ⟨h.1, fun j u x e1 e2 => by
    obtain ⟨n, dx, s, ts, h1, h2, h3, h4⟩ := h.2 j u x e1 e2
    exact ⟨n, dx, s, ts, k1 _ _ _ (List.mem_of_getElem? e1) h1, h2, k2 _ _ h2.1 h2.2.1 h2.2.2 h3, h4.1, fun j t s e1 e2 => k3 _ _ (h4.2 j t s e1 e2)⟩⟩
section
variable {cS cR : Addr} {H2 H H' : Hp} {S P U A : Addr} {op fr sk ru : Nat} {gs : List (List Nat)} {M : Mach}
theorem SumAt.same (h : SumAt cS cR H2 H S P U A op fr sk ru gs M) (s : Same H H') : SumAt cS cR H2 H' S P U A op fr sk ru gs M := by
  obtain ⟨dx, h1⟩ := h.self
  obtain ⟨ps, p1, p2⟩ := h.pu
  obtain ⟨us, u1, u2, u3⟩ := h.und
  obtain ⟨as, a1, a2⟩ := h.act
  exact ⟨fun b o n1 n2 e => s _ _ (h.keep b o n1 n2 e), ⟨dx, s _ _ h1⟩, ⟨ps, s _ _ p1, p2.mono fun b t e _ => s _ _ e⟩, h.plen, ⟨us, s _ _ u1, u2, u3.mono (fun b dx fs _ e => s _ _ e) (fun b xs _ _ _ e => s _ _ e) (fun b xs e => s _ _ e)⟩, ⟨as, s _ _ a1, a2.mono fun b t e _ => s _ _ e⟩, h.new, h.apart, h.inS, h.alen, h.nlen, h.slen⟩
theorem SumAt.setN (h : SumAt cS cR H2 H S P U A op fr sk ru gs M) {dx : Addr} {n : Nat} (hn : M.acts.length ≤ n) (hn2 : n ≤ 65536) : SumAt cS cR H2 (upd H S (.ins cS dx (sfs op fr sk ru U n A))) S P U A op fr sk ru gs { M with n := n } := by
  obtain ⟨dx0, h1⟩ := h.self
  obtain ⟨ps, p1, p2⟩ := h.pu
  obtain ⟨us, u1, u2, u3⟩ := h.und
  obtain ⟨as, a1, a2⟩ := h.act
  obtain ⟨c, dxs, fss, hS⟩ := h.inS
  have kl : ∀ b xs, H b = some (.lst xs) → (upd H S (.ins cS dx (sfs op fr sk ru U n A))) b = some (.lst xs) := fun b xs e => by
    rw [upd_ne (ne_of e h1 (by intro z; cases z))]
    exact e
  refine ⟨fun b o n1 n2 e => ?_, ⟨dx, upd_same⟩, ⟨ps, kl _ _ p1, p2.mono fun b t e _ => kl _ _ e⟩, h.plen, ⟨us, kl _ _ u1, u2, u3.mono (fun b dx' fs hb e => ?_) (fun b xs _ _ _ e => kl _ _ e) (fun b xs e => ?_)⟩, ⟨as, kl _ _ a1, a2.mono fun b t e _ => kl _ _ e⟩, h.new, h.apart, h.inS, hn, hn2, h.slen⟩
  · rw [upd_ne n1]
    exact h.keep b o n1 n2 e
  · obtain ⟨j, hj⟩ := List.getElem?_of_mem hb
    obtain ⟨x, hx⟩ := at_len u3.1.symm hj
    have := (u3.2 j b x hj hx).1
    rw [upd_ne (fun z => by rw [z, hS] at this; cases this)]
    exact e
  · rw [upd_ne (ne_of e h1 (by intro z; cases z))]
    exact e
theorem SumAt.setU (h : SumAt cS cR H2 H S P U A op fr sk ru gs M) {us : List Addr} {st : List Und} (nd : us.Nodup) (hu : Unds cR H2 H P U A us st) (hl : st.length ≤ 131072) : SumAt cS cR H2 (upd H U (.lst (us.map V.ref))) S P U A op fr sk ru gs { M with st := st } := by
  obtain ⟨dx, h1⟩ := h.self
  obtain ⟨ps, p1, p2⟩ := h.pu
  obtain ⟨us0, u1, u2, u3⟩ := h.und
  obtain ⟨as, a1, a2⟩ := h.act
  have kr : ∀ n b t, n ≠ 0 → H b = some (lstN t) → t.length = n → (upd H U (.lst (us.map V.ref))) b = some (lstN t) := fun n b t hn e ht => by
    rw [upd_ne (rows_ne e ht hn u1)]
    exact e
  refine ⟨fun b o n1 n2 e => ?_, ⟨dx, ?_⟩, ⟨ps, ?_, p2.mono fun b t e ht => kr 3 _ _ (by decide) e ht⟩, h.plen, ⟨us, upd_same, nd, hu.mono (fun b dx' fs hb e => ?_) (fun b xs _ n2 _ e => ?_) (fun b xs e => ?_)⟩, ⟨as, ?_, a2.mono fun b t e ht => kr 4 _ _ (by decide) e ht⟩, h.new, h.apart, h.inS, h.alen, h.nlen, hl⟩
  · rw [upd_ne (ne_of_none e h.new.1)]
    exact h.keep b o n1 n2 e
  · rw [upd_ne (ne_of h1 u1 (by intro z; cases z))]
    exact h1
  · rw [upd_ne (Ne.symm h.apart.1)]
    exact p1
  · rw [upd_ne (ne_of e u1 (by intro z; cases z))]
    exact e
  · rw [upd_ne n2]
    exact e
  · rw [upd_ne (ne_of e u1 (by intro z; cases z))]
    exact e
  · rw [upd_ne (Ne.symm h.apart.2.2)]
    exact a1
theorem SumAt.addA (h : SumAt cS cR H2 H S P U A op fr sk ru gs M) {as : List Addr} {acts : List (List Nat)} (ha : Rows 4 H as acts) (hn : acts.length ≤ M.n) : SumAt cS cR H2 (upd H A (.lst (as.map V.ref))) S P U A op fr sk ru gs { M with acts := acts } := by
  obtain ⟨dx, h1⟩ := h.self
  obtain ⟨ps, p1, p2⟩ := h.pu
  obtain ⟨us, u1, u2, u3⟩ := h.und
  obtain ⟨as0, a1, a2⟩ := h.act
  have kr : ∀ n b t, n ≠ 0 → H b = some (lstN t) → t.length = n → (upd H A (.lst (as.map V.ref))) b = some (lstN t) := fun n b t hn e ht => by
    rw [upd_ne (rows_ne e ht hn a1)]
    exact e
  refine ⟨fun b o n1 n2 e => ?_, ⟨dx, ?_⟩, ⟨ps, ?_, p2.mono fun b t e ht => kr 3 _ _ (by decide) e ht⟩, h.plen, ⟨us, ?_, u2, u3.mono (fun b dx' fs hb e => ?_) (fun b xs _ _ n3 e => ?_) (fun b xs e => ?_)⟩, ⟨as, upd_same, ha.mono fun b t e ht => kr 4 _ _ (by decide) e ht⟩, h.new, h.apart, h.inS, hn, h.nlen, h.slen⟩
  · rw [upd_ne (ne_of_none e h.new.2)]
    exact h.keep b o n1 n2 e
  · rw [upd_ne (ne_of h1 a1 (by intro z; cases z))]
    exact h1
  · rw [upd_ne (Ne.symm h.apart.2.1)]
    exact p1
  · rw [upd_ne h.apart.2.2]
    exact u1
  · rw [upd_ne (ne_of e a1 (by intro z; cases z))]
    exact e
  · rw [upd_ne n3]
    exact e
  · rw [upd_ne (ne_of e a1 (by intro z; cases z))]
    exact e
theorem SumAt.setP (h : SumAt cS cR H2 H S P U A op fr sk ru gs M) {ts : List (List Nat)} (k : ∀ b o, b ≠ P → H b = some o → H' b = some o) (hp : Pu H' P ts) (hl : ts.length = gs.length) : SumAt cS cR H2 H' S P U A op fr sk ru gs { M with ts := ts } := by
  obtain ⟨dx, h1⟩ := h.self
  obtain ⟨ps, p1, p2⟩ := h.pu
  obtain ⟨us, u1, u2, u3⟩ := h.und
  obtain ⟨as, a1, a2⟩ := h.act
  exact ⟨fun b o n1 n2 e => k _ _ n2 (h.keep b o n1 n2 e), ⟨dx, k _ _ (ne_of h1 p1 (by intro z; cases z)) h1⟩, hp, hl, ⟨us, k _ _ h.apart.1 u1, u2, u3.mono (fun b dx' fs hb e => k _ _ (ne_of e p1 (by intro z; cases z)) e) (fun b xs n1 _ _ e => k _ _ n1 e) (fun b xs e => k _ _ (ne_of e p1 (by intro z; cases z)) e)⟩, ⟨as, k _ _ h.apart.2.1 a1, a2.mono fun b t e ht => k _ _ (rows_ne e ht (by decide) p1) e⟩, h.new, h.apart, h.inS, h.alen, h.nlen, h.slen⟩
theorem SumAt.setB (h : SumAt cS cR H2 H S P U A op fr sk ru gs M) {us : List Addr} {r : List Und} {u dx s : Addr} {i b : Nat} {st : List Rm.Step} {ts : List Addr} (hU : H U = some (.lst ((us ++ [u]).map V.ref))) (nd : (us ++ [u]).Nodup) (hu : Unds cR H2 H P U A (us ++ [u]) (r ++ [(i, st, b)])) (he : M.st = r ++ [(i, st, b)])
    (hs : (s ≠ P ∧ s ≠ U ∧ s ≠ A) ∧ H s = some (.lst (ts.map V.ref)) ∧ StepsAt H ts st) {b' : Nat} (hH : H u = some (.ins cR dx (rfs i s b))) : SumAt cS cR H2 (upd H u (.ins cR dx (rfs i s b'))) S P U A op fr sk ru gs { M with st := r ++ [(i, st, b')] } := by
  obtain ⟨dxS, h1⟩ := h.self
  obtain ⟨ps, p1, p2⟩ := h.pu
  obtain ⟨as, a1, a2⟩ := h.act
  have hul : us.length = r.length := by
    have := hu.1
    rw [List.length_append, List.length_append] at this
    simpa using this
  obtain ⟨c, dxs, fss, hS⟩ := h.inS
  have hnu : H2 u = none := (hu.2 us.length u (i, st, b) (by rw [List.getElem?_append_right (Nat.le_refl _)]; simp) (by rw [List.getElem?_append_right (by omega), hul]; simp)).1
  have kl : ∀ b xs, H b = some (.lst xs) → (upd H u (.ins cR dx (rfs i s b'))) b = some (.lst xs) := fun b xs e => by
    rw [upd_ne (ne_of e hH (by intro z; cases z))]
    exact e
  have kt : ∀ b xs, H b = some (.tup xs) → (upd H u (.ins cR dx (rfs i s b'))) b = some (.tup xs) := fun b xs e => by
    rw [upd_ne (ne_of e hH (by intro z; cases z))]
    exact e
  refine ⟨fun b o n1 n2 e => ?_, ⟨dxS, ?_⟩, ⟨ps, kl _ _ p1, p2.mono fun b t e _ => kl _ _ e⟩, h.plen, ⟨us ++ [u], kl _ _ hU, nd, ?_, fun j v x e1 e2 => ?_⟩, ⟨as, kl _ _ a1, a2.mono fun b t e _ => kl _ _ e⟩, h.new, h.apart, h.inS, h.alen, h.nlen, ?_⟩
  · rw [upd_ne (ne_of_none e hnu)]
    exact h.keep b o n1 n2 e
  · rw [upd_ne (fun z => by rw [← z, hS] at hnu; cases hnu)]
    exact h1
  · rw [List.length_append, List.length_append, hul]
    rfl
  · rcases get_snoc e1 with ⟨k1, e1'⟩ | ⟨k1, rfl⟩
    · rcases get_snoc e2 with ⟨k2, e2⟩ | ⟨k2, e2⟩
      · obtain ⟨n, dx', s', ts', q1, q2, q3, q4⟩ := hu.2 j v x e1 (by rw [List.getElem?_append_left k2]; exact e2)
        have nv : v ≠ u := fun z => by
          have := (List.nodup_append.mp nd).2.2 v (List.mem_of_getElem? e1') u (List.mem_singleton.mpr rfl)
          exact this z
        exact ⟨n, dx', s', ts', by rw [upd_ne nv]; exact q1, q2, kl _ _ q3, q4.1, fun j t s e1 e2 => kt _ _ (q4.2 j t s e1 e2)⟩
      · omega
    · rcases get_snoc e2 with ⟨k2, e2⟩ | ⟨k2, e2⟩
      · omega
      · rw [e2]
        exact ⟨hnu, dx, s, ts, upd_same, hs.1, kl _ _ hs.2.1, hs.2.2.1, fun j t s e1 e2 => kt _ _ (hs.2.2.2 j t s e1 e2)⟩
  · have := h.slen
    rw [he] at this
    rw [List.length_append] at this ⊢
    exact this
end
section
variable {op : Nat} {fr st ru u n a : Nat}
theorem sfs_op : (sfs op fr st ru u n a).lookup ("op" : Str) = some (.int (op : Nat)) := by kernel_rfl
theorem sfs_fr : (sfs op fr st ru u n a).lookup ("frame" : Str) = some (.ref fr) := by kernel_rfl
theorem sfs_sk : (sfs op fr st ru u n a).lookup ("strokes" : Str) = some (.ref st) := by kernel_rfl
theorem sfs_ru : (sfs op fr st ru u n a).lookup ("rules" : Str) = some (.ref ru) := by kernel_rfl
theorem sfs_u : (sfs op fr st ru u n a).lookup ("under_way" : Str) = some (.ref u) := by kernel_rfl
theorem sfs_n : (sfs op fr st ru u n a).lookup ("steps_begun" : Str) = some (.int (n : Nat)) := by kernel_rfl
theorem sfs_a : (sfs op fr st ru u n a).lookup ("acts" : Str) = some (.ref a) := by kernel_rfl
theorem sfs_setN : putF "steps_begun" (.int ((n : Int) + 1)) (sfs op fr st ru u n a) = sfs op fr st ru u (n + 1) a := by kernel_rfl
theorem rfs_i {i b : Nat} {s : Addr} : (rfs i s b).lookup ("number" : Str) = some (.int (i : Nat)) := by kernel_rfl
theorem rfs_s {i b : Nat} {s : Addr} : (rfs i s b).lookup ("steps" : Str) = some (.ref s) := by kernel_rfl
theorem rfs_b {i b : Nat} {s : Addr} : (rfs i s b).lookup ("begun" : Str) = some (.int (b : Nat)) := by kernel_rfl
theorem rfs_setB {i b : Nat} {s : Addr} : putF "begun" (.int ((b : Int) + 1)) (rfs i s b) = rfs i s (b + 1) := by kernel_rfl
end
theorem SqL.keepSP {K : PySem.W.Frag} {H H' : Hp} {a S P c dx : Addr} {fs : List (Str × V)} {xs : List V} {ps : List Addr} (hS : H S = some (.ins c dx fs)) (hP : H P = some (.lst (ps.map V.ref))) (h : SqL K H a xs) (hx : ∃ i r, xs = V.int i :: r) (k : ∀ b o, b ≠ S → b ≠ P → H b = some o → H' b = some o) : SqL K H' a xs := by
  obtain ⟨i, r, rfl⟩ := hx
  have n1 : ∀ ys, H a = some (.lst ys) → ys = V.int i :: r → a ≠ P := fun ys e ey z => by
    rw [z, hP] at e
    cases e
    cases ps with
    | nil => cases ey
    | cons p ps => cases ey
  rcases h with (h | ⟨o, h⟩) | h
  · exact .inl (.inl (k _ _ (ne_of h hS (by intro z; cases z)) (n1 _ h rfl) h))
  · exact .inl (.inr ⟨o, k _ _ (ne_of h hS (by intro z; cases z)) (ne_of h hP (by intro z; cases z)) h⟩)
  · exact .inr h
theorem nz_cons {g : List Nat} (h : 0 < g.length) : ∃ i r, (nz g).map V.int = V.int i :: r := by
  cases g with
  | nil => simp at h
  | cons x g => exact ⟨_, _, rfl⟩
theorem Fr3.keepSP {K : PySem.W.Frag} {C : Addr} {H H' : Hp} {fr P S c dx : Addr} {fs : List (Str × V)} {ps : List Addr} {gs : List (List Nat)} (h : Fr3 K C H fr P gs) (hg : ∀ g ∈ gs, g.length = 7 ∧ Rm.RIn g ∧ Rm.Whole g) (hS : H S = some (.ins c dx fs)) (hP : H P = some (.lst (ps.map V.ref))) (hn : fr ≠ S) (k : ∀ b o, b ≠ S → b ≠ P → H b = some o → H' b = some o) : Fr3 K C H' fr P gs := by
  obtain ⟨dx, r, d, rs, ds, hfr, hne, hr1, hrs, hd1, hds⟩ := h.ex
  refine ⟨dx, r, d, rs, ds, k _ _ hn (ne_of hfr hP (by intro z; cases z)) hfr, hne, k _ _ (ne_of hr1 hS (by intro z; cases z)) hne.1 hr1, ⟨hrs.1, fun j b g e1 e2 => ?_⟩, k _ _ (ne_of hd1 hS (by intro z; cases z)) hne.2 hd1, hds.1, fun j b g e1 e2 => ?_⟩
  · have := (hg g (List.mem_of_getElem? e2)).1
    exact SqL.keepSP hS hP (hrs.2 j b g e1 e2) (nz_cons (by omega)) k
  · obtain ⟨kv, h1, h2⟩ := hds.2 j b g e1 e2
    exact ⟨kv, k _ _ (ne_of h1 hS (by intro z; cases z)) (ne_of h1 hP (by intro z; cases z)) h1, h2⟩
section
variable {K : PySem.W.Frag} {cF cS cR : Addr} {H2 H : Hp} {S P U A : Addr} {op fr sk ru : Nat} {gs ss rows : List (List Nat)} {M : Mach}
theorem sum_fr (F : SumFix K cF H2 S P gs ss rows fr sk ru) (h : SumAt cS cR H2 H S P U A op fr sk ru gs M) : Fr3 K cF H fr P gs := by
  obtain ⟨c, dx, fs, hS⟩ := F.nS
  obtain ⟨ps, hP, _⟩ := F.nP
  exact Fr3.keepSP F.frame F.good hS hP F.neF h.keep
theorem sum_sk (F : SumFix K cF H2 S P gs ss rows fr sk ru) (h : SumAt cS cR H2 H S P U A op fr sk ru gs M) : ∃ as, H sk = some (.lst (as.map V.ref)) ∧ Lists K H as ss := by
  obtain ⟨c, dx, fs, hS⟩ := F.nS
  obtain ⟨ps, hP, _⟩ := F.nP
  obtain ⟨as, h1, h2, h3⟩ := F.strokes
  refine ⟨as, h.keep _ _ (ne_of h1 hS (by intro z; cases z)) h2 h1, h3.1, fun j b g e1 e2 => ?_⟩
  have := (F.sin g (List.mem_of_getElem? e2)).1
  exact SqL.keepSP hS hP (h3.2 j b g e1 e2) (nz_cons (by omega)) h.keep
theorem sum_ru (F : SumFix K cF H2 S P gs ss rows fr sk ru) (h : SumAt cS cR H2 H S P U A op fr sk ru gs M) : ∃ kvs, H ru = some (.dT kvs) ∧ ∀ op d x, (Rm.rowFor rows op d x = none → valV kvs (keyN [op, d, x]) = none) ∧ ∀ r, Rm.rowFor rows op d x = some r →
    ∃ p ts, valV kvs (keyN [op, d, x]) = some (.ref p) ∧ (p ≠ P ∧ p ≠ U ∧ p ≠ A) ∧ H p = some (.lst (ts.map V.ref)) ∧ StepsAt H ts (Rm.stepsOf r) := by
  obtain ⟨c, dx, fs, hS⟩ := F.nS
  obtain ⟨ps, hP, hps, hpb⟩ := F.nP
  obtain ⟨kvs, h1, h2⟩ := F.rules
  refine ⟨kvs, h.keep _ _ (ne_of h1 hS (by intro z; cases z)) (ne_of h1 hP (by intro z; cases z)) h1, fun op d x => ?_⟩
  have hr := h2 op d x
  cases e : Rm.rowFor rows op d x with
  | none =>
    rw [e] at hr
    exact ⟨fun _ => hr, fun r z => by cases z⟩
  | some r =>
    rw [e] at hr
    obtain ⟨p, ts, v, hp, hst⟩ := hr
    refine ⟨fun z => (by cases z), fun r' z => ?_⟩
    cases z
    have np : p ≠ P := fun z => by
      rw [z, hP] at hp
      cases ps with
      | nil => exact hps rfl
      | cons b ps =>
        cases ts with
        | nil => cases hp
        | cons t ts =>
          have eb : b = t := by
            injection hp with hp
            injection hp with hp
            injection hp with hp _
            injection hp
          obtain ⟨w, hw⟩ := hpb b List.mem_cons_self
          have hs0 : 0 < (Rm.stepsOf r).length := by rw [← hst.1]; simp
          have := hst.2 0 t _ rfl (List.getElem?_eq_getElem hs0)
          rw [← eb, hw] at this
          cases this
    have kk : ∀ b o, H2 b = some o → b ≠ P → (∀ c dx fs, o ≠ .ins c dx fs) → H b = some o := fun b o e nb no => h.keep _ _ (fun z => by rw [z, hS] at e; cases e; exact no _ _ _ rfl) nb e
    refine ⟨p, ts, v, ⟨np, ne_of_none hp h.new.1, ne_of_none hp h.new.2⟩, kk _ _ hp np (by intro _ _ _ z; cases z), hst.1, fun j t s e1 e2 => ?_⟩
    have ht := hst.2 j t s e1 e2
    exact kk _ _ ht (ne_of ht hP (by intro z; cases z)) (by intro _ _ _ z; cases z)
theorem sum_new (h : SumAt cS cR H2 H S P U A op fr sk ru gs M) {u : Addr} (hu : H u = none) : H2 u = none := by
  obtain ⟨dx, h1⟩ := h.self
  obtain ⟨ps, p1, _⟩ := h.pu
  cases e : H2 u with
  | none => rfl
  | some o =>
    have := h.keep u o (fun z => by rw [z, h1] at hu; cases hu) (fun z => by rw [z, p1] at hu; cases hu) e
    rw [hu] at this
    cases this
theorem unds_snoc {us : List Addr} {st : List Und} {u dx s : Addr} {x : Und} {ts : List Addr} (h : Unds cR H2 H P U A us st) (hn : H2 u = none) (h1 : H u = some (.ins cR dx (rfs x.1 s x.2.2))) (h2 : s ≠ P ∧ s ≠ U ∧ s ≠ A) (h3 : H s = some (.lst (ts.map V.ref))) (h4 : StepsAt H ts x.2.1) : Unds cR H2 H P U A (us ++ [u]) (st ++ [x]) := by
  refine ⟨by rw [List.length_append, List.length_append, h.1]; rfl, fun j b' g' e1 e2 => ?_⟩
  rcases get_snoc e1 with ⟨k1, e1⟩ | ⟨k1, rfl⟩
  · rcases get_snoc e2 with ⟨k2, e2⟩ | ⟨k2, e2⟩
    · exact h.2 j b' g' e1 e2
    · have := h.1
      omega
  · rcases get_snoc e2 with ⟨k2, e2⟩ | ⟨k2, e2⟩
    · have := h.1
      omega
    · rw [e2]
      exact ⟨hn, dx, s, ts, h1, h2, h3, h4⟩
end
theorem atI_last {α : Type} (l : List α) (x : α) : atI (l ++ [x]) (-1) = some x := by
  unfold atI ixN
  rw [if_neg (by decide), if_pos (by rw [List.length_append]; simp only [List.length_cons, List.length_nil]; omega)]
  show (l ++ [x])[(-1 + ((l ++ [x]).length : Int)).toNat]? = some x
  have e : (-1 + ((l ++ [x]).length : Int)).toNat = l.length := by
    rw [List.length_append]
    simp only [List.length_cons, List.length_nil]
    omega
  rw [e, List.getElem?_append_right (Nat.le_refl _), Nat.sub_self]
  rfl
theorem Rules.keepI {H H' : Hp} {kvs : List (List Key × V)} {rows : List (List Nat)} {S C dx : Addr} {fs : List (Str × V)} (h : Rules H kvs rows) (hS : H S = some (.ins C dx fs)) (k : ∀ b o, b ≠ S → H b = some o → H' b = some o) : Rules H' kvs rows := by
  intro op d x
  have hr := h op d x
  cases e : Rm.rowFor rows op d x with
  | none =>
    rw [e] at hr
    exact hr
  | some r =>
    rw [e] at hr
    obtain ⟨p, ts, v, hp, hst⟩ := hr
    exact ⟨p, ts, v, k _ _ (ne_of hp hS (by intro z; cases z)) hp, hst.1, fun j t s e1 e2 => k _ _ (ne_of (hst.2 j t s e1 e2) hS (by intro z; cases z)) (hst.2 j t s e1 e2)⟩
def UOk (gs : List (List Nat)) (M : Mach) : Prop := (∀ x ∈ M.st, x.1 < gs.length ∧ x.2.2 ≤ x.2.1.length ∧ ∀ s ∈ x.2.1, Rm.StepIn s) ∧ M.st.length ≤ M.n + 1 ∧ M.n ≤ 65536
def actsN (l : List (List Nat)) : List Na.Act := l.map fun l => (⟨l.getD 0 0, l.getD 1 0, l.getD 2 0, l.getD 3 0⟩ : Na.Act)
theorem weight_app : ∀ (a b : List Na.Todo), Sm.weight (a ++ b) = Sm.weight a + Sm.weight b
  | [], b => by simp [Sm.weight]
  | .digit _ _ :: a, b => by
    have := weight_app a b
    show 2 + Sm.weight (a ++ b) = 2 + Sm.weight a + Sm.weight b
    omega
  | .moves _ _ :: a, b => by
    have := weight_app a b
    show 1 + Sm.weight (a ++ b) = 1 + Sm.weight a + Sm.weight b
    omega
theorem weight_und : ∀ l : List Und, Sm.weight (l.map undTodo) = l.length
  | [] => rfl
  | x :: l => by
    have := weight_und l
    show 1 + Sm.weight (l.map undTodo) = l.length + 1
    omega
theorem mu_is (u : Na.Under) (st : List Und) (W : List Na.Todo) : Sm.mu u (st.reverse.map undTodo ++ W) = 3 * (65536 - u.steps) + (st.length + Sm.weight W) := by
  unfold Sm.mu
  rw [weight_app, weight_und, List.length_reverse]
  rfl
section
variable {gs ss rows : List (List Nat)} {op o : Nat} {W : List Na.Todo}
theorem begin_no {i d : Nat} {g t : List Nat} {u : Na.Under} {L : List Na.Todo} {ts : List (List Nat)} (hg : Su.Rods gs) (hs : Su.Std gs u.s ts) (e1 : gs[i]? = some g) (e2 : ts[i]? = some t) (hn : ¬ Su.InForm g t) :
    Na.carried (gs.map Na.rodOf) ⟨o, ss.map Na.strokeOf⟩ (rows.map Na.rowRule) op Na.FUEL u (.digit i d :: L) = .error .wrong := by
  have hi := (List.getElem?_eq_some_iff.mp e1).1
  refine Sm.carried_fail (by decide) ?_
  rw [Sm.on_digit, if_neg (by rw [List.length_map]; omega), Su.shown_none hg hs e1 e2 hn]
theorem begin_yes {i d : Nat} {g t : List Nat} {u : Na.Under} {L : List Na.Todo} {ts : List (List Nat)} (hg : Su.Rods gs) (hr : ∀ l ∈ rows, Na.rowGood l = true) (hs : Su.Std gs u.s ts) (e1 : gs[i]? = some g) (e2 : ts[i]? = some t) (hy : Su.InForm g t) (hu : u.steps ≤ Na.STEPS) (hf : Sm.mu u (.digit i d :: L) ≤ Na.FUEL) :
    Na.carried (gs.map Na.rodOf) ⟨o, ss.map Na.strokeOf⟩ (rows.map Na.rowRule) op Na.FUEL u (.digit i d :: L) = Na.carried (gs.map Na.rodOf) ⟨o, ss.map Na.strokeOf⟩ (rows.map Na.rowRule) op Na.FUEL u (undTodo (i, Rm.stepsFor rows op d (Su.cnt g t), 0) :: L) := by
  have hi := (List.getElem?_eq_some_iff.mp e1).1
  refine Sm.carried_step hu hf ?_
  rw [Sm.on_digit, if_neg (by rw [List.length_map]; omega), Su.shown_some hg hs e1 e2 hy]
  show Except.ok (u, Na.Todo.moves i (Na.ruleOf (rows.map Na.rowRule) op d (Su.cnt g t)) :: L) = _
  rw [Rm.ruleOf_eq hr]
  rfl
theorem begin_over {i d : Nat} {u : Na.Under} {L : List Na.Todo} (hi : gs.length ≤ i) :
    Na.carried (gs.map Na.rodOf) ⟨o, ss.map Na.strokeOf⟩ (rows.map Na.rowRule) op Na.FUEL u (.digit i d :: L) = .error .over := by
  refine Sm.carried_fail (by decide) ?_
  rw [Sm.on_digit, if_pos (by rw [List.length_map]; exact hi)]
theorem run_top {s : Na.Standing} {M : Mach} {r : List Und} {x : Und} (h : M.st = r ++ [x]) : runN gs ss rows op o s M W = Na.carried (gs.map Na.rodOf) ⟨o, ss.map Na.strokeOf⟩ (rows.map Na.rowRule) op Na.FUEL ⟨s, (actsN M.acts).reverse, M.n⟩ (undTodo x :: (r.reverse.map undTodo ++ W)) := by
  unfold runN
  rw [h, List.reverse_append]
  rfl
theorem go_run {s : Na.Standing} {M : Mach} {r : List Und} {i : Nat} {st : List Rm.Step} {b : Nat} (hg : Su.Rods gs) (hS : ∀ s ∈ ss, Rm.SIn s) (hr : ∀ l ∈ rows, Na.rowGood l = true) (hM : M.st = r ++ [(i, st, b)]) (ok : UOk gs M) (hs : Su.Std gs s M.ts) (hW : Sm.weight W ≤ 300) :
    (∀ e, goN gs ss rows op M.ts M.acts M.n r i st b = .error e → runN gs ss rows op o s M W = .error e) ∧
    ∀ M', goN gs ss rows op M.ts M.acts M.n r i st b = .ok M' → UOk gs M' ∧ 3 * (65536 - M'.n) + M'.st.length < 3 * (65536 - M.n) + M.st.length ∧ ∃ s', Su.Std gs s' M'.ts ∧ runN gs ss rows op o s M W = runN gs ss rows op o s' M' W := by
  obtain ⟨ok1, ok2, ok3⟩ := ok
  have hx := ok1 (i, st, b) (by rw [hM]; simp)
  obtain ⟨hi, hb, hsi⟩ : i < gs.length ∧ b ≤ st.length ∧ ∀ s ∈ st, Rm.StepIn s := hx
  have hlen : M.st.length = r.length + 1 := by rw [hM, List.length_append]; rfl
  have hrr : ∀ x ∈ r, x.1 < gs.length ∧ x.2.2 ≤ x.2.1.length ∧ ∀ s ∈ x.2.1, Rm.StepIn s := fun x hx => ok1 x (by rw [hM]; exact List.mem_append_left _ hx)
  have hfuel : ∀ (u : Na.Under) (st' : List Und), st'.length ≤ u.steps + 2 → u.steps ≤ 65536 → Sm.mu u (st'.reverse.map undTodo ++ W) ≤ Na.FUEL := fun u st' h1 h2 => by
    rw [mu_is]
    have : Na.FUEL = 263168 := by decide
    omega
  rw [run_top hM]
  have hmu : Sm.mu ⟨s, (actsN M.acts).reverse, M.n⟩ (undTodo (i, st, b) :: (r.reverse.map undTodo ++ W)) ≤ Na.FUEL := by
    have := hfuel ⟨s, (actsN M.acts).reverse, M.n⟩ M.st (by show M.st.length ≤ M.n + 2; omega) ok3
    rw [hM, List.reverse_append] at this
    exact this
  cases e : st[b]? with
  | none =>
    have hb' : b = st.length := by
      have := List.getElem?_eq_none_iff.mp e
      omega
    have go : goN gs ss rows op M.ts M.acts M.n r i st b = .ok ⟨M.ts, M.acts, M.n, r⟩ := by
      unfold goN
      rw [e]
    rw [go]
    refine ⟨fun e z => (by cases z), fun M' z => ?_⟩
    cases z
    refine ⟨⟨hrr, by show r.length ≤ M.n + 1; omega, ok3⟩, by show 3 * (65536 - M.n) + r.length < _; omega, s, hs, ?_⟩
    refine Sm.carried_step (v := ⟨s, (actsN M.acts).reverse, M.n⟩) (r := r.reverse.map undTodo ++ W) ok3 hmu ?_
    show Na.onward _ _ _ _ _ (.moves i ((st.drop b).map Rm.mv) :: _) = _
    rw [hb', List.drop_length]
    rfl
  | some sp =>
    have hbl := (List.getElem?_eq_some_iff.mp e).1
    have hsp : Rm.StepIn sp := hsi sp (List.mem_of_getElem? e)
    have ed : undTodo (i, st, b) = .moves i (Rm.mv sp :: (st.drop (b + 1)).map Rm.mv) := by
      show Na.Todo.moves i ((st.drop b).map Rm.mv) = _
      rw [List.drop_eq_getElem_cons hbl, (List.getElem?_eq_some_iff.mp e).2]
      rfl
    have go : goN gs ss rows op M.ts M.acts M.n r i st b = if M.n = 65536 then .error .long else if Rm.isC sp = true then beginN gs rows op (i + 1) 1 ⟨M.ts, M.acts, M.n + 1, r ++ [(i, st, b + 1)]⟩ else match ss[sp.1]?, gs[i]?, M.ts[i]? with
      | some k, some g, some t => match Rm.stroke3 (Rm.bsOf g) t k sp.2.1 sp.2.2 with
        | some u => .ok ⟨M.ts.set i u, M.acts ++ [[i, sp.1, sp.2.1, sp.2.2]], M.n + 1, r ++ [(i, st, b + 1)]⟩
        | none => .error .wrong
      | _, _, _ => .error .wrong := by
      unfold goN
      rw [e] <;> rfl
    rw [go]
    rw [ed] at hmu ⊢
    have hnew : ∀ x ∈ r ++ [(i, st, b + 1)], x.1 < gs.length ∧ x.2.2 ≤ x.2.1.length ∧ ∀ s ∈ x.2.1, Rm.StepIn s := fun x hx => by
      rcases List.mem_append.mp hx with h | h
      · exact hrr x h
      · rw [List.mem_singleton] at h
        rw [h]
        exact ⟨hi, hbl, hsi⟩
    have hst : Na.STEPS = 65536 := rfl
    by_cases cn : M.n = 65536
    · rw [if_pos cn]
      refine ⟨fun e z => ?_, fun M' z => (by cases z)⟩
      cases z
      refine Sm.carried_fail (by decide) ?_
      unfold Rm.mv
      by_cases c0 : sp.2.1 = 0
      · rw [if_pos c0, Sm.on_carry, if_pos (by show Na.STEPS ≤ M.n; omega)]
      · rw [if_neg c0, Sm.on_act, if_pos (by show Na.STEPS ≤ M.n; omega)]
    · rw [if_neg cn]
      have ns : ¬ Na.STEPS ≤ M.n := by omega
      by_cases ci : Rm.isC sp = true
      · rw [if_pos ci]
        have c0 := (Rm.isC_iff hsp).mp ci
        have em : Rm.mv sp = .carry := by
          unfold Rm.mv
          rw [if_pos c0]
        rw [em] at hmu ⊢
        have step1 := Sm.carried_step (m := gs.map Na.rodOf) (h := ⟨o, ss.map Na.strokeOf⟩) (b := rows.map Na.rowRule) (op := op) (u := ⟨s, (actsN M.acts).reverse, M.n⟩) (v := ⟨s, (actsN M.acts).reverse, M.n + 1⟩) (f := Na.FUEL) (r := .digit (i + 1) 1 :: .moves i ((st.drop (b + 1)).map Rm.mv) :: (r.reverse.map undTodo ++ W)) ok3 hmu (by rw [Sm.on_carry, if_neg ns])
        rw [step1]
        have hmu2 : Sm.mu ⟨s, (actsN M.acts).reverse, M.n + 1⟩ (.digit (i + 1) 1 :: .moves i ((st.drop (b + 1)).map Rm.mv) :: (r.reverse.map undTodo ++ W)) ≤ Na.FUEL := by
          unfold Sm.mu at hmu ⊢
          simp only [Sm.weight] at hmu ⊢
          omega
        have hl2 : M.ts.length = gs.length := hs.len3
        by_cases co : i + 1 < gs.length
        · obtain ⟨g, hgi⟩ : ∃ g, gs[i + 1]? = some g := ⟨_, List.getElem?_eq_getElem co⟩
          obtain ⟨t, hti⟩ : ∃ t, M.ts[i + 1]? = some t := ⟨_, List.getElem?_eq_getElem (by omega)⟩
          have eb : beginN gs rows op (i + 1) 1 ⟨M.ts, M.acts, M.n + 1, r ++ [(i, st, b + 1)]⟩ = (by classical exact if Su.InForm g t then .ok ⟨M.ts, M.acts, M.n + 1, (r ++ [(i, st, b + 1)]) ++ [(i + 1, Rm.stepsFor rows op 1 (Su.cnt g t), 0)]⟩ else .error .wrong) := by
            unfold beginN
            rw [hgi]
            dsimp only
            rw [hti]
          rw [eb]
          by_cases hf : Su.InForm g t
          · rw [if_pos hf]
            refine ⟨fun e z => (by cases z), fun M' z => ?_⟩
            cases z
            refine ⟨⟨fun x hx => ?_, ?_, by show M.n + 1 ≤ 65536; omega⟩, ?_, s, hs, ?_⟩
            · rcases List.mem_append.mp hx with h | h
              · exact hnew x h
              · rw [List.mem_singleton] at h
                rw [h]
                exact ⟨co, Nat.zero_le _, Rm.stepsFor_in hr op 1 _⟩
            · show ((r ++ [(i, st, b + 1)]) ++ [_]).length ≤ M.n + 1 + 1
              rw [List.length_append, List.length_append]
              simp only [List.length_cons, List.length_nil]
              omega
            · show 3 * (65536 - (M.n + 1)) + ((r ++ [(i, st, b + 1)]) ++ [_]).length < _
              rw [List.length_append, List.length_append]
              simp only [List.length_cons, List.length_nil]
              omega
            · rw [begin_yes (ts := M.ts) hg hr hs hgi hti hf (by show M.n + 1 ≤ _; omega) hmu2, run_top (r := r ++ [(i, st, b + 1)]) (x := (i + 1, Rm.stepsFor rows op 1 (Su.cnt g t), 0)) rfl, List.reverse_append]
              rfl
          · rw [if_neg hf]
            refine ⟨fun e z => ?_, fun M' z => (by cases z)⟩
            cases z
            exact begin_no (ts := M.ts) hg hs hgi hti hf
        · have eb : beginN gs rows op (i + 1) 1 ⟨M.ts, M.acts, M.n + 1, r ++ [(i, st, b + 1)]⟩ = .error .over := by
            unfold beginN
            rw [List.getElem?_eq_none (by omega)]
          rw [eb]
          refine ⟨fun e z => ?_, fun M' z => (by cases z)⟩
          cases z
          exact begin_over (by omega)
      · rw [if_neg ci]
        have c0 : ¬ sp.2.1 = 0 := fun z => ci ((Rm.isC_iff hsp).mpr z)
        have em : Rm.mv sp = .act sp.1 sp.2.1 sp.2.2 := by
          unfold Rm.mv
          rw [if_neg c0]
        rw [em] at hmu ⊢
        obtain ⟨g, hgi⟩ : ∃ g, gs[i]? = some g := ⟨_, List.getElem?_eq_getElem hi⟩
        obtain ⟨t, hti⟩ : ∃ t, M.ts[i]? = some t := ⟨_, List.getElem?_eq_getElem (by rw [hs.len3]; exact hi)⟩
        rw [hgi, hti]
        have fail : Na.acted (gs.map Na.rodOf) ⟨o, ss.map Na.strokeOf⟩ s ⟨i, sp.1, sp.2.1, sp.2.2⟩ = none → Na.carried (gs.map Na.rodOf) ⟨o, ss.map Na.strokeOf⟩ (rows.map Na.rowRule) op Na.FUEL ⟨s, (actsN M.acts).reverse, M.n⟩ (.moves i (.act sp.1 sp.2.1 sp.2.2 :: (st.drop (b + 1)).map Rm.mv) :: (r.reverse.map undTodo ++ W)) = .error .wrong := fun z => by
          refine Sm.carried_fail (by decide) ?_
          rw [Sm.on_act, if_neg ns]
          show (match Na.acted (gs.map Na.rodOf) ⟨o, ss.map Na.strokeOf⟩ s ⟨i, sp.1, sp.2.1, sp.2.2⟩ with
            | none => _
            | some t => _) = _
          rw [z]
        cases ek : ss[sp.1]? with
        | none =>
          refine ⟨fun e z => ?_, fun M' z => (by cases z)⟩
          cases z
          exact fail (Su.acted_no ek)
        | some k =>
          obtain ⟨a1, a2⟩ := Su.acted_is (o := o) hg hS hs (n := sp.2.1) (k2 := sp.2.2) hgi hti ek
          dsimp only
          cases es : Rm.stroke3 (Rm.bsOf g) t k sp.2.1 sp.2.2 with
          | none =>
            refine ⟨fun e z => ?_, fun M' z => (by cases z)⟩
            cases z
            exact fail (a1 es)
          | some w =>
            obtain ⟨s', b1, b2⟩ := a2 w es
            refine ⟨fun e z => (by cases z), fun M' z => ?_⟩
            cases z
            refine ⟨⟨hnew, ?_, by show M.n + 1 ≤ 65536; omega⟩, ?_, s', b2, ?_⟩
            · show (r ++ [(i, st, b + 1)]).length ≤ M.n + 1 + 1
              rw [List.length_append]
              simp only [List.length_cons, List.length_nil]
              omega
            · show 3 * (65536 - (M.n + 1)) + (r ++ [(i, st, b + 1)]).length < _
              rw [List.length_append]
              simp only [List.length_cons, List.length_nil]
              omega
            · have st1 := Sm.carried_step (m := gs.map Na.rodOf) (h := ⟨o, ss.map Na.strokeOf⟩) (b := rows.map Na.rowRule) (op := op) (u := ⟨s, (actsN M.acts).reverse, M.n⟩) (v := ⟨s', ⟨i, sp.1, sp.2.1, sp.2.2⟩ :: (actsN M.acts).reverse, M.n + 1⟩) (f := Na.FUEL) (r := .moves i ((st.drop (b + 1)).map Rm.mv) :: (r.reverse.map undTodo ++ W)) ok3 hmu (by
                rw [Sm.on_act, if_neg ns]
                show (match Na.acted (gs.map Na.rodOf) ⟨o, ss.map Na.strokeOf⟩ s ⟨i, sp.1, sp.2.1, sp.2.2⟩ with
                  | none => _
                  | some t => _) = _
                rw [b1])
              rw [st1, run_top (r := r) (x := (i, st, b + 1)) rfl]
              have ea : (actsN (M.acts ++ [[i, sp.1, sp.2.1, sp.2.2]])).reverse = ⟨i, sp.1, sp.2.1, sp.2.2⟩ :: (actsN M.acts).reverse := by
                unfold actsN
                rw [List.map_append, List.reverse_append]
                rfl
              show _ = Na.carried _ _ _ _ _ ⟨s', (actsN (M.acts ++ [[i, sp.1, sp.2.1, sp.2.2]])).reverse, M.n + 1⟩ _
              rw [ea]
              rfl
end
def AOk (ss : List (List Nat)) (M : Mach) : Prop := ∀ x ∈ M.acts, x.getD 1 0 < ss.length
theorem go_acts {gs ss rows : List (List Nat)} {op : Nat} {M M' : Mach} {r : List Und} {i : Nat} {st : List Rm.Step} {b : Nat} (h : AOk ss M) (e : goN gs ss rows op M.ts M.acts M.n r i st b = .ok M') : AOk ss M' := by
  unfold goN at e
  split at e
  · cases e
    exact h
  · rename_i sp hsp
    split at e
    · cases e
    · split at e
      · unfold beginN at e
        split at e
        · split at e
          · cases e
            exact h
          · cases e
        · cases e
      · split at e
        · rename_i k g t hk hg ht
          split at e
          · cases e
            intro x hx
            rcases List.mem_append.mp hx with z | z
            · exact h x z
            · rw [List.mem_singleton] at z
              rw [z]
              exact (List.getElem?_eq_some_iff.mp hk).1
          · cases e
        · cases e
theorem Fr3.same {K : PySem.W.Frag} {C : Addr} {H H' : Hp} {fr p : Addr} {gs : List (List Nat)} (h : Fr3 K C H fr p gs) (s : Same H H') : Fr3 K C H' fr p gs := by
  obtain ⟨dx, r, d, rs, ds, hfr, hne, hr1, hrs, hd1, hds⟩ := h.ex
  exact ⟨dx, r, d, rs, ds, s _ _ hfr, hne, s _ _ hr1, hrs.keep s, s _ _ hd1, hds.1, fun j b g e1 e2 => by
    obtain ⟨kv, h1, h2⟩ := hds.2 j b g e1 e2
    exact ⟨kv, s _ _ h1, h2⟩⟩
theorem Pu.same {H H' : Hp} {p : Addr} {ts : List (List Nat)} (h : Pu H p ts) (s : Same H H') : Pu H' p ts := by
  obtain ⟨ps, h1, h2⟩ := h
  exact ⟨ps, s _ _ h1, h2.mono fun b t e _ => s _ _ e⟩
section
variable {K : PySem.W.Frag} {cF cS cR : Addr} {H2 H : Hp} {S P U A : Addr} {op fr sk ru : Nat} {gs ss rows : List (List Nat)} {M : Mach}
def baseOf (H : Hp) (U A : Addr) : Hp := fun b => if b = U ∨ b = A then none else H b
theorem base_at {b : Addr} {o : HO} (h : H b = some o) (n1 : b ≠ U) (n2 : b ≠ A) : baseOf H U A b = some o := by
  unfold baseOf
  rw [if_neg (by rintro (z | z); exact n1 z; exact n2 z)]
  exact h
theorem of_base {b : Addr} {o : HO} (h : baseOf H U A b = some o) : H b = some o := by
  unfold baseOf at h
  split at h
  · cases h
  · exact h
theorem rebase (F : SumFix K cF H2 S P gs ss rows fr sk ru) (h : SumAt cS cR H2 H S P U A op fr sk ru gs M) (hg0 : gs ≠ []) (hst : M.st = []) : SumFix K cF (baseOf H U A) S P gs ss rows fr sk ru ∧ SumAt cS cR (baseOf H U A) H S P U A op fr sk ru gs M := by
  obtain ⟨c, dx2, fs2, hS2⟩ := F.nS
  obtain ⟨ps2, hP2, _⟩ := F.nP
  obtain ⟨dx, hS⟩ := h.self
  obtain ⟨ps, hP, hps⟩ := h.pu
  obtain ⟨us, hU, nd, hun⟩ := h.und
  obtain ⟨as, hA, hrow⟩ := h.act
  have k : ∀ b o, b ≠ S → b ≠ P → H2 b = some o → baseOf H U A b = some o := fun b o n1 n2 e => base_at (h.keep b o n1 n2 e) (ne_of_none e h.new.1) (ne_of_none e h.new.2)
  have hSb : baseOf H U A S = _ := base_at hS (ne_of hS hU (by intro z; cases z)) (ne_of hS hA (by intro z; cases z))
  have hPb : baseOf H U A P = _ := base_at hP (Ne.symm h.apart.1) (Ne.symm h.apart.2.1)
  obtain ⟨sas, k1, k2, k3⟩ := F.strokes
  obtain ⟨kvs, r1, r2⟩ := sum_ru F h
  have ru2 : baseOf H U A ru = some (.dT kvs) := base_at r1 (ne_of r1 hU (by intro z; cases z)) (ne_of r1 hA (by intro z; cases z))
  refine ⟨⟨Fr3.keepSP F.frame F.good hS2 hP2 F.neF k, ⟨_, _, _, hSb⟩, ⟨ps, hPb, fun z => ?_, fun b hb => ?_⟩, F.neF, F.good, ⟨sas, k _ _ (ne_of k1 hS2 (by intro z; cases z)) k2 k1, k2, k3.1, fun j b g e1 e2 => ?_⟩, F.sin, ⟨kvs, ru2, fun op d x => ?_⟩, F.rgood⟩, ⟨fun b o _ _ e => of_base e, ⟨dx, hS⟩, ⟨ps, hP, hps⟩, h.plen, ⟨us, hU, nd, hun.1, fun j u x e1 e2 => ?_⟩, ⟨as, hA, hrow⟩, ⟨?_, ?_⟩, h.apart, ⟨_, _, _, hSb⟩, h.alen, h.nlen, h.slen⟩⟩
  · rw [z] at hps
    exact hg0 (List.eq_nil_of_length_eq_zero (by rw [← h.plen, ← hps.1]; rfl))
  · obtain ⟨j, hj⟩ := List.getElem?_of_mem hb
    obtain ⟨t, ht⟩ := at_len hps.1.symm hj
    obtain ⟨q1, q2⟩ := hps.2 j b t hj ht
    exact ⟨t, base_at q1 (rows_ne q1 q2 (by decide) hU) (rows_ne q1 q2 (by decide) hA)⟩
  · have := (F.sin g (List.mem_of_getElem? e2)).1
    exact SqL.keepSP hS2 hP2 (k3.2 j b g e1 e2) (nz_cons (by omega)) k
  · cases e : Rm.rowFor rows op d x with
    | none => exact (r2 op d x).1 e
    | some r =>
      obtain ⟨p, ts, v, hp1, hp2, hp3⟩ := (r2 op d x).2 r e
      exact ⟨p, ts, v, base_at hp2 hp1.2.1 hp1.2.2, hp3.1, fun j t s e1 e2 => base_at (hp3.2 j t s e1 e2) (ne_of (hp3.2 j t s e1 e2) hU (by intro z; cases z)) (ne_of (hp3.2 j t s e1 e2) hA (by intro z; cases z))⟩
  · rw [hst] at e2
    simp at e2
  · unfold baseOf
    rw [if_pos (.inl rfl)]
  · unfold baseOf
    rw [if_pos (.inr rfl)]
end
structure CA where
  Frame : Addr
  GoesWrong : Addr
  RunsOver : Addr
  TooLong : Addr
  RuleUnderWay : Addr
  Sum : Addr
def sp_ratio_of (K : PySem.W.Frag) : Sp := fun vs H Q _ => ∃ (a : Addr) (g : List Nat), vs = [.ref a] ∧ NL K H a g ∧ g.length = 7 ∧ Q (.int (g.getD 0 0 : Nat)) H
def sp_beads_of (K : PySem.W.Frag) : Sp := fun vs H Q _ => ∃ (a : Addr) (g : List Nat) (j : Nat), vs = [.ref a, .int (j : Nat)] ∧ NL K H a g ∧ g.length = 7 ∧ j < 3 ∧ Q (.int (Rm.beOf g j : Nat)) H
def sp_worth_of (K : PySem.W.Frag) : Sp := fun vs H Q _ => ∃ (a : Addr) (g : List Nat) (j : Nat), vs = [.ref a, .int (j : Nat)] ∧ NL K H a g ∧ g.length = 7 ∧ j < 3 ∧ Q (.int (Rm.woOf g j : Nat)) H
def sp_rods_of (K : PySem.W.Frag) : Sp := fun vs H Q _ => ∃ (a : Addr) (l : List Nat), vs = [.ref a] ∧ NL K H a l ∧ l.length % 7 = 0 ∧ l.length ≤ 500 ∧
  ∀ H' p as, Same H H' → H' p = some (.lst (as.map V.ref)) → Lists K H' as (Na.groups 7 l) → Q (.ref p) H'
def sp_strokes_of (K : PySem.W.Frag) : Sp := fun vs H Q _ => ∃ (a : Addr) (l : List Nat), vs = [.ref a] ∧ NL K H a l ∧ l.length ≠ 0 ∧ (l.length - 1) % 7 = 0 ∧ l.length ≤ 300 ∧
  ∀ H' p as, (Same H H' ∧ H p = none) → H' p = some (.lst (as.map V.ref)) → Lists K H' as (Na.groups 7 (l.drop 1)) → Q (.ref p) H'
def sp_worth_together (K : PySem.W.Frag) : Sp := fun vs H Q _ => ∃ (a : Addr) (g : List Nat), vs = [.ref a] ∧ NL K H a g ∧ g.length = 7 ∧ Rm.RIn g ∧ ∀ H', Same H H' → Q (.int (Rm.mostOf g : Nat)) H'
def sp_forms_with_deck (K : PySem.W.Frag) : Sp := fun vs H Q _ => ∃ (a f : Addr) (g : List Nat) (j : Nat) (kvs : List (Key × V)) (fl : Rm.Ways), vs = [.ref a, .int (j : Nat), .ref f] ∧ NL K H a g ∧ g.length = 7 ∧ Rm.RIn g ∧ j < 3 ∧
  H f = some (.dK kvs) ∧ FDict H kvs fl ∧ (∀ x ∈ fl, x.2.length = j) ∧
  ∀ H' f' kvs', (Same H H' ∧ H f' = none) → H' f' = some (.dK kvs') → Forms H' kvs' (Rm.wstep (g.getD 0 0) (Rm.beOf g j) (Rm.woOf g j) fl) → Keys kvs' (g.getD 0 0) → Q (.ref f') H'
def sp_cost_of (K : PySem.W.Frag) : Sp := fun vs H Q _ => ∃ (a : Addr) (g : List Nat), vs = [.ref a] ∧ NL K H a g ∧ g.length = 7 ∧ Q (.int (g.getD 6 0 : Nat)) H
def sp_goes_before (K : PySem.W.Frag) : Sp := fun vs H Q _ => ∃ (a b : Addr) (p q : List Nat), vs = [.ref a, .ref b] ∧ NL K H a p ∧ NL K H b q ∧ p.length = q.length ∧ Q (.bl (Na.nicer p q)) H
def sp_digit_forms (K : PySem.W.Frag) : Sp := fun vs H Q _ => ∃ (a : Addr) (g : List Nat), vs = [.ref a] ∧ NL K H a g ∧ g.length = 7 ∧ Rm.RIn g ∧
  ∀ H' f kvs, (Same H H' ∧ H f = none) → H' f = some (.dK kvs) → Forms H' kvs (Rm.waysOf g 3) → ((kvs.length < g.getD 0 0 ↔ ¬ Rm.Whole g) ∧ Keys kvs (g.getD 0 0)) → Q (.ref f) H'
def sp_first_part (K : PySem.W.Frag) : Sp := fun vs H Q _ => ∃ (a : Addr) (s : List Nat), vs = [.ref a] ∧ NL K H a s ∧ s.length = 7 ∧ ∀ H' p, Same H H' → H' p = some (lstN (s.take 3)) → Q (.ref p) H'
def sp_second_part (K : PySem.W.Frag) : Sp := fun vs H Q _ => ∃ (a : Addr) (s : List Nat), vs = [.ref a] ∧ NL K H a s ∧ s.length = 7 ∧ ∀ H' p, Same H H' → H' p = some (lstN ((s.drop 3).take 3)) → Q (.ref p) H'
def sp_behind_part (K : PySem.W.Frag) : Sp := fun vs H Q _ => ∃ (a b c : Addr) (g p t : List Nat) (n : Nat), vs = [.ref a, .ref b, .ref c, .int (n : Nat)] ∧ NL K H a g ∧ g.length = 7 ∧ NL K H b p ∧ p.length = 3 ∧ NL K H c t ∧ t.length = 3 ∧ t.getD 0 0 < 3 ∧
  (Rm.push3 (Rm.bsOf g) p (t.getD 0 0) (t.getD 1 0 == 1) (t.getD 2 0) n = none → Q .non H) ∧ ∀ u, Rm.push3 (Rm.bsOf g) p (t.getD 0 0) (t.getD 1 0 == 1) (t.getD 2 0) n = some u → ∀ H' r, Same H H' → H' r = some (lstN u) → Q (.ref r) H'
def sp_behind_act (K : PySem.W.Frag) : Sp := fun vs H Q _ => ∃ (a b c : Addr) (g p s : List Nat) (n k : Nat), vs = [.ref a, .ref b, .ref c, .int (n : Nat), .int (k : Nat)] ∧ NL K H a g ∧ g.length = 7 ∧ NL K H b p ∧ p.length = 3 ∧ NL K H c s ∧ Rm.SIn s ∧
  (Rm.stroke3 (Rm.bsOf g) p s n k = none → ∀ H', Same H H' → Q .non H') ∧ ∀ u, Rm.stroke3 (Rm.bsOf g) p s n k = some u → ∀ H' r, Same H H' → H' r = some (lstN u) → Q (.ref r) H'
def firstV : List V → V
  | [] => .non
  | .non :: r => firstV r
  | x :: _ => x
def sp_first_fault (K : PySem.W.Frag) : Sp := fun vs H Q _ => ∃ (a : Addr) (xs : List V), vs = [.ref a] ∧ SqL K H a xs ∧ Q (firstV xs) H
def sp_deck_can_be (_ : PySem.W.Frag) : Sp := fun vs H Q _ => ∃ b w : Nat, vs = [.int (b : Nat), .int (w : Nat)] ∧ ∀ k : Bool, (k = true ↔ Rm.DeckOk b w) → Q (.bl k) H
def sp_rod_can_be (K : PySem.W.Frag) : Sp := fun vs H Q _ => ∃ (a : Addr) (g : List Nat), vs = [.ref a] ∧ NL K H a g ∧ g.length = 7 ∧ ∀ k : Bool, (k = true ↔ Rm.RIn g) → Q (.bl k) H
def sp_rule_broken (K : PySem.W.Frag) : Sp := fun vs H Q _ => ∃ (a : Addr) (g : List Nat), vs = [.ref a] ∧ NL K H a g ∧ g.length = 7 ∧
  (Na.rodWrong g = 0 → ∀ H', Same H H' → Q .non H') ∧ ∀ w, Na.rodWrong g = w → w ≠ 0 → ∀ H', Same H H' → Q (.int (w : Nat)) H'
def sp_make_fault (K : PySem.W.Frag) : Sp := fun vs H Q _ => ∃ (a : Addr) (l : List Nat), vs = [.ref a] ∧ NL K H a l ∧ l.length ≤ 500 ∧
  (∀ m, Na.makeOf l = .ok m → ∀ H', Same H H' → Q .non H') ∧ ∀ r i, Na.makeOf l = .error ⟨r, i⟩ → ∀ H' p, Same H H' → H' p = some (.lst [.int (r : Nat), .int (i : Nat)]) → Q (.ref p) H'
def sp_hand_can_be (K : PySem.W.Frag) : Sp := fun vs H Q _ => ∃ (a : Addr) (l : List Nat), vs = [.ref a] ∧ NL K H a l ∧ l.length ≤ 300 ∧ ∀ k : Bool, (k = true ↔ Mm.HandLen l) → Q (.bl k) H
def sp_part_can_be (K : PySem.W.Frag) : Sp := fun vs H Q _ => ∃ (a : Addr) (p : List Nat), vs = [.ref a] ∧ NL K H a p ∧ p.length = 3 ∧ ∀ k : Bool, (k = true ↔ PartIn p) → Q (.bl k) H
def sp_stroke_can_be (K : PySem.W.Frag) : Sp := fun vs H Q _ => ∃ (a : Addr) (s : List Nat), vs = [.ref a] ∧ NL K H a s ∧ s.length = 7 ∧ ∀ (k : Bool) H', (k = true ↔ Na.strokeGood s = true) → Same H H' → Q (.bl k) H'
def sp_hand_fault (K : PySem.W.Frag) : Sp := fun vs H Q _ => ∃ (a : Addr) (l : List Nat), vs = [.ref a] ∧ NL K H a l ∧ l.length ≤ 300 ∧
  (∀ h, Na.handOf l = .ok h → ∀ H', Same H H' → Q .non H') ∧ ∀ r i, Na.handOf l = .error ⟨r, i⟩ → ∀ H' p, Same H H' → H' p = some (.lst [.int (r : Nat), .int (i : Nat)]) → Q (.ref p) H'
def sp_steps_of (K : PySem.W.Frag) : Sp := fun vs H Q _ => ∃ (a : Addr) (l : List Nat), vs = [.ref a] ∧ NL K H a l ∧ 3 ≤ l.length ∧ l.length ≤ 36 ∧ l.length % 3 = 0 ∧
  ∀ H' p ts, Same H H' → H' p = some (.lst (ts.map V.ref)) → StepsAt H' ts (Rm.stepsOf l) → Q (.ref p) H'
def sp_rules_of (K : PySem.W.Frag) : Sp := fun vs H Q _ => ∃ (a : Addr) (as : List Addr) (rows : List (List Nat)), vs = [.ref a] ∧ SqL K H a (as.map V.ref) ∧ Lists K H as rows ∧ rows.length ≤ 820 ∧ (∀ l ∈ rows, Na.rowGood l = true) ∧ (∀ j l, rows[j]? = some l → ∀ l' ∈ rows.take j, Rm.key3 l' ≠ Rm.key3 l) ∧
  ∀ H' f kvs, Same H H' → H' f = some (.dT kvs) → Rules H' kvs rows → Q (.ref f) H'
def sp_step_can_be (_ : PySem.W.Frag) : Sp := fun vs H Q _ => ∃ s n k : Int, vs = [.int s, .int n, .int k] ∧ Q (.bl (Bm.stepB s n k)) H
def sp_length_can_be (_ : PySem.W.Frag) : Sp := fun vs H Q _ => ∃ n : Nat, vs = [.int n] ∧ Q (.bl (Bm.lenB n)) H
def sp_head_can_be (K : PySem.W.Frag) : Sp := fun vs H Q _ => ∃ (a : Addr) (ns : List Int), vs = [.ref a] ∧ SqL K H a (ns.map V.int) ∧ 3 ≤ ns.length ∧ Q (.bl (Bm.headB ns)) H
def sp_steps_can_be (K : PySem.W.Frag) : Sp := fun vs H Q _ => ∃ (a : Addr) (ns : List Int), vs = [.ref a] ∧ SqL K H a (ns.map V.int) ∧ 3 ≤ ns.length ∧ ns.length ≤ 36 ∧ ns.length % 3 = 0 ∧ Q (.bl (Bm.stepsB ns)) H
def sp_row_can_be (K : PySem.W.Frag) : Sp := fun vs H Q _ => ∃ (a : Addr) (ns : List Int), vs = [.ref a] ∧ SqL K H a (ns.map V.int) ∧ ns.length ≤ 36 ∧ Q (.bl (Bm.rowB ns)) H
def RowsAt (K : PySem.W.Frag) (H : Hp) (as : List Addr) (rows : List (List Int)) : Prop := as.length = rows.length ∧ ∀ (i : Nat) (a : Addr) (ns : List Int), as[i]? = some a → rows[i]? = some ns → SqL K H a (ns.map V.int) ∧ ns.length ≤ 36
def sp_book_fault (K : PySem.W.Frag) : Sp := fun vs H Q _ => ∃ (a : Addr) (as : List Addr) (rows : List (List Int)), vs = [.ref a] ∧ SqL K H a (as.map V.ref) ∧ RowsAt K H as rows ∧ rows.length ≤ 820 ∧
  (Bm.bad 0 [] rows = none → ∀ H', Same H H' → Q .non H') ∧ ∀ i, Bm.bad 0 [] rows = some i → ∀ H' p, Same H H' → H' p = some (.lst [.int 9, .int (i : Nat)]) → Q (.ref p) H'
def sp_span_of (K : PySem.W.Frag) : Sp := fun vs H Q _ => ∃ (a : Addr) (l : List Nat), vs = [.ref a] ∧ NL K H a l ∧ l.length % 7 = 0 ∧ l.length ≤ 500 ∧ (∀ g ∈ Na.groups 7 l, g.length = 7 ∧ Rm.RIn g ∧ Rm.Whole g) ∧ ∀ H', Same H H' → Q (.int (Na.span ((Na.groups 7 l).map Na.rodOf) : Nat)) H'
def sp_digits_of (K : PySem.W.Frag) : Sp := fun vs H Q _ => ∃ (a : Addr) (l : List Nat) (v : Nat), vs = [.int (v : Nat), .ref a] ∧ NL K H a l ∧ l.length % 7 = 0 ∧ l.length ≤ 500 ∧ (∀ g ∈ Na.groups 7 l, g.length = 7 ∧ Rm.RIn g ∧ Rm.Whole g) ∧
  ∀ H' p, Same H H' → H' p = some (lstN (Na.digits ((Na.groups 7 l).map Na.rodOf) v)) → Q (.ref p) H'
def sp_digits_by_form (K : PySem.W.Frag) : Sp := fun vs H Q _ => ∃ (a : Addr) (g : List Nat), vs = [.ref a] ∧ NL K H a g ∧ g.length = 7 ∧ Rm.RIn g ∧ Rm.Whole g ∧ ∀ H' f kvs, Same H H' → H' f = some (.dT kvs) → DigAt kvs g → Q (.ref f) H'
def toAct (l : List Nat) : Na.Act := ⟨l.getD 0 0, l.getD 1 0, l.getD 2 0, l.getD 3 0⟩
def sp_tour_cost (K : PySem.W.Frag) : Sp := fun vs H Q _ => ∃ (a c : Addr) (l : List Nat) (h : Nat) (as : List Addr) (acts : List (List Nat)), vs = [.ref a, .int (h : Nat), .ref c] ∧ NL K H a l ∧ l.length ≠ 0 ∧ (l.length - 1) % 7 = 0 ∧ l.length ≤ 300 ∧ (∀ s ∈ Na.groups 7 (l.drop 1), Rm.SIn s) ∧
  H c = some (.lst (as.map V.ref)) ∧ Rows 4 H as acts ∧ (∀ x ∈ acts, x.getD 1 0 < (Na.groups 7 (l.drop 1)).length) ∧ l.getD 0 0 ≤ 255 ∧ ∀ H', Same H H' → Q (.int (Na.costs ⟨l.getD 0 0, (Na.groups 7 (l.drop 1)).map Na.strokeOf⟩ h (acts.map toAct) : Nat)) H'
def sp_standing_fault (K : PySem.W.Frag) : Sp := fun vs H Q _ => ∃ (a c : Addr) (l st : List Nat), vs = [.ref a, .ref c] ∧ NL K H a l ∧ l.length % 7 = 0 ∧ l.length ≤ 500 ∧ (∀ g ∈ Na.groups 7 l, g.length = 7 ∧ Rm.RIn g ∧ Rm.Whole g) ∧ NL K H c st ∧ st.length ≤ 300 ∧
  (∀ s, Na.standingOf ((Na.groups 7 l).map Na.rodOf) st = .ok s → ∀ H', Same H H' → Q .non H') ∧ ∀ r i, Na.standingOf ((Na.groups 7 l).map Na.rodOf) st = .error ⟨r, i⟩ → ∀ H' p, Same H H' → H' p = some (.lst [.int (r : Nat), .int (i : Nat)]) → Q (.ref p) H'
def sp_in_one_list (K : PySem.W.Frag) : Sp := fun vs H Q _ => ∃ (a : Addr) (n : Nat) (as : List Addr) (ts : List (List Nat)), vs = [.ref a] ∧ H a = some (.lst (as.map V.ref)) ∧ Rows n H as ts ∧ n ≤ 4 ∧ ts.length ≤ 65536 ∧ ∀ H' p, Same H H' → H' p = some (lstN ts.flatten) → Q (.ref p) H'
def sp_Frame_init (K : PySem.W.Frag) (ca : CA) : Sp := fun vs H Q _ => ∃ (fr dx a c : Addr) (l st : List Nat), vs = [.ref fr, .ref a, .ref c] ∧ H fr = some (.ins ca.Frame dx []) ∧ NL K H a l ∧ l.length % 7 = 0 ∧ l.length ≤ 500 ∧ (∀ g ∈ Na.groups 7 l, g.length = 7 ∧ Rm.RIn g ∧ Rm.Whole g) ∧ NL K H c st ∧ st.length = 3 * (Na.groups 7 l).length ∧
  ∀ H' p, (∀ b o, b ≠ fr → H b = some o → H' b = some o) → H p = none → Fr3 K ca.Frame H' fr p (Na.groups 7 l) → Pu H' p ((List.range (Na.groups 7 l).length).map (Su.three3 st)) → Q .non H'
def sp_Frame_shown_on (K : PySem.W.Frag) (ca : CA) : Sp := fun vs H Q _ => ∃ (fr p : Addr) (i : Nat) (gs ts : List (List Nat)) (g t : List Nat), vs = [.ref fr, .int (i : Nat)] ∧ Fr3 K ca.Frame H fr p gs ∧ Pu H p ts ∧ gs[i]? = some g ∧ ts[i]? = some t ∧
  (¬ Su.InForm g t → ∀ H', Same H H' → Q .non H') ∧ (Su.InForm g t → ∀ H', Same H H' → Q (.int (Su.cnt g t : Nat)) H')
def sp_Frame_is_in_form (K : PySem.W.Frag) (ca : CA) : Sp := fun vs H Q _ => ∃ (fr p : Addr) (gs ts : List (List Nat)), vs = [.ref fr] ∧ Fr3 K ca.Frame H fr p gs ∧ Pu H p ts ∧ ts.length = gs.length ∧ gs.length ≤ 100 ∧
  ∀ (k : Bool) H', (k = true ↔ ∀ (i : Nat) (g t : List Nat), gs[i]? = some g → ts[i]? = some t → Su.InForm g t) → Same H H' → Q (.bl k) H'
def sp_Frame_try_act (K : PySem.W.Frag) (ca : CA) : Sp := fun vs H Q _ => ∃ (fr p c : Addr) (i n k : Nat) (gs ts : List (List Nat)) (g t s : List Nat), vs = [.ref fr, .int (i : Nat), .ref c, .int (n : Nat), .int (k : Nat)] ∧ Fr3 K ca.Frame H fr p gs ∧ Pu H p ts ∧ gs[i]? = some g ∧ g.length = 7 ∧ ts[i]? = some t ∧ NL K H c s ∧ Rm.SIn s ∧
  (Rm.stroke3 (Rm.bsOf g) t s n k = none → ∀ H', Same H H' → Q (.bl false) H') ∧ ∀ u, Rm.stroke3 (Rm.bsOf g) t s n k = some u → ∀ H', (∀ b o, b ≠ p → H b = some o → H' b = some o) → Pu H' p (ts.set i u) → Q (.bl true) H'
def sp_Frame_as_standing (K : PySem.W.Frag) (ca : CA) : Sp := fun vs H Q _ => ∃ (fr p : Addr) (gs ts : List (List Nat)), vs = [.ref fr] ∧ Fr3 K ca.Frame H fr p gs ∧ Pu H p ts ∧ ts.length ≤ 100 ∧ ∀ H' q, Same H H' → H' q = some (lstN ts.flatten) → Q (.ref q) H'
def sp_RuleUnderWay_init (K : PySem.W.Frag) (ca : CA) : Sp := fun vs H Q _ => ∃ (u dx s : Addr) (i : Nat), vs = [.ref u, .int (i : Nat), .ref s] ∧ H u = some (.ins ca.RuleUnderWay dx []) ∧ ∀ H', (∀ b o, b ≠ u → H b = some o → H' b = some o) → H' u = some (.ins ca.RuleUnderWay dx (rfs i s 0)) → Q .non H'
def sp_Sum_init (K : PySem.W.Frag) (ca : CA) : Sp := fun vs H Q _ => ∃ (S dx fr P b c : Addr) (op : Nat) (gs ts : List (List Nat)) (hd : List Nat) (as : List Addr) (rows : List (List Nat)), vs = [.ref S, .int (op : Nat), .ref fr, .ref b, .ref c] ∧ H S = some (.ins ca.Sum dx []) ∧ fr ≠ S ∧ Fr3 K ca.Frame H fr P gs ∧ Pu H P ts ∧ ts.length = gs.length ∧ gs ≠ [] ∧ (∀ g ∈ gs, g.length = 7 ∧ Rm.RIn g ∧ Rm.Whole g) ∧
  NL K H b hd ∧ hd.length ≠ 0 ∧ (hd.length - 1) % 7 = 0 ∧ hd.length ≤ 300 ∧ (∀ s ∈ Na.groups 7 (hd.drop 1), Rm.SIn s) ∧ SqL K H c (as.map V.ref) ∧ Lists K H as rows ∧ rows.length ≤ 820 ∧ (∀ l ∈ rows, Na.rowGood l = true) ∧ (∀ j l, rows[j]? = some l → ∀ l' ∈ rows.take j, Rm.key3 l' ≠ Rm.key3 l) ∧
  ∀ H2 H' U A sk ru, (∀ b o, b ≠ S → H b = some o → H2 b = some o) → SumFix K ca.Frame H2 S P gs (Na.groups 7 (hd.drop 1)) rows fr sk ru → SumAt ca.Sum ca.RuleUnderWay H2 H' S P U A op fr sk ru gs ⟨ts, [], 0, []⟩ → Q .non H'
def excOf (ca : CA) : Na.Fail → Addr
  | .wrong => ca.GoesWrong
  | .over => ca.RunsOver
  | .long => ca.TooLong
def SumIn (K : PySem.W.Frag) (ca : CA) (H2 H : Hp) (S P U A : Addr) (op fr sk ru : Nat) (gs ss rows : List (List Nat)) (M : Mach) : Prop := SumFix K ca.Frame H2 S P gs ss rows fr sk ru ∧ SumAt ca.Sum ca.RuleUnderWay H2 H S P U A op fr sk ru gs M
def sp_Sum_begin_rule (K : PySem.W.Frag) (ca : CA) : Sp := fun vs H Q E => ∃ (S P U A : Addr) (op fr sk ru i d : Nat) (gs ss rows : List (List Nat)) (M : Mach) (H2 : Hp) (g t : List Nat), vs = [.ref S, .int (i : Nat), .int (d : Nat)] ∧ SumIn K ca H2 H S P U A op fr sk ru gs ss rows M ∧ gs[i]? = some g ∧ M.ts[i]? = some t ∧ M.st.length < 131072 ∧
  (¬ Su.InForm g t → ∀ H', E (.ref ca.GoesWrong) none H') ∧ (Su.InForm g t → ∀ H', SumAt ca.Sum ca.RuleUnderWay H2 H' S P U A op fr sk ru gs { M with st := M.st ++ [(i, Rm.stepsFor rows op d (Su.cnt g t), 0)] } → Q .non H')
def sp_Sum_carry_from (K : PySem.W.Frag) (ca : CA) : Sp := fun vs H Q E => ∃ (S P U A : Addr) (op fr sk ru i : Nat) (gs ss rows : List (List Nat)) (M : Mach) (H2 : Hp), vs = [.ref S, .int (i : Nat)] ∧ SumIn K ca H2 H S P U A op fr sk ru gs ss rows M ∧ i < gs.length ∧ M.st.length < 131072 ∧
  (i + 1 = gs.length → ∀ H', E (.ref ca.RunsOver) none H') ∧ ∀ g t, gs[i + 1]? = some g → M.ts[i + 1]? = some t → (¬ Su.InForm g t → ∀ H', E (.ref ca.GoesWrong) none H') ∧ (Su.InForm g t → ∀ H', SumAt ca.Sum ca.RuleUnderWay H2 H' S P U A op fr sk ru gs { M with st := M.st ++ [(i + 1, Rm.stepsFor rows op 1 (Su.cnt g t), 0)] } → Q .non H')
def sp_Sum_act_on (K : PySem.W.Frag) (ca : CA) : Sp := fun vs H Q E => ∃ (S P U A c : Addr) (op fr sk ru i : Nat) (gs ss rows : List (List Nat)) (M : Mach) (H2 : Hp) (s : Rm.Step) (g t : List Nat), vs = [.ref S, .int (i : Nat), .ref c] ∧ SumIn K ca H2 H S P U A op fr sk ru gs ss rows M ∧ H c = some (.tup [.int (s.1 : Nat), .int (s.2.1 : Nat), .int (s.2.2 : Nat)]) ∧ gs[i]? = some g ∧ M.ts[i]? = some t ∧ M.acts.length < M.n ∧
  (ss[s.1]? = none → ∀ H', E (.ref ca.GoesWrong) none H') ∧ ∀ k, ss[s.1]? = some k → (Rm.stroke3 (Rm.bsOf g) t k s.2.1 s.2.2 = none → ∀ H', E (.ref ca.GoesWrong) none H') ∧ ∀ u, Rm.stroke3 (Rm.bsOf g) t k s.2.1 s.2.2 = some u → ∀ H', SumAt ca.Sum ca.RuleUnderWay H2 H' S P U A op fr sk ru gs { M with ts := M.ts.set i u, acts := M.acts ++ [[i, s.1, s.2.1, s.2.2]] } → Q .non H'
def sp_Sum_go_on (K : PySem.W.Frag) (ca : CA) : Sp := fun vs H Q E => ∃ (S P U A : Addr) (op fr sk ru : Nat) (gs ss rows : List (List Nat)) (M : Mach) (H2 : Hp) (r : List Und) (i : Nat) (st : List Rm.Step) (b : Nat), vs = [.ref S] ∧ SumIn K ca H2 H S P U A op fr sk ru gs ss rows M ∧ M.st = r ++ [(i, st, b)] ∧ b ≤ st.length ∧ i < gs.length ∧ M.st.length < 131072 ∧
  (∀ e, goN gs ss rows op M.ts M.acts M.n r i st b = .error e → ∀ H', E (.ref (excOf ca e)) none H') ∧ ∀ M', goN gs ss rows op M.ts M.acts M.n r i st b = .ok M' → ∀ H', SumAt ca.Sum ca.RuleUnderWay H2 H' S P U A op fr sk ru gs M' → Q .non H'
def sp_Sum_do_digit (K : PySem.W.Frag) (ca : CA) : Sp := fun vs H Q E => ∃ (S P U A : Addr) (op fr sk ru i d : Nat) (gs ss rows : List (List Nat)) (M : Mach) (H2 : Hp) (W : List Na.Todo) (o : Nat) (s : Na.Standing), vs = [.ref S, .int (i : Nat), .int (d : Nat)] ∧ SumIn K ca H2 H S P U A op fr sk ru gs ss rows M ∧ M.st = [] ∧ i < gs.length ∧ Sm.weight W ≤ 200 ∧ Su.Std gs s M.ts ∧ AOk ss M ∧
  (∀ e, runN gs ss rows op o s M (.digit i d :: W) = .error e → ∀ H', E (.ref (excOf ca e)) none H') ∧ ∀ M' s' H', SumAt ca.Sum ca.RuleUnderWay H2 H' S P U A op fr sk ru gs M' → M'.st = [] → Su.Std gs s' M'.ts → AOk ss M' → runN gs ss rows op o s M (.digit i d :: W) = runN gs ss rows op o s' M' W → Q .non H'
def sp_acts_of_sum (K : PySem.W.Frag) (ca : CA) : Sp := fun vs H Q E => ∃ (fr P m b c : Addr) (op order v : Nat) (l hd : List Nat) (ts : List (List Nat)) (as : List Addr) (rows : List (List Nat)) (s : Na.Standing), vs = [.int (op : Nat), .int (order : Nat), .int (v : Nat), .ref m, .ref b, .ref c, .ref fr] ∧ Fr3 K ca.Frame H fr P (Na.groups 7 l) ∧ Pu H P ts ∧ Su.Std (Na.groups 7 l) s ts ∧
  NL K H m l ∧ l.length % 7 = 0 ∧ l.length ≤ 500 ∧ Na.groups 7 l ≠ [] ∧ (∀ g ∈ Na.groups 7 l, g.length = 7 ∧ Rm.RIn g ∧ Rm.Whole g) ∧ NL K H b hd ∧ hd.length ≠ 0 ∧ (hd.length - 1) % 7 = 0 ∧ hd.length ≤ 300 ∧ (∀ s ∈ Na.groups 7 (hd.drop 1), Rm.SIn s) ∧ SqL K H c (as.map V.ref) ∧ Lists K H as rows ∧ rows.length ≤ 820 ∧ (∀ l ∈ rows, Na.rowGood l = true) ∧ (∀ j l, rows[j]? = some l → ∀ l' ∈ rows.take j, Rm.key3 l' ≠ Rm.key3 l) ∧
  (∀ e, Na.sumBy ((Na.groups 7 l).map Na.rodOf) ⟨hd.getD 0 0, (Na.groups 7 (hd.drop 1)).map Na.strokeOf⟩ (rows.map Na.rowRule) op order s v = .error e → ∀ H', E (.ref (excOf ca e)) none H') ∧
  ∀ s' ac, Na.sumBy ((Na.groups 7 l).map Na.rodOf) ⟨hd.getD 0 0, (Na.groups 7 (hd.drop 1)).map Na.strokeOf⟩ (rows.map Na.rowRule) op order s v = .ok (s', ac) → ∀ H' A aa ts' acts, (∀ b o, b ≠ P → H b = some o → H' b = some o) → Fr3 K ca.Frame H' fr P (Na.groups 7 l) → Pu H' P ts' → Su.Std (Na.groups 7 l) s' ts' → H' A = some (.lst (aa.map V.ref)) → Rows 4 H' aa acts → acts.map toAct = ac → (∀ x ∈ acts, x.length = 4 ∧ x.getD 1 0 < (Na.groups 7 (hd.drop 1)).length) → acts.length ≤ 65536 → Q (.ref A) H'
def sp_digits_in_order (K : PySem.W.Frag) : Sp := fun vs H Q _ => ∃ (a : Addr) (l : List Nat) (order v : Nat), vs = [.int (order : Nat), .int (v : Nat), .ref a] ∧ NL K H a l ∧ l.length % 7 = 0 ∧ l.length ≤ 500 ∧ (∀ g ∈ Na.groups 7 l, g.length = 7 ∧ Rm.RIn g ∧ Rm.Whole g) ∧
  ∀ H' p ts xs, (Same H H' ∧ H p = none) → H' p = some (.lst (ts.map V.ref)) → PairsAt H' ts xs → Na.wanted ((Na.groups 7 l).map Na.rodOf) order v = xs.map (fun x => Na.Todo.digit x.1 x.2) → (∀ x ∈ xs, x.1 < (Na.groups 7 l).length) → xs.length ≤ 100 → Q (.ref p) H'
def sp_sum_of (K : PySem.W.Frag) : Sp := fun vs H Q _ => ∃ (a b c e : Addr) (op order h v : Nat) (m hd st : List Nat) (as : List Addr) (rows : List (List Nat)), vs = [.int (op : Nat), .int (order : Nat), .int (h : Nat), .int (v : Nat), .ref a, .ref b, .ref c, .ref e] ∧ NL K H a m ∧ m.length ≤ 500 ∧ NL K H b hd ∧ hd.length ≤ 300 ∧ NL K H c st ∧ st.length ≤ 300 ∧ SqL K H e (as.map V.ref) ∧ Lists K H as rows ∧ rows.length ≤ 820 ∧ (∀ l ∈ rows, l.length ≤ 36) ∧
  ∀ H' p, H' p = some (.lst ((An.sumI op order h v m hd st rows).map V.int)) → Q (.ref p) H'
def top (i : Nat) : Stmt := PySem.Challenge.pw_abacusbooks_s03_sum_of.main.body.getD i (.Pass ⟨0, 0, 0, 0⟩)
abbrev t_rods_of : Stmt := top 4
abbrev t_ratio_of : Stmt := top 5
abbrev t_beads_of : Stmt := top 6
abbrev t_worth_of : Stmt := top 7
abbrev t_goes_before : Stmt := top 11
abbrev t_strokes_of : Stmt := top 18
abbrev t_first_part : Stmt := top 19
abbrev t_second_part : Stmt := top 20
abbrev t_cost_of : Stmt := top 21
abbrev t_steps_of : Stmt := top 29
abbrev t_first_fault : Stmt := top 50
abbrev t_deck_can_be : Stmt := top 54
abbrev t_hand_can_be : Stmt := top 57
abbrev t_part_can_be : Stmt := top 59
abbrev t_length_can_be : Stmt := top 62
abbrev t_head_can_be : Stmt := top 63
abbrev t_step_can_be : Stmt := top 65
abbrev t_Frame_shown_on : Stmt := inClass (top 67) 1
abbrev t_in_one_list : Stmt := top 68
abbrev t_RuleUnderWay_init : Stmt := inClass (top 75) 0
abbrev t_span_of : Stmt := top 8
abbrev t_digits_of : Stmt := top 9
abbrev t_worth_together : Stmt := top 10
abbrev t_forms_with_deck : Stmt := top 13
abbrev t_tour_cost : Stmt := top 22
abbrev t_behind_part : Stmt := top 24
abbrev t_rules_of : Stmt := top 28
abbrev t_rod_can_be : Stmt := top 53
abbrev t_standing_fault : Stmt := top 55
abbrev t_stroke_can_be : Stmt := top 58
abbrev t_steps_can_be : Stmt := top 64
abbrev t_Frame_is_in_form : Stmt := inClass (top 67) 2
abbrev t_Frame_as_standing : Stmt := inClass (top 67) 4
abbrev t_digit_forms : Stmt := top 12
abbrev t_behind_act : Stmt := top 23
abbrev t_hand_fault : Stmt := top 56
abbrev t_row_can_be : Stmt := top 61
abbrev t_Sum_init : Stmt := inClass (top 76) 0
abbrev t_Sum_begin_rule : Stmt := inClass (top 76) 2
abbrev t_digits_in_order : Stmt := top 78
abbrev t_digits_by_form : Stmt := top 14
abbrev t_rule_broken : Stmt := top 52
abbrev t_book_fault : Stmt := top 60
abbrev t_Frame_try_act : Stmt := inClass (top 67) 3
abbrev t_Sum_carry_from : Stmt := inClass (top 76) 4
abbrev t_make_fault : Stmt := top 51
abbrev t_Frame_init : Stmt := inClass (top 67) 0
abbrev t_Sum_act_on : Stmt := inClass (top 76) 5
abbrev t_Sum_go_on : Stmt := inClass (top 76) 3
abbrev t_Sum_do_digit : Stmt := inClass (top 76) 1
abbrev t_acts_of_sum : Stmt := top 77
abbrev t_sum_of : Stmt := top 80
structure Txt (K : PySem.W.Frag) (mg : Str → Option Value) (ca : CA) : Prop where
  k_Frame : ClsAt K mg "Frame" ca.Frame ["rods", "pushed", "digits"]
  k_RuleUnderWay : ClsAt K mg "RuleUnderWay" ca.RuleUnderWay ["number", "steps", "begun"]
  k_Sum : ClsAt K mg "Sum" ca.Sum ["op", "frame", "strokes", "rules", "under_way", "steps_begun", "acts"]
  x_GoesWrong : Ex.ExcC K mg "GoesWrong" ca.GoesWrong
  eq_GoesWrong : PySem.W.exmOne K (.ref ca.GoesWrong) (.ref ca.GoesWrong) = some true
  ne_GoesWrong_RunsOver : PySem.W.exmOne K (.ref ca.GoesWrong) (.ref ca.RunsOver) = some false
  ne_GoesWrong_TooLong : PySem.W.exmOne K (.ref ca.GoesWrong) (.ref ca.TooLong) = some false
  x_RunsOver : Ex.ExcC K mg "RunsOver" ca.RunsOver
  eq_RunsOver : PySem.W.exmOne K (.ref ca.RunsOver) (.ref ca.RunsOver) = some true
  ne_RunsOver_GoesWrong : PySem.W.exmOne K (.ref ca.RunsOver) (.ref ca.GoesWrong) = some false
  ne_RunsOver_TooLong : PySem.W.exmOne K (.ref ca.RunsOver) (.ref ca.TooLong) = some false
  x_TooLong : Ex.ExcC K mg "TooLong" ca.TooLong
  eq_TooLong : PySem.W.exmOne K (.ref ca.TooLong) (.ref ca.TooLong) = some true
  ne_TooLong_GoesWrong : PySem.W.exmOne K (.ref ca.TooLong) (.ref ca.GoesWrong) = some false
  ne_TooLong_RunsOver : PySem.W.exmOne K (.ref ca.TooLong) (.ref ca.RunsOver) = some false
  v_BOOK_RULE : IntG mg "BOOK_RULE" 9
  v_CARRY : TupG K mg "CARRY" [.int 0, .int 0, .int 0]
  v_DECKS : IntG mg "DECKS" 3
  v_DIGITS_RULE : IntG mg "DIGITS_RULE" 4
  v_FROM_THE_LEFT : IntG mg "FROM_THE_LEFT" 0
  v_HAND_RULE : IntG mg "HAND_RULE" 6
  v_HIGHEST_COST : IntG mg "HIGHEST_COST" 255
  v_HIGHEST_DIGIT : IntG mg "HIGHEST_DIGIT" 19
  v_HIGHEST_DIRECTION : IntG mg "HIGHEST_DIRECTION" 2
  v_HIGHEST_OP : IntG mg "HIGHEST_OP" 1
  v_HIGHEST_RATIO : IntG mg "HIGHEST_RATIO" 20
  v_HIGHEST_STROKE : IntG mg "HIGHEST_STROKE" 31
  v_HIGHEST_WORTH : IntG mg "HIGHEST_WORTH" 63
  v_HIGHEST_WORTH_TOGETHER : IntG mg "HIGHEST_WORTH_TOGETHER" 255
  v_LOWEST_RATIO : IntG mg "LOWEST_RATIO" 2
  v_MAKE_LENGTH_RULE : IntG mg "MAKE_LENGTH_RULE" 1
  v_MOST_BEADS : IntG mg "MOST_BEADS" 15
  v_MOST_RODS : IntG mg "MOST_RODS" 64
  v_MOST_STEPS : IntG mg "MOST_STEPS" 10
  v_MOST_STEPS_A_SUM : IntG mg "MOST_STEPS_A_SUM" 65536
  v_MOST_STROKES : IntG mg "MOST_STROKES" 32
  v_NUMBERS_A_ROD : IntG mg "NUMBERS_A_ROD" 7
  v_NUMBERS_A_STROKE : IntG mg "NUMBERS_A_STROKE" 7
  v_ROD_RULE : IntG mg "ROD_RULE" 2
  v_STANDING_RULE : IntG mg "STANDING_RULE" 5
  v_STROKE_RULE : IntG mg "STROKE_RULE" 7
  v_TO_THE_BEAM : IntG mg "TO_THE_BEAM" 1
  v_WORTH_TOGETHER_RULE : IntG mg "WORTH_TOGETHER_RULE" 3
  n_abs : mg "abs" = none
  n_all : mg "all" = none
  n_enumerate : mg "enumerate" = none
  n_len : mg "len" = none
  n_list : mg "list" = none
  n_min : mg "min" = none
  n_range : mg "range" = none
  n_reversed : mg "reversed" = none
  n_sum : mg "sum" = none
  n_tuple : mg "tuple" = none
  d_rods_of : ∃ f fd, DefAt K mg "rods_of" t_rods_of ["make"] f fd
  d_ratio_of : ∃ f fd, DefAt K mg "ratio_of" t_ratio_of ["rod"] f fd
  d_beads_of : ∃ f fd, DefAt K mg "beads_of" t_beads_of ["rod", "deck"] f fd
  d_worth_of : ∃ f fd, DefAt K mg "worth_of" t_worth_of ["rod", "deck"] f fd
  d_goes_before : ∃ f fd, DefAt K mg "goes_before" t_goes_before ["way", "other"] f fd
  d_strokes_of : ∃ f fd, DefAt K mg "strokes_of" t_strokes_of ["hand"] f fd
  d_first_part : ∃ f fd, DefAt K mg "first_part" t_first_part ["stroke"] f fd
  d_second_part : ∃ f fd, DefAt K mg "second_part" t_second_part ["stroke"] f fd
  d_cost_of : ∃ f fd, DefAt K mg "cost_of" t_cost_of ["stroke"] f fd
  d_steps_of : ∃ f fd, DefAt K mg "steps_of" t_steps_of ["row"] f fd
  d_first_fault : ∃ f fd, DefAt K mg "first_fault" t_first_fault ["faults"] f fd
  d_deck_can_be : ∃ f fd, DefAt K mg "deck_can_be" t_deck_can_be ["beads", "worth"] f fd
  d_hand_can_be : ∃ f fd, DefAt K mg "hand_can_be" t_hand_can_be ["hand"] f fd
  d_part_can_be : ∃ f fd, DefAt K mg "part_can_be" t_part_can_be ["part"] f fd
  d_length_can_be : ∃ f fd, DefAt K mg "length_can_be" t_length_can_be ["length"] f fd
  d_head_can_be : ∃ f fd, DefAt K mg "head_can_be" t_head_can_be ["row"] f fd
  d_step_can_be : ∃ f fd, DefAt K mg "step_can_be" t_step_can_be ["stroke", "n", "k"] f fd
  d_Frame_shown_on : ∃ f fd, MethAt K ca.Frame "shown_on" "Frame.shown_on" t_Frame_shown_on ["self", "number"] f fd
  d_in_one_list : ∃ f fd, DefAt K mg "in_one_list" t_in_one_list ["lists"] f fd
  d_RuleUnderWay_init : ∃ f fd, InitAt K mg "RuleUnderWay" ca.RuleUnderWay "RuleUnderWay.__init__" t_RuleUnderWay_init ["self", "number", "steps"] f fd
  d_span_of : ∃ f fd, DefAt K mg "span_of" t_span_of ["make"] f fd
  d_digits_of : ∃ f fd, DefAt K mg "digits_of" t_digits_of ["value", "make"] f fd
  d_worth_together : ∃ f fd, DefAt K mg "worth_together" t_worth_together ["rod"] f fd
  d_forms_with_deck : ∃ f fd, DefAt K mg "forms_with_deck" t_forms_with_deck ["rod", "deck", "forms"] f fd
  d_tour_cost : ∃ f fd, DefAt K mg "tour_cost" t_tour_cost ["hand", "h", "acts"] f fd
  d_behind_part : ∃ f fd, DefAt K mg "behind_part" t_behind_part ["rod", "pushed", "part", "number"] f fd
  d_rules_of : ∃ f fd, DefAt K mg "rules_of" t_rules_of ["book"] f fd
  d_rod_can_be : ∃ f fd, DefAt K mg "rod_can_be" t_rod_can_be ["rod"] f fd
  d_standing_fault : ∃ f fd, DefAt K mg "standing_fault" t_standing_fault ["make", "standing"] f fd
  d_stroke_can_be : ∃ f fd, DefAt K mg "stroke_can_be" t_stroke_can_be ["stroke"] f fd
  d_steps_can_be : ∃ f fd, DefAt K mg "steps_can_be" t_steps_can_be ["row"] f fd
  d_Frame_is_in_form : ∃ f fd, MethAt K ca.Frame "is_in_form" "Frame.is_in_form" t_Frame_is_in_form ["self"] f fd
  d_Frame_as_standing : ∃ f fd, MethAt K ca.Frame "as_standing" "Frame.as_standing" t_Frame_as_standing ["self"] f fd
  d_digit_forms : ∃ f fd, DefAt K mg "digit_forms" t_digit_forms ["rod"] f fd
  d_behind_act : ∃ f fd, DefAt K mg "behind_act" t_behind_act ["rod", "pushed", "stroke", "n", "k"] f fd
  d_hand_fault : ∃ f fd, DefAt K mg "hand_fault" t_hand_fault ["hand"] f fd
  d_row_can_be : ∃ f fd, DefAt K mg "row_can_be" t_row_can_be ["row"] f fd
  d_Sum_init : ∃ f fd, InitAt K mg "Sum" ca.Sum "Sum.__init__" t_Sum_init ["self", "op", "frame", "hand", "book"] f fd
  d_Sum_begin_rule : ∃ f fd, MethAt K ca.Sum "begin_rule" "Sum.begin_rule" t_Sum_begin_rule ["self", "number", "d"] f fd
  d_digits_in_order : ∃ f fd, DefAt K mg "digits_in_order" t_digits_in_order ["order", "v", "make"] f fd
  d_digits_by_form : ∃ f fd, DefAt K mg "digits_by_form" t_digits_by_form ["rod"] f fd
  d_rule_broken : ∃ f fd, DefAt K mg "rule_broken" t_rule_broken ["rod"] f fd
  d_book_fault : ∃ f fd, DefAt K mg "book_fault" t_book_fault ["book"] f fd
  d_Frame_try_act : ∃ f fd, MethAt K ca.Frame "try_act" "Frame.try_act" t_Frame_try_act ["self", "number", "stroke", "n", "k"] f fd
  d_Sum_carry_from : ∃ f fd, MethAt K ca.Sum "carry_from" "Sum.carry_from" t_Sum_carry_from ["self", "number"] f fd
  d_make_fault : ∃ f fd, DefAt K mg "make_fault" t_make_fault ["make"] f fd
  d_Frame_init : ∃ f fd, InitAt K mg "Frame" ca.Frame "Frame.__init__" t_Frame_init ["self", "make", "standing"] f fd
  d_Sum_act_on : ∃ f fd, MethAt K ca.Sum "act_on" "Sum.act_on" t_Sum_act_on ["self", "number", "step"] f fd
  d_Sum_go_on : ∃ f fd, MethAt K ca.Sum "go_on" "Sum.go_on" t_Sum_go_on ["self"] f fd
  d_Sum_do_digit : ∃ f fd, MethAt K ca.Sum "do_digit" "Sum.do_digit" t_Sum_do_digit ["self", "number", "d"] f fd
  d_acts_of_sum : ∃ f fd, DefAt K mg "acts_of_sum" t_acts_of_sum ["op", "order", "v", "make", "hand", "book", "frame"] f fd
  d_sum_of : ∃ f fd, DefAt K mg "sum_of" t_sum_of ["op", "order", "h", "v", "make", "hand", "standing", "book"] f fd
section
variable {P : Program} {w : World} {K : PySem.W.Frag} {mg : Str → Option Value} {base : Heap} {f : Addr} {fd : FuncData} {ca : CA}
def Own (D : Addr) (H : Hp) (as : List Addr) (gs : List (List Nat)) : Prop := as.length = gs.length ∧ ∀ (j : Nat) (b : Addr) (g : List Nat), as[j]? = some b → gs[j]? = some g → b ≠ D ∧ H b = some (lstN g)
theorem Own.lists {K : PySem.W.Frag} {D : Addr} {H : Hp} {as : List Addr} {gs : List (List Nat)} (h : Own D H as gs) : Lists K H as gs := ⟨h.1, fun j b g e1 e2 => SqL.of (h.2 j b g e1 e2).2⟩
theorem Own.snoc {D : Addr} {H H' : Hp} {as : List Addr} {gs : List (List Nat)} {b : Addr} {g : List Nat} (h : Own D H as gs) (s : ∀ b o, b ≠ D → H b = some o → H' b = some o) (hn : b ≠ D) (hb : H' b = some (lstN g)) : Own D H' (as ++ [b]) (gs ++ [g]) := by
  refine ⟨by rw [List.length_append, List.length_append, h.1]; rfl, fun j b' g' e1 e2 => ?_⟩
  rcases get_snoc e1 with ⟨k1, e1⟩ | ⟨k1, rfl⟩
  · rcases get_snoc e2 with ⟨k2, e2⟩ | ⟨k2, e2⟩
    · obtain ⟨h1, h2⟩ := h.2 j b' g' e1 e2
      exact ⟨h1, s _ _ h1 h2⟩
    · have := h.1
      omega
  · rcases get_snoc e2 with ⟨k2, e2⟩ | ⟨k2, e2⟩
    · have := h.1
      omega
    · rw [e2]
      exact ⟨hn, hb⟩
theorem range_snoc {α : Type} (f : Nat → α) (i : Nat) : (List.range (i + 1)).map f = (List.range i).map f ++ [f i] := by
  rw [List.range_succ, List.map_append]
  rfl
theorem grp_len {l : List Nat} {j : Nat} (hj : j < l.length / 7) : (Mm.grp 7 l j).length = 7 := by
  unfold Mm.grp
  rw [List.length_take, List.length_drop]
  omega
theorem be_le {g : List Nat} (h : Rm.RIn g) {j : Nat} (hj : j < 3) : Rm.beOf g j ≤ 15 := by
  obtain ⟨_, h1, h2⟩ := h
  have e : j = 0 ∨ j = 1 ∨ j = 2 := by omega
  unfold Mm.DeckIn at h1 h2
  unfold Rm.beOf
  rcases e with rfl | rfl | rfl
  · show g.getD 1 0 ≤ 15
    omega
  · show g.getD 3 0 ≤ 15
    omega
  · show g.getD 5 0 ≤ 15
    omega
theorem sc_rods_of : FnScope ["make", "start"] ["make"] (defScope t_rods_of) := ⟨rfl, rfl, rfl, by decide +kernel, rfl, by decide +kernel, by decide +kernel⟩
theorem ok_rods_of (T : Txt K mg ca) (D : DefAt K mg "rods_of" t_rods_of ["make"] f fd) : FnOk P w K mg base CX0 1 f fd ["make"] (sp_rods_of K) := by
  refine D.fn.ok sc_rods_of (fun vs H Q E h => ?_) (fun cdv A outer s H vs Q E hr h => ?_)
  · obtain ⟨a, l, rfl, hs, hm, hl, q⟩ := h
    rfl
  obtain ⟨a, l, rfl, hs, hm, hl, q⟩ := h
  refine ⟨_, (pss_one (ps_ret (pe_lc rfl sc_rods_of.nd (pi_range3 rfl T.n_range (pa_cons pe_int (pa_cons (pe_callB (len_s K) (by rfl) T.n_len bt_len (pa_cons (pv 0) pa_nil)) (pa_cons (pe_gi rfl T.v_NUMBERS_A_ROD) pa_nil)))) (blkOk_by (N := ["make", "start"]) (sc := defScope t_rods_of) (own := [("start", 1)]) (by decide +kernel)) (fun _ _ _ _ _ => (pg_name (i := 1) sc_rods_of.nd rfl (by first | exact Or.inl rfl | exact Or.inr rfl))) (fun _ _ _ _ _ => pts_nil) (fun _ _ _ _ _ => (pe_slice (sl_l K) (pv 0) (po_some (pv 1)) (po_some (pe_op op_add (pv 1) (pe_gi rfl T.v_NUMBERS_A_ROD)))))))), ?_⟩
  refine ⟨_, rfl, a, _, rfl, .inl hs, 0, _, 7, _, rfl, (by rw [vi_len]; exact rgC (n := l.length / 7) (by decide) (by decide) (by decide) (by decide) (by omega) (by omega) (by split <;> omega)), fun D hD => ?_⟩
  refine lc_rangeC (lo := 0) (c := 7) (n := l.length / 7) (fun i H' => ∃ as : List Addr, Same H H' ∧ H' D = some (.lst (as.map V.ref)) ∧ Own D H' as ((List.range i).map (Mm.grp 7 l)))
    ⟨[], Same.new (Same.refl H) hD, upd_same, rfl, fun j b g e => by simp at e⟩ ?_ ?_
  · rintro i H' hi ⟨as, s1, hd, ho⟩
    refine ⟨rfl, ?_⟩
    refine ⟨_, rfl, _, rfl, _, rfl, _, rfl, _, _, rfl, rfl, _, rfl, a, _, rfl, s1.seq hs, fun p hp => ?_⟩
    have np : p ≠ D := fun z => by rw [z, hd] at hp; cases hp
    rw [cut_n (u := 7 * i) (v := 7 * i + 7) (by omega) (by omega)]
    refine ⟨_, (by rw [upd_ne (ne_of_none hd hp)]; exact hd), ?_, as ++ [p], ?_, ?_, ?_⟩
    · rw [List.length_map, ho.1, List.length_map, List.length_range]
      exact line_lt (by omega)
    · exact Same.put (Same.new s1 hp) hD
    · rw [List.map_append]
      exact upd_same
    · rw [range_snoc]
      refine ho.snoc (fun b o nb e => ?_) np ?_
      · rw [upd_ne nb, upd_ne (ne_of_none e hp)]
        exact e
      · rw [upd_ne np, upd_same]
        unfold Mm.grp
        rw [Nat.add_sub_cancel_left]
  · rintro H' ⟨as, s1, hd, ho⟩
    refine q _ D as s1 hd ?_
    rw [Mm.groups_is (by decide) hm]
    exact ho.lists
theorem c_rods_of (T : Txt K mg ca) : Callee P w K mg base 1 "rods_of" ["make"] (sp_rods_of K) := Callee.of T.d_rods_of fun _ _ D => ok_rods_of T D
theorem sc_ratio_of : FnScope ["rod"] ["rod"] (defScope t_ratio_of) := ⟨rfl, rfl, rfl, by decide +kernel, rfl, by decide +kernel, by decide +kernel⟩
theorem ok_ratio_of (T : Txt K mg ca) (D : DefAt K mg "ratio_of" t_ratio_of ["rod"] f fd) : FnOk P w K mg base CX0 1 f fd ["rod"] (sp_ratio_of K) := by
  refine D.fn.ok sc_ratio_of (fun vs H Q E h => ?_) (fun cdv A outer s H vs Q E hr h => ?_)
  · obtain ⟨a, g, rfl, hs, hl, q⟩ := h
    rfl
  obtain ⟨a, g, rfl, hs, hl, q⟩ := h
  refine ⟨_, (pss_one (ps_ret (pe_ix (ix_l K) (pv 0) pe_int (fun _ _ => rfl)))), ?_⟩
  exact ⟨_, rfl, a, _, _, _, rfl, rfl, hs, at_n (j := 0) (by omega), q⟩
theorem c_ratio_of (T : Txt K mg ca) : Callee P w K mg base 1 "ratio_of" ["rod"] (sp_ratio_of K) := Callee.of T.d_ratio_of fun _ _ D => ok_ratio_of T D
theorem sc_beads_of : FnScope ["rod", "deck"] ["rod", "deck"] (defScope t_beads_of) := ⟨rfl, rfl, rfl, by decide +kernel, rfl, by decide +kernel, by decide +kernel⟩
theorem ok_beads_of (T : Txt K mg ca) (D : DefAt K mg "beads_of" t_beads_of ["rod", "deck"] f fd) : FnOk P w K mg base CX0 1 f fd ["rod", "deck"] (sp_beads_of K) := by
  refine D.fn.ok sc_beads_of (fun vs H Q E h => ?_) (fun cdv A outer s H vs Q E hr h => ?_)
  · obtain ⟨a, g, j, rfl, hs, hl, hj, q⟩ := h
    rfl
  obtain ⟨a, g, j, rfl, hs, hl, hj, q⟩ := h
  refine ⟨_, (pss_one (ps_ret (pe_ix (ix_l K) (pv 0) (pe_op op_add pe_int (pe_op op_mul pe_int (pv 1))) (fun _ _ => rfl)))), ?_⟩
  exact ⟨_, rfl, _, rfl, _, _, rfl, rfl, .inl ⟨by decide, by decide⟩, _, _, rfl, rfl, a, _, _, _, rfl, rfl, hs, at_n (j := 1 + 2 * j) (by omega), q⟩
theorem c_beads_of (T : Txt K mg ca) : Callee P w K mg base 1 "beads_of" ["rod", "deck"] (sp_beads_of K) := Callee.of T.d_beads_of fun _ _ D => ok_beads_of T D
theorem sc_worth_of : FnScope ["rod", "deck"] ["rod", "deck"] (defScope t_worth_of) := ⟨rfl, rfl, rfl, by decide +kernel, rfl, by decide +kernel, by decide +kernel⟩
theorem ok_worth_of (T : Txt K mg ca) (D : DefAt K mg "worth_of" t_worth_of ["rod", "deck"] f fd) : FnOk P w K mg base CX0 1 f fd ["rod", "deck"] (sp_worth_of K) := by
  refine D.fn.ok sc_worth_of (fun vs H Q E h => ?_) (fun cdv A outer s H vs Q E hr h => ?_)
  · obtain ⟨a, g, j, rfl, hs, hl, hj, q⟩ := h
    rfl
  obtain ⟨a, g, j, rfl, hs, hl, hj, q⟩ := h
  refine ⟨_, (pss_one (ps_ret (pe_ix (ix_l K) (pv 0) (pe_op op_add pe_int (pe_op op_mul pe_int (pv 1))) (fun _ _ => rfl)))), ?_⟩
  exact ⟨_, rfl, _, rfl, _, _, rfl, rfl, .inl ⟨by decide, by decide⟩, _, _, rfl, rfl, a, _, _, _, rfl, rfl, hs, at_n (j := 2 + 2 * j) (by omega), q⟩
theorem c_worth_of (T : Txt K mg ca) : Callee P w K mg base 1 "worth_of" ["rod", "deck"] (sp_worth_of K) := Callee.of T.d_worth_of fun _ _ D => ok_worth_of T D
theorem sum_ints : ∀ l : List Nat, (nz l).sum = ((Na.total l : Nat) : Int)
  | [] => rfl
  | x :: l => by
    show ((x : Int) :: nz l).sum = ((x + Na.total l : Nat) : Int)
    rw [List.sum_cons, sum_ints l]
    omega
theorem lex_below : ∀ {p q : List Nat}, p.length = q.length → HT.lexLt (nz p) (nz q) = Na.below p q
  | [], [], _ => rfl
  | x :: p, y :: q, h => by
    show HT.lexLt ((x : Int) :: nz p) ((y : Int) :: nz q) = (decide (x < y) || (x == y && Na.below p q))
    rw [HT.lexLt_cons, lex_below (by simpa using h)]
    by_cases e : x = y
    · subst e
      rw [if_pos rfl]
      simp
    · rw [if_neg (by omega)]
      have e2 : (x == y) = false := by simpa using e
      have e3 : decide ((x : Int) < (y : Int)) = decide (x < y) := decide_eq_decide.mpr (by omega)
      rw [e2, e3]
      simp
  | [], _ :: _, h => by simp at h
  | _ :: _, [], h => by simp at h
theorem sc_goes_before : FnScope ["way", "other"] ["way", "other"] (defScope t_goes_before) := ⟨rfl, rfl, rfl, by decide +kernel, rfl, by decide +kernel, by decide +kernel⟩
theorem ok_goes_before (T : Txt K mg ca) (D : DefAt K mg "goes_before" t_goes_before ["way", "other"] f fd) : FnOk P w K mg base CX0 1 f fd ["way", "other"] (sp_goes_before K) := by
  refine D.fn.ok sc_goes_before (fun vs H Q E h => ?_) (fun cdv A outer s H vs Q E hr h => ?_)
  · obtain ⟨a, b, p, q, rfl, ha, hb, hl, k⟩ := h
    rfl
  obtain ⟨a, b, p, q, rfl, ha, hb, hl, k⟩ := h
  refine ⟨_, (pss_cons (ps_if (pt_cmp (pc_neI (pe_callB (sum_l K rfl) (by rfl) T.n_sum bt_sum (pa_cons (pv 0) pa_nil)) (pe_callB (sum_l K rfl) (by rfl) T.n_sum bt_sum (pa_cons (pv 1) pa_nil))))
        (pss_one (ps_ret (pe_cmp (pc_lt (pe_callB (sum_l K rfl) (by rfl) T.n_sum bt_sum (pa_cons (pv 0) pa_nil)) (pe_callB (sum_l K rfl) (by rfl) T.n_sum bt_sum (pa_cons (pv 1) pa_nil))))))
        pss_nil)
      (pss_one (ps_ret (pe_cmpR (gt_l K hr.units0) (pv 0) (pv 1) (nomark _))))), ?_⟩
  refine ⟨_, rfl, a, _, rfl, ha, _, rfl, b, _, rfl, hb, _, _, rfl, rfl, _, rfl, ite2 (fun e => ?_) (fun e => ?_)⟩
  · refine ⟨_, rfl, a, _, rfl, ha, _, rfl, b, _, rfl, hb, _, _, rfl, rfl, ?_⟩
    rw [sum_ints, sum_ints] at e ⊢
    have e : Na.total p ≠ Na.total q := by
      intro z
      rw [z] at e
      simp at e
    have e2 : Na.nicer p q = decide ((Na.total p : Int) < (Na.total q : Int)) := by
      unfold Na.nicer
      have e3 : (Na.total p == Na.total q) = false := by simpa using e
      rw [e3, Bool.false_and, Bool.or_false]
      exact decide_eq_decide.mpr (by omega)
    rw [e2] at k
    exact k
  · refine ⟨_, rfl, _, rfl, a, b, _, _, rfl, rfl, ha, hb, by rw [ints_len, ints_len]; exact hl, ?_⟩
    rw [sum_ints, sum_ints] at e
    have e : Na.total p = Na.total q := by
      refine Classical.byContradiction fun z => e ?_
      simp
      omega
    have e2 : Na.nicer p q = Na.below q p := by
      unfold Na.nicer
      rw [e]
      simp
    rw [lex_below hl.symm, ← e2]
    exact k
theorem c_goes_before (T : Txt K mg ca) : Callee P w K mg base 1 "goes_before" ["way", "other"] (sp_goes_before K) := Callee.of T.d_goes_before fun _ _ D => ok_goes_before T D
theorem sc_strokes_of : FnScope ["hand", "start"] ["hand"] (defScope t_strokes_of) := ⟨rfl, rfl, rfl, by decide +kernel, rfl, by decide +kernel, by decide +kernel⟩
theorem ok_strokes_of (T : Txt K mg ca) (D : DefAt K mg "strokes_of" t_strokes_of ["hand"] f fd) : FnOk P w K mg base CX0 1 f fd ["hand"] (sp_strokes_of K) := by
  refine D.fn.ok sc_strokes_of (fun vs H Q E h => ?_) (fun cdv A outer s H vs Q E hr h => ?_)
  · obtain ⟨a, l, rfl, hs, h0, hm, hl, q⟩ := h
    rfl
  obtain ⟨a, l, rfl, hs, h0, hm, hl, q⟩ := h
  refine ⟨_, (pss_one (ps_ret (pe_lc rfl sc_strokes_of.nd (pi_range3 rfl T.n_range (pa_cons pe_int (pa_cons (pe_callB (len_s K) (by rfl) T.n_len bt_len (pa_cons (pv 0) pa_nil)) (pa_cons (pe_gi rfl T.v_NUMBERS_A_STROKE) pa_nil)))) (blkOk_by (N := ["hand", "start"]) (sc := defScope t_strokes_of) (own := [("start", 1)]) (by decide +kernel)) (fun _ _ _ _ _ => (pg_name (i := 1) sc_strokes_of.nd rfl (by first | exact Or.inl rfl | exact Or.inr rfl))) (fun _ _ _ _ _ => pts_nil) (fun _ _ _ _ _ => (pe_slice (sl_l K) (pv 0) (po_some (pv 1)) (po_some (pe_op op_add (pv 1) (pe_gi rfl T.v_NUMBERS_A_STROKE)))))))), ?_⟩
  refine ⟨_, rfl, a, _, rfl, .inl hs, 1, _, 7, _, rfl, (by rw [vi_len]; exact rgC (n := (l.length - 1) / 7) (by decide) (by decide) (by decide) (by decide) (by omega) (by omega) (by split <;> omega)), fun D hD => ?_⟩
  refine lc_rangeC (lo := 1) (c := 7) (n := (l.length - 1) / 7) (fun i H' => ∃ as : List Addr, Same H H' ∧ H' D = some (.lst (as.map V.ref)) ∧ Own D H' as ((List.range i).map (Mm.grp 7 (l.drop 1))))
    ⟨[], Same.new (Same.refl H) hD, upd_same, rfl, fun j b g e => by simp at e⟩ ?_ ?_
  · rintro i H' hi ⟨as, s1, hd, ho⟩
    refine ⟨rfl, ?_⟩
    refine ⟨_, rfl, _, rfl, _, rfl, _, rfl, _, _, rfl, rfl, _, rfl, a, _, rfl, s1.seq hs, fun p hp => ?_⟩
    have np : p ≠ D := fun z => by rw [z, hd] at hp; cases hp
    rw [cut_n (u := 1 + 7 * i) (v := 1 + 7 * i + 7) (by omega) (by omega)]
    refine ⟨_, (by rw [upd_ne (ne_of_none hd hp)]; exact hd), ?_, as ++ [p], ?_, ?_, ?_⟩
    · rw [List.length_map, ho.1, List.length_map, List.length_range]
      exact line_lt (by omega)
    · exact Same.put (Same.new s1 hp) hD
    · rw [List.map_append]
      exact upd_same
    · rw [range_snoc]
      refine ho.snoc (fun b o nb e => ?_) np ?_
      · rw [upd_ne nb, upd_ne (ne_of_none e hp)]
        exact e
      · rw [upd_ne np, upd_same]
        unfold Mm.grp
        rw [Nat.add_sub_cancel_left, List.drop_drop]
  · rintro H' ⟨as, s1, hd, ho⟩
    refine q _ D as ⟨s1, hD⟩ hd ?_
    rw [Mm.groups_is (by decide) (by rw [List.length_drop]; exact hm), List.length_drop]
    exact ho.lists
theorem c_strokes_of (T : Txt K mg ca) : Callee P w K mg base 1 "strokes_of" ["hand"] (sp_strokes_of K) := Callee.of T.d_strokes_of fun _ _ D => ok_strokes_of T D
theorem sc_first_part : FnScope ["stroke"] ["stroke"] (defScope t_first_part) := ⟨rfl, rfl, rfl, by decide +kernel, rfl, by decide +kernel, by decide +kernel⟩
theorem ok_first_part (T : Txt K mg ca) (D : DefAt K mg "first_part" t_first_part ["stroke"] f fd) : FnOk P w K mg base CX0 1 f fd ["stroke"] (sp_first_part K) := by
  refine D.fn.ok sc_first_part (fun vs H Q E h => ?_) (fun cdv A outer s H vs Q E hr h => ?_)
  · obtain ⟨a, s, rfl, hs, hl, q⟩ := h
    rfl
  obtain ⟨a, s, rfl, hs, hl, q⟩ := h
  refine ⟨_, (pss_one (ps_ret (pe_slice (sl_l K) (pv 0) (po_some pe_int) (po_some pe_int)))), ?_⟩
  refine ⟨_, rfl, _, rfl, _, rfl, a, _, rfl, hs, fun p hp => q _ p (Same.new (Same.refl H) hp) ?_⟩
  rw [cut_n (u := 0) (v := 3) (by omega) (by omega)]
  exact upd_same
theorem c_first_part (T : Txt K mg ca) : Callee P w K mg base 1 "first_part" ["stroke"] (sp_first_part K) := Callee.of T.d_first_part fun _ _ D => ok_first_part T D
theorem sc_second_part : FnScope ["stroke"] ["stroke"] (defScope t_second_part) := ⟨rfl, rfl, rfl, by decide +kernel, rfl, by decide +kernel, by decide +kernel⟩
theorem ok_second_part (T : Txt K mg ca) (D : DefAt K mg "second_part" t_second_part ["stroke"] f fd) : FnOk P w K mg base CX0 1 f fd ["stroke"] (sp_second_part K) := by
  refine D.fn.ok sc_second_part (fun vs H Q E h => ?_) (fun cdv A outer s H vs Q E hr h => ?_)
  · obtain ⟨a, s, rfl, hs, hl, q⟩ := h
    rfl
  obtain ⟨a, s, rfl, hs, hl, q⟩ := h
  refine ⟨_, (pss_one (ps_ret (pe_slice (sl_l K) (pv 0) (po_some pe_int) (po_some pe_int)))), ?_⟩
  refine ⟨_, rfl, _, rfl, _, rfl, a, _, rfl, hs, fun p hp => q _ p (Same.new (Same.refl H) hp) ?_⟩
  rw [cut_n (u := 3) (v := 6) (by omega) (by omega)]
  exact upd_same
theorem c_second_part (T : Txt K mg ca) : Callee P w K mg base 1 "second_part" ["stroke"] (sp_second_part K) := Callee.of T.d_second_part fun _ _ D => ok_second_part T D
theorem sc_cost_of : FnScope ["stroke"] ["stroke"] (defScope t_cost_of) := ⟨rfl, rfl, rfl, by decide +kernel, rfl, by decide +kernel, by decide +kernel⟩
theorem ok_cost_of (T : Txt K mg ca) (D : DefAt K mg "cost_of" t_cost_of ["stroke"] f fd) : FnOk P w K mg base CX0 1 f fd ["stroke"] (sp_cost_of K) := by
  refine D.fn.ok sc_cost_of (fun vs H Q E h => ?_) (fun cdv A outer s H vs Q E hr h => ?_)
  · obtain ⟨a, g, rfl, hs, hl, q⟩ := h
    rfl
  obtain ⟨a, g, rfl, hs, hl, q⟩ := h
  refine ⟨_, (pss_one (ps_ret (pe_ix (ix_l K) (pv 0) pe_int (fun _ _ => rfl)))), ?_⟩
  exact ⟨_, rfl, a, _, _, _, rfl, rfl, hs, at_n (j := 6) (by omega), q⟩
theorem c_cost_of (T : Txt K mg ca) : Callee P w K mg base 1 "cost_of" ["stroke"] (sp_cost_of K) := Callee.of T.d_cost_of fun _ _ D => ok_cost_of T D
def StepsX (D : Addr) (H : Hp) (ts : List Addr) (st : List Rm.Step) : Prop := ts.length = st.length ∧ ∀ (j : Nat) (t : Addr) (s : Rm.Step), ts[j]? = some t → st[j]? = some s → t ≠ D ∧ H t = some (.tup [.int (s.1 : Nat), .int (s.2.1 : Nat), .int (s.2.2 : Nat)])
theorem StepsX.steps {D : Addr} {H : Hp} {ts : List Addr} {st : List Rm.Step} (h : StepsX D H ts st) : StepsAt H ts st := ⟨h.1, fun j t s e1 e2 => (h.2 j t s e1 e2).2⟩
theorem StepsX.snoc {D : Addr} {H H' : Hp} {ts : List Addr} {st : List Rm.Step} {t : Addr} {s : Rm.Step} (h : StepsX D H ts st) (k : ∀ b o, b ≠ D → H b = some o → H' b = some o) (hn : t ≠ D) (ht : H' t = some (.tup [.int (s.1 : Nat), .int (s.2.1 : Nat), .int (s.2.2 : Nat)])) : StepsX D H' (ts ++ [t]) (st ++ [s]) := by
  refine ⟨by rw [List.length_append, List.length_append, h.1]; rfl, fun j t' s' e1 e2 => ?_⟩
  rcases get_snoc e1 with ⟨k1, e1⟩ | ⟨k1, rfl⟩
  · rcases get_snoc e2 with ⟨k2, e2⟩ | ⟨k2, e2⟩
    · obtain ⟨h1, h2⟩ := h.2 j t' s' e1 e2
      exact ⟨h1, k _ _ h1 h2⟩
    · have := h.1
      omega
  · rcases get_snoc e2 with ⟨k2, e2⟩ | ⟨k2, e2⟩
    · have := h.1
      omega
    · rw [e2]
      exact ⟨hn, ht⟩
theorem sc_steps_of : FnScope ["row", "start"] ["row"] (defScope t_steps_of) := ⟨rfl, rfl, rfl, by decide +kernel, rfl, by decide +kernel, by decide +kernel⟩
theorem ok_steps_of (T : Txt K mg ca) (D : DefAt K mg "steps_of" t_steps_of ["row"] f fd) : FnOk P w K mg base CX0 1 f fd ["row"] (sp_steps_of K) := by
  refine D.fn.ok sc_steps_of (fun vs H Q E h => ?_) (fun cdv A outer s H vs Q E hr h => ?_)
  · obtain ⟨a, l, rfl, hs, h3, h36, hm, q⟩ := h
    rfl
  obtain ⟨a, l, rfl, hs, h3, h36, hm, q⟩ := h
  refine ⟨_, (pss_one (ps_ret (pe_lc rfl sc_steps_of.nd (pi_range3 rfl T.n_range (pa_cons pe_int (pa_cons (pe_callB (len_s K) (by rfl) T.n_len bt_len (pa_cons (pv 0) pa_nil)) (pa_cons pe_int pa_nil)))) (blkOk_by (N := ["row", "start"]) (sc := defScope t_steps_of) (own := [("start", 1)]) (by decide +kernel)) (fun _ _ _ _ _ => (pg_name (i := 1) sc_steps_of.nd rfl (by first | exact Or.inl rfl | exact Or.inr rfl))) (fun _ _ _ _ _ => pts_nil) (fun _ _ _ _ _ => (pe_tup (pa_cons (pe_ix (ix_l K) (pv 0) (pv 1) (fun _ _ => rfl)) (pa_cons (pe_ix (ix_l K) (pv 0) (pe_op op_add (pv 1) pe_int) (fun _ _ => rfl)) (pa_cons (pe_ix (ix_l K) (pv 0) (pe_op op_add (pv 1) pe_int) (fun _ _ => rfl)) pa_nil)))))))), ?_⟩
  refine ⟨_, rfl, a, _, rfl, .inl hs, 3, _, 3, _, rfl, (by rw [vi_len]; exact rgC (n := (l.length - 3) / 3) (by decide) (by decide) (by decide) (by decide) (by omega) (by omega) (by split <;> omega)), fun D hD => ?_⟩
  refine lc_rangeC (lo := 3) (c := 3) (n := (l.length - 3) / 3) (fun i H' => ∃ ts : List Addr, Same H H' ∧ H' D = some (.lst (ts.map V.ref)) ∧ StepsX D H' ts ((List.range i).map fun j => (l.getD (3 + 3 * j) 0, l.getD (3 + 3 * j + 1) 0, l.getD (3 + 3 * j + 2) 0)))
    ⟨[], Same.new (Same.refl H) hD, upd_same, rfl, fun j b g e => by simp at e⟩ ?_ ?_
  · rintro i H' hi ⟨ts, s1, hd, ho⟩
    refine ⟨rfl, ?_⟩
    have S1 := s1.seq hs
    refine ⟨_, rfl, _, rfl, a, _, _, _, rfl, rfl, S1, at_n (j := 3 + 3 * i) (by omega), _, rfl, _, rfl, _, _, rfl, rfl, a, _, _, _, rfl, rfl, S1, at_n (j := 3 + 3 * i + 1) (by omega), _, rfl, _, rfl, _, _, rfl, rfl, a, _, _, _, rfl, rfl, S1, at_n (j := 3 + 3 * i + 2) (by omega), (by show 3 ≤ sizeLine; decide), fun t ht => ?_⟩
    have nt : t ≠ D := fun z => by rw [z, hd] at ht; cases ht
    refine ⟨_, (by rw [upd_ne (ne_of_none hd ht)]; exact hd), ?_, ts ++ [t], ?_, ?_, ?_⟩
    · rw [List.length_map, ho.1, List.length_map, List.length_range]
      exact line_lt (by omega)
    · exact Same.put (Same.new s1 ht) hD
    · rw [List.map_append]
      exact upd_same
    · rw [range_snoc]
      refine ho.snoc (fun b o nb e => ?_) nt ?_
      · rw [upd_ne nb, upd_ne (ne_of_none e ht)]
        exact e
      · rw [upd_ne nt]
        exact upd_same
  · rintro H' ⟨ts, s1, hd, ho⟩
    exact q _ D ts s1 hd ho.steps
theorem c_steps_of (T : Txt K mg ca) : Callee P w K mg base 1 "steps_of" ["row"] (sp_steps_of K) := Callee.of T.d_steps_of fun _ _ D => ok_steps_of T D
theorem sc_first_fault : FnScope ["faults", "fault"] ["faults"] (defScope t_first_fault) := ⟨rfl, rfl, rfl, by decide +kernel, rfl, by decide +kernel, by decide +kernel⟩
theorem ok_first_fault (T : Txt K mg ca) (D : DefAt K mg "first_fault" t_first_fault ["faults"] f fd) : FnOk P w K mg base CX0 1 f fd ["faults"] (sp_first_fault K) := by
  refine D.fn.ok sc_first_fault (fun vs H Q E h => ?_) (fun cdv A outer s H vs Q E hr h => ?_)
  · obtain ⟨a, xs, rfl, hs, q⟩ := h
    rfl
  obtain ⟨a, xs, rfl, hs, q⟩ := h
  refine ⟨_, (pss_cons (ps_for PassesOwn.never rfl (pi_list (pv 0)) (pg_name (i := 1) sc_first_fault.nd rfl (by first | exact Or.inl rfl | exact Or.inr rfl))
        (pss_one (ps_if (pt_cmp (pc_notN (pv 1)))
          (pss_one (ps_ret (pv 1)))
          pss_nil)))
      (pss_one (ps_ret pe_non))), ?_⟩
  refine ⟨_, rfl, a, rfl, ⟨_, hs⟩, for_list (a := a) (xs := xs) (fun i σ H' => ∃ v : Option V, σ = [some (.ref a), v] ∧ H' = H ∧ firstV xs = firstV (xs.drop i)) ⟨none, rfl, rfl, rfl⟩ (fun i σ H' _ ⟨_, _, e, _⟩ => by rw [e]; exact hs) ?_ ?_⟩
  · rintro i x σ H' hi ⟨v, rfl, rfl, he⟩
    obtain ⟨hil, hie⟩ := List.getElem?_eq_some_iff.mp hi
    rw [List.drop_eq_getElem_cons hil, hie] at he
    by_cases c : x = .non
    · subst c
      exact ⟨_, rfl, _, rfl, iteF ⟨_, rfl, rfl, he⟩⟩
    · have e : firstV xs = x := by
        rw [he]
        cases x <;> first | rfl | exact absurd rfl c
      rw [e] at q
      exact ⟨_, rfl, _, rfl, ite2 (fun _ => ⟨_, rfl, q⟩) (fun z => absurd (by rw [decide_eq_false c]; rfl) z)⟩
  · rintro σ H' ⟨v, rfl, rfl, he⟩
    rw [List.drop_length] at he
    rw [he] at q
    exact q
theorem c_first_fault (T : Txt K mg ca) : Callee P w K mg base 1 "first_fault" ["faults"] (sp_first_fault K) := Callee.of T.d_first_fault fun _ _ D => ok_first_fault T D
theorem sc_deck_can_be : FnScope ["beads", "worth"] ["beads", "worth"] (defScope t_deck_can_be) := ⟨rfl, rfl, rfl, by decide +kernel, rfl, by decide +kernel, by decide +kernel⟩
theorem ok_deck_can_be (T : Txt K mg ca) (D : DefAt K mg "deck_can_be" t_deck_can_be ["beads", "worth"] f fd) : FnOk P w K mg base CX0 1 f fd ["beads", "worth"] (sp_deck_can_be K) := by
  refine D.fn.ok sc_deck_can_be (fun vs H Q E h => ?_) (fun cdv A outer s H vs Q E hr h => ?_)
  · obtain ⟨b, w, rfl, q⟩ := h
    rfl
  obtain ⟨b, w, rfl, q⟩ := h
  refine ⟨_, (pss_cons (ps_if (PW.pt (pw_or (pt_cmp (pc_eqI (pv 0) pe_int)) (pw_or1 (pt_cmp (pc_eqI (pv 1) pe_int)))))
        (pss_one (ps_ret (pe_cmp (pc_eqI (pv 0) (pv 1)))))
        pss_nil)
      (pss_one (ps_ret (pe_and (pe_cmp (pc_le (pv 0) (pe_gi rfl T.v_MOST_BEADS))) (pe_one (pe_cmp (pc_le (pv 1) (pe_gi rfl T.v_HIGHEST_WORTH)))))))), ?_⟩
  unfold Rm.DeckOk Mm.DeckIn at q
  refine ⟨_, rfl, _, _, rfl, rfl, _, rfl, ite2 (fun e0 => ?_) (fun e0 => ⟨_, rfl, _, _, rfl, rfl, _, rfl, ite2 (fun e1 => ?_) (fun e1 => ?_)⟩)⟩
  · have e0 := of_decide_eq_true e0
    refine ⟨_, rfl, _, rfl, _, _, rfl, rfl, q _ ?_⟩
    simp only [decide_eq_true_eq]
    omega
  · have e1 := of_decide_eq_true e1
    refine ⟨_, rfl, _, rfl, _, _, rfl, rfl, q _ ?_⟩
    simp only [decide_eq_true_eq]
    omega
  · have e0 : ¬ (b : Int) = 0 := fun z => e0 (decide_eq_true z)
    have e1 : ¬ (w : Int) = 0 := fun z => e1 (decide_eq_true z)
    refine ⟨_, rfl, _, _, rfl, rfl, _, rfl, ite2 (fun e2 => ?_) (fun e2 => ?_)⟩
    · have e2 := of_decide_eq_true e2
      refine ⟨_, rfl, _, _, rfl, rfl, q _ ?_⟩
      simp only [decide_eq_true_eq]
      omega
    · have e2 : ¬ (b : Int) ≤ 15 := fun z => e2 (decide_eq_true z)
      refine q _ ?_
      simp only [Bool.false_eq_true, false_iff]
      omega
theorem c_deck_can_be (T : Txt K mg ca) : Callee P w K mg base 1 "deck_can_be" ["beads", "worth"] (sp_deck_can_be K) := Callee.of T.d_deck_can_be fun _ _ D => ok_deck_can_be T D
theorem sc_hand_can_be : FnScope ["hand", "behind"] ["hand"] (defScope t_hand_can_be) := ⟨rfl, rfl, rfl, by decide +kernel, rfl, by decide +kernel, by decide +kernel⟩
theorem ok_hand_can_be (T : Txt K mg ca) (D : DefAt K mg "hand_can_be" t_hand_can_be ["hand"] f fd) : FnOk P w K mg base CX0 1 f fd ["hand"] (sp_hand_can_be K) := by
  refine D.fn.ok sc_hand_can_be (fun vs H Q E h => ?_) (fun cdv A outer s H vs Q E hr h => ?_)
  · obtain ⟨a, l, rfl, hs, hl, q⟩ := h
    rfl
  obtain ⟨a, l, rfl, hs, hl, q⟩ := h
  refine ⟨_, (pss_cons (ps_if (PW.pt (pw_or (pt_cmp (pc_eqI (pe_callB (len_s K) (by rfl) T.n_len bt_len (pa_cons (pv 0) pa_nil)) pe_int)) (pw_or1 (pt_cmp (pc_gt (pe_ix (ix_l K) (pv 0) pe_int (fun _ _ => rfl)) (pe_gi rfl T.v_HIGHEST_COST))))))
        (pss_one (ps_ret pe_bl))
        pss_nil)
      (pss_cons (ps_set (i := 1) sc_hand_can_be.nd rfl (by first | exact Or.inl rfl | exact Or.inr rfl) (pe_op op_sub (pe_callB (len_s K) (by rfl) T.n_len bt_len (pa_cons (pv 0) pa_nil)) pe_int))
      (pss_one (ps_ret (pe_and (pe_cmp (pc_eqI (pe_op op_mod (pv 1) (pe_gi rfl T.v_NUMBERS_A_STROKE)) pe_int)) (pe_one (pe_cmp (pc_le (pe_op op_fdiv (pv 1) (pe_gi rfl T.v_NUMBERS_A_STROKE)) (pe_gi rfl T.v_MOST_STROKES))))))))), ?_⟩
  have no : ¬ Mm.HandLen l → Q (.bl false) H := fun z => q false (by simp only [Bool.false_eq_true, false_iff]; exact z)
  have ll := vi_len l
  refine ⟨_, rfl, a, _, rfl, .inl hs, _, _, rfl, rfl, _, rfl, ite2 (fun e0 => ?_) (fun e0 => ?_)⟩
  · have e0 := of_decide_eq_true e0
    refine no fun z => z.1 (List.eq_nil_of_length_eq_zero ?_)
    rw [ll] at e0
    omega
  · have e0 : ¬ l.length = 0 := fun z => e0 (decide_eq_true (by rw [ll]; omega))
    have el : l ≠ [] := fun z => e0 (by rw [z]; rfl)
    refine ⟨_, rfl, a, _, _, _, rfl, rfl, hs, at_n (j := 0) (by omega), _, _, rfl, rfl, _, rfl, ite2 (fun e1 => ?_) (fun e1 => ?_)⟩
    · have e1 := of_decide_eq_true e1
      exact no fun z => by have := z.2.1; omega
    · have e1 : ¬ (255 : Int) < (l.getD 0 0 : Nat) := fun z => e1 (decide_eq_true z)
      refine ⟨_, rfl, a, _, rfl, .inl hs, _, _, rfl, rfl, ?_⟩
      refine ⟨_, rfl, _, _, rfl, rfl, (by show (0 : Int) < 7; decide), _, _, rfl, rfl, _, rfl, ite2 (fun e2 => ?_) (fun e2 => ?_)⟩
      · have e2 := of_decide_eq_true e2
        refine ⟨_, rfl, _, _, rfl, rfl, ⟨by decide, by decide⟩, _, _, rfl, rfl, q _ ?_⟩
        rw [ll] at e2 ⊢
        simp only [decide_eq_true_eq]
        unfold Mm.HandLen
        constructor
        · intro z
          exact ⟨el, by omega, by omega, by omega⟩
        · rintro ⟨_, _, z1, z2⟩
          omega
      · refine no fun z => e2 (decide_eq_true ?_)
        rw [ll]
        have := z.2.2.1
        omega
theorem c_hand_can_be (T : Txt K mg ca) : Callee P w K mg base 1 "hand_can_be" ["hand"] (sp_hand_can_be K) := Callee.of T.d_hand_can_be fun _ _ D => ok_hand_can_be T D
theorem sc_part_can_be : FnScope ["part"] ["part"] (defScope t_part_can_be) := ⟨rfl, rfl, rfl, by decide +kernel, rfl, by decide +kernel, by decide +kernel⟩
theorem ok_part_can_be (T : Txt K mg ca) (D : DefAt K mg "part_can_be" t_part_can_be ["part"] f fd) : FnOk P w K mg base CX0 1 f fd ["part"] (sp_part_can_be K) := by
  refine D.fn.ok sc_part_can_be (fun vs H Q E h => ?_) (fun cdv A outer s H vs Q E hr h => ?_)
  · obtain ⟨a, p, rfl, hs, hl, q⟩ := h
    rfl
  obtain ⟨a, p, rfl, hs, hl, q⟩ := h
  refine ⟨_, (pss_one (ps_ret (pe_and (pe_cmp (pc_lt (pe_ix (ix_l K) (pv 0) pe_int (fun _ _ => rfl)) (pe_gi rfl T.v_DECKS))) (pe_and (pe_chain op_le op_le pe_int (pe_ix (ix_l K) (pv 0) pe_int (fun _ _ => rfl)) (pe_gi rfl T.v_HIGHEST_DIRECTION)) (pe_one (pe_chain op_le op_le pe_int (pe_ix (ix_l K) (pv 0) pe_int (fun _ _ => rfl)) (pe_gi rfl T.v_MOST_BEADS))))))), ?_⟩
  unfold PartIn at q
  have no : ¬ (p.getD 0 0 < 3 ∧ (1 ≤ p.getD 1 0 ∧ p.getD 1 0 ≤ 2) ∧ (1 ≤ p.getD 2 0 ∧ p.getD 2 0 ≤ 15)) → Q (.bl false) H := fun z => q false (by simp only [Bool.false_eq_true, false_iff]; exact z)
  refine ⟨_, rfl, a, _, _, _, rfl, rfl, hs, at_n (j := 0) (by omega), _, _, rfl, rfl, _, rfl, ite2 (fun e0 => ?_) (fun e0 => no fun z => e0 (decide_eq_true (by omega)))⟩
  have e0 := of_decide_eq_true e0
  refine ⟨_, rfl, a, _, _, _, rfl, rfl, hs, at_n (j := 1) (by omega), _, _, rfl, rfl, _, rfl, ite2 (fun e1 => ?_) (fun e1 => ⟨_, rfl, iteF (no fun z => e1 (decide_eq_true (by omega)))⟩)⟩
  have e1 := of_decide_eq_true e1
  refine ⟨_, _, rfl, rfl, _, rfl, ite2 (fun e2 => ?_) (fun e2 => no fun z => e2 (decide_eq_true (by omega)))⟩
  have e2 := of_decide_eq_true e2
  refine ⟨_, rfl, a, _, _, _, rfl, rfl, hs, at_n (j := 2) (by omega), _, _, rfl, rfl, _, rfl, ite2 (fun e3 => ?_) (fun e3 => no fun z => e3 (decide_eq_true (by omega)))⟩
  have e3 := of_decide_eq_true e3
  refine ⟨_, _, rfl, rfl, q _ ?_⟩
  simp only [decide_eq_true_eq]
  omega
theorem c_part_can_be (T : Txt K mg ca) : Callee P w K mg base 1 "part_can_be" ["part"] (sp_part_can_be K) := Callee.of T.d_part_can_be fun _ _ D => ok_part_can_be T D
theorem sc_length_can_be : FnScope ["length"] ["length"] (defScope t_length_can_be) := ⟨rfl, rfl, rfl, by decide +kernel, rfl, by decide +kernel, by decide +kernel⟩
theorem ok_length_can_be (T : Txt K mg ca) (D : DefAt K mg "length_can_be" t_length_can_be ["length"] f fd) : FnOk P w K mg base CX0 1 f fd ["length"] (sp_length_can_be K) := by
  refine D.fn.ok sc_length_can_be (fun vs H Q E h => ?_) (fun cdv A outer s H vs Q E hr h => ?_)
  · obtain ⟨n, rfl, q⟩ := h
    rfl
  obtain ⟨n, rfl, q⟩ := h
  refine ⟨_, (pss_one (ps_ret (pe_and (pe_chain op_le op_le pe_int (pv 0) (pe_op op_add pe_int (pe_op op_mul pe_int (pe_gi rfl T.v_MOST_STEPS)))) (pe_one (pe_cmp (pc_eqI (pe_op op_mod (pv 0) pe_int) pe_int)))))), ?_⟩
  have e : Bm.lenB n = ((decide ((3 : Int) ≤ (n : Int)) && decide ((n : Int) ≤ 3 + 3 * 10)) && decide ((n : Int) % 3 = 0)) := by
    unfold Bm.lenB
    have a1 : decide (3 ≤ n) = decide ((3 : Int) ≤ (n : Int)) := decide_eq_decide.mpr (by omega)
    have a2 : decide (n ≤ 33) = decide ((n : Int) ≤ 3 + 3 * 10) := decide_eq_decide.mpr (by omega)
    have a3 : decide (n % 3 = 0) = decide ((n : Int) % 3 = 0) := decide_eq_decide.mpr (by omega)
    rw [a1, a2, a3]
  rw [e] at q
  refine ⟨_, rfl, _, _, rfl, rfl, _, rfl, ite2 (fun e1 => ?_) (fun e1 => ?_)⟩
  · rw [e1, Bool.true_and] at q
    exact ⟨_, _, rfl, rfl, .inl ⟨by decide, by decide⟩, _, _, rfl, rfl, _, _, rfl, rfl, _, rfl, andR q fun _ q => ⟨_, rfl, _, _, rfl, rfl, (by show (0 : Int) < 3; decide), _, _, rfl, rfl, q⟩⟩
  · rw [show decide ((3 : Int) ≤ (n : Int)) = false from Bool.eq_false_iff.mpr e1, Bool.false_and, Bool.false_and] at q
    exact ⟨_, rfl, iteF q⟩
theorem c_length_can_be (T : Txt K mg ca) : Callee P w K mg base 1 "length_can_be" ["length"] (sp_length_can_be K) := Callee.of T.d_length_can_be fun _ _ D => ok_length_can_be T D
theorem sc_head_can_be : FnScope ["row"] ["row"] (defScope t_head_can_be) := ⟨rfl, rfl, rfl, by decide +kernel, rfl, by decide +kernel, by decide +kernel⟩
theorem ok_head_can_be (T : Txt K mg ca) (D : DefAt K mg "head_can_be" t_head_can_be ["row"] f fd) : FnOk P w K mg base CX0 1 f fd ["row"] (sp_head_can_be K) := by
  refine D.fn.ok sc_head_can_be (fun vs H Q E h => ?_) (fun cdv A outer s H vs Q E hr h => ?_)
  · obtain ⟨a, ns, rfl, hs, hl, q⟩ := h
    rfl
  obtain ⟨a, ns, rfl, hs, hl, q⟩ := h
  refine ⟨_, (pss_one (ps_ret (pe_and (pe_cmp (pc_le (pe_ix (ix_l K) (pv 0) pe_int (fun _ _ => rfl)) (pe_gi rfl T.v_HIGHEST_OP))) (pe_and (pe_cmp (pc_le (pe_ix (ix_l K) (pv 0) pe_int (fun _ _ => rfl)) (pe_gi rfl T.v_HIGHEST_DIGIT))) (pe_one (pe_cmp (pc_le (pe_ix (ix_l K) (pv 0) pe_int (fun _ _ => rfl)) (pe_gi rfl T.v_HIGHEST_DIGIT)))))))), ?_⟩
  unfold Bm.headB at q
  exact ⟨_, rfl, a, _, _, _, rfl, rfl, hs, ints_at0 (j := 0) (by omega), _, _, rfl, rfl, _, rfl, andR q fun _ q =>
    ⟨_, rfl, a, _, _, _, rfl, rfl, hs, ints_at0 (j := 1) (by omega), _, _, rfl, rfl, _, rfl, andR q fun _ q =>
    ⟨_, rfl, a, _, _, _, rfl, rfl, hs, ints_at0 (j := 2) (by omega), _, _, rfl, rfl, q⟩⟩⟩
theorem c_head_can_be (T : Txt K mg ca) : Callee P w K mg base 1 "head_can_be" ["row"] (sp_head_can_be K) := Callee.of T.d_head_can_be fun _ _ D => ok_head_can_be T D
theorem sc_step_can_be : FnScope ["stroke", "n", "k"] ["stroke", "n", "k"] (defScope t_step_can_be) := ⟨rfl, rfl, rfl, by decide +kernel, rfl, by decide +kernel, by decide +kernel⟩
theorem ok_step_can_be (T : Txt K mg ca) (D : DefAt K mg "step_can_be" t_step_can_be ["stroke", "n", "k"] f fd) : FnOk P w K mg base CX0 1 f fd ["stroke", "n", "k"] (sp_step_can_be K) := by
  refine D.fn.ok sc_step_can_be (fun vs H Q E h => ?_) (fun cdv A outer s H vs Q E hr h => ?_)
  · obtain ⟨s, n, k, rfl, q⟩ := h
    rfl
  obtain ⟨s, n, k, rfl, q⟩ := h
  refine ⟨_, (pss_cons (ps_if (pt_cmp (pc_eqI (pv 1) pe_int))
        (pss_one (ps_ret (pe_and (pe_cmp (pc_eqI (pv 0) pe_int)) (pe_one (pe_cmp (pc_eqI (pv 2) pe_int))))))
        pss_nil)
      (pss_one (ps_ret (pe_and (pe_cmp (pc_le (pv 0) (pe_gi rfl T.v_HIGHEST_STROKE))) (pe_and (pe_cmp (pc_le (pv 1) (pe_gi rfl T.v_MOST_BEADS))) (pe_one (pe_cmp (pc_le (pv 2) (pe_gi rfl T.v_MOST_BEADS))))))))), ?_⟩
  unfold Bm.stepB at q
  refine ⟨_, rfl, _, _, rfl, rfl, _, rfl, ite2 (fun e => ?_) (fun e => ?_)⟩
  · have e := of_decide_eq_true e
    rw [if_pos e] at q
    exact ⟨_, rfl, _, _, rfl, rfl, _, rfl, andR q fun _ q => ⟨_, rfl, _, _, rfl, rfl, q⟩⟩
  · have e : ¬ n = 0 := fun z => e (decide_eq_true z)
    rw [if_neg e] at q
    exact ⟨_, rfl, _, _, rfl, rfl, _, rfl, andR q fun _ q => ⟨_, rfl, _, _, rfl, rfl, _, rfl, andR q fun _ q => ⟨_, rfl, _, _, rfl, rfl, q⟩⟩⟩
theorem c_step_can_be (T : Txt K mg ca) : Callee P w K mg base 1 "step_can_be" ["stroke", "n", "k"] (sp_step_can_be K) := Callee.of T.d_step_can_be fun _ _ D => ok_step_can_be T D
theorem sc_Frame_shown_on : FnScope ["self", "number"] ["self", "number"] (defScope t_Frame_shown_on) := ⟨rfl, rfl, rfl, by decide +kernel, rfl, by decide +kernel, by decide +kernel⟩
theorem ok_Frame_shown_on (T : Txt K mg ca) (D : MethAt K ca.Frame "shown_on" "Frame.shown_on" t_Frame_shown_on ["self", "number"] f fd) : FnOk P w K mg base CX0 1 f fd ["self", "number"] (sp_Frame_shown_on K ca) := by
  refine D.fn.ok sc_Frame_shown_on (fun vs H Q E h => ?_) (fun cdv A outer s H vs Q E hr h => ?_)
  · obtain ⟨fr, p, i, gs, ts, g, t, rfl, hF, hP, hg, ht, kN, kS⟩ := h
    rfl
  obtain ⟨fr, p, i, gs, ts, g, t, rfl, hF, hP, hg, ht, kN, kS⟩ := h
  have hu := hu_of hr
  refine ⟨_, (pss_one (ps_ret (pe_dget1 hu (pe_ix (ix_l K) (pe_fld (pv 0) rfl) (pv 1) (fun _ _ => rfl)) (pe_callTy (tup_o K) (by rfl) T.n_tuple bt_tuple (pa_cons (pe_ix (ix_l K) (pe_fld (pv 0) rfl) (pv 1) (fun _ _ => rfl)) pa_nil)) ⟨rfl, rfl, rfl, rfl⟩))), ?_⟩
  obtain ⟨dx, r, d, rs, ds, hfr, hne, hr1, hrs, hd1, hds⟩ := hF.ex
  obtain ⟨ps, hp1, hps⟩ := hP
  obtain ⟨b, hb⟩ := at_len hds.1 hg
  obtain ⟨kvs, hkv, hdig⟩ := hds.2 i b g hb hg
  obtain ⟨pb, hpb⟩ := at_len hps.1 ht
  obtain ⟨hpl, ht3⟩ := hps.2 i pb t hpb ht
  refine ⟨_, rfl, fr, ca.Frame, dx, _, _, rfl, hfr, T.k_Frame.cl, T.k_Frame.no 2, ffs_d, _, rfl, d, _, _, _, rfl, rfl, SqL.of hd1, at_r hb, b, rfl, .inr ⟨kvs, .inl hkv⟩, ?_⟩
  refine ⟨_, rfl, fr, ca.Frame, dx, _, _, rfl, hfr, T.k_Frame.cl, T.k_Frame.no 1, ffs_p, _, rfl, p, _, _, _, rfl, rfl, SqL.of hp1, at_r hpb, pb, _, rfl, .inl ⟨SqL.of hpl, fun Tt hT => ?_⟩⟩
  have s1 : Same H (upd H Tt (.tup ((nz t).map V.int))) := Same.new (Same.refl H) hT
  have hget := DGet.t (k := keyN t) (b := Tt) (s1 _ _ hkv) (by rw [keyN_kV]; exact upd_same)
  by_cases hin : Su.InForm g t
  · rw [(hdig t ht3).1 hin] at hget
    exact ⟨_, hget, kS hin _ s1⟩
  · rw [(hdig t ht3).2 hin] at hget
    exact ⟨_, hget, kN hin _ s1⟩
theorem c_Frame_shown_on (T : Txt K mg ca) : CalleeM P w K mg base CX0 1 ca.Frame "shown_on" ["self", "number"] (sp_Frame_shown_on K ca) := CalleeM.of T.d_Frame_shown_on fun _ _ D => ok_Frame_shown_on T D
theorem sc_in_one_list : FnScope ["lists", "members", "one"] ["lists"] (defScope t_in_one_list) := ⟨rfl, rfl, rfl, by decide +kernel, rfl, by decide +kernel, by decide +kernel⟩
theorem ok_in_one_list (T : Txt K mg ca) (D : DefAt K mg "in_one_list" t_in_one_list ["lists"] f fd) : FnOk P w K mg base CX0 1 f fd ["lists"] (sp_in_one_list K) := by
  refine D.fn.ok sc_in_one_list (fun vs H Q E h => ?_) (fun cdv A outer s H vs Q E hr h => ?_)
  · obtain ⟨a, n, as, ts, rfl, ha, hrows, hn, hlen, q⟩ := h
    rfl
  obtain ⟨a, n, as, ts, rfl, ha, hrows, hn, hlen, q⟩ := h
  refine ⟨_, (pss_cons (ps_set (i := 1) sc_in_one_list.nd rfl (by first | exact Or.inl rfl | exact Or.inr rfl) (pe_lst pa_nil))
      (pss_cons (ps_for PassesOwn.never rfl (pi_list (pv 0)) (pg_name (i := 2) sc_in_one_list.nd rfl (by first | exact Or.inl rfl | exact Or.inr rfl))
        (pss_one (ps_expr (pe_bm PySem.F.plainAttrs_list PySem.F.slot_list_extend PySem.F.type_list_extend mt_extend (pv 1) (pa_cons (pv 2) pa_nil)))))
      (pss_one (ps_ret (pv 1))))), ?_⟩
  refine ⟨(by show 0 ≤ sizeLine; decide), fun L hL => ?_⟩
  have naL : a ≠ L := ne_of_none ha hL
  refine ⟨_, rfl, a, rfl, ⟨_, SqL.of (by rw [upd_ne naL]; exact ha)⟩, for_list (a := a) (xs := as.map V.ref) (fun i σ H' => ∃ v2 : Option V, σ = [some (.ref a), some (.ref L), v2] ∧ Same H H' ∧ H' L = some (lstN (ts.take i).flatten) ∧ (ts.take i).flatten.length ≤ 4 * i)
    ⟨none, rfl, Same.new (Same.refl H) hL, upd_same, by rw [List.take_zero]; exact Nat.le_refl _⟩ (fun i σ H' _ ⟨_, _, s1, _⟩ => SqL.of (s1 _ _ ha)) ?_ ?_⟩
  · rintro i x σ H' hi ⟨v2, rfl, s1, hL', hl⟩
    obtain ⟨b, hb, rfl⟩ := map_at hi
    obtain ⟨t, ht⟩ := at_len hrows.1.symm hb
    obtain ⟨h1, h2⟩ := hrows.2 i b t hb ht
    have hi' : i < ts.length := (List.getElem?_eq_some_iff.mp ht).1
    refine ⟨_, rfl, .inl ⟨rfl, _, SqL.of hL'⟩, _, rfl, L, b, _, _, rfl, rfl, hL', s1 _ _ h1, line_of (by rw [vi_len, vi_len]; omega), ?_⟩
    refine ⟨_, rfl, Same.put s1 hL, ?_, ?_⟩
    · rw [upd_same, take_snoc ht, List.flatten_append]
      congr 2
      unfold nz BkNeutral.ints
      rw [List.map_append, List.map_append]
      simp
    · rw [take_snoc ht, List.flatten_append, List.length_append]
      simp only [List.flatten_cons, List.flatten_nil, List.append_nil]
      omega
  · rintro σ H' ⟨v2, rfl, s1, hL', _⟩
    rw [List.length_map, hrows.1, List.take_length] at hL'
    exact ⟨_, rfl, q _ L s1 hL'⟩
theorem c_in_one_list (T : Txt K mg ca) : Callee P w K mg base 1 "in_one_list" ["lists"] (sp_in_one_list K) := Callee.of T.d_in_one_list fun _ _ D => ok_in_one_list T D
theorem sc_RuleUnderWay_init : FnScope ["self", "number", "steps"] ["self", "number", "steps"] (defScope t_RuleUnderWay_init) := ⟨rfl, rfl, rfl, by decide +kernel, rfl, by decide +kernel, by decide +kernel⟩
theorem ok_RuleUnderWay_init (T : Txt K mg ca) (D : InitAt K mg "RuleUnderWay" ca.RuleUnderWay "RuleUnderWay.__init__" t_RuleUnderWay_init ["self", "number", "steps"] f fd) : FnOk P w K mg base CX0 1 f fd ["self", "number", "steps"] (sp_RuleUnderWay_init K ca) := by
  refine D.fn.ok sc_RuleUnderWay_init (fun vs H Q E h => ?_) (fun cdv A outer s H vs Q E hr h => ?_)
  · obtain ⟨u, dx, s, i, rfl, hu, q⟩ := h
    rfl
  obtain ⟨u, dx, s, i, rfl, hu, q⟩ := h
  refine ⟨_, (pss_cons (ps_fld (pv 0) (pv 1) rfl)
      (pss_cons (ps_fld (pv 0) (pv 2) rfl)
      (pss_one (ps_fld (pv 0) pe_int rfl)))), ?_⟩
  have h1 := putF_len "number" (.int (i : Nat)) []
  have h2 := putF_len "steps" (.ref s) (putF "number" (.int (i : Nat)) [])
  refine ⟨_, rfl, _, rfl, u, ca.RuleUnderWay, dx, _, rfl, hu, T.k_RuleUnderWay.cl, T.k_RuleUnderWay.no 0, (by show 0 < 1000; decide), ?_⟩
  refine ⟨_, rfl, _, rfl, u, ca.RuleUnderWay, dx, _, rfl, upd_same, T.k_RuleUnderWay.cl, T.k_RuleUnderWay.no 1, Nat.lt_of_le_of_lt h1 (by show 0 + 1 < 1000; decide), ?_⟩
  refine ⟨_, rfl, u, ca.RuleUnderWay, dx, _, rfl, upd_same, T.k_RuleUnderWay.cl, T.k_RuleUnderWay.no 2, Nat.lt_of_le_of_lt h2 (Nat.lt_of_le_of_lt (Nat.add_le_add_right h1 1) (by show 0 + 1 + 1 < 1000; decide)), ?_⟩
  refine q _ (fun b o nb e => by rw [upd_ne nb, upd_ne nb, upd_ne nb]; exact e) (upd_same.trans ?_)
  congr 2
theorem c_RuleUnderWay_init (T : Txt K mg ca) : CalleeI P w K mg base 1 "RuleUnderWay" ca.RuleUnderWay ["self", "number", "steps"] (sp_RuleUnderWay_init K ca) := CalleeI.of T.d_RuleUnderWay_init fun _ _ D => ok_RuleUnderWay_init T D
theorem sc_span_of : FnScope ["make", "span", "rod"] ["make"] (defScope t_span_of) := ⟨rfl, rfl, rfl, by decide +kernel, rfl, by decide +kernel, by decide +kernel⟩
theorem ok_span_of (T : Txt K mg ca) (D : DefAt K mg "span_of" t_span_of ["make"] f fd) : FnOk P w K mg base CX0 2 f fd ["make"] (sp_span_of K) := by
  refine D.fn.ok sc_span_of (fun vs H Q E h => ?_) (fun cdv A outer s H vs Q E hr h => ?_)
  · obtain ⟨a, l, rfl, hs, hm, hl, hg, q⟩ := h
    rfl
  obtain ⟨a, l, rfl, hs, hm, hl, hg, q⟩ := h
  refine ⟨_, (pss_cons (ps_set (i := 1) sc_span_of.nd rfl (by first | exact Or.inl rfl | exact Or.inr rfl) pe_int)
      (pss_cons (ps_for PassesOwn.never rfl (pi_list (pe_c (c_rods_of T) hr (by decide) rfl (pa_cons (pv 0) pa_nil))) (pg_name (i := 2) sc_span_of.nd rfl (by first | exact Or.inl rfl | exact Or.inr rfl))
        (pss_one (ps_aug (i := 1) sc_span_of.nd rfl (by first | exact Or.inl rfl | exact Or.inr rfl) (pe_c (c_ratio_of T) hr (by decide) rfl (pa_cons (pv 2) pa_nil)) ip_mul)))
      (pss_one (ps_ret (pv 1))))), ?_⟩
  refine ⟨_, rfl, a, l, rfl, hs, hm, hl, fun H1 p as s1 hp hls => ?_⟩
  refine ⟨p, rfl, ⟨_, SqL.of hp⟩, for_list (a := p) (xs := as.map V.ref) (fun i σ H' => ∃ v2 : Option V, σ = [some (.ref a), some (.int (Na.span (((Na.groups 7 l).take i).map Na.rodOf) : Nat)), v2] ∧ H' = H1)
    ⟨none, rfl, rfl⟩ (fun i σ H' _ ⟨_, _, e⟩ => by rw [e]; exact SqL.of hp) ?_ ?_⟩
  · rintro i x σ H' hi ⟨v2, rfl, rfl⟩
    obtain ⟨b, hb, rfl⟩ := map_at hi
    obtain ⟨g, hgi⟩ := at_len hls.1.symm hb
    obtain ⟨g7, gR, _⟩ := hg g (List.mem_of_getElem? hgi)
    refine ⟨_, rfl, _, rfl, b, g, rfl, hls.2 i b g hb hgi, g7, _, _, rfl, rfl, .inr ⟨by omega, by have := gR.1.2; omega⟩, ?_⟩
    refine ⟨some (.ref b), ?_, rfl⟩
    rw [An.span_take _ hgi, Int.natCast_mul]
    rfl
  · rintro σ H' ⟨v2, rfl, rfl⟩
    rw [List.length_map, hls.1, List.take_length]
    exact ⟨_, rfl, q _ s1⟩
theorem c_span_of (T : Txt K mg ca) : Callee P w K mg base 2 "span_of" ["make"] (sp_span_of K) := Callee.of T.d_span_of fun _ _ D => ok_span_of T D
theorem sc_digits_of : FnScope ["value", "make", "digits", "left", "rod"] ["value", "make"] (defScope t_digits_of) := ⟨rfl, rfl, rfl, by decide +kernel, rfl, by decide +kernel, by decide +kernel⟩
theorem ok_digits_of (T : Txt K mg ca) (D : DefAt K mg "digits_of" t_digits_of ["value", "make"] f fd) : FnOk P w K mg base CX0 2 f fd ["value", "make"] (sp_digits_of K) := by
  refine D.fn.ok sc_digits_of (fun vs H Q E h => ?_) (fun cdv A outer s H vs Q E hr h => ?_)
  · obtain ⟨a, l, v, rfl, hs, hm, hl, hg, q⟩ := h
    rfl
  obtain ⟨a, l, v, rfl, hs, hm, hl, hg, q⟩ := h
  refine ⟨_, (pss_cons (ps_set (i := 2) sc_digits_of.nd rfl (by first | exact Or.inl rfl | exact Or.inr rfl) (pe_lst pa_nil))
      (pss_cons (ps_set (i := 3) sc_digits_of.nd rfl (by first | exact Or.inl rfl | exact Or.inr rfl) (pv 0))
      (pss_cons (ps_for PassesOwn.never rfl (pi_list (pe_c (c_rods_of T) hr (by decide) rfl (pa_cons (pv 1) pa_nil))) (pg_name (i := 4) sc_digits_of.nd rfl (by first | exact Or.inl rfl | exact Or.inr rfl))
        (pss_cons (ps_expr (pe_bm PySem.F.plainAttrs_list PySem.F.slot_list_append PySem.F.type_list_append mt_append (pv 2) (pa_cons (pe_op op_mod (pv 3) (pe_c (c_ratio_of T) hr (by decide) rfl (pa_cons (pv 4) pa_nil))) pa_nil)))
        (pss_one (ps_aug (i := 3) sc_digits_of.nd rfl (by first | exact Or.inl rfl | exact Or.inr rfl) (pe_c (c_ratio_of T) hr (by decide) rfl (pa_cons (pv 4) pa_nil)) ip_fdiv))))
      (pss_one (ps_ret (pv 2)))))), ?_⟩
  refine ⟨(by show 0 ≤ sizeLine; decide), fun L hL => ?_⟩
  have s0 : Same H (upd H L (.lst [])) := Same.new (Same.refl H) hL
  refine ⟨_, rfl, ?_⟩
  refine ⟨_, rfl, a, l, rfl, s0.seq hs, hm, hl, fun H1 p as s1 hp hls => ?_⟩
  have npL : p ≠ L ∨ as = [] := by
    by_cases z : p = L
    · right
      rw [z, s1 _ _ upd_same] at hp
      cases as with
      | nil => rfl
      | cons x r => cases hp
    · exact .inl z
  have hgl := groups_le hm hl
  refine ⟨p, rfl, ⟨_, SqL.of hp⟩, for_list (a := p) (xs := as.map V.ref) (fun i σ H' => ∃ v4 : Option V, σ = [some (.int (v : Nat)), some (.ref a), some (.ref L), some (.int (An.restAt (Na.groups 7 l) v i : Nat)), v4] ∧ H' = upd H1 L (lstN ((Na.digits ((Na.groups 7 l).map Na.rodOf) v).take i)))
    ⟨none, rfl, (updS (s1 _ _ upd_same)).symm⟩ (fun i σ H' hi ⟨_, _, e⟩ => ?_) ?_ ?_⟩
  · rw [e]
    rcases npL with z | z
    · exact SqL.of (by rw [upd_ne z]; exact hp)
    · subst z
      have : i = 0 := by simpa using hi
      subst this
      by_cases y : p = L
      · exact SqL.of (by rw [y, upd_same]; rfl)
      · exact SqL.of (by rw [upd_ne y]; exact hp)
  · rintro i x σ H' hi ⟨v4, rfl, rfl⟩
    obtain ⟨b, hb, rfl⟩ := map_at hi
    obtain ⟨g, hgi⟩ := at_len hls.1.symm hb
    obtain ⟨g7, gR, _⟩ := hg g (List.mem_of_getElem? hgi)
    have hd := An.digits_at (Na.groups 7 l) v i g hgi
    have keepN : ∀ (xs : List Nat) (c : Addr) (gg : List Nat), NL K H1 c gg → gg.length = 7 → NL K (upd H1 L (lstN xs)) c gg := fun xs c gg h h7 => SqL.keepL (s1 _ _ upd_same) h (by intro z; have := congrArg List.length z; rw [vi_len, h7] at this; cases this)
    have hN := keepN ((Na.digits ((Na.groups 7 l).map Na.rodOf) v).take i) b g (hls.2 i b g hb hgi) g7
    have hlen : ((Na.digits ((Na.groups 7 l).map Na.rodOf) v).take i).length ≤ 71 := by
      rw [List.length_take, An.digits_len]
      omega
    refine ⟨_, rfl, .inl ⟨rfl, _, SqL.of upd_same⟩, _, rfl, _, rfl, b, g, rfl, hN, g7, _, _, rfl, rfl, (by have := gR.1.1; omega), L, _, _, rfl, rfl, upd_same, line_lt (by rw [vi_len]; omega), ?_⟩
    rw [upd_upd]
    have e3 : lstN ((Na.digits ((Na.groups 7 l).map Na.rodOf) v).take i ++ [An.restAt (Na.groups 7 l) v i % g.getD 0 0]) = lstN ((Na.digits ((Na.groups 7 l).map Na.rodOf) v).take (i + 1)) := by rw [take_snoc hd]
    have e2 : HO.lst ((nz ((Na.digits ((Na.groups 7 l).map Na.rodOf) v).take i)).map V.int ++ [V.int (((An.restAt (Na.groups 7 l) v i : Nat) : Int) % ((g.getD 0 0 : Nat) : Int))]) = lstN ((Na.digits ((Na.groups 7 l).map Na.rodOf) v).take (i + 1)) := by
      rw [← e3]
      exact congrArg HO.lst (lst_snoc _ _ (by rw [Int.natCast_emod]))
    rw [e2]
    refine ⟨_, rfl, _, rfl, b, g, rfl, keepN _ b g (hls.2 i b g hb hgi) g7, g7, _, _, rfl, rfl, ⟨by have := gR.1.1; omega, by have := gR.1.2; omega⟩, ?_⟩
    refine ⟨some (.ref b), ?_, rfl⟩
    rw [rest_succ hgi, Int.natCast_ediv]
    rfl
  · rintro σ H' ⟨v4, rfl, rfl⟩
    refine ⟨_, rfl, q _ L ?_ ?_⟩
    · intro b o e
      rw [upd_ne (ne_of_none e hL)]
      exact s1 _ _ (s0 _ _ e)
    · rw [upd_same, List.length_map, hls.1, ← An.digits_len, List.take_length]
theorem c_digits_of (T : Txt K mg ca) : Callee P w K mg base 2 "digits_of" ["value", "make"] (sp_digits_of K) := Callee.of T.d_digits_of fun _ _ D => ok_digits_of T D
theorem sc_worth_together : FnScope ["rod", "deck"] ["rod"] (defScope t_worth_together) := ⟨rfl, rfl, rfl, by decide +kernel, rfl, by decide +kernel, by decide +kernel⟩
theorem ok_worth_together (T : Txt K mg ca) (D : DefAt K mg "worth_together" t_worth_together ["rod"] f fd) : FnOk P w K mg base CX0 2 f fd ["rod"] (sp_worth_together K) := by
  refine D.fn.ok sc_worth_together (fun vs H Q E h => ?_) (fun cdv A outer s H vs Q E hr h => ?_)
  · obtain ⟨a, g, rfl, hs, hl, hR, q⟩ := h
    rfl
  obtain ⟨a, g, rfl, hs, hl, hR, q⟩ := h
  refine ⟨_, (pss_one (ps_ret (pe_callB (sum_l K rfl) (by rfl) T.n_sum bt_sum (pa_cons (pe_lc rfl sc_worth_together.nd (pi_range1 rfl T.n_range (pa_cons (pe_gi rfl T.v_DECKS) pa_nil)) (blkOk_by (N := ["rod", "deck"]) (sc := defScope t_worth_together) (own := [("deck", 1)]) (by decide +kernel)) (fun _ _ _ _ _ => (pg_name (i := 1) sc_worth_together.nd rfl (by first | exact Or.inl rfl | exact Or.inr rfl))) (fun _ _ _ _ _ => pts_nil) (fun _ _ _ _ _ => (pe_op op_mul (pe_c (c_beads_of T) hr (by decide) rfl (pa_cons (pv 0) (pa_cons (pv 1) pa_nil))) (pe_c (c_worth_of T) hr (by decide) rfl (pa_cons (pv 0) (pa_cons (pv 1) pa_nil)))))) pa_nil)))), ?_⟩
  refine ⟨3, rfl, by decide, by decide, fun D hD => ?_⟩
  refine lc_range (lo := 0) (n := 3) (fun i H' => Same H H' ∧ H' D = some (.lst (((List.range i).map fun j => ((Rm.beOf g j * Rm.woOf g j : Nat) : Int)).map V.int)))
    ⟨Same.new (Same.refl H) hD, upd_same⟩ ?_ ?_
  · rintro i H' hi ⟨s1, hd⟩
    have hb := be_le hR hi
    refine ⟨rfl, ?_⟩
    refine ⟨_, rfl, _, rfl, a, g, i, by rw [Int.zero_add]; rfl, s1.seq hs, hl, hi, _, rfl, _, rfl, a, g, i, by rw [Int.zero_add]; rfl, s1.seq hs, hl, hi, _, _, rfl, rfl, .inl ⟨by omega, by omega⟩, ?_⟩
    refine ⟨_, hd, line_lt (by rw [List.length_map, List.length_map, List.length_range]; omega), Same.put s1 hD, ?_⟩
    rw [upd_same, range_snoc, List.map_append]
    congr 2
  · rintro H' ⟨s1, hd⟩
    refine ⟨D, _, rfl, SqL.of hd, ?_⟩
    have e : ((List.range 3).map fun j => ((Rm.beOf g j * Rm.woOf g j : Nat) : Int)).sum = ((Rm.mostOf g : Nat) : Int) := by
      show ((Rm.beOf g 0 * Rm.woOf g 0 : Nat) : Int) + (((Rm.beOf g 1 * Rm.woOf g 1 : Nat) : Int) + (((Rm.beOf g 2 * Rm.woOf g 2 : Nat) : Int) + 0)) = _
      unfold Rm.mostOf Rm.beOf Rm.woOf
      simp only [Nat.mul_zero, Nat.add_zero, Nat.mul_one, show 1 + 2 * 2 = 5 from rfl, show 2 + 2 * 2 = 6 from rfl, show 1 + 2 = 3 from rfl, show 2 + 2 = 4 from rfl]
      omega
    rw [e]
    exact q H' s1
theorem c_worth_together (T : Txt K mg ca) : Callee P w K mg base 2 "worth_together" ["rod"] (sp_worth_together K) := Callee.of T.d_worth_together fun _ _ D => ok_worth_together T D
theorem upd_self {H : Hp} {a : Addr} {o : HO} (h : H a = some o) : upd H a o = H := by
  funext b
  by_cases e : b = a
  · rw [e, upd_same, h]
  · rw [upd_ne e]
theorem putK_keys {kvs : List (Key × V)} {k : Key} {v y : V} (h : valV kvs k = some v) : (putK kvs k y).map (·.1) = kvs.map (·.1) := by
  unfold putK
  rw [valV_any, h, if_pos (show (some v).isSome = true from rfl), List.map_map]
  refine List.map_congr_left fun kv _ => ?_
  show (if kv.1 = k then (kv.1, y) else kv).1 = kv.1
  split <;> rfl
theorem forms_put {H : Hp} {kvs : List (Key × V)} {ws : Rm.Ways} {c : Nat} {p : List Nat} {q0 : Addr} (h : Forms H kvs ws) (h2 : H q0 = some (lstN p)) (hb : Rm.formIn (ws ++ [(c, p)]) c = some p) : Forms H (putK kvs (kN c) (.ref q0)) (ws ++ [(c, p)]) := by
  intro d
  by_cases e : c = d
  · subst e
    rw [hb]
    exact ⟨q0, by rw [valV_put, if_pos rfl], h2⟩
  · have hd := h d
    rw [Rm.formIn_snoc, if_neg e]
    cases e2 : Rm.formIn ws d with
    | none =>
      rw [e2] at hd
      show valV _ _ = none
      rw [valV_put, if_neg (fun z => e (kN_inj z).symm)]
      exact hd
    | some p' =>
      rw [e2] at hd
      obtain ⟨q, k1, k2⟩ := hd
      exact ⟨q, by rw [valV_put, if_neg (fun z => e (kN_inj z).symm)]; exact k1, k2⟩
theorem forms_stay {H : Hp} {kvs : List (Key × V)} {ws : Rm.Ways} {c : Nat} {p p' : List Nat} (h : Forms H kvs ws) (h1 : Rm.formIn ws c = some p') (h2 : Na.nicer p p' = false) : Forms H kvs (ws ++ [(c, p)]) := by
  intro d
  have hd := h d
  rw [Rm.formIn_snoc]
  by_cases e : c = d
  · subst e
    rw [if_pos rfl]
    rw [h1] at hd ⊢
    dsimp only at hd ⊢
    rw [h2]
    exact hd
  · rw [if_neg e]
    exact hd
theorem formIn_new {ws : Rm.Ways} {c : Nat} {p : List Nat} (h : Rm.formIn ws c = none) : Rm.formIn (ws ++ [(c, p)]) c = some p := by
  rw [Rm.formIn_snoc, if_pos rfl, h]
theorem formIn_old {ws : Rm.Ways} {c : Nat} {p p' : List Nat} (h : Rm.formIn ws c = some p') (h2 : Na.nicer p p' = true) : Rm.formIn (ws ++ [(c, p)]) c = some p := by
  rw [Rm.formIn_snoc, if_pos rfl, h]
  dsimp only
  rw [if_pos h2]
theorem Keys.new {kvs : List (Key × V)} {n c : Nat} {y : V} (h : Keys kvs n) (hc : c < n) (hv : valV kvs (kN c) = none) : Keys (putK kvs (kN c) y) n := by
  obtain ⟨ds, h1, h2, h3⟩ := h
  have hn : ¬ c ∈ ds := fun z => valV_not hv (by rw [h2]; exact List.mem_map.mpr ⟨c, z, rfl⟩)
  refine ⟨ds ++ [c], ?_, ?_, ?_⟩
  · rw [List.nodup_append]
    refine ⟨h1, by simp, fun a ha b hb => ?_⟩
    rw [List.mem_singleton] at hb
    rw [hb]
    exact fun z => hn (by rw [← z]; exact ha)
  · rw [putK_new _ hv, List.map_append, List.map_append, h2]
    rfl
  · intro d hd
    rcases List.mem_append.mp hd with hd | hd
    · exact h3 d hd
    · rw [List.mem_singleton.mp hd]
      exact hc
theorem Keys.old {kvs : List (Key × V)} {n c : Nat} {v y : V} (h : Keys kvs n) (hv : valV kvs (kN c) = some v) : Keys (putK kvs (kN c) y) n := by
  obtain ⟨ds, h1, h2, h3⟩ := h
  exact ⟨ds, h1, by rw [putK_keys hv]; exact h2, h3⟩
theorem Keys.len {kvs : List (Key × V)} {n : Nat} (h : Keys kvs n) : kvs.length ≤ n := by
  obtain ⟨ds, h1, h2, h3⟩ := h
  have := congrArg List.length h2
  rw [List.length_map, List.length_map] at this
  rw [this]
  exact Rm.pigeon h1 h3
theorem keys_whole {H : Hp} {g : List Nat} {kvs : List (Key × V)} (h : Keys kvs (g.getD 0 0)) (hf : Forms H kvs (Rm.waysOf g 3)) : kvs.length < g.getD 0 0 ↔ ¬ Rm.Whole g := by
  obtain ⟨ds, h1, h2, h3⟩ := h
  have hl := congrArg List.length h2
  rw [List.length_map, List.length_map] at hl
  have hmem : ∀ d : Nat, Rm.formIn (Rm.waysOf g 3) d ≠ none ↔ d ∈ ds := fun d => by
    have hd := hf d
    cases e : Rm.formIn (Rm.waysOf g 3) d with
    | none =>
      rw [e] at hd
      have k := valV_not hd
      rw [h2] at k
      constructor
      · intro z
        exact absurd rfl z
      · intro z
        exact absurd (List.mem_map.mpr ⟨d, z, rfl⟩) k
    | some p =>
      rw [e] at hd
      obtain ⟨q, hq, _⟩ := hd
      have k := valV_in hq
      rw [h2] at k
      obtain ⟨d', hd', ed⟩ := List.mem_map.mp k
      have := kN_inj ed
      constructor
      · intro _
        rw [← this]
        exact hd'
      · intro _ z
        cases z
  constructor
  · intro hlt hw
    have : g.getD 0 0 ≤ ds.length := by
      have := (List.nodup_range (n := g.getD 0 0)).length_le_of_subset (l₂ := ds) fun d hd => (hmem d).mp (hw d (List.mem_range.mp hd))
      rwa [List.length_range] at this
    omega
  · intro hw
    refine Classical.byContradiction fun hlt => hw fun d hd => ?_
    refine (hmem d).mpr (Classical.byContradiction fun hn => ?_)
    have := Rm.pigeon (n := g.getD 0 0) (l := d :: ds) (List.nodup_cons.mpr ⟨hn, h1⟩) fun x hx => by
      rcases List.mem_cons.mp hx with rfl | hx
      · exact hd
      · exact h3 x hx
    rw [List.length_cons] at this
    omega
theorem wstep_snoc (q b w : Nat) (ws : Rm.Ways) (cp : Nat × List Nat) : Rm.wstep q b w (ws ++ [cp]) = Rm.wstep q b w ws ++ Rm.wrow q b w cp := by
  unfold Rm.wstep
  rw [List.flatMap_append]
  simp
def wpart (q w : Nat) (cp : Nat × List Nat) (m : Nat) : Rm.Ways := (List.range m).filterMap fun m => if cp.1 + m * w < q then some (cp.1 + m * w, cp.2 ++ [m]) else none
theorem wpart_yes {q w m : Nat} {cp : Nat × List Nat} (h : cp.1 + m * w < q) : wpart q w cp (m + 1) = wpart q w cp m ++ [(cp.1 + m * w, cp.2 ++ [m])] := by
  unfold wpart
  rw [List.range_succ, List.filterMap_append]
  congr 1
  simp [h]
theorem wpart_no {q w m : Nat} {cp : Nat × List Nat} (h : ¬ cp.1 + m * w < q) : wpart q w cp (m + 1) = wpart q w cp m := by
  unfold wpart
  rw [List.range_succ, List.filterMap_append]
  simp [h]
theorem wpart_stop {q w m : Nat} {cp : Nat × List Nat} (h : ¬ cp.1 + m * w < q) : ∀ n, m ≤ n → wpart q w cp n = wpart q w cp m
  | 0, hn => by
    have : m = 0 := by omega
    rw [this]
  | n + 1, hn => by
    by_cases e : m = n + 1
    · rw [e]
    · have h2 : ¬ cp.1 + n * w < q := fun z => h (Nat.lt_of_le_of_lt (Nat.add_le_add_left (Nat.mul_le_mul_right w (by omega)) _) z)
      rw [wpart_no h2]
      exact wpart_stop h n (by omega)
theorem Forms.keep {H H' : Hp} {kvs : List (Key × V)} {ws : Rm.Ways} (h : Forms H kvs ws) (k : ∀ q p, H q = some (lstN p) → H' q = some (lstN p)) : Forms H' kvs ws := by
  intro d
  have hd := h d
  cases e : Rm.formIn ws d with
  | none =>
    rw [e] at hd
    exact hd
  | some p =>
    rw [e] at hd
    obtain ⟨q, k1, k2⟩ := hd
    exact ⟨q, k1, k q p k2⟩
theorem Forms.same {H : Hp} {kvs : List (Key × V)} {ws ws' : Rm.Ways} (h : Forms H kvs ws) (e : ∀ d, Rm.formIn ws' d = Rm.formIn ws d) : Forms H kvs ws' := by
  intro d
  rw [e d]
  exact h d
theorem forms_get {H : Hp} {kvs : List (Key × V)} {ws : Rm.Ways} (h : Forms H kvs ws) {d : Nat} {v : V} (e : valV kvs (kN d) = some v) : ∃ p q, Rm.formIn ws d = some p ∧ v = .ref q ∧ H q = some (lstN p) := by
  have hd := h d
  cases z : Rm.formIn ws d with
  | none =>
    rw [z] at hd
    rw [show valV kvs (kN d) = none from hd] at e
    cases e
  | some p =>
    rw [z] at hd
    obtain ⟨q, k1, k2⟩ := hd
    rw [show valV kvs (kN d) = some (.ref q) from k1] at e
    exact ⟨p, q, rfl, (Option.some.inj e).symm, k2⟩
theorem forms_no {H : Hp} {kvs : List (Key × V)} {ws : Rm.Ways} (h : Forms H kvs ws) {d : Nat} (e : valV kvs (kN d) = none) : Rm.formIn ws d = none := by
  have hd := h d
  cases z : Rm.formIn ws d with
  | none => rfl
  | some p =>
    rw [z] at hd
    obtain ⟨q, k1, _⟩ := hd
    rw [show valV kvs (kN d) = some (.ref q) from k1] at e
    cases e
theorem snoc_len {ws : Rm.Ways} {n c : Nat} {p : List Nat} (h : ∀ d p', Rm.formIn ws d = some p' → p'.length = n) (hp : p.length = n) : ∀ d p', Rm.formIn (ws ++ [(c, p)]) d = some p' → p'.length = n := fun d p' e => by
  rw [Rm.formIn_snoc] at e
  by_cases z : c = d
  · subst z
    rw [if_pos rfl] at e
    cases y : Rm.formIn ws c with
    | none =>
      rw [y] at e
      cases e
      exact hp
    | some p2 =>
      rw [y] at e
      dsimp only at e
      by_cases x : Na.nicer p p2 = true
      · rw [if_pos x] at e
        cases e
        exact hp
      · rw [if_neg x] at e
        cases e
        exact h c _ y
  · rw [if_neg z] at e
    exact h d p' e
theorem val_at : ∀ {kvs : List (Key × V)} {j : Nat} {k : Key} {v : V}, (kvs.map (·.1)).Nodup → kvs[j]? = some (k, v) → valV kvs k = some v
  | [], j, k, v, _, h => by simp at h
  | p :: r, 0, k, v, _, h => by
    cases h
    exact valV_pos rfl
  | p :: r, j + 1, k, v, nd, h => by
    have nd2 := List.nodup_cons.mp nd
    have h : r[j]? = some (k, v) := h
    have hk : k ∈ r.map (·.1) := List.mem_map.mpr ⟨(k, v), List.mem_of_getElem? h, rfl⟩
    rw [valV_neg (fun z => nd2.1 (by rw [show (fun x : Key × V => x.1) p = k from z]; exact hk))]
    exact val_at nd2.2 h
theorem fdict_of {H : Hp} {kvs : List (Key × V)} {ws : Rm.Ways} {n l : Nat} (hF : Forms H kvs ws) (hK : Keys kvs n) (hl : ∀ x ∈ ws, x.2.length = l) : ∃ fl, FDict H kvs fl ∧ Fo.Best l fl ws := by
  obtain ⟨ds, h1, h2, h3⟩ := hK
  have hlen := congrArg List.length h2
  rw [List.length_map, List.length_map] at hlen
  have key : ∀ (j d : Nat), ds[j]? = some d → ∃ v, kvs[j]? = some (kN d, v) ∧ valV kvs (kN d) = some v := fun j d e => by
    have hj : j < kvs.length := by
      have := (List.getElem?_eq_some_iff.mp e).1
      omega
    have e2 : (kvs.map (·.1))[j]? = some (kN d) := by rw [h2, List.getElem?_map, e]; rfl
    rw [List.getElem?_map, List.getElem?_eq_getElem hj] at e2
    have e3 : (kvs[j]).1 = kN d := Option.some.inj e2
    refine ⟨(kvs[j]).2, by rw [List.getElem?_eq_getElem hj, ← e3], ?_⟩
    have nd : (kvs.map (·.1)).Nodup := by
      rw [h2]
      exact List.Pairwise.map kN (fun a b hab z => hab (kN_inj z)) h1
    exact val_at nd (by rw [List.getElem?_eq_getElem hj, ← e3])
  have get : ∀ d ∈ ds, ∃ p q, Rm.formIn ws d = some p ∧ valV kvs (kN d) = some (.ref q) ∧ H q = some (lstN p) := fun d hd => by
    obtain ⟨j, hj⟩ := List.getElem?_of_mem hd
    obtain ⟨v, _, hv⟩ := key j d hj
    obtain ⟨p, q, k1, rfl, k2⟩ := forms_get hF hv
    exact ⟨p, q, k1, hv, k2⟩
  refine ⟨ds.map fun d => (d, (Rm.formIn ws d).getD []), ⟨by rw [List.length_map]; exact hlen, fun j c p e => ?_⟩, hl, fun x hx => ?_, fun d p e => ?_⟩
  · rw [List.getElem?_map] at e
    obtain ⟨d, hd, ed⟩ := Option.map_eq_some_iff.mp e
    cases ed
    obtain ⟨v, hv, hv2⟩ := key j c hd
    obtain ⟨p, q, k1, k2, k3⟩ := get c (List.mem_of_getElem? hd)
    rw [hv2] at k2
    cases k2
    refine ⟨q, hv, ?_⟩
    rw [k1]
    exact k3
  · obtain ⟨d, hd, rfl⟩ := List.mem_map.mp hx
    obtain ⟨p, q, k1, k2, k3⟩ := get d hd
    show Rm.formIn ws d = some ((Rm.formIn ws d).getD [])
    rw [k1]
    rfl
  · have hd := hF d
    rw [e] at hd
    obtain ⟨q, k1, k2⟩ := hd
    have hin := valV_in k1
    rw [h2] at hin
    obtain ⟨d', hd', ed⟩ := List.mem_map.mp hin
    have := kN_inj ed
    subst this
    refine List.mem_map.mpr ⟨d', hd', ?_⟩
    rw [e]
    rfl
theorem sc_forms_with_deck : FnScope ["rod", "deck", "forms", "longer", "digit", "form", "more", "grown", "way"] ["rod", "deck", "forms"] (defScope t_forms_with_deck) := ⟨rfl, rfl, rfl, by decide +kernel, rfl, by decide +kernel, by decide +kernel⟩
theorem ok_forms_with_deck (T : Txt K mg ca) (D : DefAt K mg "forms_with_deck" t_forms_with_deck ["rod", "deck", "forms"] f fd) : FnOk P w K mg base CX0 2 f fd ["rod", "deck", "forms"] (sp_forms_with_deck K) := by
  refine D.fn.ok sc_forms_with_deck (fun vs H Q E h => ?_) (fun cdv A outer s H vs Q E hr h => ?_)
  · obtain ⟨a, f, g, j, kvs, fl, rfl, hs, hl, hR, hj, hf, hfd, hlen, q⟩ := h
    rfl
  obtain ⟨a, f, g, j, kvs, fl, rfl, hs, hl, hR, hj, hf, hfd, hlen, q⟩ := h
  have hu := hu_of hr
  refine ⟨_, (pss_cons (ps_set (i := 3) sc_forms_with_deck.nd rfl (by first | exact Or.inl rfl | exact Or.inr rfl) pe_dnewK)
      (pss_cons (ps_lock (ps_for PassesOwn.never rfl (pi_items (pv 2)) (pg_tup rfl (pgs_cons (pg_name (i := 4) sc_forms_with_deck.nd rfl (by first | exact Or.inl rfl | exact Or.inr rfl)) (pgs_cons (pg_name (i := 5) sc_forms_with_deck.nd rfl (by first | exact Or.inl rfl | exact Or.inr rfl)) pgs_nil)))
        (pss_one (ps_for PassesOwn.never rfl (pi_range1 rfl T.n_range (pa_cons (pe_op op_add (pe_c (c_beads_of T) hr (by decide) rfl (pa_cons (pv 0) (pa_cons (pv 1) pa_nil))) pe_int) pa_nil)) (pg_name (i := 6) sc_forms_with_deck.nd rfl (by first | exact Or.inl rfl | exact Or.inr rfl))
          (pss_cons (ps_set (i := 7) sc_forms_with_deck.nd rfl (by first | exact Or.inl rfl | exact Or.inr rfl) (pe_op op_add (pv 4) (pe_op op_mul (pv 6) (pe_c (c_worth_of T) hr (by decide) rfl (pa_cons (pv 0) (pa_cons (pv 1) pa_nil))))))
          (pss_cons (ps_if (pt_cmp (pc_ge (pv 7) (pe_c (c_ratio_of T) hr (by decide) rfl (pa_cons (pv 0) pa_nil))))
            (pss_one ps_break)
            pss_nil)
          (pss_cons (ps_set (i := 8) sc_forms_with_deck.nd rfl (by first | exact Or.inl rfl | exact Or.inr rfl) (pe_op op_cat (pv 5) (pe_lst (pa_cons (pv 6) pa_nil))))
          (pss_one (ps_if (PW.pt (pw_or (pt_cmp (pc_dnotin hu (pv 7) (pv 3)) rfl) (pw_or1 (pt_val (pe_c (c_goes_before T) hr (by decide) rfl (pa_cons (pv 8) (pa_cons (pe_dget hu (pv 3) (pv 7) (fun _ _ => rfl)) pa_nil)))))))
            (pss_one (ps_dput hu (pv 3) (pv 7) (pv 8) rfl))
            pss_nil)))))))))
      (pss_one (ps_ret (pv 3))))), ?_⟩
  intro L hL
  have nfL : f ≠ L := ne_of_none hf hL
  have hbl := be_le hR hj
  refine ⟨f, .dK kvs, by rw [upd_ne nfL]; exact hf, True.intro, fun od => ?_⟩
  refine ⟨_, rfl, f, od, kvs, rfl, upd_same, for_items (d := f) (od := od) (kvs := kvs) (fun i σ H' => ∃ (v4 v5 v6 v7 v8 : Option V) (ks : List (Key × V)), σ = [some (.ref a), some (.int (j : Nat)), some (.ref f), some (.ref L), v4, v5, v6, v7, v8] ∧ (∀ b o, b ≠ f → H b = some o → H' b = some o) ∧ H' f = some (.frz od (.dK kvs)) ∧ H' L = some (.dK ks) ∧
    Forms H' ks (Rm.wstep (g.getD 0 0) (Rm.beOf g j) (Rm.woOf g j) (fl.take i)) ∧ Keys ks (g.getD 0 0) ∧ ∀ d p', Rm.formIn (Rm.wstep (g.getD 0 0) (Rm.beOf g j) (Rm.woOf g j) (fl.take i)) d = some p' → p'.length = j + 1)
    ⟨none, none, none, none, none, [], rfl, fun b o nb e => by rw [upd_ne nb, upd_ne (ne_of_none e hL)]; exact e, upd_same, by rw [upd_ne (Ne.symm nfL)]; exact upd_same, fun d => by rw [List.take_zero]; exact rfl, ⟨[], List.nodup_nil, rfl, fun d h => by simp at h⟩, fun d p e => by rw [List.take_zero] at e; cases e⟩
    (fun i σ H' _ ⟨_, _, _, _, _, _, _, _, h, _⟩ => h) ?_ ?_⟩
  · rintro i k v T σ H2 hi hT ⟨v4, v5, v6, v7, v8, ks, rfl, s2, hf2, hL2, hF, hK, h3⟩
    have hil : i < fl.length := by
      have := (List.getElem?_eq_some_iff.mp hi).1
      rw [hfd.1] at this
      exact this
    obtain ⟨⟨c, p⟩, hcp⟩ : ∃ cp, fl[i]? = some cp := ⟨_, List.getElem?_eq_getElem hil⟩
    obtain ⟨q0, h1, h2⟩ := hfd.2 i c p hcp
    rw [hi] at h1
    cases h1
    have hpl : p.length = j := hlen _ (List.mem_of_getElem? hcp)
    have nq0 : q0 ≠ f := ne_of h2 hf (by intro z; cases z)
    have T2 : Same H2 (upd H2 T (.tup [kV (kN c), .ref q0])) := Same.new (Same.refl H2) hT
    have fin : ∀ (m : Nat) (H3 : Hp) (v6 v7 v8 : Option V) (ks : List (Key × V)), wpart (g.getD 0 0) (Rm.woOf g j) (c, p) m = wpart (g.getD 0 0) (Rm.woOf g j) (c, p) (Rm.beOf g j + 1) → (∀ b o, b ≠ f → H b = some o → H3 b = some o) → H3 f = some (.frz od (.dK kvs)) → H3 L = some (.dK ks) →
      Forms H3 ks (Rm.wstep (g.getD 0 0) (Rm.beOf g j) (Rm.woOf g j) (fl.take i) ++ wpart (g.getD 0 0) (Rm.woOf g j) (c, p) m) → Keys ks (g.getD 0 0) → (∀ d p', Rm.formIn (Rm.wstep (g.getD 0 0) (Rm.beOf g j) (Rm.woOf g j) (fl.take i) ++ wpart (g.getD 0 0) (Rm.woOf g j) (c, p) m) d = some p' → p'.length = j + 1) →
      ∃ (v4 v5 v6' v7' v8' : Option V) (ks : List (Key × V)), [some (.ref a), some (.int (j : Nat)), some (.ref f), some (.ref L), some (.int (c : Nat)), some (.ref q0), v6, v7, v8] = [some (.ref a), some (.int (j : Nat)), some (.ref f), some (.ref L), v4, v5, v6', v7', v8'] ∧ (∀ b o, b ≠ f → H b = some o → H3 b = some o) ∧ H3 f = some (.frz od (.dK kvs)) ∧ H3 L = some (.dK ks) ∧
      Forms H3 ks (Rm.wstep (g.getD 0 0) (Rm.beOf g j) (Rm.woOf g j) (fl.take (i + 1))) ∧ Keys ks (g.getD 0 0) ∧ ∀ d p', Rm.formIn (Rm.wstep (g.getD 0 0) (Rm.beOf g j) (Rm.woOf g j) (fl.take (i + 1))) d = some p' → p'.length = j + 1 := by
      intro m H3 v6 v7 v8 ks em k1 k2 k3 k4 k5 k6
      have ew : Rm.wstep (g.getD 0 0) (Rm.beOf g j) (Rm.woOf g j) (fl.take (i + 1)) = Rm.wstep (g.getD 0 0) (Rm.beOf g j) (Rm.woOf g j) (fl.take i) ++ wpart (g.getD 0 0) (Rm.woOf g j) (c, p) m := by
        rw [take_snoc hcp, wstep_snoc, em]
        rfl
      rw [ew]
      exact ⟨_, _, _, _, _, ks, rfl, k1, k2, k3, k4, k5, k6⟩
    refine ⟨T, _, rfl, SqT.of upd_same, rfl, _, _, rfl, _, _, rfl, rfl, ?_⟩
    have nTf : f ≠ T := ne_of_none hf2 hT
    have nTL : L ≠ T := ne_of_none hL2 hT
    refine ⟨_, rfl, _, rfl, a, g, j, rfl, T2.seq (SqL.keepX hf hs s2), hl, hj, _, _, rfl, rfl, _, rfl, by omega, by omega, for_range (fun m σ H3 => ∃ (v6 v7 v8 : Option V) (ks : List (Key × V)), σ = [some (.ref a), some (.int (j : Nat)), some (.ref f), some (.ref L), some (.int (c : Nat)), some (.ref q0), v6, v7, v8] ∧ (∀ b o, b ≠ f → H b = some o → H3 b = some o) ∧ H3 f = some (.frz od (.dK kvs)) ∧ H3 L = some (.dK ks) ∧
      Forms H3 ks (Rm.wstep (g.getD 0 0) (Rm.beOf g j) (Rm.woOf g j) (fl.take i) ++ wpart (g.getD 0 0) (Rm.woOf g j) (c, p) m) ∧ Keys ks (g.getD 0 0) ∧ ∀ d p', Rm.formIn (Rm.wstep (g.getD 0 0) (Rm.beOf g j) (Rm.woOf g j) (fl.take i) ++ wpart (g.getD 0 0) (Rm.woOf g j) (c, p) m) d = some p' → p'.length = j + 1)
      ⟨v6, v7, v8, ks, rfl, fun b o nb e => T2 _ _ (s2 b o nb e), T2 _ _ hf2, T2 _ _ hL2, ?_, hK, ?_⟩ ?_ ?_⟩
    · unfold wpart
      rw [List.range_zero, List.filterMap_nil, List.append_nil]
      exact hF.keep fun r u e => T2 _ _ e
    · unfold wpart
      rw [List.range_zero, List.filterMap_nil, List.append_nil]
      exact h3
    · rintro m σ H3 hm ⟨v6, v7, v8, ks, rfl, s3, hf3, hL3, hF3, hK3, h33⟩
      have hm : m ≤ Rm.beOf g j := by omega
      have ec : ((c : Nat) : Int) + (0 + (m : Int)) * (Rm.woOf g j : Nat) = ((c + m * Rm.woOf g j : Nat) : Int) := by
        rw [Int.zero_add]
        push_cast
        rfl
      have ek : (Sum.inl (((c : Nat) : Int) + (0 + (m : Int)) * (Rm.woOf g j : Nat)) : Key) = kN (c + m * Rm.woOf g j) := congrArg Sum.inl ec
      refine ⟨_, rfl, _, rfl, _, rfl, _, rfl, a, g, j, rfl, SqL.keepX hf hs s3, hl, hj, _, _, rfl, rfl, .inl ⟨by omega, by omega⟩, _, _, rfl, rfl, ?_⟩
      refine ⟨_, rfl, _, rfl, a, g, rfl, SqL.keepX hf hs s3, hl, _, _, rfl, rfl, _, rfl, ite2 (fun e => ?_) (fun e => ?_)⟩
      · rw [ec] at e
        have e : ¬ c + m * Rm.woOf g j < g.getD 0 0 := by
          have := of_decide_eq_true e
          omega
        exact fin m H3 _ _ _ ks (wpart_stop (cp := (c, p)) e _ (by omega)).symm s3 hf3 hL3 hF3 hK3 h33
      · rw [ec] at e
        have e : c + m * Rm.woOf g j < g.getD 0 0 := by
          refine Classical.byContradiction fun z => e (decide_eq_true ?_)
          omega
        have hq3 := s3 _ _ nq0 h2
        refine ⟨_, rfl, _, rfl, (by show 1 ≤ sizeLine; decide), fun M hM => ?_⟩
        have s4 : Same H3 (upd H3 M (.lst [.int (0 + (m : Int))])) := Same.new (Same.refl H3) hM
        refine ⟨q0, M, _, _, rfl, rfl, s4 _ _ hq3, upd_same, line_of (by rw [vi_len]; simp only [List.length_cons, List.length_nil]; omega), fun R hR' => ?_⟩
        have s5 : Same (upd H3 M (.lst [.int (0 + (m : Int))])) (upd (upd H3 M (.lst [.int (0 + (m : Int))])) R (.lst ((nz p).map V.int ++ [.int (0 + (m : Int))]))) := Same.new (Same.refl _) hR'
        have s45 := s4.trans s5
        have hRl : (upd (upd H3 M (.lst [.int (0 + (m : Int))])) R (.lst ((nz p).map V.int ++ [.int (0 + (m : Int))]))) R = some (lstN (p ++ [m])) := by
          refine upd_same.trans ?_
          congr 2
          rw [Int.zero_add]
          show (nz p).map V.int ++ [V.int (m : Int)] = (nz (p ++ [m])).map V.int
          unfold nz BkNeutral.ints
          rw [List.map_append, List.map_append]
          rfl
        generalize upd (upd H3 M (.lst [.int (0 + (m : Int))])) R (.lst ((nz p).map V.int ++ [.int (0 + (m : Int))])) = H4 at s5 s45 hRl ⊢
        have hL4 := s45 _ _ hL3
        have hf4 := s45 _ _ hf3
        have hF4 : Forms H4 ks _ := hF3.keep fun r u e => s45 _ _ e
        have hklen : ks.length < sizeLine := line_lt (by have := hK3.len; have := hR.1.2; omega)
        have hp1 : (p ++ [m]).length = j + 1 := by rw [List.length_append, hpl]; rfl
        have put : ∀ ks', Forms H4 ks' (Rm.wstep (g.getD 0 0) (Rm.beOf g j) (Rm.woOf g j) (fl.take i) ++ wpart (g.getD 0 0) (Rm.woOf g j) (c, p) m ++ [(c + m * Rm.woOf g j, p ++ [m])]) → Keys ks' (g.getD 0 0) →
          ∃ (v6 v7 v8 : Option V) (ks : List (Key × V)), [some (.ref a), some (.int (j : Nat)), some (.ref f), some (.ref L), some (.int (c : Nat)), some (.ref q0), some (.int (0 + (m : Int))), some (.int (((c : Nat) : Int) + (0 + (m : Int)) * (Rm.woOf g j : Nat))), some (.ref R)] = [some (.ref a), some (.int (j : Nat)), some (.ref f), some (.ref L), some (.int (c : Nat)), some (.ref q0), v6, v7, v8] ∧ (∀ b o, b ≠ f → H b = some o → (upd H4 L (.dK ks')) b = some o) ∧ (upd H4 L (.dK ks')) f = some (.frz od (.dK kvs)) ∧ (upd H4 L (.dK ks')) L = some (.dK ks) ∧
          Forms (upd H4 L (.dK ks')) ks (Rm.wstep (g.getD 0 0) (Rm.beOf g j) (Rm.woOf g j) (fl.take i) ++ wpart (g.getD 0 0) (Rm.woOf g j) (c, p) (m + 1)) ∧ Keys ks (g.getD 0 0) ∧ ∀ d p', Rm.formIn (Rm.wstep (g.getD 0 0) (Rm.beOf g j) (Rm.woOf g j) (fl.take i) ++ wpart (g.getD 0 0) (Rm.woOf g j) (c, p) (m + 1)) d = some p' → p'.length = j + 1 := by
          intro ks' k1 k2
          rw [wpart_yes (cp := (c, p)) e, ← List.append_assoc]
          refine ⟨_, _, _, ks', rfl, fun b o nb eb => ?_, by rw [upd_ne nfL]; exact hf4, upd_same, k1.keep fun r u er => ?_, k2, snoc_len h33 hp1⟩
          · rw [upd_ne (ne_of_none eb hL)]
            exact s45 _ _ (s3 b o nb eb)
          · rw [upd_ne (ne_of er hL4 (by intro z; cases z))]
            exact er
        cases ev : valV ks (Sum.inl (((c : Nat) : Int) + (0 + (m : Int)) * (Rm.woOf g j : Nat))) with
        | none =>
          have ev2 := ev
          rw [ek] at ev2
          refine ⟨_, rfl, _, rfl, L, _, rfl, DGet.k (k := Sum.inl (((c : Nat) : Int) + (0 + (m : Int)) * (Rm.woOf g j : Nat))) hL4, _, rfl, ?_⟩
          rw [ev]
          refine iteT (iteT ⟨_, rfl, _, rfl, _, rfl, L, _, rfl, DPut.k (k := Sum.inl (((c : Nat) : Int) + (0 + (m : Int)) * (Rm.woOf g j : Nat))) hL4 hklen, ?_⟩)
          rw [ek]
          exact put _ (forms_put hF4 hRl (formIn_new (forms_no hF4 ev2))) (hK3.new e ev2)
        | some v =>
          have ev2 := ev
          rw [ek] at ev2
          obtain ⟨p', q', en, rfl, h2'⟩ := forms_get hF4 ev2
          refine ⟨_, rfl, _, rfl, L, _, rfl, DGet.k (k := Sum.inl (((c : Nat) : Int) + (0 + (m : Int)) * (Rm.woOf g j : Nat))) hL4, _, rfl, ?_⟩
          rw [ev]
          refine iteF ⟨_, rfl, _, rfl, _, rfl, L, .ref q', rfl, ?_, R, q', p ++ [m], p', rfl, SqL.of hRl, SqL.of h2', by rw [hp1, h33 _ p' en], _, rfl, ite2 (fun e2 => ?_) (fun e2 => ?_)⟩
          · have := DGet.k (k := Sum.inl (((c : Nat) : Int) + (0 + (m : Int)) * (Rm.woOf g j : Nat))) (a := L) (H := H4) hL4
            rw [ev] at this
            exact this
          · refine ⟨_, rfl, _, rfl, _, rfl, L, _, rfl, DPut.k (k := Sum.inl (((c : Nat) : Int) + (0 + (m : Int)) * (Rm.woOf g j : Nat))) hL4 hklen, ?_⟩
            rw [ek]
            exact put _ (forms_put hF4 hRl (formIn_old en e2)) (hK3.old ev2)
          · have e2 : Na.nicer (p ++ [m]) p' = false := Bool.eq_false_iff.mpr e2
            have z := put ks (forms_stay hF4 en e2) hK3
            rw [upd_self hL4] at z
            exact z
    · rintro σ H3 ⟨v6, v7, v8, ks, rfl, k1, k2, k3, k4, k5, k6⟩
      have en : (((Rm.beOf g j : Nat) : Int) + 1).toNat = Rm.beOf g j + 1 := by omega
      rw [en] at k4 k6
      exact fin _ H3 _ _ _ ks rfl k1 k2 k3 k4 k5 k6
  · rintro σ H2 ⟨v4, v5, v6, v7, v8, ks, rfl, s2, hf2, hL2, hF, hK, h3⟩
    rw [hfd.1, List.take_length] at hF
    refine ⟨hf2, _, rfl, q _ L ks ⟨?_, hL⟩ ?_ (hF.keep fun r u e => ?_) hK⟩
    · intro b o e
      by_cases nb : b = f
      · rw [nb, upd_same]
        rw [nb, hf] at e
        exact e
      · rw [upd_ne nb]
        exact s2 b o nb e
    · rw [upd_ne (Ne.symm nfL)]
      exact hL2
    · rw [upd_ne (ne_of e hf2 (by intro z; cases z))]
      exact e
theorem c_forms_with_deck (T : Txt K mg ca) : Callee P w K mg base 2 "forms_with_deck" ["rod", "deck", "forms"] (sp_forms_with_deck K) := Callee.of T.d_forms_with_deck fun _ _ D => ok_forms_with_deck T D
theorem sc_tour_cost : FnScope ["hand", "h", "acts", "strokes", "cost", "at", "act"] ["hand", "h", "acts"] (defScope t_tour_cost) := ⟨rfl, rfl, rfl, by decide +kernel, rfl, by decide +kernel, by decide +kernel⟩
theorem ok_tour_cost (T : Txt K mg ca) (D : DefAt K mg "tour_cost" t_tour_cost ["hand", "h", "acts"] f fd) : FnOk P w K mg base CX0 2 f fd ["hand", "h", "acts"] (sp_tour_cost K) := by
  refine D.fn.ok sc_tour_cost (fun vs H Q E h => ?_) (fun cdv A outer s H vs Q E hr h => ?_)
  · obtain ⟨a, c, l, h, as, acts, rfl, hs, h0, hm, hl, hS, hc, hrows, hst, ho, q⟩ := h
    rfl
  obtain ⟨a, c, l, h, as, acts, rfl, hs, h0, hm, hl, hS, hc, hrows, hst, ho, q⟩ := h
  refine ⟨_, (pss_cons (ps_set (i := 3) sc_tour_cost.nd rfl (by first | exact Or.inl rfl | exact Or.inr rfl) (pe_c (c_strokes_of T) hr (by decide) rfl (pa_cons (pv 0) pa_nil)))
      (pss_cons (ps_set (i := 4) sc_tour_cost.nd rfl (by first | exact Or.inl rfl | exact Or.inr rfl) pe_int)
      (pss_cons (ps_set (i := 5) sc_tour_cost.nd rfl (by first | exact Or.inl rfl | exact Or.inr rfl) (pv 1))
      (pss_cons (ps_for PassesOwn.never rfl (pi_list (pv 2)) (pg_name (i := 6) sc_tour_cost.nd rfl (by first | exact Or.inl rfl | exact Or.inr rfl))
        (pss_cons (ps_aug (i := 4) sc_tour_cost.nd rfl (by first | exact Or.inl rfl | exact Or.inr rfl) (pe_op op_add (pe_c (c_cost_of T) hr (by decide) rfl (pa_cons (pe_ix (ix_l K) (pv 3) (pe_ix (ix_l K) (pv 6) pe_int (fun _ _ => rfl)) (fun _ _ => rfl)) pa_nil)) (pe_op op_mul (pe_ix (ix_l K) (pv 0) pe_int (fun _ _ => rfl)) (pe_callB call_abs (by rfl) T.n_abs bt_abs (pa_cons (pe_op op_sub (pe_ix (ix_l K) (pv 6) pe_int (fun _ _ => rfl)) (pv 5)) pa_nil)))) ip_add)
        (pss_one (ps_set (i := 5) sc_tour_cost.nd rfl (by first | exact Or.inl rfl | exact Or.inr rfl) (pe_ix (ix_l K) (pv 6) pe_int (fun _ _ => rfl))))))
      (pss_one (ps_ret (pv 4))))))), ?_⟩
  have hh : SqL K H a ((nz l).map V.int) := hs
  refine ⟨_, rfl, a, l, rfl, hs, h0, hm, hl, fun H1 p bs ⟨s1, _⟩ hp hls => ?_⟩
  refine ⟨_, rfl, ?_⟩
  refine ⟨_, rfl, c, rfl, ⟨_, SqL.of (s1 _ _ hc)⟩, for_list (a := c) (xs := as.map V.ref) (fun i σ H' => ∃ v6 : Option V, σ = [some (.ref a), some (.int (h : Nat)), some (.ref c), some (.ref p), some (.int (Na.costs ⟨l.getD 0 0, (Na.groups 7 (l.drop 1)).map Na.strokeOf⟩ h ((acts.take i).map toAct) : Nat)), some (.int (An.lastRod h ((acts.take i).map toAct) : Nat)), v6] ∧ H' = H1)
    ⟨none, rfl, rfl⟩ (fun i σ H' _ ⟨_, _, e⟩ => by rw [e]; exact SqL.of (s1 _ _ hc)) ?_ ?_⟩
  · rintro i x σ H' hi ⟨v6, rfl, rfl⟩
    obtain ⟨b, hb, rfl⟩ := map_at hi
    obtain ⟨t, ht⟩ := at_len hrows.1.symm hb
    obtain ⟨h1, h4⟩ := hrows.2 i b t hb ht
    have h1 := s1 _ _ h1
    obtain ⟨s, hss⟩ : ∃ s, (Na.groups 7 (l.drop 1))[t.getD 1 0]? = some s := ⟨_, List.getElem?_eq_getElem (hst t (List.mem_of_getElem? ht))⟩
    obtain ⟨sb, hsb⟩ := at_len hls.1 hss
    have hs7 := (hS s (List.mem_of_getElem? hss)).1
    refine ⟨_, rfl, _, rfl, _, rfl, b, _, _, _, rfl, rfl, SqL.of h1, at_n (j := 1) (by omega), p, _, _, _, rfl, rfl, SqL.of hp, at_r hsb, sb, s, rfl, hls.2 _ sb s hsb hss, hs7, ?_⟩
    refine ⟨_, rfl, a, _, _, _, rfl, rfl, s1.seq hs, at_n (j := 0) (by omega), _, rfl, b, _, _, _, rfl, rfl, SqL.of h1, at_n (j := 0) (by omega), _, rfl, _, _, rfl, rfl, _, rfl, _, _, rfl, rfl, .inl ⟨by omega, by omega⟩, _, _, rfl, rfl, _, _, rfl, rfl, ?_⟩
    refine ⟨_, rfl, b, _, _, _, rfl, rfl, SqL.of h1, at_n (j := 0) (by omega), ?_⟩
    refine ⟨some (.ref b), ?_, rfl⟩
    rw [take_snoc ht, List.map_append]
    show _ = [some (V.ref a), some (V.int (h : Nat)), some (V.ref c), some (V.ref p), some (V.int ((Na.costs _ h ((acts.take i).map toAct ++ [toAct t]) : Nat) : Int)), some (V.int ((An.lastRod h ((acts.take i).map toAct ++ [toAct t]) : Nat) : Int)), some (V.ref b)]
    rw [An.costs_snoc, An.lastRod_snoc]
    have e1 : Na.costOf ⟨l.getD 0 0, (Na.groups 7 (l.drop 1)).map Na.strokeOf⟩ (An.lastRod h ((acts.take i).map toAct)) (toAct t) = s.getD 6 0 + l.getD 0 0 * Na.apartBy (t.getD 0 0) (An.lastRod h ((acts.take i).map toAct)) := by
      unfold Na.costOf
      show (((List.map Na.strokeOf (Na.groups 7 (l.drop 1)))[t.getD 1 0]?).map fun (x : Na.Stroke) => x.cost).getD 0 + _ = _
      rw [List.getElem?_map, hss]
      rfl
    rw [e1]
    have e2 := apart_abs (t.getD 0 0) (An.lastRod h ((acts.take i).map toAct))
    generalize Na.apartBy (t.getD 0 0) (An.lastRod h ((acts.take i).map toAct)) = ap at e2 ⊢
    show [some (V.ref a), some (V.int (h : Nat)), some (V.ref c), some (V.ref p), some (V.int (_ + (_ + _ * (if ((t.getD 0 0 : Nat) : Int) - ((An.lastRod h ((acts.take i).map toAct) : Nat) : Int) < 0 then _ else _)))), some (V.int ((t.getD 0 0 : Nat) : Int)), some (V.ref b)] = _
    rw [e2]
    push_cast
    rfl
  · rintro σ H' ⟨v6, rfl, rfl⟩
    rw [List.length_map, hrows.1, List.take_length]
    exact ⟨_, rfl, q _ s1⟩
theorem c_tour_cost (T : Txt K mg ca) : Callee P w K mg base 2 "tour_cost" ["hand", "h", "acts"] (sp_tour_cost K) := Callee.of T.d_tour_cost fun _ _ D => ok_tour_cost T D
theorem bs_at {g : List Nat} {j : Nat} (hj : j < 3) : (Rm.bsOf g).getD j 0 = Rm.beOf g j := by
  have e : j = 0 ∨ j = 1 ∨ j = 2 := by omega
  rcases e with rfl | rfl | rfl <;> rfl
theorem ints_set (l : List Nat) (j x : Nat) : ((nz l).map V.int).set j (.int (x : Nat)) = (nz (l.set j x)).map V.int := by
  unfold nz BkNeutral.ints
  rw [List.map_set, List.map_set]
theorem ix_n {l : List Nat} {j : Nat} (h : j < l.length) : ixN ((nz l).map V.int).length (j : Int) = some j := by
  unfold ixN
  rw [vi_len, if_pos (by omega), if_pos (by omega)]
  simp
theorem sc_behind_part : FnScope ["rod", "pushed", "part", "number", "deck", "to_the_beam", "ready", "behind"] ["rod", "pushed", "part", "number"] (defScope t_behind_part) := ⟨rfl, rfl, rfl, by decide +kernel, rfl, by decide +kernel, by decide +kernel⟩
theorem ok_behind_part (T : Txt K mg ca) (D : DefAt K mg "behind_part" t_behind_part ["rod", "pushed", "part", "number"] f fd) : FnOk P w K mg base CX0 2 f fd ["rod", "pushed", "part", "number"] (sp_behind_part K) := by
  refine D.fn.ok sc_behind_part (fun vs H Q E h => ?_) (fun cdv A outer s H vs Q E hr h => ?_)
  · obtain ⟨a, b, c, g, p, t, n, rfl, hg, hgl, hp, hpl, ht, htl, hd, kN, kS⟩ := h
    rfl
  obtain ⟨a, b, c, g, p, t, n, rfl, hg, hgl, hp, hpl, ht, htl, hd, kN, kS⟩ := h
  refine ⟨_, (pss_cons (ps_set (i := 4) sc_behind_part.nd rfl (by first | exact Or.inl rfl | exact Or.inr rfl) (pe_ix (ix_l K) (pv 2) pe_int (fun _ _ => rfl)))
      (pss_cons (ps_set (i := 5) sc_behind_part.nd rfl (by first | exact Or.inl rfl | exact Or.inr rfl) (pe_cmp (pc_eqI (pe_ix (ix_l K) (pv 2) pe_int (fun _ _ => rfl)) (pe_gi rfl T.v_TO_THE_BEAM))))
      (pss_cons (ps_set (i := 6) sc_behind_part.nd rfl (by first | exact Or.inl rfl | exact Or.inr rfl) (pe_ifExp (pt_val (pv 5)) (pe_op op_sub (pe_c (c_beads_of T) hr (by decide) rfl (pa_cons (pv 0) (pa_cons (pv 4) pa_nil))) (pe_ix (ix_l K) (pv 1) (pv 4) (fun _ _ => rfl))) (pe_ix (ix_l K) (pv 1) (pv 4) (fun _ _ => rfl))))
      (pss_cons (ps_if (pt_not (pt_chain op_le op_le pe_int (pv 3) (pe_callB (call_min2 rfl) (by rfl) T.n_min bt_min (pa_cons (pe_ix (ix_l K) (pv 2) pe_int (fun _ _ => rfl)) (pa_cons (pv 6) pa_nil)))))
        (pss_one (ps_ret pe_non))
        pss_nil)
      (pss_cons (ps_set (i := 7) sc_behind_part.nd rfl (by first | exact Or.inl rfl | exact Or.inr rfl) (pe_callTy (list_o K) (by rfl) T.n_list bt_list (pa_cons (pv 1) pa_nil)))
      (pss_cons (ps_augS (pv 7) (pv 4) get_list (pe_ifExp (pt_val (pv 5)) (pv 3) (pe_un un_neg (pv 3))) ip_add set_list)
      (pss_one (ps_ret (pv 7))))))))), ?_⟩
  have hj : t.getD 0 0 < 3 := hd
  unfold Rm.push3 at kN kS
  rw [bs_at hj] at kN kS
  refine ⟨_, rfl, c, _, _, _, rfl, rfl, ht, at_n (j := 0) (by omega), ?_⟩
  refine ⟨_, rfl, c, _, _, _, rfl, rfl, ht, at_n (j := 1) (by omega), _, _, rfl, rfl, ?_⟩
  refine ⟨_, rfl, _, rfl, ite2 (fun eb => ?_) (fun eb => ?_)⟩
  · have t1 : (t.getD 1 0 == 1) = true := by
      have eb : ((t.getD 1 0 : Nat) : Int) = 1 := of_decide_eq_true eb
      have : t.getD 1 0 = 1 := by omega
      simpa using this
    rw [t1] at kN kS
    simp only [if_true] at kN kS
    refine ⟨_, rfl, _, rfl, a, g, t.getD 0 0, rfl, hg, hgl, hj, _, rfl, _, rfl, b, _, _, _, rfl, rfl, hp, at_n (j := t.getD 0 0) (by omega), _, _, rfl, rfl, ?_⟩
    refine ⟨_, rfl, _, _, rfl, rfl, _, rfl, ite2 (fun e1 => ?_) (fun e1 => ⟨_, rfl, kN (if_neg fun z => e1 (decide_eq_true (by have := z.1.1; omega)))⟩)⟩
    have e1 := of_decide_eq_true e1
    refine ⟨_, rfl, c, _, _, _, rfl, rfl, ht, at_n (j := 2) (by omega), _, rfl, _, _, rfl, _, _, rfl, rfl, _, rfl, ite2 (fun e2 => ?_) (fun e2 => ?_)⟩
    · have e2 : (!decide ((n : Int) ≤ if (((Rm.beOf g (t.getD 0 0) : Nat) : Int) - ((p.getD (t.getD 0 0) 0 : Nat) : Int)) < ((t.getD 2 0 : Nat) : Int) then (((Rm.beOf g (t.getD 0 0) : Nat) : Int) - ((p.getD (t.getD 0 0) 0 : Nat) : Int)) else ((t.getD 2 0 : Nat) : Int))) = true := e2
      refine kN (if_neg fun z => ?_)
      obtain ⟨⟨z1, z2⟩, z3⟩ := z
      rw [decide_eq_true (by split <;> omega)] at e2
      cases e2
    · have e2 : (n : Int) ≤ if (((Rm.beOf g (t.getD 0 0) : Nat) : Int) - ((p.getD (t.getD 0 0) 0 : Nat) : Int)) < ((t.getD 2 0 : Nat) : Int) then (((Rm.beOf g (t.getD 0 0) : Nat) : Int) - ((p.getD (t.getD 0 0) 0 : Nat) : Int)) else ((t.getD 2 0 : Nat) : Int) := by
        refine Classical.byContradiction fun z => e2 ?_
        show (!decide ((n : Int) ≤ if (((Rm.beOf g (t.getD 0 0) : Nat) : Int) - ((p.getD (t.getD 0 0) 0 : Nat) : Int)) < ((t.getD 2 0 : Nat) : Int) then (((Rm.beOf g (t.getD 0 0) : Nat) : Int) - ((p.getD (t.getD 0 0) 0 : Nat) : Int)) else ((t.getD 2 0 : Nat) : Int))) = true
        rw [decide_eq_false z]
        rfl
      have e3 : (1 ≤ n ∧ n ≤ t.getD 2 0) ∧ n ≤ (Rm.beOf g (t.getD 0 0) - p.getD (t.getD 0 0) 0) := by
        split at e2 <;> omega
      have e4 := kS _ (if_pos e3)
      refine ⟨_, rfl, b, _, rfl, .inl hp, fun B hB => ?_⟩
      refine ⟨_, rfl, _, rfl, B, _, _, _, rfl, rfl, SqL.of upd_same, at_n (j := t.getD 0 0) (by omega), _, rfl, _, rfl, ite2 (fun _ => ?_) (fun z => absurd eb z)⟩
      refine ⟨_, rfl, _, _, rfl, rfl, B, _, _, t.getD 0 0, rfl, rfl, upd_same, ix_n (by omega), ?_⟩
      refine ⟨_, rfl, e4 _ B (Same.put (Same.new (Same.refl H) hB) hB) ?_⟩
      rw [upd_same]
      congr 2
      rw [← ints_set]
      congr 2
  · have t1 : (t.getD 1 0 == 1) = false := by
      have eb : ¬ ((t.getD 1 0 : Nat) : Int) = 1 := fun z => eb (decide_eq_true z)
      have : ¬ t.getD 1 0 = 1 := by omega
      simpa using this
    rw [t1] at kN kS
    simp only [Bool.false_eq_true, if_false] at kN kS
    refine ⟨_, rfl, _, rfl, b, _, _, _, rfl, rfl, hp, at_n (j := t.getD 0 0) (by omega), ?_⟩
    refine ⟨_, rfl, _, _, rfl, rfl, _, rfl, ite2 (fun e1 => ?_) (fun e1 => ⟨_, rfl, kN (if_neg fun z => e1 (decide_eq_true (by have := z.1.1; omega)))⟩)⟩
    have e1 := of_decide_eq_true e1
    refine ⟨_, rfl, c, _, _, _, rfl, rfl, ht, at_n (j := 2) (by omega), _, rfl, _, _, rfl, _, _, rfl, rfl, _, rfl, ite2 (fun e2 => ?_) (fun e2 => ?_)⟩
    · have e2 : (!decide ((n : Int) ≤ if ((p.getD (t.getD 0 0) 0 : Nat) : Int) < ((t.getD 2 0 : Nat) : Int) then ((p.getD (t.getD 0 0) 0 : Nat) : Int) else ((t.getD 2 0 : Nat) : Int))) = true := e2
      refine kN (if_neg fun z => ?_)
      obtain ⟨⟨z1, z2⟩, z3⟩ := z
      rw [decide_eq_true (by split <;> omega)] at e2
      cases e2
    · have e2 : (n : Int) ≤ if ((p.getD (t.getD 0 0) 0 : Nat) : Int) < ((t.getD 2 0 : Nat) : Int) then ((p.getD (t.getD 0 0) 0 : Nat) : Int) else ((t.getD 2 0 : Nat) : Int) := by
        refine Classical.byContradiction fun z => e2 ?_
        show (!decide ((n : Int) ≤ if ((p.getD (t.getD 0 0) 0 : Nat) : Int) < ((t.getD 2 0 : Nat) : Int) then ((p.getD (t.getD 0 0) 0 : Nat) : Int) else ((t.getD 2 0 : Nat) : Int))) = true
        rw [decide_eq_false z]
        rfl
      have e3 : (1 ≤ n ∧ n ≤ t.getD 2 0) ∧ n ≤ p.getD (t.getD 0 0) 0 := by
        split at e2 <;> omega
      have e4 := kS _ (if_pos e3)
      refine ⟨_, rfl, b, _, rfl, .inl hp, fun B hB => ?_⟩
      refine ⟨_, rfl, _, rfl, B, _, _, _, rfl, rfl, SqL.of upd_same, at_n (j := t.getD 0 0) (by omega), _, rfl, _, rfl, ite2 (fun z => absurd z eb) (fun _ => ?_)⟩
      refine ⟨_, rfl, _, rfl, _, _, rfl, rfl, B, _, _, t.getD 0 0, rfl, rfl, upd_same, ix_n (by omega), ?_⟩
      refine ⟨_, rfl, e4 _ B (Same.put (Same.new (Same.refl H) hB) hB) ?_⟩
      rw [upd_same]
      congr 2
      rw [← ints_set]
      congr 2
      show ((p.getD (t.getD 0 0) 0 : Nat) : Int) + -(n : Int) = ((p.getD (t.getD 0 0) 0 - n : Nat) : Int)
      omega
theorem c_behind_part (T : Txt K mg ca) : Callee P w K mg base 2 "behind_part" ["rod", "pushed", "part", "number"] (sp_behind_part K) := Callee.of T.d_behind_part fun _ _ D => ok_behind_part T D
theorem keyN_inj {k k' : List Nat} (h : keyN k = keyN k') : k = k' := by
  unfold keyN nz BkNeutral.ints at h
  rw [List.map_map, List.map_map] at h
  exact (List.map_inj_right (fun a b e => by
    have e : (Sum.inl (a : Int) : Key) = Sum.inl (b : Int) := e
    have := Sum.inl.inj e
    omega)).mp h
theorem rowFor_snoc (rows : List (List Nat)) (l : List Nat) (op d x : Nat) : Rm.rowFor (rows ++ [l]) op d x = (Rm.rowFor rows op d x).or (if Rm.key3 l = [op, d, x] then some l else none) := by
  unfold Rm.rowFor
  rw [List.find?_append]
  congr 1
  rw [List.find?_cons]
  by_cases e : Rm.key3 l = [op, d, x]
  · rw [if_pos e, e]
    simp
  · rw [if_neg e]
    have : (Rm.key3 l == [op, d, x]) = false := by simpa using e
    rw [this]
    rfl
theorem rowFor_none {rows : List (List Nat)} {l : List Nat} {op d x : Nat} (h : ∀ l' ∈ rows, Rm.key3 l' ≠ Rm.key3 l) (e : Rm.key3 l = [op, d, x]) : Rm.rowFor rows op d x = none := by
  unfold Rm.rowFor
  rw [List.find?_eq_none]
  intro l' hl' z
  have z : Rm.key3 l' = [op, d, x] := by simpa using z
  exact h l' hl' (z.trans e.symm)
theorem sc_rules_of : FnScope ["book", "rules", "row"] ["book"] (defScope t_rules_of) := ⟨rfl, rfl, rfl, by decide +kernel, rfl, by decide +kernel, by decide +kernel⟩
theorem ok_rules_of (T : Txt K mg ca) (D : DefAt K mg "rules_of" t_rules_of ["book"] f fd) : FnOk P w K mg base CX0 2 f fd ["book"] (sp_rules_of K) := by
  refine D.fn.ok sc_rules_of (fun vs H Q E h => ?_) (fun cdv A outer s H vs Q E hr h => ?_)
  · obtain ⟨a, as, rows, rfl, hs, hrows, hl, hgood, hdist, q⟩ := h
    rfl
  obtain ⟨a, as, rows, rfl, hs, hrows, hl, hgood, hdist, q⟩ := h
  have hu := hu_of hr
  refine ⟨_, (pss_cons (ps_set (i := 1) sc_rules_of.nd rfl (by first | exact Or.inl rfl | exact Or.inr rfl) pe_dnewT)
      (pss_cons (ps_for PassesOwn.never rfl (pi_list (pv 0)) (pg_name (i := 2) sc_rules_of.nd rfl (by first | exact Or.inl rfl | exact Or.inr rfl))
        (pss_one (ps_dput hu (pv 1) (pe_tup (pa_cons (pe_ix (ix_l K) (pv 2) pe_int (fun _ _ => rfl)) (pa_cons (pe_ix (ix_l K) (pv 2) pe_int (fun _ _ => rfl)) (pa_cons (pe_ix (ix_l K) (pv 2) pe_int (fun _ _ => rfl)) pa_nil)))) (pe_c (c_steps_of T) hr (by decide) rfl (pa_cons (pv 2) pa_nil)) rfl)))
      (pss_one (ps_ret (pv 1))))), ?_⟩
  intro f hf
  have z0 : Same H (upd H f (.dT [])) := Same.new (Same.refl H) hf
  refine ⟨_, rfl, a, rfl, ⟨_, z0.seq hs⟩, for_list (a := a) (xs := as.map V.ref) (fun i σ H' => ∃ (v2 : Option V) (kvs : List (List Key × V)), σ = [some (.ref a), some (.ref f), v2] ∧ Same H H' ∧ H' f = some (.dT kvs) ∧ Rules H' kvs (rows.take i) ∧ kvs.length ≤ i)
    ⟨none, [], rfl, z0, upd_same, fun op d x => by rw [List.take_zero]; exact rfl, Nat.le_refl _⟩ (fun i σ H' _ ⟨_, _, _, s1, _⟩ => s1.seq hs) ?_ ?_⟩
  · rintro i x σ H' hi ⟨v2, kvs, rfl, s1, hd, hRu, hk⟩
    obtain ⟨ra, hra, rfl⟩ := map_at hi
    have hil : i < rows.length := by
      have := (List.getElem?_eq_some_iff.mp hra).1
      rw [hrows.1] at this
      exact this
    obtain ⟨l, hl'⟩ : ∃ l, rows[i]? = some l := ⟨_, List.getElem?_eq_getElem hil⟩
    obtain ⟨h3, hm, h33, _⟩ := Rm.row_parts (hgood l (List.mem_of_getElem? hl'))
    have hS := s1.seq (hrows.2 i ra l hra hl')
    have hS : NL K H' ra l := hS
    refine ⟨_, rfl, ra, l, rfl, hS, h3, by omega, hm, fun H1 p ts s2 hp hts => ?_⟩
    have S2 := s2.seq hS
    refine ⟨_, rfl, _, rfl, ra, _, _, _, rfl, rfl, S2, at_n (j := 0) (by omega), _, rfl, ra, _, _, _, rfl, rfl, S2, at_n (j := 1) (by omega), _, rfl, ra, _, _, _, rfl, rfl, S2, at_n (j := 2) (by omega), (by show 3 ≤ sizeLine; decide), fun T hT => ?_⟩
    have s3 : Same H1 (upd H1 T (.tup [.int (l.getD 0 0 : Nat), .int (l.getD 1 0 : Nat), .int (l.getD 2 0 : Nat)])) := Same.new (Same.refl H1) hT
    have s23 := s2.trans s3
    refine ⟨f, _, rfl, DPut.t (k := keyN (Rm.key3 l)) (s23 _ _ hd) upd_same (line_lt (by omega)), ?_⟩
    have nf : ∀ (b : Addr) (o : HO), H' b = some o → b ≠ f → upd (upd H1 T (.tup [.int (l.getD 0 0 : Nat), .int (l.getD 1 0 : Nat), .int (l.getD 2 0 : Nat)])) f (.dT (putK kvs (keyN (Rm.key3 l)) (.ref p))) b = some o := fun b o e n => by
      rw [upd_ne n]
      exact s23 _ _ e
    refine ⟨_, _, rfl, Same.put (s1.trans s23) hf, upd_same, ?_, ?_⟩
    · rw [take_snoc hl']
      intro op d x
      rw [rowFor_snoc]
      by_cases e : Rm.key3 l = [op, d, x]
      · rw [rowFor_none (hdist i l hl') e, if_pos e]
        refine ⟨p, ts, by rw [valV_put, if_pos (by rw [e])], ?_, ?_⟩
        · rw [upd_ne (ne_of hp (s2 _ _ hd) (by intro z; cases z))]
          exact s3 _ _ hp
        · refine ⟨hts.1, fun j t s e1 e2 => ?_⟩
          have := hts.2 j t s e1 e2
          rw [upd_ne (ne_of this (s2 _ _ hd) (by intro z; cases z))]
          exact s3 _ _ this
      · rw [if_neg e, Option.or_none]
        have k := hRu op d x
        have ek : ¬ keyN [op, d, x] = keyN (Rm.key3 l) := fun z => e (keyN_inj z).symm
        cases e7 : Rm.rowFor (rows.take i) op d x with
        | none =>
          rw [e7] at k
          show valV _ _ = none
          rw [valV_put, if_neg ek]
          exact k
        | some r =>
          rw [e7] at k
          obtain ⟨pp, tt, k1, k2, k3⟩ := k
          refine ⟨pp, tt, by rw [valV_put, if_neg ek]; exact k1, nf _ _ k2 (ne_of k2 hd (by intro z; cases z)), k3.1, fun j t s e1 e2 => ?_⟩
          have := k3.2 j t s e1 e2
          exact nf _ _ this (ne_of this hd (by intro z; cases z))
    · have := length_putK kvs (keyN (Rm.key3 l)) (.ref p)
      omega
  · rintro σ H' ⟨v2, kvs, rfl, s1, hd, hRu, hk⟩
    rw [List.length_map, hrows.1, List.take_length] at hRu
    exact ⟨_, rfl, q _ f kvs s1 hd hRu⟩
theorem c_rules_of (T : Txt K mg ca) : Callee P w K mg base 2 "rules_of" ["book"] (sp_rules_of K) := Callee.of T.d_rules_of fun _ _ D => ok_rules_of T D
theorem sc_rod_can_be : FnScope ["rod", "deck"] ["rod"] (defScope t_rod_can_be) := ⟨rfl, rfl, rfl, by decide +kernel, rfl, by decide +kernel, by decide +kernel⟩
theorem ok_rod_can_be (T : Txt K mg ca) (D : DefAt K mg "rod_can_be" t_rod_can_be ["rod"] f fd) : FnOk P w K mg base CX0 2 f fd ["rod"] (sp_rod_can_be K) := by
  refine D.fn.ok sc_rod_can_be (fun vs H Q E h => ?_) (fun cdv A outer s H vs Q E hr h => ?_)
  · obtain ⟨a, g, rfl, hs, hl, q⟩ := h
    rfl
  obtain ⟨a, g, rfl, hs, hl, q⟩ := h
  refine ⟨_, (pss_cons (ps_if (pt_not (pt_chain op_le op_le (pe_gi rfl T.v_LOWEST_RATIO) (pe_c (c_ratio_of T) hr (by decide) rfl (pa_cons (pv 0) pa_nil)) (pe_gi rfl T.v_HIGHEST_RATIO)))
        (pss_one (ps_ret pe_bl))
        pss_nil)
      (pss_cons (ps_for PassesOwn.never rfl (pi_range1 rfl T.n_range (pa_cons (pe_gi rfl T.v_DECKS) pa_nil)) (pg_name (i := 1) sc_rod_can_be.nd rfl (by first | exact Or.inl rfl | exact Or.inr rfl))
        (pss_one (ps_if (pt_not (pt_val (pe_c (c_deck_can_be T) hr (by decide) rfl (pa_cons (pe_c (c_beads_of T) hr (by decide) rfl (pa_cons (pv 0) (pa_cons (pv 1) pa_nil))) (pa_cons (pe_c (c_worth_of T) hr (by decide) rfl (pa_cons (pv 0) (pa_cons (pv 1) pa_nil))) pa_nil)))))
          (pss_one (ps_ret pe_bl))
          pss_nil)))
      (pss_cons (ps_if (pt_cmp (pc_eqI (pe_c (c_beads_of T) hr (by decide) rfl (pa_cons (pv 0) (pa_cons pe_int pa_nil))) pe_int))
        (pss_one (ps_ret pe_bl))
        pss_nil)
      (pss_one (ps_ret (pe_or (pe_cmp (pc_eqI (pe_c (c_beads_of T) hr (by decide) rfl (pa_cons (pv 0) (pa_cons pe_int pa_nil))) pe_int)) (pe_one (pe_cmp (pc_gt (pe_c (c_beads_of T) hr (by decide) rfl (pa_cons (pv 0) (pa_cons pe_int pa_nil))) pe_int))))))))), ?_⟩
  have no : ¬ Rm.RIn g → Q (.bl false) H := fun z => q false (by simp only [Bool.false_eq_true, false_iff]; exact z)
  unfold Rm.RIn at no q
  rw [Rm.rodIn_iff] at no q
  refine ⟨_, rfl, a, g, rfl, hs, hl, _, _, rfl, rfl, _, rfl, ite2 (fun e1 => ?_) (fun e1 => ?_)⟩
  · have e1 := of_decide_eq_true e1
    refine ⟨_, _, rfl, rfl, _, rfl, ite2 (fun e2 => ?_) (fun e2 => ?_)⟩
    · refine no fun z => ?_
      rw [show (!decide (((g.getD 0 0 : Nat) : Int) ≤ 20)) = false by rw [decide_eq_true (by have := z.1.2; omega)]; rfl] at e2
      cases e2
    · have e2 : (g.getD 0 0 : Nat) ≤ 20 := by
        refine Classical.byContradiction fun z => e2 ?_
        show (!decide (((g.getD 0 0 : Nat) : Int) ≤ 20)) = true
        rw [decide_eq_false (by omega)]
        rfl
      refine ⟨3, rfl, by decide, by decide, for_range (n := 3) (fun i σ H' => ∃ v : Option V, σ = [some (.ref a), v] ∧ H' = H ∧ ∀ j, j < i → Rm.DeckOk (Rm.beOf g j) (Rm.woOf g j)) ⟨none, rfl, rfl, fun j hj => by omega⟩ ?_ ?_⟩
      · rintro i σ H' hi ⟨v, rfl, rfl, hd⟩
        refine ⟨_, rfl, _, rfl, a, g, i, by rw [Int.zero_add]; rfl, hs, hl, hi, _, rfl, _, rfl, a, g, i, by rw [Int.zero_add]; rfl, hs, hl, hi, _, _, rfl, fun k hk => ⟨k, rfl, ite2 (fun e3 => ?_) (fun e3 => ?_)⟩⟩
        · have hn : ¬ Rm.DeckOk (Rm.beOf g i) (Rm.woOf g i) := fun z => by
            rw [hk.mpr z] at e3
            cases e3
          refine no fun z => hn ?_
          have ei : i = 0 ∨ i = 1 ∨ i = 2 := by omega
          rcases ei with rfl | rfl | rfl
          · exact z.2.1.1
          · exact z.2.1.2.1
          · exact z.2.1.2.2
        · refine ⟨_, rfl, rfl, fun j hj => ?_⟩
          by_cases z : j = i
          · rw [z]
            exact hk.mp (by cases k with
              | true => rfl
              | false => exact absurd rfl e3)
          · exact hd j (by omega)
      · rintro σ H' ⟨v, rfl, rfl, hd⟩
        have d0 := hd 0 (by decide)
        have d1 := hd 1 (by decide)
        have d2 := hd 2 (by decide)
        refine ⟨_, rfl, a, g, 0, rfl, hs, hl, by decide, _, _, rfl, rfl, _, rfl, ite2 (fun e3 => ?_) (fun e3 => ?_)⟩
        · have e3 := of_decide_eq_true e3
          refine no fun z => z.2.2.1 ?_
          have e3 : ((g.getD 1 0 : Nat) : Int) = 0 := e3
          omega
        · have e3 : ¬ g.getD 1 0 = 0 := fun z => e3 (decide_eq_true (by show ((g.getD 1 0 : Nat) : Int) = 0; omega))
          refine ⟨_, rfl, a, g, 2, rfl, hs, hl, by decide, _, _, rfl, rfl, _, rfl, ite2 (fun e4 => ?_) (fun e4 => ?_)⟩
          · have e4 : ((g.getD 5 0 : Nat) : Int) = 0 := of_decide_eq_true e4
            refine q true ?_
            simp only [true_iff]
            exact ⟨⟨by omega, e2⟩, ⟨d0, d1, d2⟩, e3, .inl (by omega)⟩
          · have e4 : ¬ ((g.getD 5 0 : Nat) : Int) = 0 := fun z => e4 (decide_eq_true z)
            refine ⟨_, rfl, a, g, 1, rfl, hs, hl, by decide, _, _, rfl, rfl, q _ ?_⟩
            show decide ((0 : Int) < ((g.getD 3 0 : Nat) : Int)) = true ↔ _
            simp only [decide_eq_true_eq]
            constructor
            · intro z
              exact ⟨⟨by omega, e2⟩, ⟨d0, d1, d2⟩, e3, .inr (by omega)⟩
            · rintro ⟨_, _, _, z | z⟩
              · omega
              · omega
  · refine ⟨_, rfl, iteT (no fun z => e1 (decide_eq_true ?_))⟩
    have := z.1.1
    omega
theorem c_rod_can_be (T : Txt K mg ca) : Callee P w K mg base 2 "rod_can_be" ["rod"] (sp_rod_can_be K) := Callee.of T.d_rod_can_be fun _ _ D => ok_rod_can_be T D
theorem sc_standing_fault : FnScope ["make", "standing", "rods", "place", "pushed"] ["make", "standing"] (defScope t_standing_fault) := ⟨rfl, rfl, rfl, by decide +kernel, rfl, by decide +kernel, by decide +kernel⟩
theorem ok_standing_fault (T : Txt K mg ca) (D : DefAt K mg "standing_fault" t_standing_fault ["make", "standing"] f fd) : FnOk P w K mg base CX0 2 f fd ["make", "standing"] (sp_standing_fault K) := by
  refine D.fn.ok sc_standing_fault (fun vs H Q E h => ?_) (fun cdv A outer s H vs Q E hr h => ?_)
  · obtain ⟨a, c, l, st, rfl, hs, hm, hl, hg, hc, hcl, kN, kS⟩ := h
    rfl
  obtain ⟨a, c, l, st, rfl, hs, hm, hl, hg, hc, hcl, kN, kS⟩ := h
  refine ⟨_, (pss_cons (ps_set (i := 2) sc_standing_fault.nd rfl (by first | exact Or.inl rfl | exact Or.inr rfl) (pe_c (c_rods_of T) hr (by decide) rfl (pa_cons (pv 0) pa_nil)))
      (pss_cons (ps_if (pt_cmp (pc_neI (pe_callB (len_s K) (by rfl) T.n_len bt_len (pa_cons (pv 1) pa_nil)) (pe_op op_mul (pe_gi rfl T.v_DECKS) (pe_callB (len_s K) (by rfl) T.n_len bt_len (pa_cons (pv 2) pa_nil)))))
        (pss_one (ps_ret (pe_lst (pa_cons (pe_gi rfl T.v_STANDING_RULE) (pa_cons (pe_callB (len_s K) (by rfl) T.n_len bt_len (pa_cons (pv 1) pa_nil)) pa_nil)))))
        pss_nil)
      (pss_cons (ps_for PassesOwn.never rfl (pi_enum rfl T.n_enumerate (pa_cons (pv 1) pa_nil)) (pg_tup rfl (pgs_cons (pg_name (i := 3) sc_standing_fault.nd rfl (by first | exact Or.inl rfl | exact Or.inr rfl)) (pgs_cons (pg_name (i := 4) sc_standing_fault.nd rfl (by first | exact Or.inl rfl | exact Or.inr rfl)) pgs_nil)))
        (pss_one (ps_if (pt_cmp (pc_gt (pv 4) (pe_c (c_beads_of T) hr (by decide) rfl (pa_cons (pe_ix (ix_l K) (pv 2) (pe_op op_fdiv (pv 3) (pe_gi rfl T.v_DECKS)) (fun _ _ => rfl)) (pa_cons (pe_op op_mod (pv 3) (pe_gi rfl T.v_DECKS)) pa_nil)))))
          (pss_one (ps_ret (pe_lst (pa_cons (pe_gi rfl T.v_STANDING_RULE) (pa_cons (pv 3) pa_nil)))))
          pss_nil)))
      (pss_one (ps_ret pe_non))))), ?_⟩
  have hgl := groups_le hm hl
  have hR : Su.Rods (Na.groups 7 l) := fun g h => (hg g h).2
  refine ⟨_, rfl, a, l, rfl, hs, hm, hl, fun H1 p as s1 hp hls => ?_⟩
  refine ⟨_, rfl, c, _, rfl, .inl (s1.seq hc), _, rfl, p, _, rfl, .inl (SqL.of hp), _, _, rfl, rfl, .inl ⟨by decide, by decide⟩, _, _, rfl, rfl, _, rfl, ite2 (fun e => ?_) (fun e => ?_)⟩
  · have e : st.length ≠ 3 * (Na.groups 7 l).length := by
      have e : (!decide (((((nz st).map V.int).length : Nat) : Int) = 3 * (((as.map V.ref).length : Nat) : Int))) = true := e
      rw [Bool.not_eq_true'] at e
      have e := of_decide_eq_false e
      rw [vi_len, List.length_map, hls.1] at e
      omega
    refine ⟨_, rfl, c, _, rfl, .inl (s1.seq hc), (by show 2 ≤ sizeLine; decide), fun r hr' => kS 5 st.length (Su.standing_len e) _ r (Same.new s1 hr') ?_⟩
    rw [upd_same, vi_len]
    rfl
  · have e : st.length = 3 * (Na.groups 7 l).length := by
      refine Classical.byContradiction fun z => e ?_
      show (!decide (((((nz st).map V.int).length : Nat) : Int) = 3 * (((as.map V.ref).length : Nat) : Int))) = true
      rw [decide_eq_false (by rw [vi_len, List.length_map, hls.1]; omega)]
      rfl
    refine ⟨_, rfl, c, _, rfl, s1.seq hc, for_enum (a := c) (xs := (nz st).map V.int) (fun i σ H' => ∃ v3 v4 : Option V, σ = [some (.ref a), some (.ref c), some (.ref p), v3, v4] ∧ Same H1 H' ∧ ∀ j, j < i → ¬ Na.thereAt ((Na.groups 7 l).map Na.rodOf) j < st.getD j 0)
      ⟨none, none, rfl, Same.refl H1, fun j hj => absurd hj (Nat.not_lt_zero j)⟩ (fun i σ H' _ ⟨_, _, _, s2, _⟩ => (s1.trans s2).seq hc) ?_ ?_⟩
    · rintro i x Tt σ H' hi hT ⟨v3, v4, rfl, s2, hno⟩
      have s3 : Same H' (upd H' Tt (.tup [.int (i : Nat), x])) := Same.new (Same.refl H') hT
      have hil : i < st.length := by
        have := (List.getElem?_eq_some_iff.mp hi).1
        rw [vi_len] at this
        exact this
      have ex : x = .int (st.getD i 0 : Nat) := by
        have := at_n (g := st) (j := i) (z := (i : Nat)) hil
        rw [atI_nat hi] at this
        exact Option.some.inj this
      subst ex
      obtain ⟨g, hgi⟩ : ∃ g, (Na.groups 7 l)[i / 3]? = some g := ⟨_, List.getElem?_eq_getElem (by omega)⟩
      obtain ⟨b, hb⟩ := at_len hls.1 hgi
      obtain ⟨g7, gR, _⟩ := hg g (List.mem_of_getElem? hgi)
      have hta := Su.there_at hR hgi
      have hpb := hls.2 (i / 3) b g hb hgi
      refine ⟨Tt, _, rfl, SqT.of upd_same, rfl, _, _, rfl, _, _, rfl, rfl, ?_⟩
      refine ⟨_, rfl, _, rfl, _, rfl, _, _, rfl, rfl, ⟨by decide, by decide⟩, p, _, _, _, rfl, rfl, SqL.of ((s2.trans s3) _ _ hp), at_r hb, _, rfl, _, _, rfl, rfl, (by show (0 : Int) < 3; decide), b, g, i % 3, ?_, (s2.trans s3).seq hpb, g7, Nat.mod_lt _ (by decide), _, _, rfl, rfl, _, rfl, ite2 (fun e1 => ?_) (fun e1 => ?_)⟩
      · rfl
      · have e1 : Rm.beOf g (i % 3) < st.getD i 0 := by
          have := of_decide_eq_true e1
          omega
        refine ⟨_, rfl, (by show 2 ≤ sizeLine; decide), fun r hr' => kS 5 i (Su.standing_bad e hil (by rw [hta]; exact e1) hno) _ r (Same.new (s1.trans (s2.trans s3)) hr') upd_same⟩
      · have e1 : ¬ Rm.beOf g (i % 3) < st.getD i 0 := fun z => e1 (decide_eq_true (by omega))
        refine ⟨_, _, rfl, s2.trans s3, fun j hj => ?_⟩
        by_cases z : j = i
        · subst z
          rw [hta]
          exact e1
        · exact hno j (by omega)
    · rintro σ H' ⟨v3, v4, rfl, s2, hno⟩
      rw [vi_len] at hno
      obtain ⟨s, hs, _⟩ := Su.standing_ok hR e hno
      exact kN s hs _ (s1.trans s2)
theorem c_standing_fault (T : Txt K mg ca) : Callee P w K mg base 2 "standing_fault" ["make", "standing"] (sp_standing_fault K) := Callee.of T.d_standing_fault fun _ _ D => ok_standing_fault T D
theorem sc_stroke_can_be : FnScope ["stroke", "first", "second"] ["stroke"] (defScope t_stroke_can_be) := ⟨rfl, rfl, rfl, by decide +kernel, rfl, by decide +kernel, by decide +kernel⟩
theorem ok_stroke_can_be (T : Txt K mg ca) (D : DefAt K mg "stroke_can_be" t_stroke_can_be ["stroke"] f fd) : FnOk P w K mg base CX0 2 f fd ["stroke"] (sp_stroke_can_be K) := by
  refine D.fn.ok sc_stroke_can_be (fun vs H Q E h => ?_) (fun cdv A outer s H vs Q E hr h => ?_)
  · obtain ⟨a, s, rfl, hs, hl, q⟩ := h
    rfl
  obtain ⟨a, s, rfl, hs, hl, q⟩ := h
  have hu64 := hr.units
  refine ⟨_, (pss_cons (ps_set (i := 1) sc_stroke_can_be.nd rfl (by first | exact Or.inl rfl | exact Or.inr rfl) (pe_c (c_first_part T) hr (by decide) rfl (pa_cons (pv 0) pa_nil)))
      (pss_cons (ps_set (i := 2) sc_stroke_can_be.nd rfl (by first | exact Or.inl rfl | exact Or.inr rfl) (pe_c (c_second_part T) hr (by decide) rfl (pa_cons (pv 0) pa_nil)))
      (pss_cons (ps_if (PW.pt (pw_or (pt_not (pt_val (pe_c (c_part_can_be T) hr (by decide) rfl (pa_cons (pv 1) pa_nil)))) (pw_or1 (pt_not (pt_chain op_le op_le pe_int (pe_c (c_cost_of T) hr (by decide) rfl (pa_cons (pv 0) pa_nil)) (pe_gi rfl T.v_HIGHEST_COST))))))
        (pss_one (ps_ret pe_bl))
        pss_nil)
      (pss_one (ps_ret (pe_or (pe_cmpR (eq_d K hu64) (pv 2) (pe_lst (pa_cons pe_int (pa_cons pe_int (pa_cons pe_int pa_nil)))) (nomark _)) (pe_one (pe_and (pe_c (c_part_can_be T) hr (by decide) rfl (pa_cons (pv 2) pa_nil)) (pe_one (pe_cmp (pc_neI (pe_ix (ix_l K) (pv 2) pe_int (fun _ _ => rfl)) (pe_ix (ix_l K) (pv 1) pe_int (fun _ _ => rfl))))))))))))), ?_⟩
  have no : ¬ Na.strokeGood s = true → ∀ H', Same H H' → Q (.bl false) H' := fun z H' s1 => q false H' (by simp only [Bool.false_eq_true, false_iff]; exact z) s1
  rw [Mm.strokeGood_iff] at no q
  unfold Mm.StrokeIn at no q
  refine ⟨_, rfl, a, s, rfl, hs, hl, fun H1 f s1 hf => ⟨_, rfl, a, s, rfl, s1.seq hs, hl, fun H2 w s2 hw => ?_⟩⟩
  have s12 := s1.trans s2
  rw [part1 hl] at hf
  rw [part2 hl] at hw
  refine ⟨_, rfl, f, [s.getD 0 0, s.getD 1 0, s.getD 2 0], rfl, SqL.of (s2 _ _ hf), rfl, fun k hk => ⟨_, rfl, ite2 (fun e0 => ?_) (fun e0 => ?_)⟩⟩
  · refine no (fun z => ?_) H2 s12
    rw [hk.mpr ⟨by show s.getD 0 0 < 3; omega, z.2.1, z.2.2.1⟩] at e0
    cases e0
  · have e0 := hk.mp (by cases k with
      | true => rfl
      | false => exact absurd rfl e0)
    have e0 : s.getD 0 0 < 3 ∧ (1 ≤ s.getD 1 0 ∧ s.getD 1 0 ≤ 2) ∧ (1 ≤ s.getD 2 0 ∧ s.getD 2 0 ≤ 15) := e0
    refine ⟨_, rfl, a, s, rfl, s12.seq hs, hl, _, _, rfl, rfl, _, rfl, ite2 (fun e1 => ?_) (fun e1 => ⟨_, rfl, no (fun z => e1 (decide_eq_true (by omega))) H2 s12⟩)⟩
    have e1 := of_decide_eq_true e1
    refine ⟨_, _, rfl, rfl, _, rfl, ite2 (fun e2 => ?_) (fun e2 => ?_)⟩
    · refine no (fun z => ?_) H2 s12
      have e2 : (!decide (((s.getD 6 0 : Nat) : Int) ≤ 255)) = true := e2
      rw [decide_eq_true (by omega)] at e2
      cases e2
    · have e2 : s.getD 6 0 ≤ 255 := by
        refine Classical.byContradiction fun z => e2 ?_
        show (!decide (((s.getD 6 0 : Nat) : Int) ≤ 255)) = true
        rw [decide_eq_false (by omega)]
        rfl
      refine ⟨_, rfl, (by show 3 ≤ sizeLine; decide), fun z hz => ⟨_, _, dp3 (x := s.getD 3 0) (y := s.getD 4 0) (z := s.getD 5 0) ((Same.new (Same.refl H2) hz).seq (SqL.of hw)), dp3 (SqL.of upd_same), rfl, rfl, _, rfl, ?_⟩⟩
      have s3 : Same H2 (upd H2 z (.lst [.int 0, .int 0, .int 0])) := Same.new (Same.refl H2) hz
      rw [eqv3]
      refine ite2 (fun e3 => ?_) (fun e3 => ?_)
      · have e3 := of_decide_eq_true e3
        refine q true _ ?_ (s12.trans s3)
        simp only [true_iff]
        omega
      · have e3 : ¬ ((s.getD 3 0 : Int) = 0 ∧ (s.getD 4 0 : Int) = 0 ∧ (s.getD 5 0 : Int) = 0) := fun z => e3 (decide_eq_true z)
        refine ⟨_, rfl, w, [s.getD 3 0, s.getD 4 0, s.getD 5 0], rfl, SqL.of (s3 _ _ hw), rfl, fun k2 hk2 => ⟨k2, rfl, ite2 (fun e4 => ?_) (fun e4 => ?_)⟩⟩
        · have e4 : s.getD 3 0 < 3 ∧ (1 ≤ s.getD 4 0 ∧ s.getD 4 0 ≤ 2) ∧ (1 ≤ s.getD 5 0 ∧ s.getD 5 0 ≤ 15) := hk2.mp e4
          refine ⟨_, rfl, w, _, _, _, rfl, rfl, SqL.of (s3 _ _ hw), at_n (g := [s.getD 3 0, s.getD 4 0, s.getD 5 0]) (j := 0) (by simp), _, rfl, f, _, _, _, rfl, rfl, SqL.of ((s2.trans s3) _ _ hf), at_n (g := [s.getD 0 0, s.getD 1 0, s.getD 2 0]) (j := 0) (by simp), _, _, rfl, rfl, q _ _ ?_ (s12.trans s3)⟩
          show (!decide (((s.getD 3 0 : Nat) : Int) = ((s.getD 0 0 : Nat) : Int))) = true ↔ _
          simp only [Bool.not_eq_true', decide_eq_false_iff_not]
          omega
        · refine no (fun z => e4 (hk2.mpr ?_)) _ (s12.trans s3)
          show s.getD 3 0 < 3 ∧ (1 ≤ s.getD 4 0 ∧ s.getD 4 0 ≤ 2) ∧ (1 ≤ s.getD 5 0 ∧ s.getD 5 0 ≤ 15)
          omega
theorem c_stroke_can_be (T : Txt K mg ca) : Callee P w K mg base 2 "stroke_can_be" ["stroke"] (sp_stroke_can_be K) := Callee.of T.d_stroke_can_be fun _ _ D => ok_stroke_can_be T D
theorem sc_steps_can_be : FnScope ["row", "start"] ["row"] (defScope t_steps_can_be) := ⟨rfl, rfl, rfl, by decide +kernel, rfl, by decide +kernel, by decide +kernel⟩
theorem ok_steps_can_be (T : Txt K mg ca) (D : DefAt K mg "steps_can_be" t_steps_can_be ["row"] f fd) : FnOk P w K mg base CX0 2 f fd ["row"] (sp_steps_can_be K) := by
  refine D.fn.ok sc_steps_can_be (fun vs H Q E h => ?_) (fun cdv A outer s H vs Q E hr h => ?_)
  · obtain ⟨a, ns, rfl, hs, h3, h36, hm, q⟩ := h
    rfl
  obtain ⟨a, ns, rfl, hs, h3, h36, hm, q⟩ := h
  refine ⟨_, (pss_cons (ps_for PassesOwn.never rfl (pi_range3 rfl T.n_range (pa_cons pe_int (pa_cons (pe_callB (len_s K) (by rfl) T.n_len bt_len (pa_cons (pv 0) pa_nil)) (pa_cons pe_int pa_nil)))) (pg_name (i := 1) sc_steps_can_be.nd rfl (by first | exact Or.inl rfl | exact Or.inr rfl))
        (pss_one (ps_if (pt_not (pt_val (pe_c (c_step_can_be T) hr (by decide) rfl (pa_cons (pe_ix (ix_l K) (pv 0) (pv 1) (fun _ _ => rfl)) (pa_cons (pe_ix (ix_l K) (pv 0) (pe_op op_add (pv 1) pe_int) (fun _ _ => rfl)) (pa_cons (pe_ix (ix_l K) (pv 0) (pe_op op_add (pv 1) pe_int) (fun _ _ => rfl)) pa_nil))))))
          (pss_one (ps_ret pe_bl))
          pss_nil)))
      (pss_one (ps_ret pe_bl))), ?_⟩
  refine ⟨_, rfl, a, _, rfl, .inl hs, 3, _, 3, _, rfl, (by rw [List.length_map]; exact rgC (by decide) (by decide) (by decide) (by decide) (by omega) (by omega) (by split <;> omega)), for_rangeC (lo := 3) (c := 3) (n := (ns.length - 3) / 3)
    (fun i σ H' => ∃ v : Option V, σ = [some (.ref a), v] ∧ H' = H ∧ ∀ j, j < i → Bm.stepAt ns j = true) ⟨none, rfl, rfl, fun j hj => by omega⟩ ?_ ?_⟩
  · rintro i σ H' hi ⟨v, rfl, rfl, hg⟩
    refine ⟨_, rfl, _, rfl, a, _, _, _, rfl, rfl, hs, ints_at0 (j := 3 + 3 * i) (by omega), _, rfl, _, rfl, _, _, rfl, rfl, a, _, _, _, rfl, rfl, hs, ints_at0 (j := 3 + 3 * i + 1) (by omega),
      _, rfl, _, rfl, _, _, rfl, rfl, a, _, _, _, rfl, rfl, hs, ints_at0 (j := 3 + 3 * i + 2) (by omega), _, _, _, rfl, _, rfl, ite2 (fun e => ?_) (fun e => ?_)⟩
    · have e : Bm.stepAt ns i = false := by
        unfold Bm.stepAt
        exact (Bool.not_eq_true' _).mp e
      rw [Bm.stepsB_false hi e] at q
      exact q
    · have e : Bm.stepAt ns i = true := by
        unfold Bm.stepAt
        cases z : Bm.stepB (Bm.at0 ns (3 + 3 * i)) (Bm.at0 ns (3 + 3 * i + 1)) (Bm.at0 ns (3 + 3 * i + 2)) with
        | true => rfl
        | false => exact absurd (by rw [z]; rfl) e
      refine ⟨_, rfl, rfl, fun j hj => ?_⟩
      by_cases z : j = i
      · rw [z]
        exact e
      · exact hg j (by omega)
  · rintro σ H' ⟨v, rfl, rfl, hg⟩
    rw [Bm.stepsB_true hg] at q
    exact q
theorem c_steps_can_be (T : Txt K mg ca) : Callee P w K mg base 2 "steps_can_be" ["row"] (sp_steps_can_be K) := Callee.of T.d_steps_can_be fun _ _ D => ok_steps_can_be T D
theorem sc_Frame_is_in_form : FnScope ["self", "number"] ["self"] (defScope t_Frame_is_in_form) := ⟨rfl, rfl, rfl, by decide +kernel, rfl, by decide +kernel, by decide +kernel⟩
theorem ok_Frame_is_in_form (T : Txt K mg ca) (D : MethAt K ca.Frame "is_in_form" "Frame.is_in_form" t_Frame_is_in_form ["self"] f fd) : FnOk P w K mg base CX0 2 f fd ["self"] (sp_Frame_is_in_form K ca) := by
  refine D.fn.ok sc_Frame_is_in_form (fun vs H Q E h => ?_) (fun cdv A outer s H vs Q E hr h => ?_)
  · obtain ⟨fr, p, gs, ts, rfl, hF, hP, hlen, hle, q⟩ := h
    rfl
  obtain ⟨fr, p, gs, ts, rfl, hF, hP, hlen, hle, q⟩ := h
  refine ⟨_, (pss_one (ps_ret (pe_callB (all_l K rfl) (by rfl) T.n_all bt_all (pa_cons (pe_lc rfl sc_Frame_is_in_form.nd (pi_range1 rfl T.n_range (pa_cons (pe_callB (len_s K) (by rfl) T.n_len bt_len (pa_cons (pe_fld (pv 0) rfl) pa_nil)) pa_nil)) (blkOk_by (N := ["self", "number"]) (sc := defScope t_Frame_is_in_form) (own := [("number", 1)]) (by decide +kernel)) (fun _ _ _ _ _ => (pg_name (i := 1) sc_Frame_is_in_form.nd rfl (by first | exact Or.inl rfl | exact Or.inr rfl))) (fun _ _ _ _ _ => pts_nil) (fun _ _ _ _ _ => (pe_cmp (pc_notN (pe_m T.k_Frame.cl (c_Frame_shown_on T) hr (by decide) pass0 (pv 0) (pa_cons (pv 1) pa_nil)))))) pa_nil)))), ?_⟩
  obtain ⟨dx, r, d, rs, ds, hfr, hne, hr1, hrs, hd1, hds⟩ := id hF.ex
  have hF' : ∀ H', Same H H' → Fr3 K ca.Frame H' fr p gs := fun H' s => ⟨dx, r, d, rs, ds, s _ _ hfr, hne, s _ _ hr1, hrs.keep s, s _ _ hd1, hds.1, fun j b g e1 e2 => by
    obtain ⟨kv, h1, h2⟩ := hds.2 j b g e1 e2
    exact ⟨kv, s _ _ h1, h2⟩⟩
  have hP' : ∀ H', Same H H' → Pu H' p ts := fun H' s => by
    obtain ⟨ps, h1, h2, h3⟩ := hP
    exact ⟨ps, s _ _ h1, h2, fun j b t e1 e2 => ⟨s _ _ (h3 j b t e1 e2).1, (h3 j b t e1 e2).2⟩⟩
  refine ⟨_, rfl, fr, ca.Frame, dx, _, _, rfl, hfr, T.k_Frame.cl, T.k_Frame.no 0, ffs_r, r, _, rfl, .inl (SqL.of hr1), _, rfl, by omega, by rw [List.length_map, hrs.1]; omega, fun D hD => ?_⟩
  refine lc_range (lo := 0) (n := ((((rs.map V.ref).length : Nat) : Int)).toNat) (fun i H' => ∃ bs : List Bool, Same H H' ∧ H' D = some (.lst (bs.map V.bl)) ∧ bs.length = i ∧ (bs.all id = true ↔ ∀ (j : Nat) (g t : List Nat), j < i → gs[j]? = some g → ts[j]? = some t → Su.InForm g t))
    ⟨[], Same.new (Same.refl H) hD, upd_same, rfl, by simp⟩ ?_ ?_
  · rintro i H' hi ⟨bs, s1, hd, hbl, hall⟩
    have hi : i < gs.length := by
      rw [List.length_map, hrs.1] at hi
      omega
    obtain ⟨g, hg⟩ : ∃ g, gs[i]? = some g := ⟨_, List.getElem?_eq_getElem hi⟩
    obtain ⟨t, ht⟩ : ∃ t, ts[i]? = some t := ⟨_, List.getElem?_eq_getElem (by omega)⟩
    refine ⟨rfl, ?_⟩
    have key : ∀ (k : Bool) (H2 : Hp), Same H' H2 → (k = true ↔ Su.InForm g t) → ∃ acc, H2 D = some (.lst acc) ∧ acc.length < sizeLine ∧ ∃ bs : List Bool, Same H (upd H2 D (.lst (acc ++ [.bl k]))) ∧ (upd H2 D (.lst (acc ++ [.bl k]))) D = some (.lst (bs.map V.bl)) ∧ bs.length = i + 1 ∧ (bs.all id = true ↔ ∀ (j : Nat) (g t : List Nat), j < i + 1 → gs[j]? = some g → ts[j]? = some t → Su.InForm g t) := fun k H2 s2 hk => by
      refine ⟨_, s2 _ _ hd, line_lt (by rw [List.length_map]; omega), bs ++ [k], Same.put (s1.trans s2) hD, ?_, by rw [List.length_append, hbl]; rfl, ?_⟩
      · rw [upd_same, List.map_append]
        rfl
      · rw [List.all_append, Bool.and_eq_true, hall]
        constructor
        · rintro ⟨h1, h2⟩ j g' t' hj e1 e2
          by_cases z : j = i
          · subst z
            rw [hg] at e1
            rw [ht] at e2
            cases e1
            cases e2
            exact hk.mp (by simpa using h2)
          · exact h1 j g' t' (by omega) e1 e2
        · intro h
          exact ⟨fun j g' t' hj => h j g' t' (by omega), by simpa using hk.mpr (h i g t (by omega) hg ht)⟩
    refine ⟨_, rfl, fr, dx, _, rfl, s1 _ _ hfr, (by kernel_rfl), _, rfl, fr, p, i, gs, ts, g, t, by rw [Int.zero_add]; rfl, hF' _ s1, hP' _ s1, hg, ht, fun hn H2 s2 => ?_, fun hy H2 s2 => ?_⟩
    · exact key false H2 s2 ⟨fun z => (by cases z), fun z => absurd z hn⟩
    · exact key true H2 s2 ⟨fun _ => hy, fun _ => rfl⟩
  · rintro H' ⟨bs, s1, hd, hbl, hall⟩
    refine ⟨D, bs, rfl, SqL.of hd, q _ _ ?_ s1⟩
    rw [hall, List.length_map, hrs.1]
    constructor
    · intro h i g t e1 e2
      exact h i g t (by have := (List.getElem?_eq_some_iff.mp e1).1; omega) e1 e2
    · intro h i g t _ e1 e2
      exact h i g t e1 e2
theorem c_Frame_is_in_form (T : Txt K mg ca) : CalleeM P w K mg base CX0 2 ca.Frame "is_in_form" ["self"] (sp_Frame_is_in_form K ca) := CalleeM.of T.d_Frame_is_in_form fun _ _ D => ok_Frame_is_in_form T D
theorem sc_Frame_as_standing : FnScope ["self"] ["self"] (defScope t_Frame_as_standing) := ⟨rfl, rfl, rfl, by decide +kernel, rfl, by decide +kernel, by decide +kernel⟩
theorem ok_Frame_as_standing (T : Txt K mg ca) (D : MethAt K ca.Frame "as_standing" "Frame.as_standing" t_Frame_as_standing ["self"] f fd) : FnOk P w K mg base CX0 2 f fd ["self"] (sp_Frame_as_standing K ca) := by
  refine D.fn.ok sc_Frame_as_standing (fun vs H Q E h => ?_) (fun cdv A outer s H vs Q E hr h => ?_)
  · obtain ⟨fr, p, gs, ts, rfl, hF, hP, hl, q⟩ := h
    rfl
  obtain ⟨fr, p, gs, ts, rfl, hF, hP, hl, q⟩ := h
  refine ⟨_, (pss_one (ps_ret (pe_c (c_in_one_list T) hr (by decide) rfl (pa_cons (pe_fld (pv 0) rfl) pa_nil)))), ?_⟩
  obtain ⟨dx, r, d, rs, ds, hfr, hne, hr1, hrs, hd1, hds⟩ := hF.ex
  obtain ⟨ps, hp1, hps⟩ := hP
  exact ⟨_, rfl, fr, ca.Frame, dx, _, _, rfl, hfr, T.k_Frame.cl, T.k_Frame.no 1, ffs_p, p, 3, ps, ts, rfl, hp1, hps, by decide, by omega, q⟩
theorem c_Frame_as_standing (T : Txt K mg ca) : CalleeM P w K mg base CX0 2 ca.Frame "as_standing" ["self"] (sp_Frame_as_standing K ca) := CalleeM.of T.d_Frame_as_standing fun _ _ D => ok_Frame_as_standing T D
theorem sc_digit_forms : FnScope ["rod", "forms", "deck"] ["rod"] (defScope t_digit_forms) := ⟨rfl, rfl, rfl, by decide +kernel, rfl, by decide +kernel, by decide +kernel⟩
theorem ok_digit_forms (T : Txt K mg ca) (D : DefAt K mg "digit_forms" t_digit_forms ["rod"] f fd) : FnOk P w K mg base CX0 3 f fd ["rod"] (sp_digit_forms K) := by
  refine D.fn.ok sc_digit_forms (fun vs H Q E h => ?_) (fun cdv A outer s H vs Q E hr h => ?_)
  · obtain ⟨a, g, rfl, hs, hl, hR, q⟩ := h
    rfl
  obtain ⟨a, g, rfl, hs, hl, hR, q⟩ := h
  refine ⟨_, (pss_cons (ps_set (i := 1) sc_digit_forms.nd rfl (by first | exact Or.inl rfl | exact Or.inr rfl) (pe_disp (pps_cons pe_int (pe_lst pa_nil) pps_nil) rfl rfl (by intro z; cases z) (by decide)))
      (pss_cons (ps_for PassesOwn.never rfl (pi_range1 rfl T.n_range (pa_cons (pe_gi rfl T.v_DECKS) pa_nil)) (pg_name (i := 2) sc_digit_forms.nd rfl (by first | exact Or.inl rfl | exact Or.inr rfl))
        (pss_one (ps_set (i := 1) sc_digit_forms.nd rfl (by first | exact Or.inl rfl | exact Or.inr rfl) (pe_c (c_forms_with_deck T) hr (by decide) rfl (pa_cons (pv 0) (pa_cons (pv 2) (pa_cons (pv 1) pa_nil)))))))
      (pss_one (ps_ret (pv 1))))), ?_⟩
  intro f0 hf0
  refine ⟨(by show 0 ≤ sizeLine; decide), fun e0 he0 => ⟨by rw [upd_ne (ne_of_none upd_same he0)]; exact upd_same, [(kN 0, .ref e0)], rfl, by show 1 ≤ 15; decide, ?_⟩⟩
  have n0 : e0 ≠ f0 := fun z => by rw [z, upd_same] at he0; cases he0
  have z1 : Same H (upd (upd (upd H f0 (.dK [])) e0 (.lst [])) f0 (.dK [(kN 0, .ref e0)])) := Same.put (Same.new (Same.new (Same.refl H) hf0) he0) hf0
  refine ⟨3, rfl, by decide, by decide, for_range (n := 3) (fun i σ H' => ∃ (f : Addr) (v2 : Option V) (kvs : List (Key × V)), σ = [some (.ref a), some (.ref f), v2] ∧ (Same H H' ∧ H f = none) ∧ H' f = some (.dK kvs) ∧ Forms H' kvs (Rm.waysOf g i) ∧ Keys kvs (g.getD 0 0) ∧ ∀ x ∈ Rm.waysOf g i, x.2.length = i)
    ⟨f0, none, [(kN 0, .ref e0)], rfl, ⟨z1, hf0⟩, upd_same, fun d => ?_, ⟨[0], by simp, rfl, fun d hd => by rw [List.mem_singleton.mp hd]; have := hR.1.1; omega⟩, fun x hx => by rw [List.mem_singleton.mp hx]; rfl⟩ ?_ ?_⟩
  · show match Rm.formIn [(0, [])] d with
      | none => valV [(kN 0, V.ref e0)] (kN d) = none
      | some p => ∃ q, valV [(kN 0, V.ref e0)] (kN d) = some (.ref q) ∧ _
    by_cases z : d = 0
    · subst z
      exact ⟨e0, rfl, by rw [upd_ne n0]; exact upd_same⟩
    · have e : Rm.formIn [(0, [])] d = none := Fo.form_none.mpr fun p hp => z (by rw [List.mem_singleton] at hp; cases hp; rfl)
      rw [e]
      rw [valV_neg (fun y => z (kN_inj y).symm)]
      rfl
  · rintro i σ H' hi ⟨f, v2, kvs, rfl, ⟨s1, hn⟩, hf, hF, hK, hlen⟩
    obtain ⟨fl, hfd, hB⟩ := fdict_of hF hK hlen
    refine ⟨_, rfl, _, rfl, _, rfl, a, f, g, i, kvs, fl, by rw [Int.zero_add]; rfl, s1.seq hs, hl, hR, hi, hf, hfd, fun x hx => hB.len x (hB.mem hx), fun H2 f2 kvs2 ⟨s2, n2⟩ hf2 hF2 hK2 => ?_⟩
    exact ⟨f2, _, kvs2, rfl, ⟨s1.trans s2, s1.free n2⟩, hf2, hF2.same fun d => (Fo.form_step hB d).symm, hK2, Fo.step_len hlen⟩
  · rintro σ H' ⟨f, v2, kvs, rfl, s1, hf, hF, hK, hlen⟩
    exact ⟨_, rfl, q _ f kvs s1 hf hF ⟨keys_whole hK hF, hK⟩⟩
theorem c_digit_forms (T : Txt K mg ca) : Callee P w K mg base 3 "digit_forms" ["rod"] (sp_digit_forms K) := Callee.of T.d_digit_forms fun _ _ D => ok_digit_forms T D
theorem sc_behind_act : FnScope ["rod", "pushed", "stroke", "n", "k", "between"] ["rod", "pushed", "stroke", "n", "k"] (defScope t_behind_act) := ⟨rfl, rfl, rfl, by decide +kernel, rfl, by decide +kernel, by decide +kernel⟩
theorem ok_behind_act (T : Txt K mg ca) (D : DefAt K mg "behind_act" t_behind_act ["rod", "pushed", "stroke", "n", "k"] f fd) : FnOk P w K mg base CX0 3 f fd ["rod", "pushed", "stroke", "n", "k"] (sp_behind_act K) := by
  refine D.fn.ok sc_behind_act (fun vs H Q E h => ?_) (fun cdv A outer s H vs Q E hr h => ?_)
  · obtain ⟨a, b, c, g, p, s, n, k, rfl, hg, hgl, hp, hpl, hs, hS, kN, kS⟩ := h
    rfl
  obtain ⟨a, b, c, g, p, s, n, k, rfl, hg, hgl, hp, hpl, hs, hS, kN, kS⟩ := h
  have hu64 := hr.units
  refine ⟨_, (pss_cons (ps_set (i := 5) sc_behind_act.nd rfl (by first | exact Or.inl rfl | exact Or.inr rfl) (pe_c (c_behind_part T) hr (by decide) rfl (pa_cons (pv 0) (pa_cons (pv 1) (pa_cons (pe_c (c_first_part T) hr (by decide) rfl (pa_cons (pv 2) pa_nil)) (pa_cons (pv 3) pa_nil))))))
      (pss_cons (ps_if (pt_cmp (pc_isN (pv 5)))
        (pss_one (ps_ret pe_non))
        pss_nil)
      (pss_cons (ps_if (pt_cmpR (eq_d K hu64) (pe_c (c_second_part T) hr (by decide) rfl (pa_cons (pv 2) pa_nil)) (pe_lst (pa_cons pe_int (pa_cons pe_int (pa_cons pe_int pa_nil)))) (nomark _))
        (pss_one (ps_ret (pe_ifExp (pt_cmp (pc_eqI (pv 4) pe_int)) (pv 5) pe_non)))
        pss_nil)
      (pss_one (ps_ret (pe_c (c_behind_part T) hr (by decide) rfl (pa_cons (pv 0) (pa_cons (pv 5) (pa_cons (pe_c (c_second_part T) hr (by decide) rfl (pa_cons (pv 2) pa_nil)) (pa_cons (pv 4) pa_nil)))))))))), ?_⟩
  obtain ⟨hsl, hI⟩ := hS
  have hI' := hI
  obtain ⟨i1, i2, i3, i4, i5⟩ := hI'
  unfold Rm.stroke3 at kN kS
  refine ⟨_, rfl, _, rfl, _, rfl, c, s, rfl, hs, hsl, fun H1 f s1 hf => ⟨_, rfl, a, b, f, g, p, s.take 3, n, rfl, s1.seq hg, hgl, s1.seq hp, hpl, SqL.of hf, by rw [List.length_take]; omega, by rw [getD_take (by decide)]; omega, fun e => ?_, fun u e H2 r s2 hr' => ?_⟩⟩
  · rw [getD_take (by decide), getD_take (by decide), getD_take (by decide)] at e
    rw [e] at kN
    exact ⟨_, rfl, _, rfl, iteT (kN rfl H1 s1)⟩
  · rw [getD_take (by decide), getD_take (by decide), getD_take (by decide)] at e
    rw [e, Option.bind_some] at kN kS
    have s12 := s1.trans s2
    have hul : u.length = 3 := (Rm.push_len e).trans hpl
    refine ⟨_, rfl, _, rfl, iteF ?_⟩
    refine ⟨_, rfl, c, s, rfl, s12.seq hs, hsl, fun H3 w s3 hw => ⟨(by show 3 ≤ sizeLine; decide), fun z hz => ⟨_, _, dp3 (x := s.getD 3 0) (y := s.getD 4 0) (z := s.getD 5 0) ?_, dp3 (SqL.of upd_same), rfl, rfl, _, rfl, ?_⟩⟩⟩
    · rw [part2 hsl] at hw
      exact (Same.new (Same.refl H3) hz).seq (SqL.of hw)
    · have s4 : Same H2 (upd H3 z (.lst [.int 0, .int 0, .int 0])) := s3.trans (Same.new (Same.refl H3) hz)
      rw [eqv3]
      refine ite2 (fun e2 => ?_) (fun e2 => ?_)
      · have e2 := of_decide_eq_true e2
        have c0 : s.getD 3 0 = 0 ∧ s.getD 4 0 = 0 ∧ s.getD 5 0 = 0 := by omega
        rw [if_pos c0] at kN kS
        refine ⟨_, rfl, _, _, rfl, rfl, _, rfl, ite2 (fun e3 => ?_) (fun e3 => ?_)⟩
        · have e3 := of_decide_eq_true e3
          have k0 : k = 0 := by omega
          rw [if_pos k0] at kS
          exact ⟨_, rfl, kS u rfl _ r (s12.trans s4) (s4 _ _ hr')⟩
        · have k0 : ¬ k = 0 := fun z => e3 (decide_eq_true (by omega))
          rw [if_neg k0] at kN
          exact kN rfl _ (s12.trans s4)
      · have c0 : ¬ (s.getD 3 0 = 0 ∧ s.getD 4 0 = 0 ∧ s.getD 5 0 = 0) := fun z => e2 (decide_eq_true (by omega))
        rw [if_neg c0] at kN kS
        refine ⟨_, rfl, _, rfl, _, rfl, c, s, rfl, (s12.trans s4).seq hs, hsl, fun H5 f2 s5 hf2 => ⟨_, rfl, a, r, f2, g, u, (s.drop 3).take 3, k, rfl, ((s12.trans s4).trans s5).seq hg, hgl, (s4.trans s5).seq (SqL.of hr'), hul, SqL.of hf2, by rw [part2 hsl]; rfl, by rw [part2 hsl]; show s.getD 3 0 < 3; omega, fun e3 => ?_, fun u2 e3 H6 r2 s6 hr2 => ?_⟩⟩
        · rw [part2 hsl] at e3
          exact kN e3 _ ((s12.trans s4).trans s5)
        · rw [part2 hsl] at e3
          exact kS u2 e3 _ r2 (((s12.trans s4).trans s5).trans s6) hr2
theorem c_behind_act (T : Txt K mg ca) : Callee P w K mg base 3 "behind_act" ["rod", "pushed", "stroke", "n", "k"] (sp_behind_act K) := Callee.of T.d_behind_act fun _ _ D => ok_behind_act T D
theorem sc_hand_fault : FnScope ["hand", "place", "stroke"] ["hand"] (defScope t_hand_fault) := ⟨rfl, rfl, rfl, by decide +kernel, rfl, by decide +kernel, by decide +kernel⟩
theorem ok_hand_fault (T : Txt K mg ca) (D : DefAt K mg "hand_fault" t_hand_fault ["hand"] f fd) : FnOk P w K mg base CX0 3 f fd ["hand"] (sp_hand_fault K) := by
  refine D.fn.ok sc_hand_fault (fun vs H Q E h => ?_) (fun cdv A outer s H vs Q E hr h => ?_)
  · obtain ⟨a, l, rfl, hs, hl, kN, kS⟩ := h
    rfl
  obtain ⟨a, l, rfl, hs, hl, kN, kS⟩ := h
  refine ⟨_, (pss_cons (ps_if (pt_not (pt_val (pe_c (c_hand_can_be T) hr (by decide) rfl (pa_cons (pv 0) pa_nil))))
        (pss_one (ps_ret (pe_lst (pa_cons (pe_gi rfl T.v_HAND_RULE) (pa_cons pe_int pa_nil)))))
        pss_nil)
      (pss_cons (ps_for PassesOwn.never rfl (pi_enum rfl T.n_enumerate (pa_cons (pe_c (c_strokes_of T) hr (by decide) rfl (pa_cons (pv 0) pa_nil)) pa_nil)) (pg_tup rfl (pgs_cons (pg_name (i := 1) sc_hand_fault.nd rfl (by first | exact Or.inl rfl | exact Or.inr rfl)) (pgs_cons (pg_name (i := 2) sc_hand_fault.nd rfl (by first | exact Or.inl rfl | exact Or.inr rfl)) pgs_nil)))
        (pss_one (ps_if (pt_not (pt_val (pe_c (c_stroke_can_be T) hr (by decide) rfl (pa_cons (pv 2) pa_nil))))
          (pss_one (ps_ret (pe_lst (pa_cons (pe_gi rfl T.v_STROKE_RULE) (pa_cons (pv 1) pa_nil)))))
          pss_nil)))
      (pss_one (ps_ret pe_non)))), ?_⟩
  refine ⟨_, rfl, a, l, rfl, hs, hl, fun k hk => ⟨k, rfl, ite2 (fun e => ?_) (fun e => ?_)⟩⟩
  · have hn : ¬ Mm.HandLen l := fun z => by
      rw [hk.mpr z] at e
      cases e
    exact ⟨(by show 2 ≤ sizeLine; decide), fun p hp => kS 6 0 (Mm.hand_len hn) _ p (Same.new (Same.refl H) hp) upd_same⟩
  · have hL : Mm.HandLen l := hk.mp (by cases k with
      | true => rfl
      | false => exact absurd rfl e)
    have hL' := hL
    obtain ⟨h0, h1, h2, h3⟩ := hL'
    have h0 : l.length ≠ 0 := fun z => h0 (List.eq_nil_of_length_eq_zero z)
    refine ⟨_, rfl, a, l, rfl, hs, h0, h2, hl, fun H1 p1 sas ⟨s1, _⟩ hp1 hsas => ⟨p1, _, rfl, SqL.of hp1, for_enum (a := p1) (xs := sas.map V.ref) (fun i σ H' => ∃ (v1 v2 : Option V), σ = [some (.ref a), v1, v2] ∧ Same H1 H' ∧ ∀ j, j < i → Na.strokeGood (Mm.grp 7 (l.drop 1) j) = true)
      ⟨none, none, rfl, Same.refl H1, fun j hj => by omega⟩ (fun i σ H' _ ⟨_, _, _, s2, _⟩ => s2.seq (SqL.of hp1)) ?_ ?_⟩⟩
    · rintro i y p σ H' hi hp ⟨v1, v2, rfl, s2, hg⟩
      obtain ⟨ra, hra, rfl⟩ := map_at hi
      have hil : i < (Na.groups 7 (l.drop 1)).length := by
        have := (List.getElem?_eq_some_iff.mp hra).1
        rw [hsas.1] at this
        exact this
      obtain ⟨g, hgg⟩ : ∃ g, (Na.groups 7 (l.drop 1))[i]? = some g := ⟨_, List.getElem?_eq_getElem hil⟩
      obtain ⟨hi7, eg⟩ := (Mm.groups_at (by decide) (Mm.hand_mod hL)).mp hgg
      have hg7 : g.length = 7 := by rw [eg]; exact grp_len hi7
      have s3 : Same H' (upd H' p (.tup [.int (i : Nat), .ref ra])) := Same.new (Same.refl H') hp
      have s13 := s2.trans s3
      refine ⟨p, _, rfl, SqT.of upd_same, rfl, _, _, rfl, _, _, rfl, rfl, ?_⟩
      refine ⟨_, rfl, ra, g, rfl, s13.seq (hsas.2 i ra g hra hgg), hg7, fun k H4 hk4 s4 => ⟨k, rfl, ite2 (fun e => ?_) (fun e => ?_)⟩⟩
      · have hb : Na.strokeGood g = false := by
          cases z : Na.strokeGood g with
          | false => rfl
          | true =>
            rw [hk4.mpr z] at e
            cases e
        rw [List.length_drop] at hi7
        exact ⟨_, rfl, (by show 2 ≤ sizeLine; decide), fun p5 hp5 => kS 7 i (Mm.hand_bad hL hi7 (by rw [← eg]; exact hb) hg) _ p5 (Same.new ((s1.trans s13).trans s4) hp5) upd_same⟩
      · refine ⟨_, _, rfl, s13.trans s4, fun j hj => ?_⟩
        by_cases z : j = i
        · rw [z, ← eg]
          exact hk4.mp (by cases k with
            | true => rfl
            | false => exact absurd rfl e)
        · exact hg j (by omega)
    · rintro σ H' ⟨v1, v2, rfl, s2, hg⟩
      rw [List.length_map, hsas.1, Mm.groups_is (by decide) (Mm.hand_mod hL), List.length_map, List.length_range, List.length_drop] at hg
      exact kN _ (Mm.hand_ok hL hg) _ (s1.trans s2)
theorem c_hand_fault (T : Txt K mg ca) : Callee P w K mg base 3 "hand_fault" ["hand"] (sp_hand_fault K) := Callee.of T.d_hand_fault fun _ _ D => ok_hand_fault T D
theorem sc_row_can_be : FnScope ["row"] ["row"] (defScope t_row_can_be) := ⟨rfl, rfl, rfl, by decide +kernel, rfl, by decide +kernel, by decide +kernel⟩
theorem ok_row_can_be (T : Txt K mg ca) (D : DefAt K mg "row_can_be" t_row_can_be ["row"] f fd) : FnOk P w K mg base CX0 3 f fd ["row"] (sp_row_can_be K) := by
  refine D.fn.ok sc_row_can_be (fun vs H Q E h => ?_) (fun cdv A outer s H vs Q E hr h => ?_)
  · obtain ⟨a, ns, rfl, hs, h36, q⟩ := h
    rfl
  obtain ⟨a, ns, rfl, hs, h36, q⟩ := h
  refine ⟨_, (pss_one (ps_ret (pe_and (pe_c (c_length_can_be T) hr (by decide) rfl (pa_cons (pe_callB (len_s K) (by rfl) T.n_len bt_len (pa_cons (pv 0) pa_nil)) pa_nil)) (pe_and (pe_c (c_head_can_be T) hr (by decide) rfl (pa_cons (pv 0) pa_nil)) (pe_one (pe_c (c_steps_can_be T) hr (by decide) rfl (pa_cons (pv 0) pa_nil))))))), ?_⟩
  unfold Bm.rowB at q
  refine ⟨_, rfl, a, _, rfl, .inl hs, ns.length, (by rw [List.length_map]; rfl), _, rfl, andR q fun e q => ?_⟩
  have el : 3 ≤ ns.length ∧ ns.length % 3 = 0 := by
    unfold Bm.lenB at e
    rw [Bool.and_eq_true, Bool.and_eq_true] at e
    exact ⟨of_decide_eq_true e.1.1, of_decide_eq_true e.2⟩
  exact ⟨_, rfl, a, ns, rfl, hs, el.1, _, rfl, andR q fun _ q => ⟨_, rfl, a, ns, rfl, hs, el.1, h36, el.2, q⟩⟩
theorem c_row_can_be (T : Txt K mg ca) : Callee P w K mg base 3 "row_can_be" ["row"] (sp_row_can_be K) := Callee.of T.d_row_can_be fun _ _ D => ok_row_can_be T D
theorem sc_Sum_init : FnScope ["self", "op", "frame", "hand", "book"] ["self", "op", "frame", "hand", "book"] (defScope t_Sum_init) := ⟨rfl, rfl, rfl, by decide +kernel, rfl, by decide +kernel, by decide +kernel⟩
theorem ok_Sum_init (T : Txt K mg ca) (D : InitAt K mg "Sum" ca.Sum "Sum.__init__" t_Sum_init ["self", "op", "frame", "hand", "book"] f fd) : FnOk P w K mg base CX0 3 f fd ["self", "op", "frame", "hand", "book"] (sp_Sum_init K ca) := by
  refine D.fn.ok sc_Sum_init (fun vs H Q E h => ?_) (fun cdv A outer s H vs Q E hr h => ?_)
  · obtain ⟨S, dx, fr, P, b, c, op, gs, ts, hd, as, rows, rfl, hS, hne, hF, hP, htl, hg0, hg, hb, hb0, hbm, hbl, hSI, hc, hls, h820, hgood, hdist, q⟩ := h
    rfl
  obtain ⟨S, dx, fr, P, b, c, op, gs, ts, hd, as, rows, rfl, hS, hne, hF, hP, htl, hg0, hg, hb, hb0, hbm, hbl, hSI, hc, hls, h820, hgood, hdist, q⟩ := h
  refine ⟨_, (pss_cons (ps_fld (pv 0) (pv 1) rfl)
      (pss_cons (ps_fld (pv 0) (pv 2) rfl)
      (pss_cons (ps_fld (pv 0) (pe_c (c_strokes_of T) hr (by decide) rfl (pa_cons (pv 3) pa_nil)) rfl)
      (pss_cons (ps_fld (pv 0) (pe_c (c_rules_of T) hr (by decide) rfl (pa_cons (pv 4) pa_nil)) rfl)
      (pss_cons (ps_fld (pv 0) (pe_lst pa_nil) rfl)
      (pss_cons (ps_fld (pv 0) pe_int rfl)
      (pss_one (ps_fld (pv 0) (pe_lst pa_nil) rfl)))))))), ?_⟩
  have L : ∀ (f : Str) (v : V) (fs : List (Str × V)) (n : Nat), fs.length ≤ n → (putF f v fs).length ≤ n + 1 := fun f v fs n h => Nat.le_trans (putF_len f v fs) (Nat.add_le_add_right h 1)
  have lt : ∀ (fs : List (Str × V)) (n : Nat), fs.length ≤ n → n ≤ 900 → fs.length < 1000 := fun fs n h1 h2 => by omega
  have l1 := L "op" (.int (op : Nat)) [] 0 (Nat.le_refl _)
  have l2 := L "frame" (.ref fr) _ _ l1
  refine ⟨_, rfl, _, rfl, S, ca.Sum, dx, _, rfl, hS, T.k_Sum.cl, T.k_Sum.no 0, (by show 0 < 1000; decide), ?_⟩
  refine ⟨_, rfl, _, rfl, S, ca.Sum, dx, _, rfl, upd_same, T.k_Sum.cl, T.k_Sum.no 1, lt _ _ l1 (by decide), ?_⟩
  have ka : ∀ b o, b ≠ S → H b = some o → (upd (upd H S (.ins ca.Sum dx (putF "op" (.int (op : Nat)) []))) S (.ins ca.Sum dx (putF "frame" (.ref fr) (putF "op" (.int (op : Nat)) [])))) b = some o := fun b o nb e => by
    rw [upd_ne nb, upd_ne nb]
    exact e
  have hSa : (upd (upd H S (.ins ca.Sum dx (putF "op" (.int (op : Nat)) []))) S (.ins ca.Sum dx (putF "frame" (.ref fr) (putF "op" (.int (op : Nat)) [])))) S = some (.ins ca.Sum dx (putF "frame" (.ref fr) (putF "op" (.int (op : Nat)) []))) := upd_same
  generalize upd (upd H S (.ins ca.Sum dx (putF "op" (.int (op : Nat)) []))) S (.ins ca.Sum dx (putF "frame" (.ref fr) (putF "op" (.int (op : Nat)) []))) = Ha at ka hSa ⊢
  refine ⟨_, rfl, b, hd, rfl, SqL.keepI hS hb ka, hb0, hbm, hbl, fun Hb sk ass ⟨sb, nsk⟩ hsk hss => ?_⟩
  have hSb := sb _ _ hSa
  have l3 := L "strokes" (.ref sk) _ _ l2
  refine ⟨_, rfl, S, ca.Sum, dx, _, rfl, hSb, T.k_Sum.cl, T.k_Sum.no 2, lt _ _ l2 (by decide), ?_⟩
  have kc : ∀ b o, b ≠ S → Hb b = some o → (upd Hb S (.ins ca.Sum dx (putF "strokes" (.ref sk) (putF "frame" (.ref fr) (putF "op" (.int (op : Nat)) []))))) b = some o := fun b o nb e => by
    rw [upd_ne nb]
    exact e
  have hSc : (upd Hb S (.ins ca.Sum dx (putF "strokes" (.ref sk) (putF "frame" (.ref fr) (putF "op" (.int (op : Nat)) []))))) S = some (.ins ca.Sum dx (putF "strokes" (.ref sk) (putF "frame" (.ref fr) (putF "op" (.int (op : Nat)) [])))) := upd_same
  generalize upd Hb S (.ins ca.Sum dx (putF "strokes" (.ref sk) (putF "frame" (.ref fr) (putF "op" (.int (op : Nat)) [])))) = Hc at kc hSc ⊢
  have kHc : ∀ b o, b ≠ S → H b = some o → Hc b = some o := fun b o nb e => kc b o nb (sb _ _ (ka b o nb e))
  refine ⟨_, rfl, c, as, rows, rfl, SqL.keepI hS hc kHc, Lists.keepI hls hS kHc, h820, hgood, hdist, fun Hd ru kvs sd hru hRu => ?_⟩
  have hSd := sd _ _ hSc
  have l4 := L "rules" (.ref ru) _ _ l3
  refine ⟨_, rfl, S, ca.Sum, dx, _, rfl, hSd, T.k_Sum.cl, T.k_Sum.no 3, lt _ _ l3 (by decide), ?_⟩
  have ke : ∀ b o, b ≠ S → Hd b = some o → (upd Hd S (.ins ca.Sum dx (putF "rules" (.ref ru) (putF "strokes" (.ref sk) (putF "frame" (.ref fr) (putF "op" (.int (op : Nat)) [])))))) b = some o := fun b o nb e => by
    rw [upd_ne nb]
    exact e
  have hSe : (upd Hd S (.ins ca.Sum dx (putF "rules" (.ref ru) (putF "strokes" (.ref sk) (putF "frame" (.ref fr) (putF "op" (.int (op : Nat)) [])))))) S = some (.ins ca.Sum dx (putF "rules" (.ref ru) (putF "strokes" (.ref sk) (putF "frame" (.ref fr) (putF "op" (.int (op : Nat)) []))))) := upd_same
  generalize upd Hd S (.ins ca.Sum dx (putF "rules" (.ref ru) (putF "strokes" (.ref sk) (putF "frame" (.ref fr) (putF "op" (.int (op : Nat)) []))))) = He at ke hSe ⊢
  have kHe : ∀ b o, b ≠ S → H b = some o → He b = some o := fun b o nb e => ke b o nb (sd _ _ (kHc b o nb e))
  have kbe : ∀ b o, b ≠ S → Hb b = some o → He b = some o := fun b o nb e => ke b o nb (sd _ _ (kc b o nb e))
  refine ⟨(by show 0 ≤ sizeLine; decide), fun U hU => ?_⟩
  have nSU : S ≠ U := ne_of_none hSe hU
  have l5 := L "under_way" (.ref U) _ _ l4
  have l6 := L "steps_begun" (.int 0) _ _ l5
  refine ⟨_, rfl, S, ca.Sum, dx, _, rfl, by rw [upd_ne nSU]; exact hSe, T.k_Sum.cl, T.k_Sum.no 4, lt _ _ l4 (by decide), ?_⟩
  refine ⟨_, rfl, S, ca.Sum, dx, _, rfl, upd_same, T.k_Sum.cl, T.k_Sum.no 5, lt _ _ l5 (by decide), ?_⟩
  refine ⟨(by show 0 ≤ sizeLine; decide), fun A hA => ?_⟩
  have nSA : S ≠ A := fun z => by rw [← z, upd_same] at hA; cases hA
  have nUA : U ≠ A := fun z => by
    rw [← z, upd_ne (Ne.symm nSU), upd_ne (Ne.symm nSU), upd_same] at hA
    cases hA
  have hAe : He A = none := by
    rw [upd_ne (Ne.symm nSA), upd_ne (Ne.symm nSA), upd_ne (Ne.symm nUA)] at hA
    exact hA
  refine ⟨_, rfl, S, ca.Sum, dx, _, rfl, by rw [upd_ne nSA]; exact upd_same, T.k_Sum.cl, T.k_Sum.no 6, lt _ _ l6 (by decide), ?_⟩
  have kf : ∀ b o, b ≠ S → He b = some o → ∀ o5 o6 o7 : HO, (upd (upd (upd (upd (upd He U (.lst [])) S o5) S o6) A (.lst [])) S o7) b = some o := fun b o nb e o5 o6 o7 => by
    rw [upd_ne nb, upd_ne (ne_of_none e hAe), upd_ne nb, upd_ne nb, upd_ne (ne_of_none e hU)]
    exact e
  obtain ⟨ps, hp1, hp2⟩ := hP
  have nPS : P ≠ S := ne_of hp1 hS (by intro z; cases z)
  have hpe := kHe _ _ nPS hp1
  refine q He _ U A sk ru kHe ⟨?_, ⟨_, _, _, hSe⟩, ⟨ps, hpe, fun z => ?_, fun b hb => ?_⟩, hne, hg, ⟨ass, kbe _ _ (ne_of hsk hSb (by intro z; cases z)) hsk, fun z => ?_, Lists.keepI hss hSb kbe⟩, hSI, ⟨kvs, ke _ _ (ne_of hru hSd (by intro z; cases z)) hru, Rules.keepI hRu hSd ke⟩, hgood⟩
    ⟨fun b o n1 _ e => kf b o n1 e _ _ _, ⟨dx, ?_⟩, ⟨ps, kf _ _ nPS hpe _ _ _, hp2.mono fun b t e _ => kf _ _ (ne_of e hS (by intro z; cases z)) (kHe _ _ (ne_of e hS (by intro z; cases z)) e) _ _ _⟩, htl, ⟨[], ?_, List.nodup_nil, rfl, fun j u x e => by simp at e⟩, ⟨[], ?_, rfl, fun j u x e => by simp at e⟩, ⟨hU, hAe⟩, ⟨fun z => ?_, fun z => ?_, nUA⟩, ⟨_, _, _, hSe⟩, Nat.le_refl _, Nat.zero_le _, Nat.zero_le _⟩
  · exact Fr3.keepSP hF hg hS hp1 hne fun b o n1 _ e => kHe b o n1 e
  · rw [z] at hp2
    exact hg0 (List.eq_nil_of_length_eq_zero (by rw [← htl, ← hp2.1]; rfl))
  · obtain ⟨j, hj⟩ := List.getElem?_of_mem hb
    obtain ⟨t, ht⟩ := at_len hp2.1.symm hj
    have := (hp2.2 j b t hj ht).1
    exact ⟨t, kHe _ _ (ne_of this hS (by intro z; cases z)) this⟩
  · rw [z, ka _ _ nPS hp1] at nsk
    cases nsk
  · refine upd_same.trans ?_
    congr 2
  · rw [upd_ne (Ne.symm nSU), upd_ne nUA, upd_ne (Ne.symm nSU), upd_ne (Ne.symm nSU), upd_same]
    rfl
  · rw [upd_ne (Ne.symm nSA), upd_same]
    rfl
  · rw [z, hpe] at hU
    cases hU
  · rw [z, hpe] at hAe
    cases hAe
theorem c_Sum_init (T : Txt K mg ca) : CalleeI P w K mg base 3 "Sum" ca.Sum ["self", "op", "frame", "hand", "book"] (sp_Sum_init K ca) := CalleeI.of T.d_Sum_init fun _ _ D => ok_Sum_init T D
theorem sc_Sum_begin_rule : FnScope ["self", "number", "d", "shown"] ["self", "number", "d"] (defScope t_Sum_begin_rule) := ⟨rfl, rfl, rfl, by decide +kernel, rfl, by decide +kernel, by decide +kernel⟩
theorem ok_Sum_begin_rule (T : Txt K mg ca) (D : MethAt K ca.Sum "begin_rule" "Sum.begin_rule" t_Sum_begin_rule ["self", "number", "d"] f fd) : FnOk P w K mg base (Ex.CX1 P w) 3 f fd ["self", "number", "d"] (sp_Sum_begin_rule K ca) := by
  refine Ex.okX D.fn sc_Sum_begin_rule (fun vs H Q E h => ?_) (fun cdv A outer s H vs Q E hr h => ?_)
  · obtain ⟨S, P, U, A, op, fr, sk, ru, i, d, gs, ss, rows, M, H2, g, t, rfl, ⟨F, h0⟩, hg, ht, hsl, kN, kS⟩ := h
    rfl
  obtain ⟨S, P, U, A, op, fr, sk, ru, i, d, gs, ss, rows, M, H2, g, t, rfl, ⟨F, h0⟩, hg, ht, hsl, kN, kS⟩ := h
  have hu := hu_of hr
  refine ⟨_, (pss_cons (ps_set (i := 3) sc_Sum_begin_rule.nd rfl (by first | exact Or.inl rfl | exact Or.inr rfl) (pe_m T.k_Frame.cl (c_Frame_shown_on T) hr (by decide) pass0 (pe_fld (pv 0) rfl) (pa_cons (pv 1) pa_nil)))
      (pss_cons (ps_if (pt_cmp (pc_isN (pv 3)))
        (pss_one (Ex.ps_raise0 Ex.body_cx rfl rfl T.x_GoesWrong))
        pss_nil)
      (pss_one (ps_expr (pe_bm PySem.F.plainAttrs_list PySem.F.slot_list_append PySem.F.type_list_append mt_append (pe_fld (pv 0) rfl) (pa_cons (pe_mk (c_RuleUnderWay_init T) hr (by decide) rfl (pa_cons (pv 1) (pa_cons (pe_dget2 hu (pe_fld (pv 0) rfl) (pe_tup (pa_cons (pe_fld (pv 0) rfl) (pa_cons (pv 2) (pa_cons (pv 3) pa_nil)))) (pe_lst pa_nil) ⟨rfl, rfl, rfl, rfl⟩) pa_nil))) pa_nil)))))), ?_⟩
  obtain ⟨dx, hS⟩ := h0.self
  obtain ⟨dxf, r, dd, rs, ds, hfr, _⟩ := id (sum_fr F h0).ex
  refine ⟨_, rfl, S, ca.Sum, dx, _, _, rfl, hS, T.k_Sum.cl, T.k_Sum.no 1, sfs_fr, fr, dxf, _, rfl, hfr, (by kernel_rfl), _, rfl, fr, P, i, gs, M.ts, g, t, rfl, sum_fr F h0, h0.pu, hg, ht, fun hn H1 s1 => ?_, fun hy H1 s1 => ?_⟩
  · exact ⟨_, rfl, _, rfl, iteT (kN hn H1)⟩
  · refine ⟨_, rfl, _, rfl, iteF ?_⟩
    have h1 := h0.same s1
    have hS1 := s1 _ _ hS
    obtain ⟨us, hU1, nd, hun⟩ := id h1.und
    obtain ⟨kvs, hru, hget⟩ := sum_ru F h1
    refine ⟨_, rfl, S, ca.Sum, dx, _, _, rfl, hS1, T.k_Sum.cl, T.k_Sum.no 4, sfs_u, .inl ⟨rfl, _, SqL.of hU1⟩, ?_⟩
    refine ⟨_, rfl, _, rfl, S, ca.Sum, dx, _, _, rfl, hS1, T.k_Sum.cl, T.k_Sum.no 3, sfs_ru, ru, rfl, .inr ⟨kvs, .inl hru⟩, ?_⟩
    refine ⟨_, rfl, S, ca.Sum, dx, _, _, rfl, hS1, T.k_Sum.cl, T.k_Sum.no 0, sfs_op, _, rfl, _, rfl, (by show 3 ≤ sizeLine; decide), fun Tk hTk => ⟨(by show 0 ≤ sizeLine; decide), fun Z hZ => ?_⟩⟩
    have sT := Same.new (o := .tup [.int (op : Nat), .int (d : Nat), .int (Su.cnt g t : Nat)]) (Same.refl H1) hTk
    have sZ := Same.new (o := .lst []) (Same.refl (upd H1 Tk (.tup [.int (op : Nat), .int (d : Nat), .int (Su.cnt g t : Nat)]))) hZ
    have hTk2 : (upd (upd H1 Tk (.tup [.int (op : Nat), .int (d : Nat), .int (Su.cnt g t : Nat)])) Z (.lst [])) Tk = some (.tup ((keyN [op, d, Su.cnt g t]).map kV)) := sZ _ _ upd_same
    have hZ2 : (upd (upd H1 Tk (.tup [.int (op : Nat), .int (d : Nat), .int (Su.cnt g t : Nat)])) Z (.lst [])) Z = some (.lst []) := upd_same
    have s2 := sT.trans sZ
    have nZ : ∀ b o, H1 b = some o → Z ≠ b := fun b o e z => by
      have := sT _ _ e
      rw [← z, hZ] at this
      cases this
    generalize upd (upd H1 Tk (.tup [.int (op : Nat), .int (d : Nat), .int (Su.cnt g t : Nat)])) Z (.lst []) = H3 at s2 hTk2 hZ2 ⊢
    have dg := DGet.t (a := ru) (b := Tk) (k := keyN [op, d, Su.cnt g t]) (s2 _ _ hru) hTk2
    have h3 := h1.same s2
    obtain ⟨ps, hP1, _⟩ := id h1.pu
    obtain ⟨as, hA1, _⟩ := id h1.act
    have fin : ∀ (s : Addr) (ts : List Addr), (s ≠ P ∧ s ≠ U ∧ s ≠ A) → H3 s = some (.lst (ts.map V.ref)) → StepsAt H3 ts (Rm.stepsFor rows op d (Su.cnt g t)) → ∀ x dx, H3 x = none → H3 dx = none → dx ≠ x → ∃ (u dx' s' : Addr) (i' : Nat), [V.ref x, .int (i : Nat), .ref s] = [.ref u, .int (i' : Nat), .ref s'] ∧ (upd (upd H3 dx (.own x)) x (.ins ca.RuleUnderWay dx [])) u = some (.ins ca.RuleUnderWay dx' []) ∧
      ∀ H', (∀ b o, b ≠ u → (upd (upd H3 dx (.own x)) x (.ins ca.RuleUnderWay dx [])) b = some o → H' b = some o) → H' u = some (.ins ca.RuleUnderWay dx' (rfs i' s' 0)) → V.non = .non ∧ ∃ l xs y, V.ref U = .ref l ∧ [V.ref x] = [y] ∧ H' l = some (.lst xs) ∧ xs.length < sizeLine ∧ Q .non (upd H' l (.lst (xs ++ [y]))) := by
      intro s ts hs1 hs2 hs3 x dxx nx ndx nex
      refine ⟨x, dxx, s, i, rfl, upd_same, fun H5 k5 hx5 => ⟨rfl, ?_⟩⟩
      have s5 : Same H3 H5 := Same.made nx ndx fun b o e nb => k5 b o nb e
      have h5 := h3.same s5
      refine ⟨U, us.map V.ref, _, rfl, rfl, s5 _ _ (s2 _ _ hU1), line_lt (by rw [List.length_map, hun.1]; omega), kS hy _ ?_⟩
      have e1 : us.map V.ref ++ [V.ref x] = (us ++ [x]).map V.ref := by rw [List.map_append]; rfl
      rw [e1]
      have hun5 : Unds ca.RuleUnderWay H2 H5 P U A us M.st := hun.mono (fun b dx fs _ e => (s2.trans s5) _ _ e) (fun b xs _ _ _ e => (s2.trans s5) _ _ e) (fun b xs e => (s2.trans s5) _ _ e)
      refine h5.setU ?_ (unds_snoc (x := (i, Rm.stepsFor rows op d (Su.cnt g t), 0)) hun5 (sum_new h3 nx) hx5 hs1 (s5 _ _ hs2) (hs3.keep s5)) (by rw [List.length_append]; simp only [List.length_cons, List.length_nil]; omega)
      rw [List.nodup_append]
      refine ⟨nd, by simp, fun b hb c hc => ?_⟩
      rw [List.mem_singleton] at hc
      rw [hc]
      intro z
      obtain ⟨j, hj⟩ := List.getElem?_of_mem hb
      obtain ⟨y, hy2⟩ := at_len hun.1.symm hj
      obtain ⟨_, _, _, _, hb2, _⟩ := hun.2 j b y hj hy2
      have := s2 _ _ hb2
      rw [z, nx] at this
      cases this
    cases er : Rm.rowFor rows op d (Su.cnt g t) with
    | none =>
      rw [(hget op d (Su.cnt g t)).1 er] at dg
      refine ⟨_, dg, ?_⟩
      refine fin Z [] ⟨nZ _ _ hP1, nZ _ _ hU1, nZ _ _ hA1⟩ hZ2 ⟨?_, fun j t s e => by simp at e⟩
      unfold Rm.stepsFor
      rw [er]
      rfl
    | some rr =>
      obtain ⟨p, ts, hv, hp1, hp2, hp3⟩ := (hget op d (Su.cnt g t)).2 rr er
      rw [hv] at dg
      refine ⟨_, dg, ?_⟩
      refine fin p ts hp1 (s2 _ _ hp2) ?_
      unfold Rm.stepsFor
      rw [er]
      exact hp3.keep s2
theorem c_Sum_begin_rule (T : Txt K mg ca) : CalleeM P w K mg base (Ex.CX1 P w) 3 ca.Sum "begin_rule" ["self", "number", "d"] (sp_Sum_begin_rule K ca) := CalleeM.of T.d_Sum_begin_rule fun _ _ D => ok_Sum_begin_rule T D
def pairsN (l : List Nat) : List (Nat × Nat) := (l.zipIdx.filter fun (x : Nat × Nat) => x.1 != 0).map fun (x : Nat × Nat) => (x.2, x.1)
theorem pairs_yes {l : List Nat} {i x : Nat} (h : l[i]? = some x) (hx : 0 < x) : pairsN (l.take (i + 1)) = pairsN (l.take i) ++ [(i, x)] := by
  have hi := (List.getElem?_eq_some_iff.mp h).1
  unfold pairsN
  rw [take_snoc h, List.zipIdx_append, List.filter_append, List.map_append]
  congr 1
  have e : (l.take i).length = i := by rw [List.length_take]; omega
  rw [e]
  simp only [List.zipIdx_cons, List.zipIdx_nil]
  rw [List.filter_cons, if_pos (by simp; omega)]
  simp
theorem pairs_no {l : List Nat} {i x : Nat} (h : l[i]? = some x) (hx : ¬ 0 < x) : pairsN (l.take (i + 1)) = pairsN (l.take i) := by
  have hi := (List.getElem?_eq_some_iff.mp h).1
  unfold pairsN
  rw [take_snoc h, List.zipIdx_append, List.filter_append, List.map_append]
  have e : x = 0 := by omega
  subst e
  simp
theorem pairs_len (l : List Nat) : (pairsN l).length ≤ l.length := by
  unfold pairsN
  rw [List.length_map]
  refine Nat.le_trans (List.length_filter_le ..) ?_
  simp
theorem pairs_lt {l : List Nat} : ∀ x ∈ pairsN l, x.1 < l.length := fun x hx => by
  unfold pairsN at hx
  obtain ⟨y, hy, rfl⟩ := List.mem_map.mp hx
  have := (List.mem_filter.mp hy).1
  obtain ⟨a, b⟩ := y
  have := List.mem_zipIdx this
  show b < l.length
  omega
theorem PairsAt.keep {H H' : Hp} {ts : List Addr} {xs : List (Nat × Nat)} (h : PairsAt H ts xs) (s : ∀ b o, H b = some (.tup o) → H' b = some (.tup o)) : PairsAt H' ts xs := ⟨h.1, fun j t x e1 e2 => s _ _ (h.2 j t x e1 e2)⟩
theorem PairsAt.snoc {H : Hp} {ts : List Addr} {xs : List (Nat × Nat)} {t : Addr} {x : Nat × Nat} (h : PairsAt H ts xs) (ht : H t = some (.tup [.int (x.1 : Nat), .int (x.2 : Nat)])) : PairsAt H (ts ++ [t]) (xs ++ [x]) := by
  refine ⟨by rw [List.length_append, List.length_append, h.1]; rfl, fun j b' g' e1 e2 => ?_⟩
  rcases get_snoc e1 with ⟨k1, e1⟩ | ⟨k1, rfl⟩
  · rcases get_snoc e2 with ⟨k2, e2⟩ | ⟨k2, e2⟩
    · exact h.2 j b' g' e1 e2
    · have := h.1
      omega
  · rcases get_snoc e2 with ⟨k2, e2⟩ | ⟨k2, e2⟩
    · have := h.1
      omega
    · rw [e2]
      exact ht
theorem PairsAt.rev {H : Hp} {ts : List Addr} {xs : List (Nat × Nat)} (h : PairsAt H ts xs) : PairsAt H ts.reverse xs.reverse := by
  refine ⟨by rw [List.length_reverse, List.length_reverse]; exact h.1, fun j t x e1 e2 => ?_⟩
  have hj : j < ts.length := by
    have := (List.getElem?_eq_some_iff.mp e1).1
    rwa [List.length_reverse] at this
  rw [List.getElem?_reverse hj] at e1
  rw [List.getElem?_reverse (by rw [← h.1]; exact hj), ← h.1] at e2
  exact h.2 _ t x e1 e2
theorem sc_digits_in_order : FnScope ["order", "v", "make", "number", "d", "from_the_right"] ["order", "v", "make"] (defScope t_digits_in_order) := ⟨rfl, rfl, rfl, by decide +kernel, rfl, by decide +kernel, by decide +kernel⟩
theorem ok_digits_in_order (T : Txt K mg ca) (D : DefAt K mg "digits_in_order" t_digits_in_order ["order", "v", "make"] f fd) : FnOk P w K mg base CX0 3 f fd ["order", "v", "make"] (sp_digits_in_order K) := by
  refine D.fn.ok sc_digits_in_order (fun vs H Q E h => ?_) (fun cdv A outer s H vs Q E hr h => ?_)
  · obtain ⟨a, l, order, v, rfl, hs, hm, hl, hg, q⟩ := h
    rfl
  obtain ⟨a, l, order, v, rfl, hs, hm, hl, hg, q⟩ := h
  refine ⟨_, (pss_cons (ps_setLc (i := 5) rfl sc_digits_in_order.nd rfl rfl rfl (pi_enum rfl T.n_enumerate (pa_cons (pe_c (c_digits_of T) hr (by decide) rfl (pa_cons (pv 1) (pa_cons (pv 2) pa_nil))) pa_nil)) (blkOk_by (N := ["order", "v", "make", "number", "d", "from_the_right"]) (sc := defScope t_digits_in_order) (own := [("number", 3), ("d", 4)]) (by decide +kernel)) (fun _ _ _ _ _ => pg_two K (i := 3) (j := 4) rfl sc_digits_in_order.nd rfl rfl (by first | exact Or.inl rfl | exact Or.inr rfl) (by first | exact Or.inl rfl | exact Or.inr rfl)) (fun _ _ _ _ _ => (pts_one (pt_cmp (pc_gt (pv 4) pe_int)))) (fun _ _ _ _ _ => (pe_tup (pa_cons (pv 3) (pa_cons (pv 4) pa_nil)))))
      (pss_cons (ps_if (pt_cmp (pc_eqI (pv 0) (pe_gi rfl T.v_FROM_THE_LEFT)))
        (pss_one (ps_ret (Rv.pe_listRev rfl rfl rfl T.n_list T.n_reversed (pa_cons (pv 5) pa_nil))))
        pss_nil)
      (pss_one (ps_ret (pv 5))))), ?_⟩
  have hgl := groups_le hm hl
  have hwant : Na.wanted ((Na.groups 7 l).map Na.rodOf) order v = if order = 0 then ((pairsN (Na.digits ((Na.groups 7 l).map Na.rodOf) v)).map fun x => Na.Todo.digit x.1 x.2).reverse else (pairsN (Na.digits ((Na.groups 7 l).map Na.rodOf) v)).map fun x => Na.Todo.digit x.1 x.2 := by
    unfold Na.wanted pairsN
    rw [List.map_map]
    rfl
  have hdl : (Na.digits ((Na.groups 7 l).map Na.rodOf) v).length = (Na.groups 7 l).length := An.digits_len _ _
  refine ⟨_, rfl, _, rfl, a, l, v, rfl, hs, hm, hl, hg, fun H1 p s1 hp => ⟨p, _, rfl, SqL.of hp, fun D hD => ?_⟩⟩
  generalize Na.digits ((Na.groups 7 l).map Na.rodOf) v = ds at hwant hdl hp ⊢
  have hpl := pairs_len ds
  refine lc_enum (a := p) (xs := (nz ds).map V.int) (fun i H' => ∃ ts : List Addr, Same H1 H' ∧ H' D = some (.lst (ts.map V.ref)) ∧ PairsAt H' ts (pairsN (ds.take i)))
    ⟨[], Same.new (Same.refl H1) hD, upd_same, rfl, fun j t x e => by simp at e⟩ (fun i H' _ ⟨_, s2, _⟩ => SqL.of (s2 _ _ hp)) ?_ ?_
  · rintro i x Tt H' hi hT ⟨ts, s2, hd, hpr⟩
    obtain ⟨z, hz, rfl⟩ := map_at hi
    obtain ⟨y, hy, rfl⟩ : ∃ y : Nat, ds[i]? = some y ∧ z = (y : Int) := by
      unfold nz BkNeutral.ints at hz
      rw [List.getElem?_map] at hz
      obtain ⟨y, h1, h2⟩ := Option.map_eq_some_iff.mp hz
      exact ⟨y, h1, h2.symm⟩
    have hil := (List.getElem?_eq_some_iff.mp hy).1
    have s3 : Same H' (upd H' Tt (.tup [.int (i : Nat), .int (y : Nat)])) := Same.new (Same.refl H') hT
    refine ⟨Tt, _, rfl, SqT.of upd_same, rfl, _, _, rfl, _, _, rfl, rfl, rfl, ?_⟩
    refine ⟨_, rfl, _, _, rfl, rfl, _, rfl, ite2 (fun e => ?_) (fun e => ?_)⟩
    · have e : 0 < y := by
        have := of_decide_eq_true e
        omega
      refine ⟨_, rfl, _, rfl, (by show 2 ≤ sizeLine; decide), fun T2 hT2 => ?_⟩
      have s4 := Same.new (o := .tup [.int (i : Nat), .int (y : Nat)]) (Same.refl (upd H' Tt (.tup [.int (i : Nat), .int (y : Nat)]))) hT2
      have s34 := s3.trans s4
      refine ⟨_, s34 _ _ hd, line_lt (by rw [List.length_map, hpr.1]; have := pairs_len (ds.take i); rw [List.length_take] at this; omega), ts ++ [T2], Same.put (s2.trans s34) hD, ?_, ?_⟩
      · rw [List.map_append]
        exact upd_same
      · rw [pairs_yes hy e]
        have nD : ∀ b o, (upd (upd H' Tt (.tup [.int (i : Nat), .int (y : Nat)])) T2 (.tup [.int (i : Nat), .int (y : Nat)])) b = some (.tup o) → ∀ xs, (upd (upd (upd H' Tt (.tup [.int (i : Nat), .int (y : Nat)])) T2 (.tup [.int (i : Nat), .int (y : Nat)])) D (.lst xs)) b = some (.tup o) := fun b o eb xs => by
          rw [upd_ne (ne_of eb (s34 _ _ hd) (by intro z; cases z))]
          exact eb
        exact (hpr.keep fun b o eb => nD _ _ (s34 _ _ eb) _).snoc (x := (i, y)) (nD _ _ upd_same _)
    · have e : ¬ 0 < y := fun z => e (decide_eq_true (by omega))
      exact ⟨ts, s2.trans s3, s3 _ _ hd, by rw [pairs_no hy e]; exact hpr.keep fun b o eb => s3 _ _ eb⟩
  · rintro H' ⟨ts, s2, hd, hpr⟩
    rw [vi_len, List.take_length] at hpr
    have hDn : H D = none := by
      cases e : H D with
      | none => rfl
      | some o =>
        have := s1 _ _ e
        rw [hD] at this
        cases this
    refine ⟨_, rfl, _, _, rfl, rfl, _, rfl, ite2 (fun e => ?_) (fun e => ?_)⟩
    · have e : order = 0 := by
        have := of_decide_eq_true e
        omega
      rw [if_pos e] at hwant
      refine ⟨_, rfl, D, _, rfl, SqL.of hd, by rw [List.length_map, hpr.1]; omega, fun L hL => ?_⟩
      have s3 := Same.new (o := .lst (ts.map V.ref).reverse) (Same.refl H') hL
      refine q _ L ts.reverse (pairsN ds).reverse ⟨s1.trans (s2.trans s3), (s1.trans s2).free hL⟩ ?_ (hpr.rev.keep fun b o eb => s3 _ _ eb) ?_ (fun x hx => ?_) ?_
      · rw [upd_same, List.map_reverse]
      · rw [hwant, List.map_reverse]
      · have := pairs_lt x (List.mem_reverse.mp hx)
        omega
      · rw [List.length_reverse]
        omega
    · have e : ¬ order = 0 := fun z => e (decide_eq_true (by omega))
      rw [if_neg e] at hwant
      refine ⟨_, rfl, q _ D ts (pairsN ds) ⟨s1.trans s2, hDn⟩ hd hpr hwant (fun x hx => ?_) (by omega)⟩
      have := pairs_lt x hx
      omega
theorem c_digits_in_order (T : Txt K mg ca) : Callee P w K mg base 3 "digits_in_order" ["order", "v", "make"] (sp_digits_in_order K) := Callee.of T.d_digits_in_order fun _ _ D => ok_digits_in_order T D
theorem way3_len {g : List Nat} (h : Rm.RIn g) : ∀ x ∈ Rm.waysOf g 3, x.2.length = 3 := fun ⟨c, p⟩ hx => by
  have hq : 0 < g.getD 0 0 := by have := h.1.1; omega
  obtain ⟨⟨x, y, z, e1, _⟩, _, _⟩ := (Rm.mem_way3 hq).mp hx
  show p.length = 3
  rw [e1]
  rfl
theorem way3_cnt {g : List Nat} (h : Rm.RIn g) {c : Nat} {p : List Nat} (hx : (c, p) ∈ Rm.waysOf g 3) : c = Su.cnt g p ∧ c < g.getD 0 0 := by
  have hq : 0 < g.getD 0 0 := by have := h.1.1; omega
  obtain ⟨_, e1, e2⟩ := (Rm.mem_way3 hq).mp hx
  exact ⟨e1, e2⟩
theorem keyN_inj2 {a b : List Nat} (h : keyN a = keyN b) : a = b := by
  unfold keyN nz BkNeutral.ints at h
  rw [List.map_map, List.map_map] at h
  refine (List.map_inj_right (fun x y e => ?_)).mp h
  have := Sum.inl.inj e
  exact Int.ofNat.inj this
theorem sc_digits_by_form : FnScope ["rod", "digits", "digit", "form"] ["rod"] (defScope t_digits_by_form) := ⟨rfl, rfl, rfl, by decide +kernel, rfl, by decide +kernel, by decide +kernel⟩
theorem ok_digits_by_form (T : Txt K mg ca) (D : DefAt K mg "digits_by_form" t_digits_by_form ["rod"] f fd) : FnOk P w K mg base CX0 4 f fd ["rod"] (sp_digits_by_form K) := by
  refine D.fn.ok sc_digits_by_form (fun vs H Q E h => ?_) (fun cdv A outer s H vs Q E hr h => ?_)
  · obtain ⟨a, g, rfl, hs, hl, hR, hW, q⟩ := h
    rfl
  obtain ⟨a, g, rfl, hs, hl, hR, hW, q⟩ := h
  have hu := hu_of hr
  refine ⟨_, (pss_cons (ps_set (i := 1) sc_digits_by_form.nd rfl (by first | exact Or.inl rfl | exact Or.inr rfl) pe_dnewT)
      (pss_cons (ps_for PassesOwn.never rfl (pi_items (pe_frz (pe_c (c_digit_forms T) hr (by decide) rfl (pa_cons (pv 0) pa_nil)))) (pg_tup rfl (pgs_cons (pg_name (i := 2) sc_digits_by_form.nd rfl (by first | exact Or.inl rfl | exact Or.inr rfl)) (pgs_cons (pg_name (i := 3) sc_digits_by_form.nd rfl (by first | exact Or.inl rfl | exact Or.inr rfl)) pgs_nil)))
        (pss_one (ps_dput hu (pv 1) (pe_callTy (tup_o K) (by rfl) T.n_tuple bt_tuple (pa_cons (pv 3) pa_nil)) (pv 2) rfl)))
      (pss_one (ps_ret (pv 1))))), ?_⟩
  intro D hD
  have z0 : Same H (upd H D (.dT [])) := Same.new (Same.refl H) hD
  refine ⟨_, rfl, a, g, rfl, z0.seq hs, hl, hR, fun H1 f kvs ⟨s1, nf⟩ hf hF ⟨_, hK⟩ => ⟨f, kvs, rfl, hf, fun od => ⟨f, od, kvs, rfl, upd_same, ?_⟩⟩⟩
  obtain ⟨fl, hfd, hB⟩ := fdict_of hF hK (way3_len hR)
  have hDf : D ≠ f := fun z => by rw [← z, upd_same] at nf; cases nf
  have hklen := hK.len
  refine for_items (d := f) (od := od) (kvs := kvs) (fun i σ H' => ∃ (v2 v3 : Option V) (ks : List (List Key × V)), σ = [some (.ref a), some (.ref D), v2, v3] ∧ (∀ b o, b ≠ D → (upd H1 f (.frz od (.dK kvs))) b = some o → H' b = some o) ∧ H' D = some (.dT ks) ∧ ks.length ≤ i ∧
    ∀ t : List Nat, (∀ c, (c, t) ∈ fl.take i → valV ks (keyN t) = some (.int (c : Nat))) ∧ ((∀ c, (c, t) ∉ fl.take i) → valV ks (keyN t) = none))
    ⟨none, none, [], rfl, fun b o _ e => e, by rw [upd_ne hDf]; exact s1 _ _ upd_same, Nat.le_refl _, fun t => ⟨fun c h => by rw [List.take_zero] at h; simp at h, fun _ => rfl⟩⟩ (fun i σ H' _ ⟨_, _, _, _, k, _⟩ => k f _ (Ne.symm hDf) upd_same) ?_ ?_
  · rintro i k v Tt σ H' hi hT ⟨v2, v3, ks, rfl, kp, hD', hkl, hv⟩
    have hil : i < fl.length := by
      have := (List.getElem?_eq_some_iff.mp hi).1
      rw [hfd.1] at this
      exact this
    obtain ⟨⟨c, p⟩, hcp⟩ : ∃ cp, fl[i]? = some cp := ⟨_, List.getElem?_eq_getElem hil⟩
    obtain ⟨q0, h1, h2⟩ := hfd.2 i c p hcp
    rw [hi] at h1
    cases h1
    have hmem := hB.mem (List.mem_of_getElem? hcp)
    obtain ⟨ec, hcq⟩ := way3_cnt hR hmem
    have nq : q0 ≠ f := ne_of h2 hf (by intro z; cases z)
    have nqD : q0 ≠ D := fun z => by
      rw [z, s1 _ _ upd_same] at h2
      cases h2
    have hq0 : H' q0 = some (lstN p) := kp _ _ nqD (by rw [upd_ne nq]; exact h2)
    have s2 : Same H' (upd H' Tt (.tup [kV (kN c), .ref q0])) := Same.new (Same.refl H') hT
    refine ⟨Tt, _, rfl, SqT.of upd_same, rfl, _, _, rfl, _, _, rfl, rfl, ?_⟩
    refine ⟨_, rfl, _, rfl, _, rfl, q0, _, rfl, .inl ⟨SqL.of (s2 _ _ hq0), fun Tk hTk => ?_⟩⟩
    have s3 := Same.new (o := .tup ((nz p).map V.int)) (Same.refl (upd H' Tt (.tup [kV (kN c), .ref q0]))) hTk
    have hD2 := (s2.trans s3) _ _ hD'
    have hle : i < 20 := by
      have := hR.1.2
      have := (List.getElem?_eq_some_iff.mp hi).1
      omega
    refine ⟨D, _, rfl, DPut.t (k := keyN p) hD2 (by rw [keyN_kV]; exact upd_same) (line_lt (by omega)), ?_⟩
    refine ⟨_, _, _, rfl, fun b o nb e => ?_, upd_same, ?_, fun t => ?_⟩
    · rw [upd_ne nb]
      exact (s2.trans s3) _ _ (kp b o nb e)
    · have := length_putK ks (keyN p) (.int (c : Nat))
      exact Nat.le_trans this (by omega)
    · rw [valV_put, take_snoc hcp]
      obtain ⟨v1, v2⟩ := hv t
      by_cases z : t = p
      · rw [if_pos (by rw [z])]
        refine ⟨fun c' hc' => ?_, fun hn => absurd (List.mem_append_right _ (by rw [z]; exact List.mem_singleton.mpr rfl)) (hn c)⟩
        have hm : (c', t) ∈ Rm.waysOf g 3 := by
          rcases List.mem_append.mp hc' with h | h
          · exact hB.mem (List.mem_of_mem_take h)
          · rw [List.mem_singleton] at h
            cases h
            exact hmem
        have e1 := (way3_cnt hR hm).1
        rw [z, ← ec] at e1
        rw [e1]
        rfl
      · rw [if_neg (fun y => z (keyN_inj2 y))]
        refine ⟨fun c' hc' => v1 c' ?_, fun hn => v2 fun c' hc' => hn c' (List.mem_append_left _ hc')⟩
        rcases List.mem_append.mp hc' with h | h
        · exact h
        · rw [List.mem_singleton] at h
          cases h
          exact absurd rfl z
  · rintro σ H' ⟨v2, v3, ks, rfl, kp, hD', hkl, hv⟩
    rw [hfd.1, List.take_length] at hv
    refine ⟨_, rfl, q _ D ks ?_ hD' fun t ht => ?_⟩
    · intro b o e
      have e1 := s1 _ _ (z0 _ _ e)
      exact kp b o (ne_of_none e hD) (by rw [upd_ne (fun z => by rw [z] at e; have := z0 _ _ e; rw [nf] at this; cases this)]; exact e1)
    · obtain ⟨v1, v2⟩ := hv t
      refine ⟨fun hin => ?_, fun hin => v2 fun c hc => hin ?_⟩
      · refine v1 _ (hB.all _ _ ?_)
        rw [Rm.form_at hR hW hin.1]
        exact congrArg some hin.2.symm
      · have hm := hB.sub _ hc
        obtain ⟨e1, e2⟩ := way3_cnt hR (hB.mem hc)
        rw [Rm.form_at hR hW e2] at hm
        refine ⟨by rw [← e1]; exact e2, ?_⟩
        rw [← e1]
        exact (Option.some.inj hm).symm
theorem c_digits_by_form (T : Txt K mg ca) : Callee P w K mg base 4 "digits_by_form" ["rod"] (sp_digits_by_form K) := Callee.of T.d_digits_by_form fun _ _ D => ok_digits_by_form T D
theorem sc_rule_broken : FnScope ["rod"] ["rod"] (defScope t_rule_broken) := ⟨rfl, rfl, rfl, by decide +kernel, rfl, by decide +kernel, by decide +kernel⟩
theorem ok_rule_broken (T : Txt K mg ca) (D : DefAt K mg "rule_broken" t_rule_broken ["rod"] f fd) : FnOk P w K mg base CX0 4 f fd ["rod"] (sp_rule_broken K) := by
  refine D.fn.ok sc_rule_broken (fun vs H Q E h => ?_) (fun cdv A outer s H vs Q E hr h => ?_)
  · obtain ⟨a, g, rfl, hs, hl, kN, kS⟩ := h
    rfl
  obtain ⟨a, g, rfl, hs, hl, kN, kS⟩ := h
  refine ⟨_, (pss_cons (ps_if (pt_not (pt_val (pe_c (c_rod_can_be T) hr (by decide) rfl (pa_cons (pv 0) pa_nil))))
        (pss_one (ps_ret (pe_gi rfl T.v_ROD_RULE)))
        pss_nil)
      (pss_cons (ps_if (pt_cmp (pc_gt (pe_c (c_worth_together T) hr (by decide) rfl (pa_cons (pv 0) pa_nil)) (pe_gi rfl T.v_HIGHEST_WORTH_TOGETHER)))
        (pss_one (ps_ret (pe_gi rfl T.v_WORTH_TOGETHER_RULE)))
        pss_nil)
      (pss_cons (ps_if (pt_cmp (pc_lt (pe_callB call_lenD (by rfl) T.n_len bt_len (pa_cons (pe_c (c_digit_forms T) hr (by decide) rfl (pa_cons (pv 0) pa_nil)) pa_nil)) (pe_c (c_ratio_of T) hr (by decide) rfl (pa_cons (pv 0) pa_nil))))
        (pss_one (ps_ret (pe_gi rfl T.v_DIGITS_RULE)))
        pss_nil)
      (pss_one (ps_ret pe_non))))), ?_⟩
  refine ⟨_, rfl, a, g, rfl, hs, hl, fun k hk => ⟨k, rfl, ite2 (fun e => ?_) (fun e => ?_)⟩⟩
  · have hn : ¬ Rm.RIn g := fun z => by
      rw [hk.mpr z] at e
      cases e
    exact kS 2 (Rm.wrong2 hn) (by decide) H (Same.refl H)
  · have hR : Rm.RIn g := hk.mp (by cases k with
      | true => rfl
      | false => exact absurd rfl e)
    refine ⟨_, rfl, a, g, rfl, hs, hl, hR, fun H1 s1 => ⟨_, _, rfl, rfl, _, rfl, ite2 (fun e1 => ?_) (fun e1 => ?_)⟩⟩
    · have e1 := of_decide_eq_true e1
      exact kS 3 (Rm.wrong3 hR (by omega)) (by decide) H1 s1
    · have e1 : ¬ 255 < Rm.mostOf g := fun z => e1 (decide_eq_true (by omega))
      refine ⟨_, rfl, a, g, rfl, s1.seq hs, hl, hR, fun H2 f kvs ⟨s2, _⟩ hf hF ⟨hw, _⟩ => ⟨f, kvs, rfl, hf, _, rfl, a, g, rfl, (s1.trans s2).seq hs, hl, _, _, rfl, rfl, _, rfl, ite2 (fun e2 => ?_) (fun e2 => ?_)⟩⟩
      · have e2 := of_decide_eq_true e2
        exact kS 4 (Rm.wrong4 hR e1 (hw.mp (by omega))) (by decide) H2 (s1.trans s2)
      · refine kN (Rm.wrong0 hR e1 (Classical.byContradiction fun z => e2 (decide_eq_true ?_))) H2 (s1.trans s2)
        have := hw.mpr z
        omega
theorem c_rule_broken (T : Txt K mg ca) : Callee P w K mg base 4 "rule_broken" ["rod"] (sp_rule_broken K) := Callee.of T.d_rule_broken fun _ _ D => ok_rule_broken T D
theorem sc_book_fault : FnScope ["book", "told", "place", "row", "rule"] ["book"] (defScope t_book_fault) := ⟨rfl, rfl, rfl, by decide +kernel, rfl, by decide +kernel, by decide +kernel⟩
theorem ok_book_fault (T : Txt K mg ca) (D : DefAt K mg "book_fault" t_book_fault ["book"] f fd) : FnOk P w K mg base CX0 4 f fd ["book"] (sp_book_fault K) := by
  refine D.fn.ok sc_book_fault (fun vs H Q E h => ?_) (fun cdv A outer s H vs Q E hr h => ?_)
  · obtain ⟨a, as, rows, rfl, hs, ⟨hlen, hrow⟩, hmax, kN, kS⟩ := h
    rfl
  obtain ⟨a, as, rows, rfl, hs, ⟨hlen, hrow⟩, hmax, kN, kS⟩ := h
  have hu := hu_of hr
  refine ⟨_, (pss_cons (ps_set (i := 1) sc_book_fault.nd rfl (by first | exact Or.inl rfl | exact Or.inr rfl) pe_dnewT)
      (pss_cons (ps_for PassesOwn.never rfl (pi_enum rfl T.n_enumerate (pa_cons (pv 0) pa_nil)) (pg_tup rfl (pgs_cons (pg_name (i := 2) sc_book_fault.nd rfl (by first | exact Or.inl rfl | exact Or.inr rfl)) (pgs_cons (pg_name (i := 3) sc_book_fault.nd rfl (by first | exact Or.inl rfl | exact Or.inr rfl)) pgs_nil)))
        (pss_cons (ps_if (pt_not (pt_val (pe_c (c_row_can_be T) hr (by decide) rfl (pa_cons (pv 3) pa_nil))))
          (pss_one (ps_ret (pe_lst (pa_cons (pe_gi rfl T.v_BOOK_RULE) (pa_cons (pv 2) pa_nil)))))
          pss_nil)
        (pss_cons (ps_set (i := 4) sc_book_fault.nd rfl (by first | exact Or.inl rfl | exact Or.inr rfl) (pe_tup (pa_cons (pe_ix (ix_l K) (pv 3) pe_int (fun _ _ => rfl)) (pa_cons (pe_ix (ix_l K) (pv 3) pe_int (fun _ _ => rfl)) (pa_cons (pe_ix (ix_l K) (pv 3) pe_int (fun _ _ => rfl)) pa_nil)))))
        (pss_cons (ps_if (pt_cmp (pc_din hu (pv 4) (pv 1)) rfl)
          (pss_one (ps_ret (pe_lst (pa_cons (pe_gi rfl T.v_BOOK_RULE) (pa_cons (pv 2) pa_nil)))))
          pss_nil)
        (pss_one (ps_dput hu (pv 1) (pv 4) pe_bl rfl))))))
      (pss_one (ps_ret pe_non)))), ?_⟩
  intro t ht
  refine ⟨_, rfl, a, as.map V.ref, rfl, (Same.new (Same.refl H) ht).seq hs, for_enum (a := a) (xs := as.map V.ref)
    (fun i σ H' => ∃ (v2 v3 v4 : Option V) (ks : List (List Int)), σ = [some (.ref a), some (.ref t), v2, v3, v4] ∧ Same H H' ∧ H' t = some (.dT (kvOf ks)) ∧ ks.length = i ∧ Bm.bad 0 [] rows = Bm.bad i ks (rows.drop i))
    ⟨none, none, none, [], rfl, Same.new (Same.refl H) ht, upd_same, rfl, rfl⟩ (fun i σ H' _ ⟨_, _, _, _, _, s1, _⟩ => s1.seq hs) ?_ ?_⟩
  · rintro i y p σ H' hi hp ⟨v2, v3, v4, ks, rfl, s1, hd, hki, hb⟩
    obtain ⟨c, hc, rfl⟩ : ∃ c, as[i]? = some c ∧ y = V.ref c := by
      rw [List.getElem?_map] at hi
      cases e : as[i]? with
      | none =>
        rw [e] at hi
        cases hi
      | some c =>
        rw [e] at hi
        exact ⟨c, rfl, (Option.some.inj hi).symm⟩
    have hil : i < rows.length := by
      have := (List.getElem?_eq_some_iff.mp hc).1
      omega
    obtain ⟨ns, hns⟩ : ∃ ns, rows[i]? = some ns := ⟨_, List.getElem?_eq_getElem hil⟩
    obtain ⟨hS, h36⟩ := hrow i c ns hc hns
    have s2 : Same H (upd H' p (.tup [.int (i : Nat), .ref c])) := Same.new s1 hp
    have hd2 : (upd H' p (.tup [.int (i : Nat), .ref c])) t = some (.dT (kvOf ks)) := by
      rw [upd_ne (ne_of_none hd hp)]
      exact hd
    rw [Bm.bad_drop hns] at hb
    have S2 := s2.seq hS
    refine ⟨p, _, rfl, .inl (.inl upd_same), rfl, _, _, rfl, _, _, rfl, rfl, ?_⟩
    refine ⟨_, rfl, c, ns, rfl, S2, h36, _, rfl, ite2 (fun e => ?_) (fun e => ?_)⟩
    · have e : Bm.rowB ns = false := (Bool.not_eq_true' _).mp e
      rw [if_pos (.inl e)] at hb
      exact ⟨_, rfl, (by show 2 ≤ sizeLine; decide), fun l hl => kS i hb _ l (Same.new s2 hl) upd_same⟩
    · have e : Bm.rowB ns = true := by
        cases z : Bm.rowB ns with
        | true => rfl
        | false => exact absurd (by rw [z]; rfl) e
      have el : 3 ≤ ns.length := by
        unfold Bm.rowB Bm.lenB at e
        rw [Bool.and_eq_true, Bool.and_eq_true, Bool.and_eq_true] at e
        exact of_decide_eq_true e.1.1.1
      refine ⟨_, rfl, c, _, _, _, rfl, rfl, S2, ints_at0 (j := 0) (by omega), _, rfl, c, _, _, _, rfl, rfl, S2, ints_at0 (j := 1) (by omega), _, rfl, c, _, _, _, rfl, rfl, S2, ints_at0 (j := 2) (by omega), (by show 3 ≤ sizeLine; decide), fun r hr' => ?_⟩
      have hd3 : (upd (upd H' p (.tup [.int (i : Nat), .ref c])) r (.tup [.int (Bm.at0 ns 0), .int (Bm.at0 ns 1), .int (Bm.at0 ns 2)])) t = some (.dT (kvOf ks)) := by
        rw [upd_ne (ne_of_none hd2 hr')]
        exact hd2
      have s3 := Same.new (o := .tup [.int (Bm.at0 ns 0), .int (Bm.at0 ns 1), .int (Bm.at0 ns 2)]) s2 hr'
      refine ⟨_, rfl, _, rfl, t, _, rfl, DGet.t (k := kOf (Bm.keyOf ns)) hd3 upd_same, _, rfl, ite2 (fun e2 => ?_) (fun e2 => ?_)⟩
      · rw [val_in] at e2
        rw [if_pos (.inr (of_decide_eq_true e2))] at hb
        exact ⟨_, rfl, (by show 2 ≤ sizeLine; decide), fun l hl => kS i hb _ l (Same.new s3 hl) upd_same⟩
      · rw [val_in] at e2
        have e2 : ¬ Bm.keyOf ns ∈ ks := fun z => e2 (decide_eq_true z)
        rw [if_neg (fun z => z.elim (fun q => by rw [e] at q; cases q) e2)] at hb
        refine ⟨_, rfl, _, rfl, t, _, rfl, DPut.t (k := kOf (Bm.keyOf ns)) hd3 upd_same (by unfold kvOf; rw [List.length_map]; exact small1000 (by omega)), ?_⟩
        refine ⟨_, _, _, ks ++ [Bm.keyOf ns], rfl, ?_, ?_, by rw [List.length_append, hki]; rfl, hb⟩
        · intro b o eb
          rw [upd_ne (fun z => by rw [z] at eb; rw [eb] at ht; cases ht)]
          exact s3 b o eb
        · rw [put_new e2]
          exact upd_same
  · rintro σ H' ⟨v2, v3, v4, ks, rfl, s1, hd, hki, hb⟩
    rw [List.length_map, hlen, List.drop_length] at hb
    exact kN hb H' s1
theorem c_book_fault (T : Txt K mg ca) : Callee P w K mg base 4 "book_fault" ["book"] (sp_book_fault K) := Callee.of T.d_book_fault fun _ _ D => ok_book_fault T D
theorem sc_Frame_try_act : FnScope ["self", "number", "stroke", "n", "k", "behind"] ["self", "number", "stroke", "n", "k"] (defScope t_Frame_try_act) := ⟨rfl, rfl, rfl, by decide +kernel, rfl, by decide +kernel, by decide +kernel⟩
theorem ok_Frame_try_act (T : Txt K mg ca) (D : MethAt K ca.Frame "try_act" "Frame.try_act" t_Frame_try_act ["self", "number", "stroke", "n", "k"] f fd) : FnOk P w K mg base CX0 4 f fd ["self", "number", "stroke", "n", "k"] (sp_Frame_try_act K ca) := by
  refine D.fn.ok sc_Frame_try_act (fun vs H Q E h => ?_) (fun cdv A outer s H vs Q E hr h => ?_)
  · obtain ⟨fr, p, c, i, n, k, gs, ts, g, t, s, rfl, hF, hP, hg, hg7, ht, hc, hS, kN, kS⟩ := h
    rfl
  obtain ⟨fr, p, c, i, n, k, gs, ts, g, t, s, rfl, hF, hP, hg, hg7, ht, hc, hS, kN, kS⟩ := h
  refine ⟨_, (pss_cons (ps_set (i := 5) sc_Frame_try_act.nd rfl (by first | exact Or.inl rfl | exact Or.inr rfl) (pe_c (c_behind_act T) hr (by decide) rfl (pa_cons (pe_ix (ix_l K) (pe_fld (pv 0) rfl) (pv 1) (fun _ _ => rfl)) (pa_cons (pe_ix (ix_l K) (pe_fld (pv 0) rfl) (pv 1) (fun _ _ => rfl)) (pa_cons (pv 2) (pa_cons (pv 3) (pa_cons (pv 4) pa_nil)))))))
      (pss_cons (ps_if (pt_cmp (pc_isN (pv 5)))
        (pss_one (ps_ret pe_bl))
        pss_nil)
      (pss_cons (ps_asg (pv 5) (pg_sub (pe_fld (pv 0) rfl) (pv 1) set_list))
      (pss_one (ps_ret pe_bl))))), ?_⟩
  obtain ⟨dx, r, d, rs, ds, hfr, hne, hr1, hrs, hd1, hds⟩ := hF.ex
  obtain ⟨ps, hp1, hps⟩ := hP
  obtain ⟨b, hb⟩ := at_len hrs.1 hg
  obtain ⟨pb, hpb⟩ := at_len hps.1 ht
  obtain ⟨hpl, ht3⟩ := hps.2 i pb t hpb ht
  refine ⟨_, rfl, fr, ca.Frame, dx, _, _, rfl, hfr, T.k_Frame.cl, T.k_Frame.no 0, ffs_r, _, rfl, r, _, _, _, rfl, rfl, SqL.of hr1, at_r hb, ?_⟩
  refine ⟨_, rfl, fr, ca.Frame, dx, _, _, rfl, hfr, T.k_Frame.cl, T.k_Frame.no 1, ffs_p, _, rfl, p, _, _, _, rfl, rfl, SqL.of hp1, at_r hpb, ?_⟩
  refine ⟨_, rfl, _, rfl, _, rfl, b, pb, c, g, t, s, n, k, rfl, hrs.2 i b g hb hg, hg7, SqL.of hpl, ht3, hc, hS, fun e H1 s1 => ?_, fun u e H1 w s1 hw => ?_⟩
  · exact ⟨_, rfl, _, rfl, iteT (kN e H1 s1)⟩
  · refine ⟨_, rfl, _, rfl, iteF ?_⟩
    have hp2 := s1 _ _ hp1
    refine ⟨_, rfl, _, rfl, fr, ca.Frame, dx, _, _, rfl, s1 _ _ hfr, T.k_Frame.cl, T.k_Frame.no 1, ffs_p, _, rfl, p, _, _, i, rfl, rfl, hp2, ?_, ?_⟩
    · rw [List.length_map]
      exact ixN_nat (by have := (List.getElem?_eq_some_iff.mp hpb).1; omega)
    · refine kS u e _ (fun b' o nb eb => by rw [upd_ne nb]; exact s1 _ _ eb) ⟨ps.set i w, by rw [upd_same, List.map_set], by rw [List.length_set, List.length_set]; exact hps.1, fun j b' t' e1 e2 => ?_⟩
      have nl : ∀ (x : Addr) (y : List Nat), H1 x = some (lstN y) → y.length = 3 → ∀ o, (upd H1 p o) x = some (lstN y) := fun x y ex ey o => by
        rw [upd_ne (fun z => ?_)]
        · exact ex
        · rw [z, hp2] at ex
          cases y with
          | nil => cases ey
          | cons y0 y =>
            cases ps with
            | nil => cases ex
            | cons p0 ps => cases ex
      have hu3 : u.length = 3 := by rw [Rm.stroke_len e]; exact ht3
      rcases Su.set_get e1 with ⟨z1, rfl⟩ | ⟨z1, e1⟩
      · rcases Su.set_get e2 with ⟨z2, rfl⟩ | ⟨z2, e2⟩
        · exact ⟨nl _ _ hw hu3 _, hu3⟩
        · exact absurd z1 z2
      · rcases Su.set_get e2 with ⟨z2, rfl⟩ | ⟨z2, e2⟩
        · exact absurd z2 z1
        · obtain ⟨h1, h2⟩ := hps.2 j b' t' e1 e2
          exact ⟨nl _ _ (s1 _ _ h1) h2 _, h2⟩
theorem c_Frame_try_act (T : Txt K mg ca) : CalleeM P w K mg base CX0 4 ca.Frame "try_act" ["self", "number", "stroke", "n", "k"] (sp_Frame_try_act K ca) := CalleeM.of T.d_Frame_try_act fun _ _ D => ok_Frame_try_act T D
theorem sc_Sum_carry_from : FnScope ["self", "number"] ["self", "number"] (defScope t_Sum_carry_from) := ⟨rfl, rfl, rfl, by decide +kernel, rfl, by decide +kernel, by decide +kernel⟩
theorem ok_Sum_carry_from (T : Txt K mg ca) (D : MethAt K ca.Sum "carry_from" "Sum.carry_from" t_Sum_carry_from ["self", "number"] f fd) : FnOk P w K mg base (Ex.CX1 P w) 4 f fd ["self", "number"] (sp_Sum_carry_from K ca) := by
  refine Ex.okX D.fn sc_Sum_carry_from (fun vs H Q E h => ?_) (fun cdv A outer s H vs Q E hr h => ?_)
  · obtain ⟨S, P, U, A, op, fr, sk, ru, i, gs, ss, rows, M, H2, rfl, ⟨F, h0⟩, hi, hsl, kO, kS⟩ := h
    rfl
  obtain ⟨S, P, U, A, op, fr, sk, ru, i, gs, ss, rows, M, H2, rfl, ⟨F, h0⟩, hi, hsl, kO, kS⟩ := h
  refine ⟨_, (pss_cons (ps_if (pt_cmp (pc_eqI (pe_op op_add (pv 1) pe_int) (pe_callB (len_s K) (by rfl) T.n_len bt_len (pa_cons (pe_fld (pe_fld (pv 0) rfl) rfl) pa_nil))))
        (pss_one (Ex.ps_raise0 Ex.body_cx rfl rfl T.x_RunsOver))
        pss_nil)
      (pss_one (ps_expr (pe_m T.k_Sum.cl (c_Sum_begin_rule T) hr (by decide) (Ex.pass1 Ex.body_cx) (pv 0) (pa_cons (pe_op op_add (pv 1) pe_int) (pa_cons pe_int pa_nil)))))), ?_⟩
  obtain ⟨dx, hS⟩ := h0.self
  obtain ⟨dxf, r, dd, rs, ds, hfr, _, hr1, hrs, _⟩ := id (sum_fr F h0).ex
  refine ⟨_, rfl, _, _, rfl, rfl, _, rfl, S, ca.Sum, dx, _, _, rfl, hS, T.k_Sum.cl, T.k_Sum.no 1, sfs_fr, fr, ca.Frame, dxf, _, _, rfl, hfr, T.k_Frame.cl, T.k_Frame.no 0, ffs_r, r, _, rfl, .inl (SqL.of hr1), _, _, rfl, rfl, _, rfl, ite2 (fun e => ?_) (fun e => ?_)⟩
  · have e := of_decide_eq_true e
    rw [List.length_map, hrs.1] at e
    exact kO (by omega) H
  · have e : ¬ i + 1 = gs.length := fun z => e (decide_eq_true (by rw [List.length_map, hrs.1]; omega))
    obtain ⟨g, hg⟩ : ∃ g, gs[i + 1]? = some g := ⟨_, List.getElem?_eq_getElem (by omega)⟩
    obtain ⟨t, ht⟩ : ∃ t, M.ts[i + 1]? = some t := ⟨_, List.getElem?_eq_getElem (by rw [h0.plen]; omega)⟩
    obtain ⟨k1, k2⟩ := kS g t hg ht
    exact ⟨_, rfl, S, dx, _, rfl, hS, (by kernel_rfl), _, rfl, _, _, rfl, rfl, S, P, U, A, op, fr, sk, ru, i + 1, 1, gs, ss, rows, M, H2, g, t, rfl, ⟨F, h0⟩, hg, ht, hsl, k1, k2⟩
theorem c_Sum_carry_from (T : Txt K mg ca) : CalleeM P w K mg base (Ex.CX1 P w) 4 ca.Sum "carry_from" ["self", "number"] (sp_Sum_carry_from K ca) := CalleeM.of T.d_Sum_carry_from fun _ _ D => ok_Sum_carry_from T D
theorem sc_make_fault : FnScope ["make", "place", "rod", "rule"] ["make"] (defScope t_make_fault) := ⟨rfl, rfl, rfl, by decide +kernel, rfl, by decide +kernel, by decide +kernel⟩
theorem ok_make_fault (T : Txt K mg ca) (D : DefAt K mg "make_fault" t_make_fault ["make"] f fd) : FnOk P w K mg base CX0 5 f fd ["make"] (sp_make_fault K) := by
  refine D.fn.ok sc_make_fault (fun vs H Q E h => ?_) (fun cdv A outer s H vs Q E hr h => ?_)
  · obtain ⟨a, l, rfl, hs, hl, kN, kS⟩ := h
    rfl
  obtain ⟨a, l, rfl, hs, hl, kN, kS⟩ := h
  refine ⟨_, (pss_cons (ps_if (PW.pt (pw_or (pt_cmp (pc_neI (pe_op op_mod (pe_callB (len_s K) (by rfl) T.n_len bt_len (pa_cons (pv 0) pa_nil)) (pe_gi rfl T.v_NUMBERS_A_ROD)) pe_int)) (pw_or1 (pt_not (pt_chain op_le op_le pe_int (pe_op op_fdiv (pe_callB (len_s K) (by rfl) T.n_len bt_len (pa_cons (pv 0) pa_nil)) (pe_gi rfl T.v_NUMBERS_A_ROD)) (pe_gi rfl T.v_MOST_RODS))))))
        (pss_one (ps_ret (pe_lst (pa_cons (pe_gi rfl T.v_MAKE_LENGTH_RULE) (pa_cons pe_int pa_nil)))))
        pss_nil)
      (pss_cons (ps_for PassesOwn.never rfl (pi_enum rfl T.n_enumerate (pa_cons (pe_c (c_rods_of T) hr (by decide) rfl (pa_cons (pv 0) pa_nil)) pa_nil)) (pg_tup rfl (pgs_cons (pg_name (i := 1) sc_make_fault.nd rfl (by first | exact Or.inl rfl | exact Or.inr rfl)) (pgs_cons (pg_name (i := 2) sc_make_fault.nd rfl (by first | exact Or.inl rfl | exact Or.inr rfl)) pgs_nil)))
        (pss_cons (ps_set (i := 3) sc_make_fault.nd rfl (by first | exact Or.inl rfl | exact Or.inr rfl) (pe_c (c_rule_broken T) hr (by decide) rfl (pa_cons (pv 2) pa_nil)))
        (pss_one (ps_if (pt_cmp (pc_notN (pv 3)))
          (pss_one (ps_ret (pe_lst (pa_cons (pv 3) (pa_cons (pv 1) pa_nil)))))
          pss_nil))))
      (pss_one (ps_ret pe_non)))), ?_⟩
  have bad : ¬ Mm.MakeLen l → ∀ p, H p = none → Q (.ref p) (upd H p (.lst [.int 1, .int 0])) := fun h p hp => kS 1 0 (Mm.make_len h) _ p (Same.new (Same.refl H) hp) upd_same
  have ll := vi_len l
  refine ⟨_, rfl, a, _, rfl, .inl hs, _, _, rfl, rfl, (by show (0 : Int) < 7; decide), _, _, rfl, rfl, _, rfl, ite2 (fun e => ?_) (fun e => ?_)⟩
  · refine ⟨(by show 2 ≤ sizeLine; decide), fun p hp => bad (fun z => ?_) p hp⟩
    have e : (!decide (((((nz l).map V.int).length : Nat) : Int) % 7 = 0)) = true := e
    rw [ll, decide_eq_true (by have := z.1; omega)] at e
    cases e
  · have e : l.length % 7 = 0 := by
      refine Classical.byContradiction fun z => e ?_
      show (!decide (((((nz l).map V.int).length : Nat) : Int) % 7 = 0)) = true
      rw [ll, decide_eq_false (by omega)]
      rfl
    refine ⟨_, rfl, a, _, rfl, .inl hs, _, _, rfl, rfl, ⟨by decide, by decide⟩, _, _, rfl, rfl, _, rfl, ite2 (fun e1 => ?_) (fun e1 => ⟨_, rfl, ?_⟩)⟩
    · have e1 := of_decide_eq_true e1
      rw [ll] at e1
      refine ⟨_, _, rfl, rfl, _, rfl, ite2 (fun e2 => ?_) (fun e2 => ?_)⟩
      · refine ⟨(by show 2 ≤ sizeLine; decide), fun p hp => bad (fun z => ?_) p hp⟩
        have e2 : (!decide (((((nz l).map V.int).length : Nat) : Int) / 7 ≤ 64)) = true := e2
        rw [ll, decide_eq_true (by have := z.2.2; omega)] at e2
        cases e2
      · have e2 : l.length / 7 ≤ 64 := by
          refine Classical.byContradiction fun z => e2 ?_
          show (!decide (((((nz l).map V.int).length : Nat) : Int) / 7 ≤ 64)) = true
          rw [ll, decide_eq_false (by omega)]
          rfl
        have hL : Mm.MakeLen l := ⟨e, by omega, by omega⟩
        refine ⟨_, rfl, a, l, rfl, hs, e, hl, fun H1 p1 gas s1 hp1 hgas => ⟨p1, _, rfl, SqL.of hp1, for_enum (a := p1) (xs := gas.map V.ref) (fun i σ H' => ∃ (v1 v2 v3 : Option V), σ = [some (.ref a), v1, v2, v3] ∧ Same H1 H' ∧ ∀ j, j < i → Na.rodWrong (Mm.grp 7 l j) = 0)
          ⟨none, none, none, rfl, Same.refl H1, fun j hj => by omega⟩ (fun i σ H' _ ⟨_, _, _, _, s2, _⟩ => s2.seq (SqL.of hp1)) ?_ ?_⟩⟩
        · rintro i y p σ H' hi hp ⟨v1, v2, v3, rfl, s2, hg⟩
          obtain ⟨ra, hra, rfl⟩ := map_at hi
          have hil : i < (Na.groups 7 l).length := by
            have := (List.getElem?_eq_some_iff.mp hra).1
            rw [hgas.1] at this
            exact this
          obtain ⟨g, hgg⟩ : ∃ g, (Na.groups 7 l)[i]? = some g := ⟨_, List.getElem?_eq_getElem hil⟩
          obtain ⟨hi7, eg⟩ := (Mm.groups_at (by decide) e).mp hgg
          have hg7 : g.length = 7 := by rw [eg]; exact grp_len hi7
          have s3 : Same H' (upd H' p (.tup [.int (i : Nat), .ref ra])) := Same.new (Same.refl H') hp
          have s13 := s2.trans s3
          refine ⟨p, _, rfl, SqT.of upd_same, rfl, _, _, rfl, _, _, rfl, rfl, ?_⟩
          refine ⟨_, rfl, ra, g, rfl, s13.seq (hgas.2 i ra g hra hgg), hg7, fun e0 H4 s4 => ?_, fun w ew hw0 H4 s4 => ?_⟩
          · refine ⟨_, rfl, _, rfl, iteF ⟨_, _, _, rfl, s13.trans s4, fun j hj => ?_⟩⟩
            by_cases z : j = i
            · rw [z, ← eg]
              exact e0
            · exact hg j (by omega)
          · refine ⟨_, rfl, _, rfl, iteT ?_⟩
            refine ⟨_, rfl, _, rfl, (by show 2 ≤ sizeLine; decide), fun p5 hp5 => kS w i ?_ _ p5 (Same.new ((s1.trans s13).trans s4) hp5) upd_same⟩
            rw [Mm.make_bad hL hi7 (by rw [← eg, ew]; exact hw0) hg, ← eg, ew]
        · rintro σ H' ⟨v1, v2, v3, rfl, s2, hg⟩
          rw [List.length_map, hgas.1, Mm.groups_is (by decide) e, List.length_map, List.length_range] at hg
          exact kN _ (Mm.make_ok hL hg) _ (s1.trans s2)
    · refine ⟨(by show 2 ≤ sizeLine; decide), fun p hp => bad (fun z => e1 (decide_eq_true ?_)) p hp⟩
      rw [ll]
      have := z.1
      have := z.2.1
      omega
theorem c_make_fault (T : Txt K mg ca) : Callee P w K mg base 5 "make_fault" ["make"] (sp_make_fault K) := Callee.of T.d_make_fault fun _ _ D => ok_make_fault T D
theorem cut3 {st : List Nat} {i : Nat} (h : 3 * i + 3 ≤ st.length) : (st.drop (3 * i)).take 3 = Su.three3 st i := by
  unfold Su.three3
  have e : ∀ j, j < 3 → ((st.drop (3 * i)).take 3)[j]? = some (st.getD (3 * i + j) 0) := fun j hj => by
    rw [List.getElem?_take_of_lt hj, List.getElem?_drop, List.getD_eq_getElem?_getD, List.getElem?_eq_getElem (by omega)]
    rfl
  have hl : ((st.drop (3 * i)).take 3).length = 3 := by
    rw [List.length_take, List.length_drop]
    omega
  refine List.ext_getElem? fun j => ?_
  by_cases hj : j < 3
  · rw [e j hj]
    match j, hj with
    | 0, _ => rfl
    | 1, _ => rfl
    | 2, _ => rfl
  · rw [List.getElem?_eq_none (by omega), List.getElem?_eq_none (by show 3 ≤ j; omega)]
theorem sc_Frame_init : FnScope ["self", "make", "standing", "start", "rod"] ["self", "make", "standing"] (defScope t_Frame_init) := ⟨rfl, rfl, rfl, by decide +kernel, rfl, by decide +kernel, by decide +kernel⟩
theorem ok_Frame_init (T : Txt K mg ca) (D : InitAt K mg "Frame" ca.Frame "Frame.__init__" t_Frame_init ["self", "make", "standing"] f fd) : FnOk P w K mg base CX0 5 f fd ["self", "make", "standing"] (sp_Frame_init K ca) := by
  refine D.fn.ok sc_Frame_init (fun vs H Q E h => ?_) (fun cdv A outer s H vs Q E hr h => ?_)
  · obtain ⟨fr, dx, a, c, l, st, rfl, hfr, hs, hm, hl, hg, hc, hcl, q⟩ := h
    rfl
  obtain ⟨fr, dx, a, c, l, st, rfl, hfr, hs, hm, hl, hg, hc, hcl, q⟩ := h
  refine ⟨_, (pss_cons (ps_fld (pv 0) (pe_c (c_rods_of T) hr (by decide) rfl (pa_cons (pv 1) pa_nil)) rfl)
      (pss_cons (ps_fld (pv 0) (pe_lc rfl sc_Frame_init.nd (pi_range3 rfl T.n_range (pa_cons pe_int (pa_cons (pe_callB (len_s K) (by rfl) T.n_len bt_len (pa_cons (pv 2) pa_nil)) (pa_cons (pe_gi rfl T.v_DECKS) pa_nil)))) (blkOk_by (N := ["self", "make", "standing", "start", "rod"]) (sc := defScope t_Frame_init) (own := [("start", 3)]) (by decide +kernel)) (fun _ _ _ _ _ => (pg_name (i := 3) sc_Frame_init.nd rfl (by first | exact Or.inl rfl | exact Or.inr rfl))) (fun _ _ _ _ _ => pts_nil) (fun _ _ _ _ _ => (pe_slice (sl_l K) (pv 2) (po_some (pv 3)) (po_some (pe_op op_add (pv 3) (pe_gi rfl T.v_DECKS)))))) rfl)
      (pss_one (ps_fld (pv 0) (pe_lc rfl sc_Frame_init.nd (pi_list (pe_fld (pv 0) rfl)) (blkOk_by (N := ["self", "make", "standing", "start", "rod"]) (sc := defScope t_Frame_init) (own := [("rod", 4)]) (by decide +kernel)) (fun _ _ _ _ _ => (pg_name (i := 4) sc_Frame_init.nd rfl (by first | exact Or.inl rfl | exact Or.inr rfl))) (fun _ _ _ _ _ => pts_nil) (fun _ _ _ _ _ => (pe_c (c_digits_by_form T) hr (by decide) rfl (pa_cons (pv 4) pa_nil)))) rfl)))), ?_⟩
  have hgl := groups_le hm hl
  refine ⟨_, rfl, a, l, rfl, hs, hm, hl, fun H1 r rs s1 hr1 hrs => ?_⟩
  have hfr1 := s1 _ _ hfr
  refine ⟨_, rfl, fr, ca.Frame, dx, _, rfl, hfr1, T.k_Frame.cl, T.k_Frame.no 0, (by show 0 < 1000; decide), ?_⟩
  have l1 := putF_len "rods" (.ref r) []
  have l2 : ∀ D, (putF "pushed" (.ref D) (putF "rods" (.ref r) [])).length ≤ 2 := fun D => Nat.le_trans (putF_len _ _ _) (Nat.add_le_add_right l1 1)
  have k2 : ∀ b o, b ≠ fr → H1 b = some o → (upd H1 fr (.ins ca.Frame dx (putF "rods" (.ref r) []))) b = some o := fun b o nb e => by rw [upd_ne nb]; exact e
  have hfr2 : (upd H1 fr (.ins ca.Frame dx (putF "rods" (.ref r) []))) fr = some (.ins ca.Frame dx (putF "rods" (.ref r) [])) := upd_same
  generalize upd H1 fr (.ins ca.Frame dx (putF "rods" (.ref r) [])) = H2 at k2 hfr2 ⊢
  refine ⟨_, rfl, c, _, rfl, .inl (SqL.keepI hfr1 (s1.seq hc) k2), 0, _, 3, _, rfl, (by rw [vi_len]; exact rgC (n := st.length / 3) (by decide) (by decide) (by decide) (by decide) (by omega) (by omega) (by split <;> omega)), fun D hD => ?_⟩
  have nrf : r ≠ fr := ne_of hr1 hfr1 (by intro z; cases z)
  have hr2 := k2 _ _ nrf hr1
  have nrD : r ≠ D := ne_of_none hr2 hD
  refine lc_rangeC (lo := 0) (c := 3) (n := st.length / 3) (fun i H' => ∃ as : List Addr, Same H2 H' ∧ H' D = some (.lst (as.map V.ref)) ∧ Own D H' as ((List.range i).map (Su.three3 st)))
    ⟨[], Same.new (Same.refl H2) hD, upd_same, rfl, fun j b g e => by simp at e⟩ ?_ ?_
  · rintro i H' hi ⟨as, s3, hd, ho⟩
    refine ⟨rfl, ?_⟩
    refine ⟨_, rfl, _, rfl, _, rfl, _, rfl, _, _, rfl, rfl, _, rfl, c, _, rfl, s3.seq (SqL.keepI hfr1 (s1.seq hc) k2), fun p hp => ?_⟩
    have np : p ≠ D := fun z => by rw [z, hd] at hp; cases hp
    rw [cut_n (u := 3 * i) (v := 3 * i + 3) (by omega) (by omega)]
    refine ⟨_, (by rw [upd_ne (ne_of_none hd hp)]; exact hd), ?_, as ++ [p], ?_, ?_, ?_⟩
    · rw [List.length_map, ho.1, List.length_map, List.length_range]
      exact line_lt (by omega)
    · exact Same.put (Same.new s3 hp) hD
    · rw [List.map_append]
      exact upd_same
    · rw [range_snoc]
      refine ho.snoc (fun b o nb e => ?_) np ?_
      · rw [upd_ne nb, upd_ne (ne_of_none e hp)]
        exact e
      · rw [upd_ne np, upd_same, Nat.add_sub_cancel_left, cut3 (by omega)]
  · rintro H3 ⟨as, s3, hd3, ho⟩
    have hfr3 := s3 _ _ hfr2
    refine ⟨_, rfl, fr, ca.Frame, dx, _, rfl, hfr3, T.k_Frame.cl, T.k_Frame.no 1, Nat.lt_of_le_of_lt l1 (by show 0 + 1 < 1000; decide), ?_⟩
    have k4 : ∀ b o, b ≠ fr → H3 b = some o → (upd H3 fr (.ins ca.Frame dx (putF "pushed" (.ref D) (putF "rods" (.ref r) [])))) b = some o := fun b o nb e => by rw [upd_ne nb]; exact e
    have hfr4 : (upd H3 fr (.ins ca.Frame dx (putF "pushed" (.ref D) (putF "rods" (.ref r) [])))) fr = some (.ins ca.Frame dx (putF "pushed" (.ref D) (putF "rods" (.ref r) []))) := upd_same
    generalize upd H3 fr (.ins ca.Frame dx (putF "pushed" (.ref D) (putF "rods" (.ref r) []))) = H4 at k4 hfr4 ⊢
    have k14 : ∀ b o, b ≠ fr → H1 b = some o → H4 b = some o := fun b o nb e => k4 b o nb (s3 _ _ (k2 b o nb e))
    have hr4 := k14 _ _ nrf hr1
    have hls4 : Lists K H4 rs (Na.groups 7 l) := Lists.keepI hrs hfr1 k14
    refine ⟨_, rfl, fr, ca.Frame, dx, _, _, rfl, hfr4, T.k_Frame.cl, T.k_Frame.no 0, (by kernel_rfl), r, rfl, ⟨_, SqL.of hr4⟩, fun D2 hD2 => ?_⟩
    refine lc_list (a := r) (xs := rs.map V.ref) (fun i H' => ∃ ds : List Addr, Same H4 H' ∧ H' D2 = some (.lst (ds.map V.ref)) ∧ DigsAt H' ds ((Na.groups 7 l).take i))
      ⟨[], Same.new (Same.refl H4) hD2, upd_same, rfl, fun j b g e => by simp at e⟩ (fun i H' _ ⟨_, s5, _⟩ => SqL.of (s5 _ _ hr4)) ?_ ?_
    · rintro i x H' hi ⟨ds, s5, hd, hdg⟩
      obtain ⟨b, hb, rfl⟩ := map_at hi
      obtain ⟨g, hgi⟩ := at_len hls4.1.symm hb
      obtain ⟨g7, gR, gW⟩ := hg g (List.mem_of_getElem? hgi)
      refine ⟨rfl, ?_⟩
      refine ⟨_, rfl, b, g, rfl, s5.seq (hls4.2 i b g hb hgi), g7, gR, gW, fun H5 f kvs s6 hf5 hdig => ?_⟩
      have hil : i < (Na.groups 7 l).length := (List.getElem?_eq_some_iff.mp hgi).1
      have hdl : ds.length = i := by rw [hdg.1, List.length_take]; omega
      refine ⟨_, s6 _ _ hd, line_lt (by rw [List.length_map]; omega), ds ++ [f], Same.put (s5.trans s6) hD2, ?_, ?_, ?_⟩
      · rw [List.map_append]
        exact upd_same
      · rw [List.length_append, hdl, List.length_take]
        show i + 1 = _
        omega
      · intro j b' g' e1 e2
        rw [take_snoc hgi] at e2
        have kd : ∀ b kvs, H5 b = some (.dT kvs) → ∀ o, (upd H5 D2 (.lst o)) b = some (.dT kvs) := fun b kvs e o => by
          rw [upd_ne (ne_of e (s6 _ _ hd) (by intro z; cases z))]
          exact e
        rcases get_snoc e1 with ⟨j1, e1⟩ | ⟨j1, rfl⟩
        · rcases get_snoc e2 with ⟨j2, e2⟩ | ⟨j2, e2⟩
          · obtain ⟨kv, h1, h2⟩ := hdg.2 j b' g' e1 e2
            exact ⟨kv, kd _ _ (s6 _ _ h1) _, h2⟩
          · rw [List.length_take] at j2
            omega
        · rcases get_snoc e2 with ⟨j2, e2⟩ | ⟨j2, e2⟩
          · rw [List.length_take] at j2
            omega
          · rw [e2]
            exact ⟨kvs, kd _ _ hf5 _, hdig⟩
    · rintro H6 ⟨ds, s5, hd6, hdg⟩
      rw [List.length_map, hls4.1, List.take_length] at hdg
      have hfr6 := s5 _ _ hfr4
      refine ⟨_, rfl, fr, ca.Frame, dx, _, rfl, hfr6, T.k_Frame.cl, T.k_Frame.no 2, Nat.lt_of_le_of_lt (l2 D) (by decide), ?_⟩
      have k7 : ∀ b o, b ≠ fr → H6 b = some o → (upd H6 fr (.ins ca.Frame dx (putF "digits" (.ref D2) (putF "pushed" (.ref D) (putF "rods" (.ref r) []))))) b = some o := fun b o nb e => by rw [upd_ne nb]; exact e
      have k17 : ∀ b o, b ≠ fr → H1 b = some o → (upd H6 fr (.ins ca.Frame dx (putF "digits" (.ref D2) (putF "pushed" (.ref D) (putF "rods" (.ref r) []))))) b = some o := fun b o nb e => k7 b o nb (s5 _ _ (k14 b o nb e))
      have nDf : D ≠ fr := ne_of hd3 hfr3 (by intro z; cases z)
      have hD4 := k4 _ _ nDf hd3
      refine q _ D (fun b o nb e => k17 b o nb (s1 _ _ e)) ?_ ⟨dx, r, D2, rs, ds, ?_, ⟨nrD, fun z => ?_⟩, k17 _ _ nrf hr1, Lists.keepI hrs hfr1 k17, k7 _ _ (ne_of hd6 hfr6 (by intro z; cases z)) hd6, hdg.1, fun j b g e1 e2 => ?_⟩ ⟨as, k7 _ _ nDf (s5 _ _ hD4), ?_, fun j b t e1 e2 => ?_⟩
      · cases e : H D with
        | none => rfl
        | some o =>
          have := k2 _ _ nDf (s1 _ _ e)
          rw [hD] at this
          cases this
      · refine upd_same.trans ?_
        congr 2
      · rw [← z, hD2] at hD4
        cases hD4
      · obtain ⟨kv, h1, h2⟩ := hdg.2 j b g e1 e2
        exact ⟨kv, k7 _ _ (ne_of h1 hfr6 (by intro z; cases z)) h1, h2⟩
      · rw [ho.1, List.length_map, List.length_map, List.length_range, List.length_range]
        omega
      · have e3 : ((List.range (st.length / 3)).map (Su.three3 st))[j]? = some t := by
          rw [show st.length / 3 = (Na.groups 7 l).length by omega]
          exact e2
        obtain ⟨n1, h1⟩ := ho.2 j b t e1 e3
        have nb : b ≠ fr := ne_of h1 hfr3 (by intro z; cases z)
        refine ⟨k7 _ _ nb (s5 _ _ (k4 _ _ nb h1)), ?_⟩
        rw [List.getElem?_map] at e2
        obtain ⟨i, _, rfl⟩ := Option.map_eq_some_iff.mp e2
        rfl
theorem c_Frame_init (T : Txt K mg ca) : CalleeI P w K mg base 5 "Frame" ca.Frame ["self", "make", "standing"] (sp_Frame_init K ca) := CalleeI.of T.d_Frame_init fun _ _ D => ok_Frame_init T D
theorem sc_Sum_act_on : FnScope ["self", "number", "step", "stroke"] ["self", "number", "step"] (defScope t_Sum_act_on) := ⟨rfl, rfl, rfl, by decide +kernel, rfl, by decide +kernel, by decide +kernel⟩
theorem ok_Sum_act_on (T : Txt K mg ca) (D : MethAt K ca.Sum "act_on" "Sum.act_on" t_Sum_act_on ["self", "number", "step"] f fd) : FnOk P w K mg base (Ex.CX1 P w) 5 f fd ["self", "number", "step"] (sp_Sum_act_on K ca) := by
  refine Ex.okX D.fn sc_Sum_act_on (fun vs H Q E h => ?_) (fun cdv A outer s H vs Q E hr h => ?_)
  · obtain ⟨S, P, U, A, c, op, fr, sk, ru, i, gs, ss, rows, M, H2, s, g, t, rfl, ⟨F, h0⟩, hc, hg, ht, hal, kN, kS⟩ := h
    rfl
  obtain ⟨S, P, U, A, c, op, fr, sk, ru, i, gs, ss, rows, M, H2, s, g, t, rfl, ⟨F, h0⟩, hc, hg, ht, hal, kN, kS⟩ := h
  refine ⟨_, (pss_cons (ps_set (i := 3) sc_Sum_act_on.nd rfl (by first | exact Or.inl rfl | exact Or.inr rfl) (pe_ix (ix_t K) (pv 2) pe_int (fun _ _ => rfl)))
      (pss_cons (ps_if (PW.pt (pw_or (pt_cmp (pc_ge (pv 3) (pe_callB (len_s K) (by rfl) T.n_len bt_len (pa_cons (pe_fld (pv 0) rfl) pa_nil)))) (pw_or1 (pt_not (pt_val (pe_m T.k_Frame.cl (c_Frame_try_act T) hr (by decide) pass0 (pe_fld (pv 0) rfl) (pa_cons (pv 1) (pa_cons (pe_ix (ix_l K) (pe_fld (pv 0) rfl) (pv 3) (fun _ _ => rfl)) (pa_cons (pe_ix (ix_t K) (pv 2) pe_int (fun _ _ => rfl)) (pa_cons (pe_ix (ix_t K) (pv 2) pe_int (fun _ _ => rfl)) pa_nil))))))))))
        (pss_one (Ex.ps_raise0 Ex.body_cx rfl rfl T.x_GoesWrong))
        pss_nil)
      (pss_one (ps_expr (pe_bm PySem.F.plainAttrs_list PySem.F.slot_list_append PySem.F.type_list_append mt_append (pe_fld (pv 0) rfl) (pa_cons (pe_lst (pa_cons (pv 1) (pa_cons (pv 3) (pa_cons (pe_ix (ix_t K) (pv 2) pe_int (fun _ _ => rfl)) (pa_cons (pe_ix (ix_t K) (pv 2) pe_int (fun _ _ => rfl)) pa_nil))))) pa_nil)))))), ?_⟩
  obtain ⟨dx, hS⟩ := h0.self
  obtain ⟨dxf, r, dd, rs, ds, hfr, _, hr1, hrs, _⟩ := id (sum_fr F h0).ex
  obtain ⟨as, hsk, hls⟩ := sum_sk F h0
  refine ⟨_, rfl, c, _, _, _, rfl, rfl, SqT.of hc, rfl, ?_⟩
  refine ⟨_, rfl, _, rfl, S, ca.Sum, dx, _, _, rfl, hS, T.k_Sum.cl, T.k_Sum.no 2, sfs_sk, sk, _, rfl, .inl (SqL.of hsk), _, _, rfl, rfl, _, rfl, ite2 (fun e => ?_) (fun e => ?_)⟩
  · have e := of_decide_eq_true e
    rw [List.length_map, hls.1] at e
    exact kN (List.getElem?_eq_none (by omega)) H
  · have e : s.1 < ss.length := Classical.byContradiction fun z => e (decide_eq_true (by rw [List.length_map, hls.1]; omega))
    obtain ⟨k, hk⟩ : ∃ k, ss[s.1]? = some k := ⟨_, List.getElem?_eq_getElem e⟩
    obtain ⟨kb, hkb⟩ := at_len hls.1 hk
    obtain ⟨q1, q2⟩ := kS k hk
    refine ⟨_, rfl, S, ca.Sum, dx, _, _, rfl, hS, T.k_Sum.cl, T.k_Sum.no 1, sfs_fr, fr, dxf, _, rfl, hfr, (by kernel_rfl), _, rfl, ?_⟩
    refine ⟨_, rfl, S, ca.Sum, dx, _, _, rfl, hS, T.k_Sum.cl, T.k_Sum.no 2, sfs_sk, _, rfl, sk, _, _, _, rfl, rfl, SqL.of hsk, at_r hkb, _, rfl, c, _, _, _, rfl, rfl, SqT.of hc, rfl, _, rfl, c, _, _, _, rfl, rfl, SqT.of hc, rfl, ?_⟩
    refine ⟨fr, P, kb, i, s.2.1, s.2.2, gs, M.ts, g, t, k, rfl, sum_fr F h0, h0.pu, hg, (F.good g (List.mem_of_getElem? hg)).1, ht, hls.2 _ kb k hkb hk, F.sin k (List.mem_of_getElem? hk), fun en H1 s1 => ?_, fun u eu H1 k1 hpu => ?_⟩
    · exact ⟨_, rfl, ite2 (fun _ => q1 en H1) (fun z => absurd rfl z)⟩
    · refine ⟨_, rfl, ite2 (fun z => by cases z) (fun _ => ?_)⟩
      have h1 := h0.setP k1 hpu (by rw [List.length_set]; exact h0.plen)
      obtain ⟨dx1, hS1⟩ := h1.self
      obtain ⟨aa, hA1, hrow⟩ := id h1.act
      obtain ⟨ps, hP0, _⟩ := id h0.pu
      have hc1 : H1 c = some (.tup [.int (s.1 : Nat), .int (s.2.1 : Nat), .int (s.2.2 : Nat)]) := k1 _ _ (ne_of hc hP0 (by intro z; cases z)) hc
      refine ⟨_, rfl, S, ca.Sum, dx1, _, _, rfl, hS1, T.k_Sum.cl, T.k_Sum.no 6, sfs_a, .inl ⟨rfl, _, SqL.of hA1⟩, ?_⟩
      refine ⟨_, rfl, _, rfl, _, rfl, c, _, _, _, rfl, rfl, SqT.of hc1, rfl, _, rfl, c, _, _, _, rfl, rfl, SqT.of hc1, rfl, (by show 4 ≤ sizeLine; decide), fun L hL => ?_⟩
      have sL := Same.new (o := lstN [i, s.1, s.2.1, s.2.2]) (Same.refl H1) hL
      have h2 := h1.same sL
      have hl2 : M.acts.length ≤ 65536 := Nat.le_trans h0.alen h0.nlen
      refine ⟨A, aa.map V.ref, _, rfl, rfl, sL _ _ hA1, line_lt (by rw [List.length_map, hrow.1]; exact Nat.le_trans hl2 (by decide)), ?_⟩
      have e1 : aa.map V.ref ++ [V.ref L] = (aa ++ [L]).map V.ref := by rw [List.map_append]; rfl
      rw [e1]
      exact q2 u eu _ (h2.addA (acts := M.acts ++ [[i, s.1, s.2.1, s.2.2]]) ((hrow.mono fun b t e _ => sL _ _ e).snoc upd_same rfl) (by rw [List.length_append]; simp only [List.length_cons, List.length_nil]; exact hal))
theorem c_Sum_act_on (T : Txt K mg ca) : CalleeM P w K mg base (Ex.CX1 P w) 5 ca.Sum "act_on" ["self", "number", "step"] (sp_Sum_act_on K ca) := CalleeM.of T.d_Sum_act_on fun _ _ D => ok_Sum_act_on T D
theorem sc_Sum_go_on : FnScope ["self", "rule", "step"] ["self"] (defScope t_Sum_go_on) := ⟨rfl, rfl, rfl, by decide +kernel, rfl, by decide +kernel, by decide +kernel⟩
theorem ok_Sum_go_on (T : Txt K mg ca) (D : MethAt K ca.Sum "go_on" "Sum.go_on" t_Sum_go_on ["self"] f fd) : FnOk P w K mg base (Ex.CX1 P w) 6 f fd ["self"] (sp_Sum_go_on K ca) := by
  refine Ex.okX D.fn sc_Sum_go_on (fun vs H Q E h => ?_) (fun cdv A outer s H vs Q E hr h => ?_)
  · obtain ⟨S, P, U, A, op, fr, sk, ru, gs, ss, rows, M, H2, r, i, st, b, rfl, ⟨F, h0⟩, hM, hb, hi, hsl, kE, kS⟩ := h
    rfl
  obtain ⟨S, P, U, A, op, fr, sk, ru, gs, ss, rows, M, H2, r, i, st, b, rfl, ⟨F, h0⟩, hM, hb, hi, hsl, kE, kS⟩ := h
  have hu64 := hr.units
  refine ⟨_, (pss_cons (ps_set (i := 1) sc_Sum_go_on.nd rfl (by first | exact Or.inl rfl | exact Or.inr rfl) (pe_ix (ix_l K) (pe_fld (pv 0) rfl) (pe_un un_neg pe_int) (fun _ _ => rfl)))
      (pss_cons (ps_if (pt_cmp (pc_eqI (pe_fld (pv 1) rfl) (pe_callB (len_s K) (by rfl) T.n_len bt_len (pa_cons (pe_fld (pv 1) rfl) pa_nil))))
        (pss_cons (ps_expr (pe_bm0 PySem.F.plainAttrs_list PySem.F.slot_list_pop PySem.F.type_list_pop mt_pop (pe_fld (pv 0) rfl)))
        (pss_one ps_retN))
        pss_nil)
      (pss_cons (ps_if (pt_cmp (pc_eqI (pe_fld (pv 0) rfl) (pe_gi rfl T.v_MOST_STEPS_A_SUM)))
        (pss_one (Ex.ps_raise0 Ex.body_cx rfl rfl T.x_TooLong))
        pss_nil)
      (pss_cons (ps_set (i := 2) sc_Sum_go_on.nd rfl (by first | exact Or.inl rfl | exact Or.inr rfl) (pe_ix (ix_l K) (pe_fld (pv 1) rfl) (pe_fld (pv 1) rfl) (fun _ _ => rfl)))
      (pss_cons (ps_fldaug (pv 1) pe_int in_add)
      (pss_cons (ps_fldaug (pv 0) pe_int in_add)
      (pss_one (ps_if (pt_cmpR (eq_d K hu64) (pv 2) (pe_gt rfl T.v_CARRY) (nomark _))
        (pss_one (ps_expr (pe_m T.k_Sum.cl (c_Sum_carry_from T) hr (by decide) (Ex.pass1 Ex.body_cx) (pv 0) (pa_cons (pe_fld (pv 1) rfl) pa_nil))))
        (pss_one (ps_expr (pe_m T.k_Sum.cl (c_Sum_act_on T) hr (by decide) (Ex.pass1 Ex.body_cx) (pv 0) (pa_cons (pe_fld (pv 1) rfl) (pa_cons (pv 2) pa_nil))))))))))))), ?_⟩
  obtain ⟨dx, hS⟩ := h0.self
  obtain ⟨us0, hU, nd, hun⟩ := id h0.und
  rw [hM] at hun
  obtain ⟨us, u, rfl⟩ : ∃ us u, us0 = us ++ [u] := by
    have hl := hun.1
    rw [List.length_append] at hl
    rcases List.eq_nil_or_concat us0 with z | ⟨us, u, z⟩
    · rw [z] at hl
      simp at hl
    · exact ⟨us, u, by rw [z, List.concat_eq_append]⟩
  have hul : us.length = r.length := by
    have := hun.1
    rw [List.length_append, List.length_append] at this
    simpa using this
  obtain ⟨hnu, dxu, s, ts, hu1, hs1, hs2, hs3⟩ := hun.2 us.length u (i, st, b) (by rw [List.getElem?_append_right (Nat.le_refl _), Nat.sub_self]; rfl) (by rw [List.getElem?_append_right (by omega), hul, Nat.sub_self]; rfl)
  obtain ⟨cc, dd2, ff2, hSS⟩ := F.nS
  have nuS : u ≠ S := fun z => by rw [z, hSS] at hnu; cases hnu
  have eU : (us ++ [u]).map V.ref = us.map V.ref ++ [V.ref u] := by rw [List.map_append]; rfl
  refine ⟨_, rfl, S, ca.Sum, dx, _, _, rfl, hS, T.k_Sum.cl, T.k_Sum.no 4, sfs_u, _, rfl, U, _, _, _, rfl, rfl, SqL.of hU, (by rw [eU]; exact atI_last _ _), ?_⟩
  refine ⟨_, rfl, u, ca.RuleUnderWay, dxu, _, _, rfl, hu1, T.k_RuleUnderWay.cl, T.k_RuleUnderWay.no 2, rfs_b, _, rfl, u, ca.RuleUnderWay, dxu, _, _, rfl, hu1, T.k_RuleUnderWay.cl, T.k_RuleUnderWay.no 1, rfs_s, s, _, rfl, .inl (SqL.of hs2), _, _, rfl, rfl, _, rfl, ite2 (fun e => ?_) (fun e => ?_)⟩
  · have e : b = st.length := by
      have e := of_decide_eq_true e
      rw [List.length_map, hs3.1] at e
      have e : (b : Int) = (st.length : Nat) := e
      omega
    refine ⟨_, rfl, S, ca.Sum, dx, _, _, rfl, hS, T.k_Sum.cl, T.k_Sum.no 4, sfs_u, .inl ⟨rfl, _, SqL.of hU⟩, U, _, V.ref u, rfl, rfl, hU, ?_, ?_⟩
    · rw [List.length_map, List.length_append]
      show ((us ++ [u]).map V.ref)[us.length + 1 - 1]? = _
      rw [List.getElem?_map, Nat.add_sub_cancel, List.getElem?_append_right (Nat.le_refl _), Nat.sub_self]
      rfl
    · have ed : ((us ++ [u]).map V.ref).dropLast = us.map V.ref := by rw [eU, List.dropLast_concat]
      rw [ed]
      have hn : goN gs ss rows op M.ts M.acts M.n r i st b = .ok ⟨M.ts, M.acts, M.n, r⟩ := by
        unfold goN
        rw [List.getElem?_eq_none (by omega)]
      refine kS _ hn _ (h0.setU (st := r) (List.nodup_append.mp nd).1 ⟨hul, fun j v x e1 e2 => hun.2 j v x (by rw [List.getElem?_append_left (List.getElem?_eq_some_iff.mp e1).1]; exact e1) (by rw [List.getElem?_append_left (List.getElem?_eq_some_iff.mp e2).1]; exact e2)⟩ ?_)
      rw [hM, List.length_append] at hsl
      omega
  · have e : b < st.length := by
      have : b ≠ st.length := fun z => e (decide_eq_true (by rw [List.length_map, hs3.1, z]))
      omega
    obtain ⟨sp, hsp⟩ : ∃ sp, st[b]? = some sp := ⟨_, List.getElem?_eq_getElem e⟩
    obtain ⟨tb, htb⟩ := at_len hs3.1 hsp
    have htup := hs3.2 b tb sp htb hsp
    have go : goN gs ss rows op M.ts M.acts M.n r i st b = if M.n = 65536 then .error .long else if Rm.isC sp = true then beginN gs rows op (i + 1) 1 ⟨M.ts, M.acts, M.n + 1, r ++ [(i, st, b + 1)]⟩ else match ss[sp.1]?, gs[i]?, M.ts[i]? with
      | some k, some g, some t => match Rm.stroke3 (Rm.bsOf g) t k sp.2.1 sp.2.2 with
        | some u => .ok ⟨M.ts.set i u, M.acts ++ [[i, sp.1, sp.2.1, sp.2.2]], M.n + 1, r ++ [(i, st, b + 1)]⟩
        | none => .error .wrong
      | _, _, _ => .error .wrong := by
      unfold goN
      rw [hsp] <;> rfl
    rw [go] at kE kS
    refine ⟨_, rfl, S, ca.Sum, dx, _, _, rfl, hS, T.k_Sum.cl, T.k_Sum.no 5, sfs_n, _, _, rfl, rfl, _, rfl, ite2 (fun e1 => ?_) (fun e1 => ?_)⟩
    · have e1 : M.n = 65536 := by
        have := of_decide_eq_true e1
        omega
      rw [if_pos e1] at kE
      exact kE .long rfl H
    · have e1 : ¬ M.n = 65536 := fun z => e1 (decide_eq_true (by omega))
      rw [if_neg e1] at kE kS
      refine ⟨_, rfl, u, ca.RuleUnderWay, dxu, _, _, rfl, hu1, T.k_RuleUnderWay.cl, T.k_RuleUnderWay.no 1, rfs_s, _, rfl, u, ca.RuleUnderWay, dxu, _, _, rfl, hu1, T.k_RuleUnderWay.cl, T.k_RuleUnderWay.no 2, rfs_b, s, _, _, _, rfl, rfl, SqL.of hs2, at_r htb rfl, ?_⟩
      refine ⟨_, rfl, u, ca.RuleUnderWay, dxu, _, _, rfl, hu1, T.k_RuleUnderWay.cl, T.k_RuleUnderWay.no 2, rfs_b, _, _, rfl, rfl, dxu, _, hu1, (by show 3 < 1000; decide), ?_⟩
      rw [rfs_setB]
      have h1 := h0.setB hU nd hun hM ⟨hs1, hs2, hs3⟩ (b' := b + 1) hu1
      have hu2 : (upd H u (.ins ca.RuleUnderWay dxu (rfs i s (b + 1)))) u = some (.ins ca.RuleUnderWay dxu (rfs i s (b + 1))) := upd_same
      have htup1 : (upd H u (.ins ca.RuleUnderWay dxu (rfs i s (b + 1)))) tb = _ := (upd_ne (ne_of htup hu1 (by intro z; cases z))).trans htup
      generalize upd H u (.ins ca.RuleUnderWay dxu (rfs i s (b + 1))) = H1 at h1 hu2 htup1 ⊢
      obtain ⟨dx1, hS1⟩ := h1.self
      refine ⟨_, rfl, S, ca.Sum, dx1, _, _, rfl, hS1, T.k_Sum.cl, T.k_Sum.no 5, sfs_n, _, _, rfl, rfl, dx1, _, hS1, (by show 7 < 1000; decide), ?_⟩
      rw [sfs_setN]
      have hal := h0.alen
      have hnl := h0.nlen
      have h2 := h1.setN (dx := dx1) (n := M.n + 1) (by show M.acts.length ≤ _; omega) (by omega)
      have hu3 : (upd H1 S (.ins ca.Sum dx1 (sfs op fr sk ru U (M.n + 1) A))) u = some (.ins ca.RuleUnderWay dxu (rfs i s (b + 1))) := (upd_ne nuS).trans hu2
      have htup2 : (upd H1 S (.ins ca.Sum dx1 (sfs op fr sk ru U (M.n + 1) A))) tb = _ := (upd_ne (ne_of htup1 hS1 (by intro z; cases z))).trans htup1
      have hS2 : (upd H1 S (.ins ca.Sum dx1 (sfs op fr sk ru U (M.n + 1) A))) S = some (.ins ca.Sum dx1 (sfs op fr sk ru U (M.n + 1) A)) := upd_same
      generalize upd H1 S (.ins ca.Sum dx1 (sfs op fr sk ru U (M.n + 1) A)) = H3 at h2 hu3 htup2 hS2 ⊢
      have h2 : SumAt ca.Sum ca.RuleUnderWay H2 H3 S P U A op fr sk ru gs ⟨M.ts, M.acts, M.n + 1, r ++ [(i, st, b + 1)]⟩ := h2
      have hsl2 : (r ++ [(i, st, b + 1)]).length < 131072 := by
        rw [hM, List.length_append] at hsl
        rw [List.length_append]
        exact hsl
      refine ⟨_, rfl, fun cr hcr => ⟨_, _, dpT (SqT.of htup2), dpT hcr, rfl, rfl, _, rfl, ?_⟩⟩
      rw [eqvT]
      refine ite2 (fun ez => ?_) (fun ez => ?_)
      · have ez := of_decide_eq_true ez
        have ei : Rm.isC sp = true := by
          unfold Rm.isC
          simp only [Bool.and_eq_true, beq_iff_eq]
          omega
        rw [if_pos ei] at kE kS
        refine ⟨_, rfl, S, dx1, _, rfl, hS2, (by kernel_rfl), _, rfl, u, ca.RuleUnderWay, dxu, _, _, rfl, hu3, T.k_RuleUnderWay.cl, T.k_RuleUnderWay.no 0, rfs_i, S, P, U, A, op, fr, sk, ru, i, gs, ss, rows, ⟨M.ts, M.acts, M.n + 1, r ++ [(i, st, b + 1)]⟩, H2, rfl, ⟨F, h2⟩, hi, hsl2, fun eo H' => ?_, fun g t hg ht => ⟨fun hn H' => ?_, fun hy H' h' => ?_⟩⟩
        · refine kE .over ?_ H'
          unfold beginN
          rw [List.getElem?_eq_none (by omega)]
        · refine kE .wrong ?_ H'
          unfold beginN
          rw [hg]
          dsimp only
          rw [show M.ts[i + 1]? = some t from ht]
          dsimp only
          rw [if_neg hn]
        · refine kS _ ?_ H' h'
          unfold beginN
          rw [hg]
          dsimp only
          rw [show M.ts[i + 1]? = some t from ht]
          dsimp only
          rw [if_pos hy]
      · have ei : ¬ Rm.isC sp = true := fun z => ez (decide_eq_true (by
          unfold Rm.isC at z
          simp only [Bool.and_eq_true, beq_iff_eq] at z
          omega))
        rw [if_neg ei] at kE kS
        obtain ⟨g, hg⟩ : ∃ g, gs[i]? = some g := ⟨_, List.getElem?_eq_getElem hi⟩
        obtain ⟨t, ht⟩ : ∃ t, M.ts[i]? = some t := ⟨_, List.getElem?_eq_getElem (by rw [h0.plen]; exact hi)⟩
        rw [hg, ht] at kE kS
        refine ⟨_, rfl, S, dx1, _, rfl, hS2, (by kernel_rfl), _, rfl, u, ca.RuleUnderWay, dxu, _, _, rfl, hu3, T.k_RuleUnderWay.cl, T.k_RuleUnderWay.no 0, rfs_i, _, rfl, S, P, U, A, tb, op, fr, sk, ru, i, gs, ss, rows, ⟨M.ts, M.acts, M.n + 1, r ++ [(i, st, b + 1)]⟩, H2, sp, g, t, rfl, ⟨F, h2⟩, htup2, hg, ht, by show M.acts.length < M.n + 1; omega, fun en H' => ?_, fun k hk => ⟨fun en H' => ?_, fun w ew H' h' => ?_⟩⟩
        · refine kE .wrong ?_ H'
          rw [en]
        · refine kE .wrong ?_ H'
          rw [hk]
          dsimp only
          rw [en]
        · refine kS _ ?_ H' h'
          rw [hk]
          dsimp only
          rw [ew]
theorem c_Sum_go_on (T : Txt K mg ca) : CalleeM P w K mg base (Ex.CX1 P w) 6 ca.Sum "go_on" ["self"] (sp_Sum_go_on K ca) := CalleeM.of T.d_Sum_go_on fun _ _ D => ok_Sum_go_on T D
theorem sc_Sum_do_digit : FnScope ["self", "number", "d"] ["self", "number", "d"] (defScope t_Sum_do_digit) := ⟨rfl, rfl, rfl, by decide +kernel, rfl, by decide +kernel, by decide +kernel⟩
theorem ok_Sum_do_digit (T : Txt K mg ca) (D : MethAt K ca.Sum "do_digit" "Sum.do_digit" t_Sum_do_digit ["self", "number", "d"] f fd) : FnOk P w K mg base (Ex.CX1 P w) 7 f fd ["self", "number", "d"] (sp_Sum_do_digit K ca) := by
  refine Ex.okX D.fn sc_Sum_do_digit (fun vs H Q E h => ?_) (fun cdv A outer s H vs Q E hr h => ?_)
  · obtain ⟨S, P, U, A, op, fr, sk, ru, i, d, gs, ss, rows, M, H2, W, o, s, rfl, ⟨F, h0⟩, hst, hi, hW, hs, hA, kE, kS⟩ := h
    rfl
  obtain ⟨S, P, U, A, op, fr, sk, ru, i, d, gs, ss, rows, M, H2, W, o, s, rfl, ⟨F, h0⟩, hst, hi, hW, hs, hA, kE, kS⟩ := h
  refine ⟨_, (pss_cons (ps_expr (pe_m T.k_Sum.cl (c_Sum_begin_rule T) hr (by decide) (Ex.pass1 Ex.body_cx) (pv 0) (pa_cons (pv 1) (pa_cons (pv 2) pa_nil))))
      (pss_one (ps_while PassesOwn.leaving (pt_cmp (pc_gt (pe_callB (len_s K) (by rfl) T.n_len bt_len (pa_cons (pe_fld (pv 0) rfl) pa_nil)) pe_int))
        (pss_one (ps_expr (pe_m0 T.k_Sum.cl (c_Sum_go_on T) hr (by decide) (Ex.pass1 Ex.body_cx) (pv 0))))))), ?_⟩
  have hRods : Su.Rods gs := fun g hg => (F.good g hg).2
  obtain ⟨dx, hS⟩ := h0.self
  obtain ⟨g, hg⟩ : ∃ g, gs[i]? = some g := ⟨_, List.getElem?_eq_getElem hi⟩
  obtain ⟨t, ht⟩ : ∃ t, M.ts[i]? = some t := ⟨_, List.getElem?_eq_getElem (by rw [h0.plen]; exact hi)⟩
  have e0 : runN gs ss rows op o s M (.digit i d :: W) = Na.carried (gs.map Na.rodOf) ⟨o, ss.map Na.strokeOf⟩ (rows.map Na.rowRule) op Na.FUEL ⟨s, (actsN M.acts).reverse, M.n⟩ (.digit i d :: W) := by
    unfold runN
    rw [hst]
    rfl
  have hnl := h0.nlen
  refine ⟨_, rfl, S, dx, _, rfl, hS, (by kernel_rfl), _, rfl, _, rfl, S, P, U, A, op, fr, sk, ru, i, d, gs, ss, rows, M, H2, g, t, rfl, ⟨F, h0⟩, hg, ht, by rw [hst]; decide, fun hn H' => kE .wrong (e0.trans (begin_no (ts := M.ts) hRods hs hg ht hn)) H', fun hy H1 h1 => ?_⟩
  have hmu : Sm.mu ⟨s, (actsN M.acts).reverse, M.n⟩ (.digit i d :: W) ≤ Na.FUEL := by
    unfold Sm.mu
    simp only [Sm.weight]
    have : Na.FUEL = 263168 := by decide
    have : Na.STEPS = 65536 := rfl
    omega
  rw [hst, List.nil_append] at h1
  refine ⟨fun m σ H' => ∃ (M' : Mach) (s' : Na.Standing), σ = [some (.ref S), some (.int (i : Nat)), some (.int (d : Nat))] ∧ SumAt ca.Sum ca.RuleUnderWay H2 H' S P U A op fr sk ru gs M' ∧ UOk gs M' ∧ Su.Std gs s' M'.ts ∧ AOk ss M' ∧ runN gs ss rows op o s M (.digit i d :: W) = runN gs ss rows op o s' M' W ∧ m = 3 * (65536 - M'.n) + M'.st.length,
    ⟨_, { M with st := [(i, Rm.stepsFor rows op d (Su.cnt g t), 0)] }, s, rfl, h1, ⟨fun x hx => ?_, ?_, hnl⟩, hs, hA, ?_, rfl⟩, ?_⟩
  · rw [List.mem_singleton] at hx
    rw [hx]
    exact ⟨hi, Nat.zero_le _, Rm.stepsFor_in F.rgood op d _⟩
  · show 1 ≤ M.n + 1
    omega
  · rw [e0, begin_yes (ts := M.ts) hRods F.rgood hs hg ht hy hnl hmu, run_top (r := []) (x := (i, Rm.stepsFor rows op d (Su.cnt g t), 0)) rfl]
    rfl
  · rintro m σ H' ⟨M', s', rfl, h', ok', hs', hA', er, rfl⟩
    obtain ⟨dx', hS'⟩ := h'.self
    obtain ⟨us, hU, nd, hun⟩ := id h'.und
    refine ⟨_, rfl, S, ca.Sum, dx', _, _, rfl, hS', T.k_Sum.cl, T.k_Sum.no 4, sfs_u, U, _, rfl, .inl (SqL.of hU), _, _, rfl, rfl, _, rfl, ite2 (fun e => ?_) (fun e => ?_)⟩
    · have e : 0 < M'.st.length := by
        have e := of_decide_eq_true e
        rw [List.length_map, hun.1] at e
        omega
      obtain ⟨r, x, hx⟩ : ∃ r x, M'.st = r ++ [x] := by
        rcases List.eq_nil_or_concat M'.st with z | ⟨r, x, z⟩
        · rw [z] at e
          simp at e
        · exact ⟨r, x, by rw [z, List.concat_eq_append]⟩
      obtain ⟨i', st', b'⟩ := x
      have hx1 := ok'.1 (i', st', b') (by rw [hx]; simp)
      obtain ⟨g1, g2⟩ := go_run (o := o) (op := op) (W := W) hRods F.sin F.rgood hx ok' hs' (by omega)
      have hnl' := h'.nlen
      refine ⟨fun σ' H'' => ∃ m', m' < _ ∧ ∃ (M'' : Mach) (s'' : Na.Standing), σ' = [some (.ref S), some (.int (i : Nat)), some (.int (d : Nat))] ∧ SumAt ca.Sum ca.RuleUnderWay H2 H'' S P U A op fr sk ru gs M'' ∧ UOk gs M'' ∧ Su.Std gs s'' M''.ts ∧ AOk ss M'' ∧ runN gs ss rows op o s M (.digit i d :: W) = runN gs ss rows op o s'' M'' W ∧ m' = 3 * (65536 - M''.n) + M''.st.length, fun σ' H'' z => z, ?_⟩
      refine ⟨_, rfl, S, dx', _, rfl, hS', (by kernel_rfl), S, P, U, A, op, fr, sk, ru, gs, ss, rows, M', H2, r, i', st', b', rfl, ⟨F, h'⟩, hx, hx1.2.1, hx1.1, by have := ok'.2.1; omega, fun e ee H'' => kE e (er.trans (g1 e ee)) H'', fun M'' ee H'' h'' => ?_⟩
      obtain ⟨q1, q2, s'', q3, q4⟩ := g2 M'' ee
      exact ⟨_, q2, M'', s'', rfl, h'', q1, q3, go_acts hA' ee, er.trans q4, rfl⟩
    · have e : M'.st = [] := by
        refine List.eq_nil_of_length_eq_zero (Classical.byContradiction fun z => e (decide_eq_true ?_))
        rw [List.length_map, hun.1]
        omega
      exact kS M' s' H' h' e hs' hA' er
theorem c_Sum_do_digit (T : Txt K mg ca) : CalleeM P w K mg base (Ex.CX1 P w) 7 ca.Sum "do_digit" ["self", "number", "d"] (sp_Sum_do_digit K ca) := CalleeM.of T.d_Sum_do_digit fun _ _ D => ok_Sum_do_digit T D
theorem weight_dig : ∀ xs : List (Nat × Nat), Sm.weight (xs.map fun x => Na.Todo.digit x.1 x.2) = 2 * xs.length
  | [] => rfl
  | x :: xs => by
    have := weight_dig xs
    show 2 + Sm.weight (xs.map fun x => Na.Todo.digit x.1 x.2) = 2 * (xs.length + 1)
    omega
theorem sc_acts_of_sum : FnScope ["op", "order", "v", "make", "hand", "book", "frame", "going", "number", "d"] ["op", "order", "v", "make", "hand", "book", "frame"] (defScope t_acts_of_sum) := ⟨rfl, rfl, rfl, by decide +kernel, rfl, by decide +kernel, by decide +kernel⟩
theorem ok_acts_of_sum (T : Txt K mg ca) (D : DefAt K mg "acts_of_sum" t_acts_of_sum ["op", "order", "v", "make", "hand", "book", "frame"] f fd) : FnOk P w K mg base (Ex.CX1 P w) 8 f fd ["op", "order", "v", "make", "hand", "book", "frame"] (sp_acts_of_sum K ca) := by
  refine Ex.okX D.fn sc_acts_of_sum (fun vs H Q E h => ?_) (fun cdv A outer s H vs Q E hr h => ?_)
  · obtain ⟨fr, P, m, b, c, op, order, v, l, hd, ts, as, rows, s, rfl, hF, hP, hs, hm, hm7, hml, hg0, hg, hb, hb0, hbm, hbl, hSI, hc, hls, h820, hgood, hdist, kE, kOk⟩ := h
    rfl
  obtain ⟨fr, P, m, b, c, op, order, v, l, hd, ts, as, rows, s, rfl, hF, hP, hs, hm, hm7, hml, hg0, hg, hb, hb0, hbm, hbl, hSI, hc, hls, h820, hgood, hdist, kE, kOk⟩ := h
  refine ⟨_, (pss_cons (ps_set (i := 7) sc_acts_of_sum.nd rfl (by first | exact Or.inl rfl | exact Or.inr rfl) (pe_mk (c_Sum_init T) hr (by decide) rfl (pa_cons (pv 0) (pa_cons (pv 6) (pa_cons (pv 4) (pa_cons (pv 5) pa_nil))))))
      (pss_cons (ps_for PassesOwn.leaving rfl (pi_list (pe_c (c_digits_in_order T) hr (by decide) rfl (pa_cons (pv 1) (pa_cons (pv 2) (pa_cons (pv 3) pa_nil))))) (pg_tup rfl (pgs_cons (pg_name (i := 8) sc_acts_of_sum.nd rfl (by first | exact Or.inl rfl | exact Or.inr rfl)) (pgs_cons (pg_name (i := 9) sc_acts_of_sum.nd rfl (by first | exact Or.inl rfl | exact Or.inr rfl)) pgs_nil)))
        (pss_one (ps_expr (pe_m T.k_Sum.cl (c_Sum_do_digit T) hr (by decide) (Ex.pass1 Ex.body_cx) (pv 7) (pa_cons (pv 8) (pa_cons (pv 9) pa_nil))))))
      (pss_one (ps_ret (pe_fld (pv 7) rfl))))), ?_⟩
  have hgl := groups_le hm7 hml
  refine ⟨_, rfl, _, rfl, _, rfl, _, rfl, ?_⟩
  intro S dxS nS ndS neS
  have s0 : Same H (upd (upd H dxS (.own S)) S (.ins ca.Sum dxS [])) := fun b o e => by
    rw [upd_ne (ne_of_none e nS), upd_ne (ne_of_none e ndS)]
    exact e
  have hSn : (upd (upd H dxS (.own S)) S (.ins ca.Sum dxS [])) S = some (.ins ca.Sum dxS []) := upd_same
  generalize upd (upd H dxS (.own S)) S (.ins ca.Sum dxS []) = Hn at s0 hSn ⊢
  have nfS : fr ≠ S := by
    obtain ⟨_, _, _, _, _, hfr, _⟩ := hF.ex
    exact ne_of_none hfr nS
  refine ⟨S, dxS, fr, P, b, c, op, Na.groups 7 l, ts, hd, as, rows, rfl, hSn, nfS, hF.same s0, hP.same s0, hs.len3, hg0, hg, s0.seq hb, hb0, hbm, hbl, hSI, s0.seq hc, hls.keep s0, h820, hgood, hdist, fun H2 H' U A sk ru k2 F h => ⟨rfl, ?_⟩⟩
  obtain ⟨ps, hp1, hp2⟩ := id hP
  have kH' : ∀ b o, b ≠ S → b ≠ P → Hn b = some o → H' b = some o := fun b o n1 n2 e => h.keep b o n1 n2 (k2 b o n1 e)
  have hm' : NL K H' m l := SqL.keepSP hSn (s0 _ _ hp1) (s0.seq hm) (nz_cons (by
    cases l with
    | nil => exact absurd rfl hg0
    | cons x l => simp)) kH'
  refine ⟨_, rfl, _, rfl, _, rfl, m, l, order, v, rfl, hm', hm7, hml, hg, fun H3 p tp xs ⟨s3, np⟩ hp3 hpairs hw hxs hxl => ?_⟩
  have h3 := h.same s3
  obtain ⟨F4, h4⟩ := rebase F h3 hg0 rfl
  obtain ⟨dx3, hS3⟩ := id h3.self
  obtain ⟨us, hU3, _⟩ := id h3.und
  obtain ⟨aas, hA3, _⟩ := id h3.act
  obtain ⟨ps3, hP3, _⟩ := id h3.pu
  obtain ⟨_, hU', _⟩ := id h.und
  obtain ⟨_, hA', _⟩ := id h.act
  obtain ⟨_, hP', _⟩ := id h.pu
  have pU : p ≠ U := fun z => by rw [z, hU'] at np; cases np
  have pA : p ≠ A := fun z => by rw [z, hA'] at np; cases np
  have pP : p ≠ P := fun z => by rw [z, hP'] at np; cases np
  have pS : p ≠ S := ne_of hp3 hS3 (by intro z; cases z)
  have hpB : baseOf H3 U A p = _ := base_at hp3 pU pA
  have htB : ∀ t o, H3 t = some (.tup o) → baseOf H3 U A t = some (.tup o) ∧ t ≠ S ∧ t ≠ P := fun t o e => ⟨base_at e (ne_of e hU3 (by intro z; cases z)) (ne_of e hA3 (by intro z; cases z)), ne_of e hS3 (by intro z; cases z), ne_of e hP3 (by intro z; cases z)⟩
  have hrun0 : runN (Na.groups 7 l) (Na.groups 7 (hd.drop 1)) rows op (hd.getD 0 0) s ⟨ts, [], 0, []⟩ (xs.map fun x => Na.Todo.digit x.1 x.2) = Na.carried ((Na.groups 7 l).map Na.rodOf) ⟨hd.getD 0 0, (Na.groups 7 (hd.drop 1)).map Na.strokeOf⟩ (rows.map Na.rowRule) op Na.FUEL ⟨s, [], 0⟩ (Na.wanted ((Na.groups 7 l).map Na.rodOf) order v) := by
    rw [hw]
    rfl
  have eErr : ∀ e, runN (Na.groups 7 l) (Na.groups 7 (hd.drop 1)) rows op (hd.getD 0 0) s ⟨ts, [], 0, []⟩ (xs.map fun x => Na.Todo.digit x.1 x.2) = .error e → Na.sumBy ((Na.groups 7 l).map Na.rodOf) ⟨hd.getD 0 0, (Na.groups 7 (hd.drop 1)).map Na.strokeOf⟩ (rows.map Na.rowRule) op order s v = .error e := fun e z => by
    unfold Na.sumBy
    rw [← hrun0, z]
  have eOk : ∀ u, runN (Na.groups 7 l) (Na.groups 7 (hd.drop 1)) rows op (hd.getD 0 0) s ⟨ts, [], 0, []⟩ (xs.map fun x => Na.Todo.digit x.1 x.2) = .ok u → Na.sumBy ((Na.groups 7 l).map Na.rodOf) ⟨hd.getD 0 0, (Na.groups 7 (hd.drop 1)).map Na.strokeOf⟩ (rows.map Na.rowRule) op order s v = .ok (u.s, u.acts.reverse) := fun e z => by
    unfold Na.sumBy
    rw [← hrun0, z]
  refine ⟨p, rfl, ⟨_, SqL.of hp3⟩, for_list (a := p) (xs := tp.map V.ref) (fun i σ H'' => ∃ (M : Mach) (s' : Na.Standing) (v8 v9 : Option V), σ = [some (.int (op : Nat)), some (.int (order : Nat)), some (.int (v : Nat)), some (.ref m), some (.ref b), some (.ref c), some (.ref fr), some (.ref S), v8, v9] ∧ SumAt ca.Sum ca.RuleUnderWay (baseOf H3 U A) H'' S P U A op fr sk ru (Na.groups 7 l) M ∧ M.st = [] ∧ Su.Std (Na.groups 7 l) s' M.ts ∧ AOk (Na.groups 7 (hd.drop 1)) M ∧
    runN (Na.groups 7 l) (Na.groups 7 (hd.drop 1)) rows op (hd.getD 0 0) s ⟨ts, [], 0, []⟩ (xs.map fun x => Na.Todo.digit x.1 x.2) = runN (Na.groups 7 l) (Na.groups 7 (hd.drop 1)) rows op (hd.getD 0 0) s' M ((xs.drop i).map fun x => Na.Todo.digit x.1 x.2))
    ⟨⟨ts, [], 0, []⟩, s, none, none, rfl, h4, rfl, hs, fun x hx => by simp at hx, rfl⟩ (fun i σ H'' _ ⟨_, _, _, _, _, hh, _⟩ => SqL.of (hh.keep _ _ pS pP hpB)) ?_ ?_⟩
  · rintro i x σ H'' hi ⟨M, s', v8, v9, rfl, hh, hst, hs', hA, er⟩
    obtain ⟨t, ht, rfl⟩ := map_at hi
    obtain ⟨⟨n, d⟩, hx⟩ := at_len hpairs.1.symm ht
    obtain ⟨q1, q2, q3⟩ := htB _ _ (hpairs.2 i t (n, d) ht hx)
    have hxl' := (List.getElem?_eq_some_iff.mp hx).1
    have hin := hxs (n, d) (List.mem_of_getElem? hx)
    obtain ⟨dx, hS⟩ := hh.self
    have ed : (xs.drop i).map (fun x => Na.Todo.digit x.1 x.2) = .digit n d :: (xs.drop (i + 1)).map fun x => Na.Todo.digit x.1 x.2 := by
      rw [List.drop_eq_getElem_cons hxl', (List.getElem?_eq_some_iff.mp hx).2]
      rfl
    rw [ed] at er
    refine ⟨t, _, rfl, SqT.of (hh.keep _ _ q2 q3 q1), rfl, _, _, rfl, _, _, rfl, rfl, ?_⟩
    refine ⟨_, rfl, S, dx, _, rfl, hS, (by kernel_rfl), _, rfl, _, rfl, S, P, U, A, op, fr, sk, ru, n, d, Na.groups 7 l, Na.groups 7 (hd.drop 1), rows, M, baseOf H3 U A, (xs.drop (i + 1)).map fun x => Na.Todo.digit x.1 x.2, hd.getD 0 0, s', rfl, ⟨F4, hh⟩, hst, hin, ?_, hs', hA, fun e ee H5 => kE e (eErr e (er.trans ee)) H5, fun M' s'' H5 h5 hst5 hs5 hA5 er5 => ⟨M', s'', _, _, rfl, h5, hst5, hs5, hA5, er.trans er5⟩⟩
    rw [weight_dig, List.length_drop]
    omega
  · rintro σ H'' ⟨M, s', v8, v9, rfl, hh, hst, hs', hA, er⟩
    obtain ⟨dx, hS⟩ := hh.self
    obtain ⟨aa, hAA, hrow⟩ := hh.act
    rw [List.length_map, hpairs.1, List.drop_length] at er
    have ee : runN (Na.groups 7 l) (Na.groups 7 (hd.drop 1)) rows op (hd.getD 0 0) s' M ([] : List Na.Todo) = .ok ⟨s', (actsN M.acts).reverse, M.n⟩ := by
      unfold runN
      rw [hst]
      rfl
    refine ⟨_, rfl, S, ca.Sum, dx, _, _, rfl, hS, T.k_Sum.cl, T.k_Sum.no 6, sfs_a, kOk s' (actsN M.acts) ?_ H'' A aa M.ts M.acts (fun b o nb e => ?_) (sum_fr F4 hh) hh.pu hs' hAA hrow rfl (fun x hx => ?_) (Nat.le_trans hh.alen hh.nlen)⟩
    · rw [eOk _ (er.trans ee), List.reverse_reverse]
    · have n1 := ne_of_none e nS
      have e2 := k2 b o n1 (s0 _ _ e)
      exact hh.keep b o n1 nb (base_at (s3 _ _ (kH' b o n1 nb (s0 _ _ e))) (ne_of_none e2 h.new.1) (ne_of_none e2 h.new.2))
    · obtain ⟨j, hj⟩ := List.getElem?_of_mem hx
      obtain ⟨b', hb'⟩ := at_len hrow.1 hj
      exact ⟨(hrow.2 j b' x hb' hj).2, hA x hx⟩
theorem c_acts_of_sum (T : Txt K mg ca) : CalleeX P w K mg base 8 "acts_of_sum" ["op", "order", "v", "make", "hand", "book", "frame"] (sp_acts_of_sum K ca) := CalleeX.of T.d_acts_of_sum fun _ _ D => ok_acts_of_sum T D
theorem ints_lists {K : PySem.W.Frag} {H : Hp} {as : List Addr} {rows : List (List Nat)} (h : Lists K H as rows) (h36 : ∀ l ∈ rows, l.length ≤ 36) : RowsAt K H as (rows.map nz) := by
  refine ⟨by rw [List.length_map]; exact h.1, fun i a ns e1 e2 => ?_⟩
  rw [List.getElem?_map] at e2
  cases e : rows[i]? with
  | none =>
    rw [e] at e2
    cases e2
  | some l =>
    rw [e] at e2
    have e2 : nz l = ns := Option.some.inj e2
    rw [← e2]
    exact ⟨h.2 i a l e1 e, by rw [ints_len]; exact h36 l (List.mem_of_getElem? e)⟩
theorem make_parts {l : List Nat} {x : Na.Make} (h : Na.makeOf l = .ok x) : l.length % 7 = 0 ∧ (∀ g ∈ Na.groups 7 l, g.length = 7 ∧ Rm.RIn g ∧ Rm.Whole g) ∧ x = (Na.groups 7 l).map Na.rodOf := by
  by_cases c : Mm.MakeLen l
  · rw [Mm.make_if c] at h
    cases e : (Na.groups 7 l).findIdx? fun (g : List Nat) => Na.rodWrong g != 0 with
    | some i =>
      rw [e] at h
      cases h
    | none =>
      rw [e] at h
      cases h
      refine ⟨c.1, fun g hg => ⟨?_, Rm.right0 ?_⟩, rfl⟩
      · rw [Mm.groups_is (by decide) c.1] at hg
        obtain ⟨j, hj, rfl⟩ := List.mem_map.mp hg
        exact grp_len (List.mem_range.mp hj)
      · have := List.findIdx?_eq_none_iff.mp e g hg
        simpa using this
  · rw [Mm.make_len c] at h
    cases h
theorem hand_parts {l : List Nat} {x : Na.Hand} (h : Na.handOf l = .ok x) : l.length ≠ 0 ∧ (l.length - 1) % 7 = 0 ∧ (∀ s ∈ Na.groups 7 (l.drop 1), Rm.SIn s) ∧ x = ⟨l.getD 0 0, (Na.groups 7 (l.drop 1)).map Na.strokeOf⟩ := by
  by_cases c : Mm.HandLen l
  · rw [Mm.hand_if c] at h
    cases e : (Na.groups 7 (l.drop 1)).findIdx? fun (g : List Nat) => !Na.strokeGood g with
    | some i =>
      rw [e] at h
      cases h
    | none =>
      rw [e] at h
      cases h
      refine ⟨fun z => c.1 (List.eq_nil_of_length_eq_zero z), c.2.2.1, fun g hg => ⟨?_, Mm.strokeGood_iff.mp ?_⟩, rfl⟩
      · rw [Mm.groups_is (by decide) (Mm.hand_mod c)] at hg
        obtain ⟨j, hj, rfl⟩ := List.mem_map.mp hg
        exact grp_len (List.mem_range.mp hj)
      · have := List.findIdx?_eq_none_iff.mp e g hg
        simpa using this
  · rw [Mm.hand_len c] at h
    cases h
theorem standing_parts {gs : List (List Nat)} (hR : Su.Rods gs) {st : List Nat} {u : Na.Standing} (h : Na.standingOf (gs.map Na.rodOf) st = .ok u) : st.length = 3 * gs.length ∧ Su.Std gs u ((List.range gs.length).map (Su.three3 st)) := by
  by_cases c : st.length = 3 * gs.length
  · refine ⟨c, ?_⟩
    by_cases g : ∀ j, j < st.length → ¬ Na.thereAt (gs.map Na.rodOf) j < st.getD j 0
    · obtain ⟨s, h1, h2⟩ := Su.standing_ok hR c g
      rw [h1] at h
      cases h
      exact h2
    · exfalso
      have : ∃ k, k < st.length ∧ Na.thereAt (gs.map Na.rodOf) k < st.getD k 0 ∧ ∀ j, j < k → ¬ Na.thereAt (gs.map Na.rodOf) j < st.getD j 0 := by
        have ex : ∃ k, k < st.length ∧ Na.thereAt (gs.map Na.rodOf) k < st.getD k 0 := by
          refine Classical.byContradiction fun z => g fun j hj y => z ⟨j, hj, y⟩
        obtain ⟨k, hk⟩ := ex
        have key : ∀ n k, k ≤ n → (k < st.length ∧ Na.thereAt (gs.map Na.rodOf) k < st.getD k 0) → ∃ k, k < st.length ∧ Na.thereAt (gs.map Na.rodOf) k < st.getD k 0 ∧ ∀ j, j < k → ¬ Na.thereAt (gs.map Na.rodOf) j < st.getD j 0 := by
          intro n
          induction n with
          | zero =>
            intro k hk h
            exact ⟨k, h.1, h.2, fun j hj => by omega⟩
          | succ n ih =>
            intro k hk h
            by_cases z : ∀ j, j < k → ¬ Na.thereAt (gs.map Na.rodOf) j < st.getD j 0
            · exact ⟨k, h.1, h.2, z⟩
            · have : ∃ j, j < k ∧ Na.thereAt (gs.map Na.rodOf) j < st.getD j 0 := Classical.byContradiction fun y => z fun j hj w => y ⟨j, hj, w⟩
              obtain ⟨j, hj, w⟩ := this
              exact ih j (by omega) ⟨by omega, w⟩
        exact key k k (Nat.le_refl _) hk
      obtain ⟨k, h1, h2, h3⟩ := this
      rw [Su.standing_bad c h1 h2 h3] at h
      cases h
  · rw [Su.standing_len c] at h
    cases h
theorem acts_flat : ∀ {acts : List (List Nat)}, (∀ x ∈ acts, x.length = 4) → (acts.map toAct).flatMap Na.actNumbers = acts.flatten
  | [], _ => rfl
  | x :: acts, h => by
    have ih := acts_flat (acts := acts) fun y hy => h y (List.mem_cons_of_mem _ hy)
    show Na.actNumbers (toAct x) ++ (acts.map toAct).flatMap Na.actNumbers = x ++ acts.flatten
    rw [ih]
    congr 1
    have := h x List.mem_cons_self
    match x, this with
    | [_, _, _, _], _ => rfl
theorem SqL.keepP {K : PySem.W.Frag} {H H' : Hp} {a P : Addr} {xs : List V} {ps : List Addr} (hP : H P = some (.lst (ps.map V.ref))) (h : SqL K H a xs) (hx : ∃ i r, xs = V.int i :: r) (k : ∀ b o, b ≠ P → H b = some o → H' b = some o) : SqL K H' a xs := by
  obtain ⟨i, r, rfl⟩ := hx
  have n1 : ∀ ys, H a = some (.lst ys) → ys = V.int i :: r → a ≠ P := fun ys e ey z => by
    rw [z, hP] at e
    cases e
    cases ps with
    | nil => cases ey
    | cons p ps => cases ey
  rcases h with (h | ⟨o, h⟩) | h
  · exact .inl (.inl (k _ _ (n1 _ h rfl) h))
  · exact .inl (.inr ⟨o, k _ _ (ne_of h hP (by intro z; cases z)) h⟩)
  · exact .inr h
theorem hand_255 {l : List Nat} {x : Na.Hand} (h : Na.handOf l = .ok x) : l.getD 0 0 ≤ 255 := by
  by_cases c : Mm.HandLen l
  · exact c.2.1
  · rw [Mm.hand_len c] at h
    cases h
theorem flat_len : ∀ {n : Nat} {ts : List (List Nat)}, (∀ t ∈ ts, t.length = n) → ts.flatten.length = n * ts.length
  | n, [], _ => by simp
  | n, t :: ts, h => by
    have ih := flat_len (n := n) (ts := ts) fun y hy => h y (List.mem_cons_of_mem _ hy)
    rw [List.flatten_cons, List.length_append, ih, h t List.mem_cons_self, List.length_cons, Nat.mul_add]
    omega
theorem rows_all {n : Nat} {H : Hp} {ps : List Addr} {ts : List (List Nat)} (h : Rows n H ps ts) : ∀ t ∈ ts, t.length = n := fun t ht => by
  obtain ⟨j, hj⟩ := List.getElem?_of_mem ht
  obtain ⟨b, hb⟩ := at_len h.1 hj
  exact (h.2 j b t hb hj).2
theorem sc_sum_of : FnScope ["op", "order", "h", "v", "make", "hand", "standing", "book", "fault", "frame", "acts"] ["op", "order", "h", "v", "make", "hand", "standing", "book"] (defScope t_sum_of) := ⟨rfl, rfl, rfl, by decide +kernel, rfl, by decide +kernel, by decide +kernel⟩
theorem ok_sum_of (T : Txt K mg ca) (D : DefAt K mg "sum_of" t_sum_of ["op", "order", "h", "v", "make", "hand", "standing", "book"] f fd) : FnOk P w K mg base CX0 9 f fd ["op", "order", "h", "v", "make", "hand", "standing", "book"] (sp_sum_of K) := by
  refine D.fn.ok sc_sum_of (fun vs H Q E h => ?_) (fun cdv A outer s H vs Q E hr h => ?_)
  · obtain ⟨a, b, c, e, op, order, h, v, m, hd, st, as, rows, rfl, hm, hml, hb, hbl, hc, hcl, he, hrows, h820, h36, k⟩ := h
    rfl
  obtain ⟨a, b, c, e, op, order, h, v, m, hd, st, as, rows, rfl, hm, hml, hb, hbl, hc, hcl, he, hrows, h820, h36, k⟩ := h
  refine ⟨_, (pss_cons (ps_set (i := 8) sc_sum_of.nd rfl (by first | exact Or.inl rfl | exact Or.inr rfl) (pe_c (c_first_fault T) hr (by decide) rfl (pa_cons (pe_lst (pa_cons (pe_c (c_make_fault T) hr (by decide) rfl (pa_cons (pv 4) pa_nil)) (pa_cons (pe_c (c_hand_fault T) hr (by decide) rfl (pa_cons (pv 5) pa_nil)) pa_nil))) pa_nil)))
      (pss_cons (ps_if (pt_cmp (pc_isN (pv 8)))
        (pss_one (ps_set (i := 8) sc_sum_of.nd rfl (by first | exact Or.inl rfl | exact Or.inr rfl) (pe_c (c_first_fault T) hr (by decide) rfl (pa_cons (pe_lst (pa_cons (pe_c (c_standing_fault T) hr (by decide) rfl (pa_cons (pv 4) (pa_cons (pv 6) pa_nil))) (pa_cons (pe_c (c_book_fault T) hr (by decide) rfl (pa_cons (pv 7) pa_nil)) pa_nil))) pa_nil))))
        pss_nil)
      (pss_cons (ps_if (pt_cmp (pc_notN (pv 8)))
        (pss_one (ps_ret (pe_op op_cat (pe_lst (pa_cons (pe_un un_neg pe_int) pa_nil)) (pv 8))))
        pss_nil)
      (pss_cons (ps_if (PW.pt (pw_or (pt_cmp (pc_ge (pv 2) (pe_callB (len_s K) (by rfl) T.n_len bt_len (pa_cons (pe_c (c_rods_of T) hr (by decide) rfl (pa_cons (pv 4) pa_nil)) pa_nil)))) (pw_or (pt_cmp (pc_gt (pv 0) pe_int)) (pw_or1 (pt_cmp (pc_gt (pv 1) pe_int))))))
        (pss_one (ps_ret (pe_lst (pa_cons (pe_un un_neg pe_int) pa_nil))))
        pss_nil)
      (pss_cons (ps_if (pt_cmp (pc_ge (pv 3) (pe_c (c_span_of T) hr (by decide) rfl (pa_cons (pv 4) pa_nil))))
        (pss_one (ps_ret (pe_lst (pa_cons (pe_un un_neg pe_int) pa_nil))))
        pss_nil)
      (pss_cons (ps_set (i := 9) sc_sum_of.nd rfl (by first | exact Or.inl rfl | exact Or.inr rfl) (pe_mk (c_Frame_init T) hr (by decide) rfl (pa_cons (pv 4) (pa_cons (pv 6) pa_nil))))
      (pss_cons (ps_if (pt_not (pt_val (pe_m0 T.k_Frame.cl (c_Frame_is_in_form T) hr (by decide) pass0 (pv 9))))
        (pss_one (ps_ret (pe_lst (pa_cons (pe_un un_neg pe_int) pa_nil))))
        pss_nil)
      (pss_cons (Ex.ps_try rfl rfl (fun _ _ => (pss_one (ps_set (i := 10) sc_sum_of.nd rfl (by first | exact Or.inl rfl | exact Or.inr rfl) (pe_cX (c_acts_of_sum T) hr (by decide) rfl Ex.passT (pa_cons (pv 0) (pa_cons (pv 1) (pa_cons (pv 3) (pa_cons (pv 4) (pa_cons (pv 5) (pa_cons (pv 7) (pa_cons (pv 9) pa_nil)))))))))))
        (Ex.phs_cons (Ex.ph_yes rfl T.x_GoesWrong.mg T.eq_GoesWrong (fun _ => (pss_one (ps_ret (pe_lst (pa_cons (pe_un un_neg pe_int) pa_nil))))))
        (Ex.phs_cons (Ex.ph_no rfl T.x_GoesWrong.mg T.ne_RunsOver_GoesWrong (Ex.ph_yes rfl T.x_RunsOver.mg T.eq_RunsOver (fun _ => (pss_one (ps_ret (pe_lst (pa_cons (pe_un un_neg pe_int) pa_nil)))))))
        (Ex.phs_cons (Ex.ph_no rfl T.x_GoesWrong.mg T.ne_TooLong_GoesWrong (Ex.ph_no rfl T.x_RunsOver.mg T.ne_TooLong_RunsOver (Ex.ph_yes rfl T.x_TooLong.mg T.eq_TooLong (fun _ => (pss_one (ps_ret (pe_lst (pa_cons (pe_un un_neg pe_int) pa_nil))))))))
        Ex.phs_nil))))
      (pss_one (ps_ret (pe_op op_cat (pe_op op_cat (pe_lst (pa_cons pe_int (pa_cons (pe_c (c_tour_cost T) hr (by decide) rfl (pa_cons (pv 5) (pa_cons (pv 2) (pa_cons (pv 10) pa_nil)))) pa_nil))) (pe_m0 T.k_Frame.cl (c_Frame_as_standing T) hr (by decide) pass0 (pv 9))) (pe_c (c_in_one_list T) hr (by decide) rfl (pa_cons (pv 10) pa_nil))))))))))))), ?_⟩
  have hbook : ∀ H1, Same H H1 → SqL K H1 e (as.map V.ref) ∧ RowsAt K H1 as (rows.map nz) := fun H1 s1 => ⟨s1.seq he, ints_lists (hrows.keep s1) h36⟩
  have hlen : (rows.map nz).length ≤ 820 := by rw [List.length_map]; exact h820
  refine ⟨_, rfl, a, m, rfl, hm, hml, fun x e1 H1 s1 => ?_, fun r1 i1 e1 H1 p1 s1 hp1 => ?_⟩
  · refine ⟨_, rfl, b, hd, rfl, s1.seq hb, hbl, fun y e2 H2 s2 => ?_, fun r2 i2 e2 H2 p2 s2 hp2 => ?_⟩
    · refine ⟨(by show 2 ≤ sizeLine; decide), fun l hl' => ⟨l, _, rfl, SqL.of upd_same, ?_⟩⟩
      refine ⟨_, rfl, _, rfl, iteT ?_⟩
      have mk := make_parts e1
      have hp := hand_parts e2
      have hR : Su.Rods (Na.groups 7 m) := fun g hg => (mk.2.1 g hg).2
      have s3 : Same H (upd H2 l (.lst [.non, .non])) := Same.new (s1.trans s2) hl'
      generalize upd H2 l (.lst [.non, .non]) = H3 at s3 ⊢
      obtain ⟨ex, ey⟩ : x = (Na.groups 7 m).map Na.rodOf ∧ y = ⟨hd.getD 0 0, (Na.groups 7 (hd.drop 1)).map Na.strokeOf⟩ := ⟨mk.2.2, hp.2.2.2⟩
      subst ex ey
      refine ⟨_, rfl, _, rfl, a, c, m, st, rfl, s3.seq hm, mk.1, hml, mk.2.1, s3.seq hc, hcl, fun u e3 H4 s4 => ?_, fun r3 i3 e3 H4 p4 s4 hp4 => ?_⟩
      · refine ⟨_, rfl, e, as, rows.map nz, rfl, (hbook H4 (s3.trans s4)).1, (hbook H4 (s3.trans s4)).2, hlen, fun e5 H5 s5 => ?_, fun i5 e5 H5 p5 s5 hp5 => ?_⟩
        · refine ⟨(by show 2 ≤ sizeLine; decide), fun l2 hl2 => ⟨l2, _, rfl, SqL.of upd_same, ?_⟩⟩
          refine ⟨_, rfl, _, rfl, iteF ?_⟩
          have s6 : Same H (upd H5 l2 (.lst [.non, .non])) := Same.new (s3.trans (s4.trans s5)) hl2
          generalize upd H5 l2 (.lst [.non, .non]) = H6 at s6 ⊢
          have eb := Rm.book_ok e5
          obtain ⟨g1, g2⟩ := Rm.good_rows e5
          obtain ⟨hst3, hstd⟩ := standing_parts hR e3
          have hgl := groups_le mk.1 hml
          have no1 : (((Na.groups 7 m).map Na.rodOf).length ≤ h ∨ 1 < op ∨ 1 < order) → ∀ H' r, H' r = some (.lst [.int (-1)]) → Q (.ref r) H' := fun z H' r hr' => k H' r (by rw [An.sum_no1 e1 e2 e3 eb z]; exact hr')
          refine ⟨_, rfl, _, rfl, a, m, rfl, s6.seq hm, mk.1, hml, fun H7 p7 as7 s7 hp7 hls7 => ⟨p7, _, rfl, .inl (SqL.of hp7), _, _, rfl, rfl, _, rfl, ite2 (fun w1 => ?_) (fun w1 => ?_)⟩⟩
          · have w1 := of_decide_eq_true w1
            rw [List.length_map, hls7.1] at w1
            exact ⟨_, rfl, (by show 1 ≤ sizeLine; decide), fun r hr' => no1 (.inl (by rw [List.length_map]; omega)) _ r upd_same⟩
          have w1 : ¬ (Na.groups 7 m).length ≤ h := fun z => w1 (decide_eq_true (by rw [List.length_map, hls7.1]; omega))
          refine ⟨_, rfl, _, _, rfl, rfl, _, rfl, ite2 (fun w2 => ?_) (fun w2 => ?_)⟩
          · have w2 := of_decide_eq_true w2
            exact ⟨_, rfl, (by show 1 ≤ sizeLine; decide), fun r hr' => no1 (.inr (.inl (by omega))) _ r upd_same⟩
          have w2 : ¬ 1 < op := fun z => w2 (decide_eq_true (by omega))
          refine ⟨_, rfl, _, _, rfl, rfl, _, rfl, ite2 (fun w3 => ?_) (fun w3 => ?_)⟩
          · have w3 := of_decide_eq_true w3
            exact ⟨_, rfl, (by show 1 ≤ sizeLine; decide), fun r hr' => no1 (.inr (.inr (by omega))) _ r upd_same⟩
          have w3 : ¬ 1 < order := fun z => w3 (decide_eq_true (by omega))
          have n1 : ¬ (((Na.groups 7 m).map Na.rodOf).length ≤ h ∨ 1 < op ∨ 1 < order) := by
            rw [List.length_map]
            omega
          have s67 := s6.trans s7
          refine ⟨_, rfl, _, rfl, a, m, rfl, s67.seq hm, mk.1, hml, mk.2.1, fun H8 s8 => ⟨_, _, rfl, rfl, _, rfl, ite2 (fun w4 => ?_) (fun w4 => ?_)⟩⟩
          · have w4 := of_decide_eq_true w4
            refine ⟨_, rfl, (by show 1 ≤ sizeLine; decide), fun r hr' => k _ r ?_⟩
            rw [An.sum_no4 e1 e2 e3 eb n1 (by omega)]
            exact upd_same
          have n4 : ¬ Na.span ((Na.groups 7 m).map Na.rodOf) ≤ v := fun z => w4 (decide_eq_true (by omega))
          have s8' := s67.trans s8
          refine ⟨_, rfl, _, rfl, ?_⟩
          intro fr dxf nf ndf nef
          have s9 : Same H8 (upd (upd H8 dxf (.own fr)) fr (.ins ca.Frame dxf [])) := fun b o eb => by
            rw [upd_ne (ne_of_none eb nf), upd_ne (ne_of_none eb ndf)]
            exact eb
          refine ⟨fr, dxf, a, c, m, st, rfl, upd_same, (s8'.trans s9).seq hm, mk.1, hml, mk.2.1, (s8'.trans s9).seq hc, hst3, fun H9 P k9 nP hF hPu => ⟨rfl, ?_⟩⟩
          have s89 : Same H8 H9 := Same.made nf ndf fun b o eb nb => k9 b o nb eb
          have sH9 := s8'.trans s89
          obtain ⟨dxg, rg, dg, rsg, dsg, hfr, _⟩ := id hF.ex
          refine ⟨_, rfl, fr, dxg, _, rfl, hfr, (by kernel_rfl), fr, P, Na.groups 7 m, (List.range (Na.groups 7 m).length).map (Su.three3 st), rfl, hF, hPu, by rw [List.length_map, List.length_range], by omega, fun kk H10 hk s10 => ⟨kk, rfl, ite2 (fun w5 => ?_) (fun w5 => ?_)⟩⟩
          · have w5 : Na.formed ((Na.groups 7 m).map Na.rodOf) u = false := by
              refine Bool.eq_false_iff.mpr fun z => ?_
              rw [hk.mpr ((Su.formed_iff hR hstd).mp z)] at w5
              cases w5
            refine ⟨_, rfl, (by show 1 ≤ sizeLine; decide), fun r hr' => k _ r ?_⟩
            rw [An.sum_no3 e1 e2 e3 eb n1 n4 w5]
            exact upd_same
          have n3 : ¬ Na.formed ((Na.groups 7 m).map Na.rodOf) u = false := fun z => by
            have hkk : kk = true := by
              cases kk with
              | true => rfl
              | false => exact absurd rfl w5
            rw [(Su.formed_iff hR hstd).mpr (hk.mp hkk)] at z
            cases z
          have sH := sH9.trans s10
          have hF10 := hF.same s10
          have hPu10 := hPu.same s10
          have hg0 : Na.groups 7 m ≠ [] := fun z => w1 (by rw [z]; exact Nat.zero_le _)
          have fails : ∀ er, Na.sumBy ((Na.groups 7 m).map Na.rodOf) ⟨hd.getD 0 0, (Na.groups 7 (hd.drop 1)).map Na.strokeOf⟩ (rows.map Na.rowRule) op order u v = .error er → ∀ H' r, H' r = some (.lst [.int (An.failN er)]) → Q (.ref r) H' := fun er z H' r hr' => k H' r (by rw [An.sum_fail e1 e2 e3 eb n1 n4 n3 z]; exact hr')
          refine ⟨_, rfl, _, rfl, _, rfl, _, rfl, _, rfl, _, rfl, _, rfl, fr, P, a, b, e, op, order, v, m, hd, (List.range (Na.groups 7 m).length).map (Su.three3 st), as, rows, u, rfl, hF10, hPu10, hstd, sH.seq hm, mk.1, hml, hg0, mk.2.1, sH.seq hb, hp.1, hp.2.1, hbl, hp.2.2.1, sH.seq he, hrows.keep sH, h820, g1, g2, fun er eq H' => ?_, fun s' ac eq H' A aa ts' acts kp hF' hPu' hs' hA hrow eac hx hal => ?_⟩
          · cases er with
            | wrong => exact ⟨_, List.Mem.head _, rfl, fun σ' => ⟨_, rfl, (by show 1 ≤ sizeLine; decide), fun r hr' => fails .wrong eq _ r upd_same⟩⟩
            | over => exact ⟨_, List.Mem.tail _ (List.Mem.head _), rfl, fun σ' => ⟨_, rfl, (by show 1 ≤ sizeLine; decide), fun r hr' => fails .over eq _ r upd_same⟩⟩
            | long => exact ⟨_, List.Mem.tail _ (List.Mem.tail _ (List.Mem.head _)), rfl, fun σ' => ⟨_, rfl, (by show 1 ≤ sizeLine; decide), fun r hr' => fails .long eq _ r upd_same⟩⟩
          · obtain ⟨ps10, hP10, _⟩ := id hPu10
            have hb' : NL K H' b hd := SqL.keepP hP10 (sH.seq hb) (nz_cons (by have := hp.1; omega)) kp
            refine ⟨_, rfl, _, rfl, _, rfl, b, A, hd, h, aa, acts, rfl, hb', hp.1, hp.2.1, hbl, hp.2.2.1, hA, hrow, fun x hx' => (hx x hx').2, hand_255 e2, fun H11 s11 => ?_⟩
            refine ⟨(by show 2 ≤ sizeLine; decide), fun L1 hL1 => ?_⟩
            have s12 := Same.new (o := .lst [.int 0, .int (Na.costs ⟨hd.getD 0 0, (Na.groups 7 (hd.drop 1)).map Na.strokeOf⟩ h (acts.map toAct) : Nat)]) (Same.refl H11) hL1
            have hL1' : (upd H11 L1 (.lst [.int 0, .int (Na.costs ⟨hd.getD 0 0, (Na.groups 7 (hd.drop 1)).map Na.strokeOf⟩ h (acts.map toAct) : Nat)])) L1 = _ := upd_same
            generalize upd H11 L1 (.lst [.int 0, .int (Na.costs ⟨hd.getD 0 0, (Na.groups 7 (hd.drop 1)).map Na.strokeOf⟩ h (acts.map toAct) : Nat)]) = H12 at s12 hL1' ⊢
            have sF := s11.trans s12
            obtain ⟨dxk, _, _, _, _, hfr', _⟩ := id hF'.ex
            have ht3 : ts'.length = (Na.groups 7 m).length := hs'.len3
            refine ⟨_, rfl, fr, dxk, _, rfl, sF _ _ hfr', (by kernel_rfl), fr, P, Na.groups 7 m, ts', rfl, hF'.same sF, hPu'.same sF, by omega, fun H13 q13 s13 hq13 => ?_⟩
            obtain ⟨ps', hP', hrow3⟩ := hPu'
            have f3 := flat_len (rows_all hrow3)
            have f4 := flat_len (rows_all hrow)
            refine ⟨L1, q13, _, _, rfl, rfl, s13 _ _ hL1', hq13, line_of (by rw [vi_len, f3]; simp only [List.length_cons, List.length_nil]; omega), fun R hR1 => ?_⟩
            have s14 := Same.new (o := .lst ([.int 0, .int (Na.costs ⟨hd.getD 0 0, (Na.groups 7 (hd.drop 1)).map Na.strokeOf⟩ h (acts.map toAct) : Nat)] ++ (nz ts'.flatten).map V.int)) (Same.refl H13) hR1
            have sG := (sF.trans s13).trans s14
            refine ⟨_, rfl, A, 4, aa, acts, rfl, sG _ _ hA, hrow.mono fun b t eb _ => sG _ _ eb, by decide, hal, fun H15 q15 s15 hq15 => ?_⟩
            refine ⟨R, q15, _, _, rfl, rfl, s15 _ _ upd_same, hq15, line_of (by rw [vi_len, f4, List.length_append, vi_len, f3]; simp only [List.length_cons, List.length_nil]; omega), fun R2 hR2 => k _ R2 ?_⟩
            rw [An.sum_ok e1 e2 e3 eb n1 n4 n3 eq, Su.numbers_pad hs', ← eac, acts_flat (fun x hx' => (hx x hx').1)]
            refine upd_same.trans ?_
            congr 2
            unfold nz BkNeutral.ints
            simp only [List.map_append, List.map_cons, List.cons_append, List.nil_append]
        · refine ⟨(by show 2 ≤ sizeLine; decide), fun l2 hl2 => ⟨l2, _, rfl, SqL.of upd_same, ?_⟩⟩
          refine ⟨_, rfl, _, rfl, iteT ?_⟩
          have hp5' : ∀ o, upd H5 l2 o p5 = some (.lst [.int 9, .int (i5 : Nat)]) := fun o => Same.new (Same.refl H5) hl2 _ _ hp5
          refine ⟨_, rfl, (by show 1 ≤ sizeLine; decide), fun l7 hl7 => ⟨_, rfl, l7, p5, _, [.int 9, .int (i5 : Nat)], rfl, rfl, upd_same, (by rw [upd_ne (ne_of_none (hp5' _) hl7)]; exact hp5' _), (by show 1 + 2 ≤ sizeLine; decide), fun r hr' => k _ r ?_⟩⟩
          rw [An.sum_book e1 e2 e3 (Rm.book_bad e5)]
          exact upd_same
      · refine ⟨_, rfl, e, as, rows.map nz, rfl, (hbook H4 (s3.trans s4)).1, (hbook H4 (s3.trans s4)).2, hlen, fun e5 H5 s5 => ?_, fun i5 e5 H5 p5 s5 hp5 => ?_⟩
        all_goals
          refine ⟨(by show 2 ≤ sizeLine; decide), fun l2 hl2 => ⟨l2, _, rfl, SqL.of upd_same, ?_⟩⟩
          refine ⟨_, rfl, _, rfl, iteT ?_⟩
          have hp4' : ∀ o, upd H5 l2 o p4 = some (.lst [.int (r3 : Nat), .int (i3 : Nat)]) := fun o => Same.new (Same.refl H5) hl2 _ _ (s5 _ _ hp4)
          refine ⟨_, rfl, (by show 1 ≤ sizeLine; decide), fun l7 hl7 => ⟨_, rfl, l7, p4, _, [.int (r3 : Nat), .int (i3 : Nat)], rfl, rfl, upd_same, (by rw [upd_ne (ne_of_none (hp4' _) hl7)]; exact hp4' _), (by show 1 + 2 ≤ sizeLine; decide), fun r hr' => k _ r ?_⟩⟩
          rw [An.sum_standing e1 e2 e3]
          exact upd_same
    · refine ⟨(by show 2 ≤ sizeLine; decide), fun l hl' => ⟨l, _, rfl, SqL.of upd_same, ?_⟩⟩
      refine ⟨_, rfl, _, rfl, iteF ?_⟩
      refine ⟨_, rfl, _, rfl, iteT ?_⟩
      have hp2' : ∀ o, upd H2 l o p2 = some (.lst [.int (r2 : Nat), .int (i2 : Nat)]) := fun o => Same.new (Same.refl H2) hl' _ _ hp2
      refine ⟨_, rfl, (by show 1 ≤ sizeLine; decide), fun l7 hl7 => ⟨_, rfl, l7, p2, _, [.int (r2 : Nat), .int (i2 : Nat)], rfl, rfl, upd_same, (by rw [upd_ne (ne_of_none (hp2' _) hl7)]; exact hp2' _), (by show 1 + 2 ≤ sizeLine; decide), fun r hr' => k _ r ?_⟩⟩
      rw [An.sum_hand e1 e2]
      exact upd_same
  · refine ⟨_, rfl, b, hd, rfl, s1.seq hb, hbl, fun y e2 H2 s2 => ?_, fun r2 i2 e2 H2 p2 s2 hp2 => ?_⟩
    all_goals
      refine ⟨(by show 2 ≤ sizeLine; decide), fun l hl' => ⟨l, _, rfl, SqL.of upd_same, ?_⟩⟩
      refine ⟨_, rfl, _, rfl, iteF ?_⟩
      refine ⟨_, rfl, _, rfl, iteT ?_⟩
      have hp1' : ∀ o, upd H2 l o p1 = some (.lst [.int (r1 : Nat), .int (i1 : Nat)]) := fun o => Same.new (Same.refl H2) hl' _ _ (s2 _ _ hp1)
      refine ⟨_, rfl, (by show 1 ≤ sizeLine; decide), fun l7 hl7 => ⟨_, rfl, l7, p1, _, [.int (r1 : Nat), .int (i1 : Nat)], rfl, rfl, upd_same, (by rw [upd_ne (ne_of_none (hp1' _) hl7)]; exact hp1' _), (by show 1 + 2 ≤ sizeLine; decide), fun r hr' => k _ r ?_⟩⟩
      rw [An.sum_make e1]
      exact upd_same
end
theorem txt_mk {K : PySem.W.Frag} {h : Heap} {mg : Str → Option Value} (X : K.In h) (G : h.Ns mainGlobals mg)
    {i_BOOK_RULE : Tok}
    {p_CARRY : Addr} {od_CARRY : Option Addr} {n_CARRY : Nat} {sl_CARRY : Array (Option Value)} {i0_CARRY i1_CARRY i2_CARRY : Tok}
    {i_DECKS : Tok}
    {i_DIGITS_RULE : Tok}
    {i_FROM_THE_LEFT : Tok}
    {i_HAND_RULE : Tok}
    {i_HIGHEST_COST : Tok}
    {i_HIGHEST_DIGIT : Tok}
    {i_HIGHEST_DIRECTION : Tok}
    {i_HIGHEST_OP : Tok}
    {i_HIGHEST_RATIO : Tok}
    {i_HIGHEST_STROKE : Tok}
    {i_HIGHEST_WORTH : Tok}
    {i_HIGHEST_WORTH_TOGETHER : Tok}
    {i_LOWEST_RATIO : Tok}
    {i_MAKE_LENGTH_RULE : Tok}
    {i_MOST_BEADS : Tok}
    {i_MOST_RODS : Tok}
    {i_MOST_STEPS : Tok}
    {i_MOST_STEPS_A_SUM : Tok}
    {i_MOST_STROKES : Tok}
    {i_NUMBERS_A_ROD : Tok}
    {i_NUMBERS_A_STROKE : Tok}
    {i_ROD_RULE : Tok}
    {i_STANDING_RULE : Tok}
    {i_STROKE_RULE : Tok}
    {i_TO_THE_BEAM : Tok}
    {i_WORTH_TOGETHER_RULE : Tok}
    {C_Frame : Addr}
    {C_GoesWrong : Addr}
    {C_RunsOver : Addr}
    {C_TooLong : Addr}
    {C_RuleUnderWay : Addr}
    {C_Sum : Addr}
    {cd_GoesWrong : _}
    {cd_RunsOver : _}
    {cd_TooLong : _}
    {f_rods_of : Addr} {od_rods_of an_rods_of : Option Addr} {sl_rods_of : Array (Option Value)} {oc_rods_of kV_rods_of dc_rods_of pm_rods_of cd_rods_of ct_rods_of : Value}
    {f_ratio_of : Addr} {od_ratio_of an_ratio_of : Option Addr} {sl_ratio_of : Array (Option Value)} {oc_ratio_of kV_ratio_of dc_ratio_of pm_ratio_of cd_ratio_of ct_ratio_of : Value}
    {f_beads_of : Addr} {od_beads_of an_beads_of : Option Addr} {sl_beads_of : Array (Option Value)} {oc_beads_of kV_beads_of dc_beads_of pm_beads_of cd_beads_of ct_beads_of : Value}
    {f_worth_of : Addr} {od_worth_of an_worth_of : Option Addr} {sl_worth_of : Array (Option Value)} {oc_worth_of kV_worth_of dc_worth_of pm_worth_of cd_worth_of ct_worth_of : Value}
    {f_goes_before : Addr} {od_goes_before an_goes_before : Option Addr} {sl_goes_before : Array (Option Value)} {oc_goes_before kV_goes_before dc_goes_before pm_goes_before cd_goes_before ct_goes_before : Value}
    {f_strokes_of : Addr} {od_strokes_of an_strokes_of : Option Addr} {sl_strokes_of : Array (Option Value)} {oc_strokes_of kV_strokes_of dc_strokes_of pm_strokes_of cd_strokes_of ct_strokes_of : Value}
    {f_first_part : Addr} {od_first_part an_first_part : Option Addr} {sl_first_part : Array (Option Value)} {oc_first_part kV_first_part dc_first_part pm_first_part cd_first_part ct_first_part : Value}
    {f_second_part : Addr} {od_second_part an_second_part : Option Addr} {sl_second_part : Array (Option Value)} {oc_second_part kV_second_part dc_second_part pm_second_part cd_second_part ct_second_part : Value}
    {f_cost_of : Addr} {od_cost_of an_cost_of : Option Addr} {sl_cost_of : Array (Option Value)} {oc_cost_of kV_cost_of dc_cost_of pm_cost_of cd_cost_of ct_cost_of : Value}
    {f_steps_of : Addr} {od_steps_of an_steps_of : Option Addr} {sl_steps_of : Array (Option Value)} {oc_steps_of kV_steps_of dc_steps_of pm_steps_of cd_steps_of ct_steps_of : Value}
    {f_first_fault : Addr} {od_first_fault an_first_fault : Option Addr} {sl_first_fault : Array (Option Value)} {oc_first_fault kV_first_fault dc_first_fault pm_first_fault cd_first_fault ct_first_fault : Value}
    {f_deck_can_be : Addr} {od_deck_can_be an_deck_can_be : Option Addr} {sl_deck_can_be : Array (Option Value)} {oc_deck_can_be kV_deck_can_be dc_deck_can_be pm_deck_can_be cd_deck_can_be ct_deck_can_be : Value}
    {f_hand_can_be : Addr} {od_hand_can_be an_hand_can_be : Option Addr} {sl_hand_can_be : Array (Option Value)} {oc_hand_can_be kV_hand_can_be dc_hand_can_be pm_hand_can_be cd_hand_can_be ct_hand_can_be : Value}
    {f_part_can_be : Addr} {od_part_can_be an_part_can_be : Option Addr} {sl_part_can_be : Array (Option Value)} {oc_part_can_be kV_part_can_be dc_part_can_be pm_part_can_be cd_part_can_be ct_part_can_be : Value}
    {f_length_can_be : Addr} {od_length_can_be an_length_can_be : Option Addr} {sl_length_can_be : Array (Option Value)} {oc_length_can_be kV_length_can_be dc_length_can_be pm_length_can_be cd_length_can_be ct_length_can_be : Value}
    {f_head_can_be : Addr} {od_head_can_be an_head_can_be : Option Addr} {sl_head_can_be : Array (Option Value)} {oc_head_can_be kV_head_can_be dc_head_can_be pm_head_can_be cd_head_can_be ct_head_can_be : Value}
    {f_step_can_be : Addr} {od_step_can_be an_step_can_be : Option Addr} {sl_step_can_be : Array (Option Value)} {oc_step_can_be kV_step_can_be dc_step_can_be pm_step_can_be cd_step_can_be ct_step_can_be : Value}
    {f_Frame_shown_on : Addr} {od_Frame_shown_on an_Frame_shown_on : Option Addr} {sl_Frame_shown_on : Array (Option Value)} {oc_Frame_shown_on kV_Frame_shown_on dc_Frame_shown_on pm_Frame_shown_on cd_Frame_shown_on ct_Frame_shown_on : Value}
    {f_in_one_list : Addr} {od_in_one_list an_in_one_list : Option Addr} {sl_in_one_list : Array (Option Value)} {oc_in_one_list kV_in_one_list dc_in_one_list pm_in_one_list cd_in_one_list ct_in_one_list : Value}
    {f_RuleUnderWay_init : Addr} {od_RuleUnderWay_init an_RuleUnderWay_init : Option Addr} {sl_RuleUnderWay_init : Array (Option Value)} {oc_RuleUnderWay_init kV_RuleUnderWay_init dc_RuleUnderWay_init pm_RuleUnderWay_init cd_RuleUnderWay_init ct_RuleUnderWay_init : Value}
    {f_span_of : Addr} {od_span_of an_span_of : Option Addr} {sl_span_of : Array (Option Value)} {oc_span_of kV_span_of dc_span_of pm_span_of cd_span_of ct_span_of : Value}
    {f_digits_of : Addr} {od_digits_of an_digits_of : Option Addr} {sl_digits_of : Array (Option Value)} {oc_digits_of kV_digits_of dc_digits_of pm_digits_of cd_digits_of ct_digits_of : Value}
    {f_worth_together : Addr} {od_worth_together an_worth_together : Option Addr} {sl_worth_together : Array (Option Value)} {oc_worth_together kV_worth_together dc_worth_together pm_worth_together cd_worth_together ct_worth_together : Value}
    {f_forms_with_deck : Addr} {od_forms_with_deck an_forms_with_deck : Option Addr} {sl_forms_with_deck : Array (Option Value)} {oc_forms_with_deck kV_forms_with_deck dc_forms_with_deck pm_forms_with_deck cd_forms_with_deck ct_forms_with_deck : Value}
    {f_tour_cost : Addr} {od_tour_cost an_tour_cost : Option Addr} {sl_tour_cost : Array (Option Value)} {oc_tour_cost kV_tour_cost dc_tour_cost pm_tour_cost cd_tour_cost ct_tour_cost : Value}
    {f_behind_part : Addr} {od_behind_part an_behind_part : Option Addr} {sl_behind_part : Array (Option Value)} {oc_behind_part kV_behind_part dc_behind_part pm_behind_part cd_behind_part ct_behind_part : Value}
    {f_rules_of : Addr} {od_rules_of an_rules_of : Option Addr} {sl_rules_of : Array (Option Value)} {oc_rules_of kV_rules_of dc_rules_of pm_rules_of cd_rules_of ct_rules_of : Value}
    {f_rod_can_be : Addr} {od_rod_can_be an_rod_can_be : Option Addr} {sl_rod_can_be : Array (Option Value)} {oc_rod_can_be kV_rod_can_be dc_rod_can_be pm_rod_can_be cd_rod_can_be ct_rod_can_be : Value}
    {f_standing_fault : Addr} {od_standing_fault an_standing_fault : Option Addr} {sl_standing_fault : Array (Option Value)} {oc_standing_fault kV_standing_fault dc_standing_fault pm_standing_fault cd_standing_fault ct_standing_fault : Value}
    {f_stroke_can_be : Addr} {od_stroke_can_be an_stroke_can_be : Option Addr} {sl_stroke_can_be : Array (Option Value)} {oc_stroke_can_be kV_stroke_can_be dc_stroke_can_be pm_stroke_can_be cd_stroke_can_be ct_stroke_can_be : Value}
    {f_steps_can_be : Addr} {od_steps_can_be an_steps_can_be : Option Addr} {sl_steps_can_be : Array (Option Value)} {oc_steps_can_be kV_steps_can_be dc_steps_can_be pm_steps_can_be cd_steps_can_be ct_steps_can_be : Value}
    {f_Frame_is_in_form : Addr} {od_Frame_is_in_form an_Frame_is_in_form : Option Addr} {sl_Frame_is_in_form : Array (Option Value)} {oc_Frame_is_in_form kV_Frame_is_in_form dc_Frame_is_in_form pm_Frame_is_in_form cd_Frame_is_in_form ct_Frame_is_in_form : Value}
    {f_Frame_as_standing : Addr} {od_Frame_as_standing an_Frame_as_standing : Option Addr} {sl_Frame_as_standing : Array (Option Value)} {oc_Frame_as_standing kV_Frame_as_standing dc_Frame_as_standing pm_Frame_as_standing cd_Frame_as_standing ct_Frame_as_standing : Value}
    {f_digit_forms : Addr} {od_digit_forms an_digit_forms : Option Addr} {sl_digit_forms : Array (Option Value)} {oc_digit_forms kV_digit_forms dc_digit_forms pm_digit_forms cd_digit_forms ct_digit_forms : Value}
    {f_behind_act : Addr} {od_behind_act an_behind_act : Option Addr} {sl_behind_act : Array (Option Value)} {oc_behind_act kV_behind_act dc_behind_act pm_behind_act cd_behind_act ct_behind_act : Value}
    {f_hand_fault : Addr} {od_hand_fault an_hand_fault : Option Addr} {sl_hand_fault : Array (Option Value)} {oc_hand_fault kV_hand_fault dc_hand_fault pm_hand_fault cd_hand_fault ct_hand_fault : Value}
    {f_row_can_be : Addr} {od_row_can_be an_row_can_be : Option Addr} {sl_row_can_be : Array (Option Value)} {oc_row_can_be kV_row_can_be dc_row_can_be pm_row_can_be cd_row_can_be ct_row_can_be : Value}
    {f_Sum_init : Addr} {od_Sum_init an_Sum_init : Option Addr} {sl_Sum_init : Array (Option Value)} {oc_Sum_init kV_Sum_init dc_Sum_init pm_Sum_init cd_Sum_init ct_Sum_init : Value}
    {f_Sum_begin_rule : Addr} {od_Sum_begin_rule an_Sum_begin_rule : Option Addr} {sl_Sum_begin_rule : Array (Option Value)} {oc_Sum_begin_rule kV_Sum_begin_rule dc_Sum_begin_rule pm_Sum_begin_rule cd_Sum_begin_rule ct_Sum_begin_rule : Value}
    {f_digits_in_order : Addr} {od_digits_in_order an_digits_in_order : Option Addr} {sl_digits_in_order : Array (Option Value)} {oc_digits_in_order kV_digits_in_order dc_digits_in_order pm_digits_in_order cd_digits_in_order ct_digits_in_order : Value}
    {f_digits_by_form : Addr} {od_digits_by_form an_digits_by_form : Option Addr} {sl_digits_by_form : Array (Option Value)} {oc_digits_by_form kV_digits_by_form dc_digits_by_form pm_digits_by_form cd_digits_by_form ct_digits_by_form : Value}
    {f_rule_broken : Addr} {od_rule_broken an_rule_broken : Option Addr} {sl_rule_broken : Array (Option Value)} {oc_rule_broken kV_rule_broken dc_rule_broken pm_rule_broken cd_rule_broken ct_rule_broken : Value}
    {f_book_fault : Addr} {od_book_fault an_book_fault : Option Addr} {sl_book_fault : Array (Option Value)} {oc_book_fault kV_book_fault dc_book_fault pm_book_fault cd_book_fault ct_book_fault : Value}
    {f_Frame_try_act : Addr} {od_Frame_try_act an_Frame_try_act : Option Addr} {sl_Frame_try_act : Array (Option Value)} {oc_Frame_try_act kV_Frame_try_act dc_Frame_try_act pm_Frame_try_act cd_Frame_try_act ct_Frame_try_act : Value}
    {f_Sum_carry_from : Addr} {od_Sum_carry_from an_Sum_carry_from : Option Addr} {sl_Sum_carry_from : Array (Option Value)} {oc_Sum_carry_from kV_Sum_carry_from dc_Sum_carry_from pm_Sum_carry_from cd_Sum_carry_from ct_Sum_carry_from : Value}
    {f_make_fault : Addr} {od_make_fault an_make_fault : Option Addr} {sl_make_fault : Array (Option Value)} {oc_make_fault kV_make_fault dc_make_fault pm_make_fault cd_make_fault ct_make_fault : Value}
    {f_Frame_init : Addr} {od_Frame_init an_Frame_init : Option Addr} {sl_Frame_init : Array (Option Value)} {oc_Frame_init kV_Frame_init dc_Frame_init pm_Frame_init cd_Frame_init ct_Frame_init : Value}
    {f_Sum_act_on : Addr} {od_Sum_act_on an_Sum_act_on : Option Addr} {sl_Sum_act_on : Array (Option Value)} {oc_Sum_act_on kV_Sum_act_on dc_Sum_act_on pm_Sum_act_on cd_Sum_act_on ct_Sum_act_on : Value}
    {f_Sum_go_on : Addr} {od_Sum_go_on an_Sum_go_on : Option Addr} {sl_Sum_go_on : Array (Option Value)} {oc_Sum_go_on kV_Sum_go_on dc_Sum_go_on pm_Sum_go_on cd_Sum_go_on ct_Sum_go_on : Value}
    {f_Sum_do_digit : Addr} {od_Sum_do_digit an_Sum_do_digit : Option Addr} {sl_Sum_do_digit : Array (Option Value)} {oc_Sum_do_digit kV_Sum_do_digit dc_Sum_do_digit pm_Sum_do_digit cd_Sum_do_digit ct_Sum_do_digit : Value}
    {f_acts_of_sum : Addr} {od_acts_of_sum an_acts_of_sum : Option Addr} {sl_acts_of_sum : Array (Option Value)} {oc_acts_of_sum kV_acts_of_sum dc_acts_of_sum pm_acts_of_sum cd_acts_of_sum ct_acts_of_sum : Value}
    {f_sum_of : Addr} {od_sum_of an_sum_of : Option Addr} {sl_sum_of : Array (Option Value)} {oc_sum_of kV_sum_of dc_sum_of pm_sum_of cd_sum_of ct_sum_of : Value}
    (h_BOOK_RULE : PySem.W.nsIn K mainGlobals "BOOK_RULE" = some (some (.int 9 i_BOOK_RULE)))
    (h_CARRY : PySem.W.nsIn K mainGlobals "CARRY" = some (some (.ref p_CARRY))) (l_CARRY : K.lookup p_CARRY = some ⟨.type "tuple", od_CARRY, .seq #[.int 0 i0_CARRY, .int 0 i1_CARRY, .int 0 i2_CARRY] n_CARRY, sl_CARRY⟩)
    (h_DECKS : PySem.W.nsIn K mainGlobals "DECKS" = some (some (.int 3 i_DECKS)))
    (h_DIGITS_RULE : PySem.W.nsIn K mainGlobals "DIGITS_RULE" = some (some (.int 4 i_DIGITS_RULE)))
    (h_FROM_THE_LEFT : PySem.W.nsIn K mainGlobals "FROM_THE_LEFT" = some (some (.int 0 i_FROM_THE_LEFT)))
    (h_HAND_RULE : PySem.W.nsIn K mainGlobals "HAND_RULE" = some (some (.int 6 i_HAND_RULE)))
    (h_HIGHEST_COST : PySem.W.nsIn K mainGlobals "HIGHEST_COST" = some (some (.int 255 i_HIGHEST_COST)))
    (h_HIGHEST_DIGIT : PySem.W.nsIn K mainGlobals "HIGHEST_DIGIT" = some (some (.int 19 i_HIGHEST_DIGIT)))
    (h_HIGHEST_DIRECTION : PySem.W.nsIn K mainGlobals "HIGHEST_DIRECTION" = some (some (.int 2 i_HIGHEST_DIRECTION)))
    (h_HIGHEST_OP : PySem.W.nsIn K mainGlobals "HIGHEST_OP" = some (some (.int 1 i_HIGHEST_OP)))
    (h_HIGHEST_RATIO : PySem.W.nsIn K mainGlobals "HIGHEST_RATIO" = some (some (.int 20 i_HIGHEST_RATIO)))
    (h_HIGHEST_STROKE : PySem.W.nsIn K mainGlobals "HIGHEST_STROKE" = some (some (.int 31 i_HIGHEST_STROKE)))
    (h_HIGHEST_WORTH : PySem.W.nsIn K mainGlobals "HIGHEST_WORTH" = some (some (.int 63 i_HIGHEST_WORTH)))
    (h_HIGHEST_WORTH_TOGETHER : PySem.W.nsIn K mainGlobals "HIGHEST_WORTH_TOGETHER" = some (some (.int 255 i_HIGHEST_WORTH_TOGETHER)))
    (h_LOWEST_RATIO : PySem.W.nsIn K mainGlobals "LOWEST_RATIO" = some (some (.int 2 i_LOWEST_RATIO)))
    (h_MAKE_LENGTH_RULE : PySem.W.nsIn K mainGlobals "MAKE_LENGTH_RULE" = some (some (.int 1 i_MAKE_LENGTH_RULE)))
    (h_MOST_BEADS : PySem.W.nsIn K mainGlobals "MOST_BEADS" = some (some (.int 15 i_MOST_BEADS)))
    (h_MOST_RODS : PySem.W.nsIn K mainGlobals "MOST_RODS" = some (some (.int 64 i_MOST_RODS)))
    (h_MOST_STEPS : PySem.W.nsIn K mainGlobals "MOST_STEPS" = some (some (.int 10 i_MOST_STEPS)))
    (h_MOST_STEPS_A_SUM : PySem.W.nsIn K mainGlobals "MOST_STEPS_A_SUM" = some (some (.int 65536 i_MOST_STEPS_A_SUM)))
    (h_MOST_STROKES : PySem.W.nsIn K mainGlobals "MOST_STROKES" = some (some (.int 32 i_MOST_STROKES)))
    (h_NUMBERS_A_ROD : PySem.W.nsIn K mainGlobals "NUMBERS_A_ROD" = some (some (.int 7 i_NUMBERS_A_ROD)))
    (h_NUMBERS_A_STROKE : PySem.W.nsIn K mainGlobals "NUMBERS_A_STROKE" = some (some (.int 7 i_NUMBERS_A_STROKE)))
    (h_ROD_RULE : PySem.W.nsIn K mainGlobals "ROD_RULE" = some (some (.int 2 i_ROD_RULE)))
    (h_STANDING_RULE : PySem.W.nsIn K mainGlobals "STANDING_RULE" = some (some (.int 5 i_STANDING_RULE)))
    (h_STROKE_RULE : PySem.W.nsIn K mainGlobals "STROKE_RULE" = some (some (.int 7 i_STROKE_RULE)))
    (h_TO_THE_BEAM : PySem.W.nsIn K mainGlobals "TO_THE_BEAM" = some (some (.int 1 i_TO_THE_BEAM)))
    (h_WORTH_TOGETHER_RULE : PySem.W.nsIn K mainGlobals "WORTH_TOGETHER_RULE" = some (some (.int 3 i_WORTH_TOGETHER_RULE)))
    (h_abs : PySem.W.nsIn K mainGlobals "abs" = some none)
    (h_all : PySem.W.nsIn K mainGlobals "all" = some none)
    (h_enumerate : PySem.W.nsIn K mainGlobals "enumerate" = some none)
    (h_len : PySem.W.nsIn K mainGlobals "len" = some none)
    (h_list : PySem.W.nsIn K mainGlobals "list" = some none)
    (h_min : PySem.W.nsIn K mainGlobals "min" = some none)
    (h_range : PySem.W.nsIn K mainGlobals "range" = some none)
    (h_reversed : PySem.W.nsIn K mainGlobals "reversed" = some none)
    (h_sum : PySem.W.nsIn K mainGlobals "sum" = some none)
    (h_tuple : PySem.W.nsIn K mainGlobals "tuple" = some none)
    (aC_Frame : PySem.W.nsIn K mainGlobals "Frame" = some (some (.ref C_Frame)))
    (aC_GoesWrong : PySem.W.nsIn K mainGlobals "GoesWrong" = some (some (.ref C_GoesWrong)))
    (aC_RunsOver : PySem.W.nsIn K mainGlobals "RunsOver" = some (some (.ref C_RunsOver)))
    (aC_TooLong : PySem.W.nsIn K mainGlobals "TooLong" = some (some (.ref C_TooLong)))
    (aC_RuleUnderWay : PySem.W.nsIn K mainGlobals "RuleUnderWay" = some (some (.ref C_RuleUnderWay)))
    (aC_Sum : PySem.W.nsIn K mainGlobals "Sum" = some (some (.ref C_Sum)))
    (pg_Frame : PySem.W.plainGet K C_Frame Str.empty = true) (hd_Frame : PySem.W.hasDictIn K C_Frame = true) (po_Frame : PySem.W.plainOver K C_Frame = true) (sa_Frame : PySem.W.findIn K (.ref C_Frame) "__setattr__" = some (some (.builtin "object.__setattr__"))) (mk_Frame : PySem.W.makesIn K C_Frame = true) (kc_Frame : PySem.W.keepIn K (.ref C_Frame) = true)
    (na_Frame_rods : PySem.W.findIn K (.ref C_Frame) "rods" = some none)
    (na_Frame_pushed : PySem.W.findIn K (.ref C_Frame) "pushed" = some none)
    (na_Frame_digits : PySem.W.findIn K (.ref C_Frame) "digits" = some none)
    (pg_RuleUnderWay : PySem.W.plainGet K C_RuleUnderWay Str.empty = true) (hd_RuleUnderWay : PySem.W.hasDictIn K C_RuleUnderWay = true) (po_RuleUnderWay : PySem.W.plainOver K C_RuleUnderWay = true) (sa_RuleUnderWay : PySem.W.findIn K (.ref C_RuleUnderWay) "__setattr__" = some (some (.builtin "object.__setattr__"))) (mk_RuleUnderWay : PySem.W.makesIn K C_RuleUnderWay = true) (kc_RuleUnderWay : PySem.W.keepIn K (.ref C_RuleUnderWay) = true)
    (na_RuleUnderWay_number : PySem.W.findIn K (.ref C_RuleUnderWay) "number" = some none)
    (na_RuleUnderWay_steps : PySem.W.findIn K (.ref C_RuleUnderWay) "steps" = some none)
    (na_RuleUnderWay_begun : PySem.W.findIn K (.ref C_RuleUnderWay) "begun" = some none)
    (pg_Sum : PySem.W.plainGet K C_Sum Str.empty = true) (hd_Sum : PySem.W.hasDictIn K C_Sum = true) (po_Sum : PySem.W.plainOver K C_Sum = true) (sa_Sum : PySem.W.findIn K (.ref C_Sum) "__setattr__" = some (some (.builtin "object.__setattr__"))) (mk_Sum : PySem.W.makesIn K C_Sum = true) (kc_Sum : PySem.W.keepIn K (.ref C_Sum) = true)
    (na_Sum_op : PySem.W.findIn K (.ref C_Sum) "op" = some none)
    (na_Sum_frame : PySem.W.findIn K (.ref C_Sum) "frame" = some none)
    (na_Sum_strokes : PySem.W.findIn K (.ref C_Sum) "strokes" = some none)
    (na_Sum_rules : PySem.W.findIn K (.ref C_Sum) "rules" = some none)
    (na_Sum_under_way : PySem.W.findIn K (.ref C_Sum) "under_way" = some none)
    (na_Sum_steps_begun : PySem.W.findIn K (.ref C_Sum) "steps_begun" = some none)
    (na_Sum_acts : PySem.W.findIn K (.ref C_Sum) "acts" = some none)
    (ok_GoesWrong : PySem.W.excIn K C_GoesWrong [.type "Exception", .type "BaseException", .type "object"] "Exception.__new__" = true) (sb_GoesWrong : PySem.W.subIn K (.ref C_GoesWrong) (.type "BaseException") = some true) (cl_GoesWrong : PySem.W.clsIn K C_GoesWrong = some cd_GoesWrong) (ty_GoesWrong : PySem.W.typeIn K (.ref C_GoesWrong) = some (.type "type")) (eq_GoesWrong : PySem.W.subIn K (.ref C_GoesWrong) (.ref C_GoesWrong) = some true)
    (ne_GoesWrong_RunsOver : PySem.W.subIn K (.ref C_GoesWrong) (.ref C_RunsOver) = some false)
    (ne_GoesWrong_TooLong : PySem.W.subIn K (.ref C_GoesWrong) (.ref C_TooLong) = some false)
    (ok_RunsOver : PySem.W.excIn K C_RunsOver [.type "Exception", .type "BaseException", .type "object"] "Exception.__new__" = true) (sb_RunsOver : PySem.W.subIn K (.ref C_RunsOver) (.type "BaseException") = some true) (cl_RunsOver : PySem.W.clsIn K C_RunsOver = some cd_RunsOver) (ty_RunsOver : PySem.W.typeIn K (.ref C_RunsOver) = some (.type "type")) (eq_RunsOver : PySem.W.subIn K (.ref C_RunsOver) (.ref C_RunsOver) = some true)
    (ne_RunsOver_GoesWrong : PySem.W.subIn K (.ref C_RunsOver) (.ref C_GoesWrong) = some false)
    (ne_RunsOver_TooLong : PySem.W.subIn K (.ref C_RunsOver) (.ref C_TooLong) = some false)
    (ok_TooLong : PySem.W.excIn K C_TooLong [.type "Exception", .type "BaseException", .type "object"] "Exception.__new__" = true) (sb_TooLong : PySem.W.subIn K (.ref C_TooLong) (.type "BaseException") = some true) (cl_TooLong : PySem.W.clsIn K C_TooLong = some cd_TooLong) (ty_TooLong : PySem.W.typeIn K (.ref C_TooLong) = some (.type "type")) (eq_TooLong : PySem.W.subIn K (.ref C_TooLong) (.ref C_TooLong) = some true)
    (ne_TooLong_GoesWrong : PySem.W.subIn K (.ref C_TooLong) (.ref C_GoesWrong) = some false)
    (ne_TooLong_RunsOver : PySem.W.subIn K (.ref C_TooLong) (.ref C_RunsOver) = some false)
    (a_rods_of : PySem.W.nsIn K mainGlobals "rods_of" = some (some (.ref f_rods_of))) (l_rods_of : K.lookup f_rods_of = some ⟨oc_rods_of, od_rods_of, .func (PySem.W.fnOf "rods_of" "rods_of" (defArgs t_rods_of) (defBody t_rods_of) (defScope t_rods_of) .none kV_rods_of dc_rods_of pm_rods_of an_rods_of cd_rods_of ct_rods_of), sl_rods_of⟩) (e_rods_of : PySem.W.codeIn K cd_rods_of "rods_of" = true) (k_rods_of : PySem.W.keepIn K (.ref f_rods_of) = true)
    (a_ratio_of : PySem.W.nsIn K mainGlobals "ratio_of" = some (some (.ref f_ratio_of))) (l_ratio_of : K.lookup f_ratio_of = some ⟨oc_ratio_of, od_ratio_of, .func (PySem.W.fnOf "ratio_of" "ratio_of" (defArgs t_ratio_of) (defBody t_ratio_of) (defScope t_ratio_of) .none kV_ratio_of dc_ratio_of pm_ratio_of an_ratio_of cd_ratio_of ct_ratio_of), sl_ratio_of⟩) (e_ratio_of : PySem.W.codeIn K cd_ratio_of "ratio_of" = true) (k_ratio_of : PySem.W.keepIn K (.ref f_ratio_of) = true)
    (a_beads_of : PySem.W.nsIn K mainGlobals "beads_of" = some (some (.ref f_beads_of))) (l_beads_of : K.lookup f_beads_of = some ⟨oc_beads_of, od_beads_of, .func (PySem.W.fnOf "beads_of" "beads_of" (defArgs t_beads_of) (defBody t_beads_of) (defScope t_beads_of) .none kV_beads_of dc_beads_of pm_beads_of an_beads_of cd_beads_of ct_beads_of), sl_beads_of⟩) (e_beads_of : PySem.W.codeIn K cd_beads_of "beads_of" = true) (k_beads_of : PySem.W.keepIn K (.ref f_beads_of) = true)
    (a_worth_of : PySem.W.nsIn K mainGlobals "worth_of" = some (some (.ref f_worth_of))) (l_worth_of : K.lookup f_worth_of = some ⟨oc_worth_of, od_worth_of, .func (PySem.W.fnOf "worth_of" "worth_of" (defArgs t_worth_of) (defBody t_worth_of) (defScope t_worth_of) .none kV_worth_of dc_worth_of pm_worth_of an_worth_of cd_worth_of ct_worth_of), sl_worth_of⟩) (e_worth_of : PySem.W.codeIn K cd_worth_of "worth_of" = true) (k_worth_of : PySem.W.keepIn K (.ref f_worth_of) = true)
    (a_goes_before : PySem.W.nsIn K mainGlobals "goes_before" = some (some (.ref f_goes_before))) (l_goes_before : K.lookup f_goes_before = some ⟨oc_goes_before, od_goes_before, .func (PySem.W.fnOf "goes_before" "goes_before" (defArgs t_goes_before) (defBody t_goes_before) (defScope t_goes_before) .none kV_goes_before dc_goes_before pm_goes_before an_goes_before cd_goes_before ct_goes_before), sl_goes_before⟩) (e_goes_before : PySem.W.codeIn K cd_goes_before "goes_before" = true) (k_goes_before : PySem.W.keepIn K (.ref f_goes_before) = true)
    (a_strokes_of : PySem.W.nsIn K mainGlobals "strokes_of" = some (some (.ref f_strokes_of))) (l_strokes_of : K.lookup f_strokes_of = some ⟨oc_strokes_of, od_strokes_of, .func (PySem.W.fnOf "strokes_of" "strokes_of" (defArgs t_strokes_of) (defBody t_strokes_of) (defScope t_strokes_of) .none kV_strokes_of dc_strokes_of pm_strokes_of an_strokes_of cd_strokes_of ct_strokes_of), sl_strokes_of⟩) (e_strokes_of : PySem.W.codeIn K cd_strokes_of "strokes_of" = true) (k_strokes_of : PySem.W.keepIn K (.ref f_strokes_of) = true)
    (a_first_part : PySem.W.nsIn K mainGlobals "first_part" = some (some (.ref f_first_part))) (l_first_part : K.lookup f_first_part = some ⟨oc_first_part, od_first_part, .func (PySem.W.fnOf "first_part" "first_part" (defArgs t_first_part) (defBody t_first_part) (defScope t_first_part) .none kV_first_part dc_first_part pm_first_part an_first_part cd_first_part ct_first_part), sl_first_part⟩) (e_first_part : PySem.W.codeIn K cd_first_part "first_part" = true) (k_first_part : PySem.W.keepIn K (.ref f_first_part) = true)
    (a_second_part : PySem.W.nsIn K mainGlobals "second_part" = some (some (.ref f_second_part))) (l_second_part : K.lookup f_second_part = some ⟨oc_second_part, od_second_part, .func (PySem.W.fnOf "second_part" "second_part" (defArgs t_second_part) (defBody t_second_part) (defScope t_second_part) .none kV_second_part dc_second_part pm_second_part an_second_part cd_second_part ct_second_part), sl_second_part⟩) (e_second_part : PySem.W.codeIn K cd_second_part "second_part" = true) (k_second_part : PySem.W.keepIn K (.ref f_second_part) = true)
    (a_cost_of : PySem.W.nsIn K mainGlobals "cost_of" = some (some (.ref f_cost_of))) (l_cost_of : K.lookup f_cost_of = some ⟨oc_cost_of, od_cost_of, .func (PySem.W.fnOf "cost_of" "cost_of" (defArgs t_cost_of) (defBody t_cost_of) (defScope t_cost_of) .none kV_cost_of dc_cost_of pm_cost_of an_cost_of cd_cost_of ct_cost_of), sl_cost_of⟩) (e_cost_of : PySem.W.codeIn K cd_cost_of "cost_of" = true) (k_cost_of : PySem.W.keepIn K (.ref f_cost_of) = true)
    (a_steps_of : PySem.W.nsIn K mainGlobals "steps_of" = some (some (.ref f_steps_of))) (l_steps_of : K.lookup f_steps_of = some ⟨oc_steps_of, od_steps_of, .func (PySem.W.fnOf "steps_of" "steps_of" (defArgs t_steps_of) (defBody t_steps_of) (defScope t_steps_of) .none kV_steps_of dc_steps_of pm_steps_of an_steps_of cd_steps_of ct_steps_of), sl_steps_of⟩) (e_steps_of : PySem.W.codeIn K cd_steps_of "steps_of" = true) (k_steps_of : PySem.W.keepIn K (.ref f_steps_of) = true)
    (a_first_fault : PySem.W.nsIn K mainGlobals "first_fault" = some (some (.ref f_first_fault))) (l_first_fault : K.lookup f_first_fault = some ⟨oc_first_fault, od_first_fault, .func (PySem.W.fnOf "first_fault" "first_fault" (defArgs t_first_fault) (defBody t_first_fault) (defScope t_first_fault) .none kV_first_fault dc_first_fault pm_first_fault an_first_fault cd_first_fault ct_first_fault), sl_first_fault⟩) (e_first_fault : PySem.W.codeIn K cd_first_fault "first_fault" = true) (k_first_fault : PySem.W.keepIn K (.ref f_first_fault) = true)
    (a_deck_can_be : PySem.W.nsIn K mainGlobals "deck_can_be" = some (some (.ref f_deck_can_be))) (l_deck_can_be : K.lookup f_deck_can_be = some ⟨oc_deck_can_be, od_deck_can_be, .func (PySem.W.fnOf "deck_can_be" "deck_can_be" (defArgs t_deck_can_be) (defBody t_deck_can_be) (defScope t_deck_can_be) .none kV_deck_can_be dc_deck_can_be pm_deck_can_be an_deck_can_be cd_deck_can_be ct_deck_can_be), sl_deck_can_be⟩) (e_deck_can_be : PySem.W.codeIn K cd_deck_can_be "deck_can_be" = true) (k_deck_can_be : PySem.W.keepIn K (.ref f_deck_can_be) = true)
    (a_hand_can_be : PySem.W.nsIn K mainGlobals "hand_can_be" = some (some (.ref f_hand_can_be))) (l_hand_can_be : K.lookup f_hand_can_be = some ⟨oc_hand_can_be, od_hand_can_be, .func (PySem.W.fnOf "hand_can_be" "hand_can_be" (defArgs t_hand_can_be) (defBody t_hand_can_be) (defScope t_hand_can_be) .none kV_hand_can_be dc_hand_can_be pm_hand_can_be an_hand_can_be cd_hand_can_be ct_hand_can_be), sl_hand_can_be⟩) (e_hand_can_be : PySem.W.codeIn K cd_hand_can_be "hand_can_be" = true) (k_hand_can_be : PySem.W.keepIn K (.ref f_hand_can_be) = true)
    (a_part_can_be : PySem.W.nsIn K mainGlobals "part_can_be" = some (some (.ref f_part_can_be))) (l_part_can_be : K.lookup f_part_can_be = some ⟨oc_part_can_be, od_part_can_be, .func (PySem.W.fnOf "part_can_be" "part_can_be" (defArgs t_part_can_be) (defBody t_part_can_be) (defScope t_part_can_be) .none kV_part_can_be dc_part_can_be pm_part_can_be an_part_can_be cd_part_can_be ct_part_can_be), sl_part_can_be⟩) (e_part_can_be : PySem.W.codeIn K cd_part_can_be "part_can_be" = true) (k_part_can_be : PySem.W.keepIn K (.ref f_part_can_be) = true)
    (a_length_can_be : PySem.W.nsIn K mainGlobals "length_can_be" = some (some (.ref f_length_can_be))) (l_length_can_be : K.lookup f_length_can_be = some ⟨oc_length_can_be, od_length_can_be, .func (PySem.W.fnOf "length_can_be" "length_can_be" (defArgs t_length_can_be) (defBody t_length_can_be) (defScope t_length_can_be) .none kV_length_can_be dc_length_can_be pm_length_can_be an_length_can_be cd_length_can_be ct_length_can_be), sl_length_can_be⟩) (e_length_can_be : PySem.W.codeIn K cd_length_can_be "length_can_be" = true) (k_length_can_be : PySem.W.keepIn K (.ref f_length_can_be) = true)
    (a_head_can_be : PySem.W.nsIn K mainGlobals "head_can_be" = some (some (.ref f_head_can_be))) (l_head_can_be : K.lookup f_head_can_be = some ⟨oc_head_can_be, od_head_can_be, .func (PySem.W.fnOf "head_can_be" "head_can_be" (defArgs t_head_can_be) (defBody t_head_can_be) (defScope t_head_can_be) .none kV_head_can_be dc_head_can_be pm_head_can_be an_head_can_be cd_head_can_be ct_head_can_be), sl_head_can_be⟩) (e_head_can_be : PySem.W.codeIn K cd_head_can_be "head_can_be" = true) (k_head_can_be : PySem.W.keepIn K (.ref f_head_can_be) = true)
    (a_step_can_be : PySem.W.nsIn K mainGlobals "step_can_be" = some (some (.ref f_step_can_be))) (l_step_can_be : K.lookup f_step_can_be = some ⟨oc_step_can_be, od_step_can_be, .func (PySem.W.fnOf "step_can_be" "step_can_be" (defArgs t_step_can_be) (defBody t_step_can_be) (defScope t_step_can_be) .none kV_step_can_be dc_step_can_be pm_step_can_be an_step_can_be cd_step_can_be ct_step_can_be), sl_step_can_be⟩) (e_step_can_be : PySem.W.codeIn K cd_step_can_be "step_can_be" = true) (k_step_can_be : PySem.W.keepIn K (.ref f_step_can_be) = true)
    (a_Frame_shown_on : PySem.W.findIn K (.ref C_Frame) "shown_on" = some (some (.ref f_Frame_shown_on))) (i_Frame_shown_on : PySem.W.isFn K (.ref f_Frame_shown_on) = true) (l_Frame_shown_on : K.lookup f_Frame_shown_on = some ⟨oc_Frame_shown_on, od_Frame_shown_on, .func (PySem.W.fnOf "shown_on" "Frame.shown_on" (defArgs t_Frame_shown_on) (defBody t_Frame_shown_on) (defScope t_Frame_shown_on) .none kV_Frame_shown_on dc_Frame_shown_on pm_Frame_shown_on an_Frame_shown_on cd_Frame_shown_on ct_Frame_shown_on), sl_Frame_shown_on⟩) (e_Frame_shown_on : PySem.W.codeIn K cd_Frame_shown_on "Frame.shown_on" = true) (k_Frame_shown_on : PySem.W.keepIn K (.ref f_Frame_shown_on) = true)
    (a_in_one_list : PySem.W.nsIn K mainGlobals "in_one_list" = some (some (.ref f_in_one_list))) (l_in_one_list : K.lookup f_in_one_list = some ⟨oc_in_one_list, od_in_one_list, .func (PySem.W.fnOf "in_one_list" "in_one_list" (defArgs t_in_one_list) (defBody t_in_one_list) (defScope t_in_one_list) .none kV_in_one_list dc_in_one_list pm_in_one_list an_in_one_list cd_in_one_list ct_in_one_list), sl_in_one_list⟩) (e_in_one_list : PySem.W.codeIn K cd_in_one_list "in_one_list" = true) (k_in_one_list : PySem.W.keepIn K (.ref f_in_one_list) = true)
    (a_RuleUnderWay_init : PySem.W.findIn K (.ref C_RuleUnderWay) "__init__" = some (some (.ref f_RuleUnderWay_init))) (i_RuleUnderWay_init : PySem.W.isFn K (.ref f_RuleUnderWay_init) = true) (l_RuleUnderWay_init : K.lookup f_RuleUnderWay_init = some ⟨oc_RuleUnderWay_init, od_RuleUnderWay_init, .func (PySem.W.fnOf "__init__" "RuleUnderWay.__init__" (defArgs t_RuleUnderWay_init) (defBody t_RuleUnderWay_init) (defScope t_RuleUnderWay_init) .none kV_RuleUnderWay_init dc_RuleUnderWay_init pm_RuleUnderWay_init an_RuleUnderWay_init cd_RuleUnderWay_init ct_RuleUnderWay_init), sl_RuleUnderWay_init⟩) (e_RuleUnderWay_init : PySem.W.codeIn K cd_RuleUnderWay_init "RuleUnderWay.__init__" = true) (k_RuleUnderWay_init : PySem.W.keepIn K (.ref f_RuleUnderWay_init) = true)
    (a_span_of : PySem.W.nsIn K mainGlobals "span_of" = some (some (.ref f_span_of))) (l_span_of : K.lookup f_span_of = some ⟨oc_span_of, od_span_of, .func (PySem.W.fnOf "span_of" "span_of" (defArgs t_span_of) (defBody t_span_of) (defScope t_span_of) .none kV_span_of dc_span_of pm_span_of an_span_of cd_span_of ct_span_of), sl_span_of⟩) (e_span_of : PySem.W.codeIn K cd_span_of "span_of" = true) (k_span_of : PySem.W.keepIn K (.ref f_span_of) = true)
    (a_digits_of : PySem.W.nsIn K mainGlobals "digits_of" = some (some (.ref f_digits_of))) (l_digits_of : K.lookup f_digits_of = some ⟨oc_digits_of, od_digits_of, .func (PySem.W.fnOf "digits_of" "digits_of" (defArgs t_digits_of) (defBody t_digits_of) (defScope t_digits_of) .none kV_digits_of dc_digits_of pm_digits_of an_digits_of cd_digits_of ct_digits_of), sl_digits_of⟩) (e_digits_of : PySem.W.codeIn K cd_digits_of "digits_of" = true) (k_digits_of : PySem.W.keepIn K (.ref f_digits_of) = true)
    (a_worth_together : PySem.W.nsIn K mainGlobals "worth_together" = some (some (.ref f_worth_together))) (l_worth_together : K.lookup f_worth_together = some ⟨oc_worth_together, od_worth_together, .func (PySem.W.fnOf "worth_together" "worth_together" (defArgs t_worth_together) (defBody t_worth_together) (defScope t_worth_together) .none kV_worth_together dc_worth_together pm_worth_together an_worth_together cd_worth_together ct_worth_together), sl_worth_together⟩) (e_worth_together : PySem.W.codeIn K cd_worth_together "worth_together" = true) (k_worth_together : PySem.W.keepIn K (.ref f_worth_together) = true)
    (a_forms_with_deck : PySem.W.nsIn K mainGlobals "forms_with_deck" = some (some (.ref f_forms_with_deck))) (l_forms_with_deck : K.lookup f_forms_with_deck = some ⟨oc_forms_with_deck, od_forms_with_deck, .func (PySem.W.fnOf "forms_with_deck" "forms_with_deck" (defArgs t_forms_with_deck) (defBody t_forms_with_deck) (defScope t_forms_with_deck) .none kV_forms_with_deck dc_forms_with_deck pm_forms_with_deck an_forms_with_deck cd_forms_with_deck ct_forms_with_deck), sl_forms_with_deck⟩) (e_forms_with_deck : PySem.W.codeIn K cd_forms_with_deck "forms_with_deck" = true) (k_forms_with_deck : PySem.W.keepIn K (.ref f_forms_with_deck) = true)
    (a_tour_cost : PySem.W.nsIn K mainGlobals "tour_cost" = some (some (.ref f_tour_cost))) (l_tour_cost : K.lookup f_tour_cost = some ⟨oc_tour_cost, od_tour_cost, .func (PySem.W.fnOf "tour_cost" "tour_cost" (defArgs t_tour_cost) (defBody t_tour_cost) (defScope t_tour_cost) .none kV_tour_cost dc_tour_cost pm_tour_cost an_tour_cost cd_tour_cost ct_tour_cost), sl_tour_cost⟩) (e_tour_cost : PySem.W.codeIn K cd_tour_cost "tour_cost" = true) (k_tour_cost : PySem.W.keepIn K (.ref f_tour_cost) = true)
    (a_behind_part : PySem.W.nsIn K mainGlobals "behind_part" = some (some (.ref f_behind_part))) (l_behind_part : K.lookup f_behind_part = some ⟨oc_behind_part, od_behind_part, .func (PySem.W.fnOf "behind_part" "behind_part" (defArgs t_behind_part) (defBody t_behind_part) (defScope t_behind_part) .none kV_behind_part dc_behind_part pm_behind_part an_behind_part cd_behind_part ct_behind_part), sl_behind_part⟩) (e_behind_part : PySem.W.codeIn K cd_behind_part "behind_part" = true) (k_behind_part : PySem.W.keepIn K (.ref f_behind_part) = true)
    (a_rules_of : PySem.W.nsIn K mainGlobals "rules_of" = some (some (.ref f_rules_of))) (l_rules_of : K.lookup f_rules_of = some ⟨oc_rules_of, od_rules_of, .func (PySem.W.fnOf "rules_of" "rules_of" (defArgs t_rules_of) (defBody t_rules_of) (defScope t_rules_of) .none kV_rules_of dc_rules_of pm_rules_of an_rules_of cd_rules_of ct_rules_of), sl_rules_of⟩) (e_rules_of : PySem.W.codeIn K cd_rules_of "rules_of" = true) (k_rules_of : PySem.W.keepIn K (.ref f_rules_of) = true)
    (a_rod_can_be : PySem.W.nsIn K mainGlobals "rod_can_be" = some (some (.ref f_rod_can_be))) (l_rod_can_be : K.lookup f_rod_can_be = some ⟨oc_rod_can_be, od_rod_can_be, .func (PySem.W.fnOf "rod_can_be" "rod_can_be" (defArgs t_rod_can_be) (defBody t_rod_can_be) (defScope t_rod_can_be) .none kV_rod_can_be dc_rod_can_be pm_rod_can_be an_rod_can_be cd_rod_can_be ct_rod_can_be), sl_rod_can_be⟩) (e_rod_can_be : PySem.W.codeIn K cd_rod_can_be "rod_can_be" = true) (k_rod_can_be : PySem.W.keepIn K (.ref f_rod_can_be) = true)
    (a_standing_fault : PySem.W.nsIn K mainGlobals "standing_fault" = some (some (.ref f_standing_fault))) (l_standing_fault : K.lookup f_standing_fault = some ⟨oc_standing_fault, od_standing_fault, .func (PySem.W.fnOf "standing_fault" "standing_fault" (defArgs t_standing_fault) (defBody t_standing_fault) (defScope t_standing_fault) .none kV_standing_fault dc_standing_fault pm_standing_fault an_standing_fault cd_standing_fault ct_standing_fault), sl_standing_fault⟩) (e_standing_fault : PySem.W.codeIn K cd_standing_fault "standing_fault" = true) (k_standing_fault : PySem.W.keepIn K (.ref f_standing_fault) = true)
    (a_stroke_can_be : PySem.W.nsIn K mainGlobals "stroke_can_be" = some (some (.ref f_stroke_can_be))) (l_stroke_can_be : K.lookup f_stroke_can_be = some ⟨oc_stroke_can_be, od_stroke_can_be, .func (PySem.W.fnOf "stroke_can_be" "stroke_can_be" (defArgs t_stroke_can_be) (defBody t_stroke_can_be) (defScope t_stroke_can_be) .none kV_stroke_can_be dc_stroke_can_be pm_stroke_can_be an_stroke_can_be cd_stroke_can_be ct_stroke_can_be), sl_stroke_can_be⟩) (e_stroke_can_be : PySem.W.codeIn K cd_stroke_can_be "stroke_can_be" = true) (k_stroke_can_be : PySem.W.keepIn K (.ref f_stroke_can_be) = true)
    (a_steps_can_be : PySem.W.nsIn K mainGlobals "steps_can_be" = some (some (.ref f_steps_can_be))) (l_steps_can_be : K.lookup f_steps_can_be = some ⟨oc_steps_can_be, od_steps_can_be, .func (PySem.W.fnOf "steps_can_be" "steps_can_be" (defArgs t_steps_can_be) (defBody t_steps_can_be) (defScope t_steps_can_be) .none kV_steps_can_be dc_steps_can_be pm_steps_can_be an_steps_can_be cd_steps_can_be ct_steps_can_be), sl_steps_can_be⟩) (e_steps_can_be : PySem.W.codeIn K cd_steps_can_be "steps_can_be" = true) (k_steps_can_be : PySem.W.keepIn K (.ref f_steps_can_be) = true)
    (a_Frame_is_in_form : PySem.W.findIn K (.ref C_Frame) "is_in_form" = some (some (.ref f_Frame_is_in_form))) (i_Frame_is_in_form : PySem.W.isFn K (.ref f_Frame_is_in_form) = true) (l_Frame_is_in_form : K.lookup f_Frame_is_in_form = some ⟨oc_Frame_is_in_form, od_Frame_is_in_form, .func (PySem.W.fnOf "is_in_form" "Frame.is_in_form" (defArgs t_Frame_is_in_form) (defBody t_Frame_is_in_form) (defScope t_Frame_is_in_form) .none kV_Frame_is_in_form dc_Frame_is_in_form pm_Frame_is_in_form an_Frame_is_in_form cd_Frame_is_in_form ct_Frame_is_in_form), sl_Frame_is_in_form⟩) (e_Frame_is_in_form : PySem.W.codeIn K cd_Frame_is_in_form "Frame.is_in_form" = true) (k_Frame_is_in_form : PySem.W.keepIn K (.ref f_Frame_is_in_form) = true)
    (a_Frame_as_standing : PySem.W.findIn K (.ref C_Frame) "as_standing" = some (some (.ref f_Frame_as_standing))) (i_Frame_as_standing : PySem.W.isFn K (.ref f_Frame_as_standing) = true) (l_Frame_as_standing : K.lookup f_Frame_as_standing = some ⟨oc_Frame_as_standing, od_Frame_as_standing, .func (PySem.W.fnOf "as_standing" "Frame.as_standing" (defArgs t_Frame_as_standing) (defBody t_Frame_as_standing) (defScope t_Frame_as_standing) .none kV_Frame_as_standing dc_Frame_as_standing pm_Frame_as_standing an_Frame_as_standing cd_Frame_as_standing ct_Frame_as_standing), sl_Frame_as_standing⟩) (e_Frame_as_standing : PySem.W.codeIn K cd_Frame_as_standing "Frame.as_standing" = true) (k_Frame_as_standing : PySem.W.keepIn K (.ref f_Frame_as_standing) = true)
    (a_digit_forms : PySem.W.nsIn K mainGlobals "digit_forms" = some (some (.ref f_digit_forms))) (l_digit_forms : K.lookup f_digit_forms = some ⟨oc_digit_forms, od_digit_forms, .func (PySem.W.fnOf "digit_forms" "digit_forms" (defArgs t_digit_forms) (defBody t_digit_forms) (defScope t_digit_forms) .none kV_digit_forms dc_digit_forms pm_digit_forms an_digit_forms cd_digit_forms ct_digit_forms), sl_digit_forms⟩) (e_digit_forms : PySem.W.codeIn K cd_digit_forms "digit_forms" = true) (k_digit_forms : PySem.W.keepIn K (.ref f_digit_forms) = true)
    (a_behind_act : PySem.W.nsIn K mainGlobals "behind_act" = some (some (.ref f_behind_act))) (l_behind_act : K.lookup f_behind_act = some ⟨oc_behind_act, od_behind_act, .func (PySem.W.fnOf "behind_act" "behind_act" (defArgs t_behind_act) (defBody t_behind_act) (defScope t_behind_act) .none kV_behind_act dc_behind_act pm_behind_act an_behind_act cd_behind_act ct_behind_act), sl_behind_act⟩) (e_behind_act : PySem.W.codeIn K cd_behind_act "behind_act" = true) (k_behind_act : PySem.W.keepIn K (.ref f_behind_act) = true)
    (a_hand_fault : PySem.W.nsIn K mainGlobals "hand_fault" = some (some (.ref f_hand_fault))) (l_hand_fault : K.lookup f_hand_fault = some ⟨oc_hand_fault, od_hand_fault, .func (PySem.W.fnOf "hand_fault" "hand_fault" (defArgs t_hand_fault) (defBody t_hand_fault) (defScope t_hand_fault) .none kV_hand_fault dc_hand_fault pm_hand_fault an_hand_fault cd_hand_fault ct_hand_fault), sl_hand_fault⟩) (e_hand_fault : PySem.W.codeIn K cd_hand_fault "hand_fault" = true) (k_hand_fault : PySem.W.keepIn K (.ref f_hand_fault) = true)
    (a_row_can_be : PySem.W.nsIn K mainGlobals "row_can_be" = some (some (.ref f_row_can_be))) (l_row_can_be : K.lookup f_row_can_be = some ⟨oc_row_can_be, od_row_can_be, .func (PySem.W.fnOf "row_can_be" "row_can_be" (defArgs t_row_can_be) (defBody t_row_can_be) (defScope t_row_can_be) .none kV_row_can_be dc_row_can_be pm_row_can_be an_row_can_be cd_row_can_be ct_row_can_be), sl_row_can_be⟩) (e_row_can_be : PySem.W.codeIn K cd_row_can_be "row_can_be" = true) (k_row_can_be : PySem.W.keepIn K (.ref f_row_can_be) = true)
    (a_Sum_init : PySem.W.findIn K (.ref C_Sum) "__init__" = some (some (.ref f_Sum_init))) (i_Sum_init : PySem.W.isFn K (.ref f_Sum_init) = true) (l_Sum_init : K.lookup f_Sum_init = some ⟨oc_Sum_init, od_Sum_init, .func (PySem.W.fnOf "__init__" "Sum.__init__" (defArgs t_Sum_init) (defBody t_Sum_init) (defScope t_Sum_init) .none kV_Sum_init dc_Sum_init pm_Sum_init an_Sum_init cd_Sum_init ct_Sum_init), sl_Sum_init⟩) (e_Sum_init : PySem.W.codeIn K cd_Sum_init "Sum.__init__" = true) (k_Sum_init : PySem.W.keepIn K (.ref f_Sum_init) = true)
    (a_Sum_begin_rule : PySem.W.findIn K (.ref C_Sum) "begin_rule" = some (some (.ref f_Sum_begin_rule))) (i_Sum_begin_rule : PySem.W.isFn K (.ref f_Sum_begin_rule) = true) (l_Sum_begin_rule : K.lookup f_Sum_begin_rule = some ⟨oc_Sum_begin_rule, od_Sum_begin_rule, .func (PySem.W.fnOf "begin_rule" "Sum.begin_rule" (defArgs t_Sum_begin_rule) (defBody t_Sum_begin_rule) (defScope t_Sum_begin_rule) .none kV_Sum_begin_rule dc_Sum_begin_rule pm_Sum_begin_rule an_Sum_begin_rule cd_Sum_begin_rule ct_Sum_begin_rule), sl_Sum_begin_rule⟩) (e_Sum_begin_rule : PySem.W.codeIn K cd_Sum_begin_rule "Sum.begin_rule" = true) (k_Sum_begin_rule : PySem.W.keepIn K (.ref f_Sum_begin_rule) = true)
    (a_digits_in_order : PySem.W.nsIn K mainGlobals "digits_in_order" = some (some (.ref f_digits_in_order))) (l_digits_in_order : K.lookup f_digits_in_order = some ⟨oc_digits_in_order, od_digits_in_order, .func (PySem.W.fnOf "digits_in_order" "digits_in_order" (defArgs t_digits_in_order) (defBody t_digits_in_order) (defScope t_digits_in_order) .none kV_digits_in_order dc_digits_in_order pm_digits_in_order an_digits_in_order cd_digits_in_order ct_digits_in_order), sl_digits_in_order⟩) (e_digits_in_order : PySem.W.codeIn K cd_digits_in_order "digits_in_order" = true) (k_digits_in_order : PySem.W.keepIn K (.ref f_digits_in_order) = true)
    (a_digits_by_form : PySem.W.nsIn K mainGlobals "digits_by_form" = some (some (.ref f_digits_by_form))) (l_digits_by_form : K.lookup f_digits_by_form = some ⟨oc_digits_by_form, od_digits_by_form, .func (PySem.W.fnOf "digits_by_form" "digits_by_form" (defArgs t_digits_by_form) (defBody t_digits_by_form) (defScope t_digits_by_form) .none kV_digits_by_form dc_digits_by_form pm_digits_by_form an_digits_by_form cd_digits_by_form ct_digits_by_form), sl_digits_by_form⟩) (e_digits_by_form : PySem.W.codeIn K cd_digits_by_form "digits_by_form" = true) (k_digits_by_form : PySem.W.keepIn K (.ref f_digits_by_form) = true)
    (a_rule_broken : PySem.W.nsIn K mainGlobals "rule_broken" = some (some (.ref f_rule_broken))) (l_rule_broken : K.lookup f_rule_broken = some ⟨oc_rule_broken, od_rule_broken, .func (PySem.W.fnOf "rule_broken" "rule_broken" (defArgs t_rule_broken) (defBody t_rule_broken) (defScope t_rule_broken) .none kV_rule_broken dc_rule_broken pm_rule_broken an_rule_broken cd_rule_broken ct_rule_broken), sl_rule_broken⟩) (e_rule_broken : PySem.W.codeIn K cd_rule_broken "rule_broken" = true) (k_rule_broken : PySem.W.keepIn K (.ref f_rule_broken) = true)
    (a_book_fault : PySem.W.nsIn K mainGlobals "book_fault" = some (some (.ref f_book_fault))) (l_book_fault : K.lookup f_book_fault = some ⟨oc_book_fault, od_book_fault, .func (PySem.W.fnOf "book_fault" "book_fault" (defArgs t_book_fault) (defBody t_book_fault) (defScope t_book_fault) .none kV_book_fault dc_book_fault pm_book_fault an_book_fault cd_book_fault ct_book_fault), sl_book_fault⟩) (e_book_fault : PySem.W.codeIn K cd_book_fault "book_fault" = true) (k_book_fault : PySem.W.keepIn K (.ref f_book_fault) = true)
    (a_Frame_try_act : PySem.W.findIn K (.ref C_Frame) "try_act" = some (some (.ref f_Frame_try_act))) (i_Frame_try_act : PySem.W.isFn K (.ref f_Frame_try_act) = true) (l_Frame_try_act : K.lookup f_Frame_try_act = some ⟨oc_Frame_try_act, od_Frame_try_act, .func (PySem.W.fnOf "try_act" "Frame.try_act" (defArgs t_Frame_try_act) (defBody t_Frame_try_act) (defScope t_Frame_try_act) .none kV_Frame_try_act dc_Frame_try_act pm_Frame_try_act an_Frame_try_act cd_Frame_try_act ct_Frame_try_act), sl_Frame_try_act⟩) (e_Frame_try_act : PySem.W.codeIn K cd_Frame_try_act "Frame.try_act" = true) (k_Frame_try_act : PySem.W.keepIn K (.ref f_Frame_try_act) = true)
    (a_Sum_carry_from : PySem.W.findIn K (.ref C_Sum) "carry_from" = some (some (.ref f_Sum_carry_from))) (i_Sum_carry_from : PySem.W.isFn K (.ref f_Sum_carry_from) = true) (l_Sum_carry_from : K.lookup f_Sum_carry_from = some ⟨oc_Sum_carry_from, od_Sum_carry_from, .func (PySem.W.fnOf "carry_from" "Sum.carry_from" (defArgs t_Sum_carry_from) (defBody t_Sum_carry_from) (defScope t_Sum_carry_from) .none kV_Sum_carry_from dc_Sum_carry_from pm_Sum_carry_from an_Sum_carry_from cd_Sum_carry_from ct_Sum_carry_from), sl_Sum_carry_from⟩) (e_Sum_carry_from : PySem.W.codeIn K cd_Sum_carry_from "Sum.carry_from" = true) (k_Sum_carry_from : PySem.W.keepIn K (.ref f_Sum_carry_from) = true)
    (a_make_fault : PySem.W.nsIn K mainGlobals "make_fault" = some (some (.ref f_make_fault))) (l_make_fault : K.lookup f_make_fault = some ⟨oc_make_fault, od_make_fault, .func (PySem.W.fnOf "make_fault" "make_fault" (defArgs t_make_fault) (defBody t_make_fault) (defScope t_make_fault) .none kV_make_fault dc_make_fault pm_make_fault an_make_fault cd_make_fault ct_make_fault), sl_make_fault⟩) (e_make_fault : PySem.W.codeIn K cd_make_fault "make_fault" = true) (k_make_fault : PySem.W.keepIn K (.ref f_make_fault) = true)
    (a_Frame_init : PySem.W.findIn K (.ref C_Frame) "__init__" = some (some (.ref f_Frame_init))) (i_Frame_init : PySem.W.isFn K (.ref f_Frame_init) = true) (l_Frame_init : K.lookup f_Frame_init = some ⟨oc_Frame_init, od_Frame_init, .func (PySem.W.fnOf "__init__" "Frame.__init__" (defArgs t_Frame_init) (defBody t_Frame_init) (defScope t_Frame_init) .none kV_Frame_init dc_Frame_init pm_Frame_init an_Frame_init cd_Frame_init ct_Frame_init), sl_Frame_init⟩) (e_Frame_init : PySem.W.codeIn K cd_Frame_init "Frame.__init__" = true) (k_Frame_init : PySem.W.keepIn K (.ref f_Frame_init) = true)
    (a_Sum_act_on : PySem.W.findIn K (.ref C_Sum) "act_on" = some (some (.ref f_Sum_act_on))) (i_Sum_act_on : PySem.W.isFn K (.ref f_Sum_act_on) = true) (l_Sum_act_on : K.lookup f_Sum_act_on = some ⟨oc_Sum_act_on, od_Sum_act_on, .func (PySem.W.fnOf "act_on" "Sum.act_on" (defArgs t_Sum_act_on) (defBody t_Sum_act_on) (defScope t_Sum_act_on) .none kV_Sum_act_on dc_Sum_act_on pm_Sum_act_on an_Sum_act_on cd_Sum_act_on ct_Sum_act_on), sl_Sum_act_on⟩) (e_Sum_act_on : PySem.W.codeIn K cd_Sum_act_on "Sum.act_on" = true) (k_Sum_act_on : PySem.W.keepIn K (.ref f_Sum_act_on) = true)
    (a_Sum_go_on : PySem.W.findIn K (.ref C_Sum) "go_on" = some (some (.ref f_Sum_go_on))) (i_Sum_go_on : PySem.W.isFn K (.ref f_Sum_go_on) = true) (l_Sum_go_on : K.lookup f_Sum_go_on = some ⟨oc_Sum_go_on, od_Sum_go_on, .func (PySem.W.fnOf "go_on" "Sum.go_on" (defArgs t_Sum_go_on) (defBody t_Sum_go_on) (defScope t_Sum_go_on) .none kV_Sum_go_on dc_Sum_go_on pm_Sum_go_on an_Sum_go_on cd_Sum_go_on ct_Sum_go_on), sl_Sum_go_on⟩) (e_Sum_go_on : PySem.W.codeIn K cd_Sum_go_on "Sum.go_on" = true) (k_Sum_go_on : PySem.W.keepIn K (.ref f_Sum_go_on) = true)
    (a_Sum_do_digit : PySem.W.findIn K (.ref C_Sum) "do_digit" = some (some (.ref f_Sum_do_digit))) (i_Sum_do_digit : PySem.W.isFn K (.ref f_Sum_do_digit) = true) (l_Sum_do_digit : K.lookup f_Sum_do_digit = some ⟨oc_Sum_do_digit, od_Sum_do_digit, .func (PySem.W.fnOf "do_digit" "Sum.do_digit" (defArgs t_Sum_do_digit) (defBody t_Sum_do_digit) (defScope t_Sum_do_digit) .none kV_Sum_do_digit dc_Sum_do_digit pm_Sum_do_digit an_Sum_do_digit cd_Sum_do_digit ct_Sum_do_digit), sl_Sum_do_digit⟩) (e_Sum_do_digit : PySem.W.codeIn K cd_Sum_do_digit "Sum.do_digit" = true) (k_Sum_do_digit : PySem.W.keepIn K (.ref f_Sum_do_digit) = true)
    (a_acts_of_sum : PySem.W.nsIn K mainGlobals "acts_of_sum" = some (some (.ref f_acts_of_sum))) (l_acts_of_sum : K.lookup f_acts_of_sum = some ⟨oc_acts_of_sum, od_acts_of_sum, .func (PySem.W.fnOf "acts_of_sum" "acts_of_sum" (defArgs t_acts_of_sum) (defBody t_acts_of_sum) (defScope t_acts_of_sum) .none kV_acts_of_sum dc_acts_of_sum pm_acts_of_sum an_acts_of_sum cd_acts_of_sum ct_acts_of_sum), sl_acts_of_sum⟩) (e_acts_of_sum : PySem.W.codeIn K cd_acts_of_sum "acts_of_sum" = true) (k_acts_of_sum : PySem.W.keepIn K (.ref f_acts_of_sum) = true)
    (a_sum_of : PySem.W.nsIn K mainGlobals "sum_of" = some (some (.ref f_sum_of))) (l_sum_of : K.lookup f_sum_of = some ⟨oc_sum_of, od_sum_of, .func (PySem.W.fnOf "sum_of" "sum_of" (defArgs t_sum_of) (defBody t_sum_of) (defScope t_sum_of) .none kV_sum_of dc_sum_of pm_sum_of an_sum_of cd_sum_of ct_sum_of), sl_sum_of⟩) (e_sum_of : PySem.W.codeIn K cd_sum_of "sum_of" = true) (k_sum_of : PySem.W.keepIn K (.ref f_sum_of) = true)
    : Txt K mg ⟨C_Frame, C_GoesWrong, C_RunsOver, C_TooLong, C_RuleUnderWay, C_Sum⟩ :=
  ⟨(⟨⟨pg_Frame, hd_Frame, po_Frame, sa_Frame⟩, PySem.W.mg_of X G aC_Frame, na_Frame_rods, na_Frame_pushed, na_Frame_digits, trivial⟩),
    (⟨⟨pg_RuleUnderWay, hd_RuleUnderWay, po_RuleUnderWay, sa_RuleUnderWay⟩, PySem.W.mg_of X G aC_RuleUnderWay, na_RuleUnderWay_number, na_RuleUnderWay_steps, na_RuleUnderWay_begun, trivial⟩),
    (⟨⟨pg_Sum, hd_Sum, po_Sum, sa_Sum⟩, PySem.W.mg_of X G aC_Sum, na_Sum_op, na_Sum_frame, na_Sum_strokes, na_Sum_rules, na_Sum_under_way, na_Sum_steps_begun, na_Sum_acts, trivial⟩),
    (⟨PySem.W.mg_of X G aC_GoesWrong, ok_GoesWrong⟩),
    (Ex.exm_of sb_GoesWrong cl_GoesWrong ty_GoesWrong eq_GoesWrong),
    (Ex.exm_of sb_RunsOver cl_RunsOver ty_RunsOver ne_GoesWrong_RunsOver),
    (Ex.exm_of sb_TooLong cl_TooLong ty_TooLong ne_GoesWrong_TooLong),
    (⟨PySem.W.mg_of X G aC_RunsOver, ok_RunsOver⟩),
    (Ex.exm_of sb_RunsOver cl_RunsOver ty_RunsOver eq_RunsOver),
    (Ex.exm_of sb_GoesWrong cl_GoesWrong ty_GoesWrong ne_RunsOver_GoesWrong),
    (Ex.exm_of sb_TooLong cl_TooLong ty_TooLong ne_RunsOver_TooLong),
    (⟨PySem.W.mg_of X G aC_TooLong, ok_TooLong⟩),
    (Ex.exm_of sb_TooLong cl_TooLong ty_TooLong eq_TooLong),
    (Ex.exm_of sb_GoesWrong cl_GoesWrong ty_GoesWrong ne_TooLong_GoesWrong),
    (Ex.exm_of sb_RunsOver cl_RunsOver ty_RunsOver ne_TooLong_RunsOver),
    (⟨_, PySem.W.mg_of X G h_BOOK_RULE⟩),
    (⟨p_CARRY, PySem.W.mg_of X G h_CARRY, fun _ => .inr ⟨_, _, _, l_CARRY, rfl, rfl, (by show 3 ≤ sizeLine; decide), (.cons ⟨i0_CARRY, rfl⟩ (.cons ⟨i1_CARRY, rfl⟩ (.cons ⟨i2_CARRY, rfl⟩ .nil)))⟩⟩),
    (⟨_, PySem.W.mg_of X G h_DECKS⟩),
    (⟨_, PySem.W.mg_of X G h_DIGITS_RULE⟩),
    (⟨_, PySem.W.mg_of X G h_FROM_THE_LEFT⟩),
    (⟨_, PySem.W.mg_of X G h_HAND_RULE⟩),
    (⟨_, PySem.W.mg_of X G h_HIGHEST_COST⟩),
    (⟨_, PySem.W.mg_of X G h_HIGHEST_DIGIT⟩),
    (⟨_, PySem.W.mg_of X G h_HIGHEST_DIRECTION⟩),
    (⟨_, PySem.W.mg_of X G h_HIGHEST_OP⟩),
    (⟨_, PySem.W.mg_of X G h_HIGHEST_RATIO⟩),
    (⟨_, PySem.W.mg_of X G h_HIGHEST_STROKE⟩),
    (⟨_, PySem.W.mg_of X G h_HIGHEST_WORTH⟩),
    (⟨_, PySem.W.mg_of X G h_HIGHEST_WORTH_TOGETHER⟩),
    (⟨_, PySem.W.mg_of X G h_LOWEST_RATIO⟩),
    (⟨_, PySem.W.mg_of X G h_MAKE_LENGTH_RULE⟩),
    (⟨_, PySem.W.mg_of X G h_MOST_BEADS⟩),
    (⟨_, PySem.W.mg_of X G h_MOST_RODS⟩),
    (⟨_, PySem.W.mg_of X G h_MOST_STEPS⟩),
    (⟨_, PySem.W.mg_of X G h_MOST_STEPS_A_SUM⟩),
    (⟨_, PySem.W.mg_of X G h_MOST_STROKES⟩),
    (⟨_, PySem.W.mg_of X G h_NUMBERS_A_ROD⟩),
    (⟨_, PySem.W.mg_of X G h_NUMBERS_A_STROKE⟩),
    (⟨_, PySem.W.mg_of X G h_ROD_RULE⟩),
    (⟨_, PySem.W.mg_of X G h_STANDING_RULE⟩),
    (⟨_, PySem.W.mg_of X G h_STROKE_RULE⟩),
    (⟨_, PySem.W.mg_of X G h_TO_THE_BEAM⟩),
    (⟨_, PySem.W.mg_of X G h_WORTH_TOGETHER_RULE⟩),
    (PySem.W.mg_none_of X G h_abs),
    (PySem.W.mg_none_of X G h_all),
    (PySem.W.mg_none_of X G h_enumerate),
    (PySem.W.mg_none_of X G h_len),
    (PySem.W.mg_none_of X G h_list),
    (PySem.W.mg_none_of X G h_min),
    (PySem.W.mg_none_of X G h_range),
    (PySem.W.mg_none_of X G h_reversed),
    (PySem.W.mg_none_of X G h_sum),
    (PySem.W.mg_none_of X G h_tuple),
    (DefAt.mk' X G a_rods_of l_rods_of e_rods_of k_rods_of fun _ _ _ _ _ _ us hl => match us, hl with | [_], _ => rfl),
    (DefAt.mk' X G a_ratio_of l_ratio_of e_ratio_of k_ratio_of fun _ _ _ _ _ _ us hl => match us, hl with | [_], _ => rfl),
    (DefAt.mk' X G a_beads_of l_beads_of e_beads_of k_beads_of fun _ _ _ _ _ _ us hl => match us, hl with | [_, _], _ => rfl),
    (DefAt.mk' X G a_worth_of l_worth_of e_worth_of k_worth_of fun _ _ _ _ _ _ us hl => match us, hl with | [_, _], _ => rfl),
    (DefAt.mk' X G a_goes_before l_goes_before e_goes_before k_goes_before fun _ _ _ _ _ _ us hl => match us, hl with | [_, _], _ => rfl),
    (DefAt.mk' X G a_strokes_of l_strokes_of e_strokes_of k_strokes_of fun _ _ _ _ _ _ us hl => match us, hl with | [_], _ => rfl),
    (DefAt.mk' X G a_first_part l_first_part e_first_part k_first_part fun _ _ _ _ _ _ us hl => match us, hl with | [_], _ => rfl),
    (DefAt.mk' X G a_second_part l_second_part e_second_part k_second_part fun _ _ _ _ _ _ us hl => match us, hl with | [_], _ => rfl),
    (DefAt.mk' X G a_cost_of l_cost_of e_cost_of k_cost_of fun _ _ _ _ _ _ us hl => match us, hl with | [_], _ => rfl),
    (DefAt.mk' X G a_steps_of l_steps_of e_steps_of k_steps_of fun _ _ _ _ _ _ us hl => match us, hl with | [_], _ => rfl),
    (DefAt.mk' X G a_first_fault l_first_fault e_first_fault k_first_fault fun _ _ _ _ _ _ us hl => match us, hl with | [_], _ => rfl),
    (DefAt.mk' X G a_deck_can_be l_deck_can_be e_deck_can_be k_deck_can_be fun _ _ _ _ _ _ us hl => match us, hl with | [_, _], _ => rfl),
    (DefAt.mk' X G a_hand_can_be l_hand_can_be e_hand_can_be k_hand_can_be fun _ _ _ _ _ _ us hl => match us, hl with | [_], _ => rfl),
    (DefAt.mk' X G a_part_can_be l_part_can_be e_part_can_be k_part_can_be fun _ _ _ _ _ _ us hl => match us, hl with | [_], _ => rfl),
    (DefAt.mk' X G a_length_can_be l_length_can_be e_length_can_be k_length_can_be fun _ _ _ _ _ _ us hl => match us, hl with | [_], _ => rfl),
    (DefAt.mk' X G a_head_can_be l_head_can_be e_head_can_be k_head_can_be fun _ _ _ _ _ _ us hl => match us, hl with | [_], _ => rfl),
    (DefAt.mk' X G a_step_can_be l_step_can_be e_step_can_be k_step_can_be fun _ _ _ _ _ _ us hl => match us, hl with | [_, _, _], _ => rfl),
    (MethAt.mk' a_Frame_shown_on i_Frame_shown_on l_Frame_shown_on e_Frame_shown_on k_Frame_shown_on fun _ _ _ _ _ _ us hl => match us, hl with | [_, _], _ => rfl),
    (DefAt.mk' X G a_in_one_list l_in_one_list e_in_one_list k_in_one_list fun _ _ _ _ _ _ us hl => match us, hl with | [_], _ => rfl),
    (InitAt.mk' X G aC_RuleUnderWay mk_RuleUnderWay kc_RuleUnderWay a_RuleUnderWay_init i_RuleUnderWay_init l_RuleUnderWay_init e_RuleUnderWay_init k_RuleUnderWay_init fun _ _ _ _ _ _ us hl => match us, hl with | [_, _, _], _ => rfl),
    (DefAt.mk' X G a_span_of l_span_of e_span_of k_span_of fun _ _ _ _ _ _ us hl => match us, hl with | [_], _ => rfl),
    (DefAt.mk' X G a_digits_of l_digits_of e_digits_of k_digits_of fun _ _ _ _ _ _ us hl => match us, hl with | [_, _], _ => rfl),
    (DefAt.mk' X G a_worth_together l_worth_together e_worth_together k_worth_together fun _ _ _ _ _ _ us hl => match us, hl with | [_], _ => rfl),
    (DefAt.mk' X G a_forms_with_deck l_forms_with_deck e_forms_with_deck k_forms_with_deck fun _ _ _ _ _ _ us hl => match us, hl with | [_, _, _], _ => rfl),
    (DefAt.mk' X G a_tour_cost l_tour_cost e_tour_cost k_tour_cost fun _ _ _ _ _ _ us hl => match us, hl with | [_, _, _], _ => rfl),
    (DefAt.mk' X G a_behind_part l_behind_part e_behind_part k_behind_part fun _ _ _ _ _ _ us hl => match us, hl with | [_, _, _, _], _ => rfl),
    (DefAt.mk' X G a_rules_of l_rules_of e_rules_of k_rules_of fun _ _ _ _ _ _ us hl => match us, hl with | [_], _ => rfl),
    (DefAt.mk' X G a_rod_can_be l_rod_can_be e_rod_can_be k_rod_can_be fun _ _ _ _ _ _ us hl => match us, hl with | [_], _ => rfl),
    (DefAt.mk' X G a_standing_fault l_standing_fault e_standing_fault k_standing_fault fun _ _ _ _ _ _ us hl => match us, hl with | [_, _], _ => rfl),
    (DefAt.mk' X G a_stroke_can_be l_stroke_can_be e_stroke_can_be k_stroke_can_be fun _ _ _ _ _ _ us hl => match us, hl with | [_], _ => rfl),
    (DefAt.mk' X G a_steps_can_be l_steps_can_be e_steps_can_be k_steps_can_be fun _ _ _ _ _ _ us hl => match us, hl with | [_], _ => rfl),
    (MethAt.mk' a_Frame_is_in_form i_Frame_is_in_form l_Frame_is_in_form e_Frame_is_in_form k_Frame_is_in_form fun _ _ _ _ _ _ us hl => match us, hl with | [_], _ => rfl),
    (MethAt.mk' a_Frame_as_standing i_Frame_as_standing l_Frame_as_standing e_Frame_as_standing k_Frame_as_standing fun _ _ _ _ _ _ us hl => match us, hl with | [_], _ => rfl),
    (DefAt.mk' X G a_digit_forms l_digit_forms e_digit_forms k_digit_forms fun _ _ _ _ _ _ us hl => match us, hl with | [_], _ => rfl),
    (DefAt.mk' X G a_behind_act l_behind_act e_behind_act k_behind_act fun _ _ _ _ _ _ us hl => match us, hl with | [_, _, _, _, _], _ => rfl),
    (DefAt.mk' X G a_hand_fault l_hand_fault e_hand_fault k_hand_fault fun _ _ _ _ _ _ us hl => match us, hl with | [_], _ => rfl),
    (DefAt.mk' X G a_row_can_be l_row_can_be e_row_can_be k_row_can_be fun _ _ _ _ _ _ us hl => match us, hl with | [_], _ => rfl),
    (InitAt.mk' X G aC_Sum mk_Sum kc_Sum a_Sum_init i_Sum_init l_Sum_init e_Sum_init k_Sum_init fun _ _ _ _ _ _ us hl => match us, hl with | [_, _, _, _, _], _ => rfl),
    (MethAt.mk' a_Sum_begin_rule i_Sum_begin_rule l_Sum_begin_rule e_Sum_begin_rule k_Sum_begin_rule fun _ _ _ _ _ _ us hl => match us, hl with | [_, _, _], _ => rfl),
    (DefAt.mk' X G a_digits_in_order l_digits_in_order e_digits_in_order k_digits_in_order fun _ _ _ _ _ _ us hl => match us, hl with | [_, _, _], _ => rfl),
    (DefAt.mk' X G a_digits_by_form l_digits_by_form e_digits_by_form k_digits_by_form fun _ _ _ _ _ _ us hl => match us, hl with | [_], _ => rfl),
    (DefAt.mk' X G a_rule_broken l_rule_broken e_rule_broken k_rule_broken fun _ _ _ _ _ _ us hl => match us, hl with | [_], _ => rfl),
    (DefAt.mk' X G a_book_fault l_book_fault e_book_fault k_book_fault fun _ _ _ _ _ _ us hl => match us, hl with | [_], _ => rfl),
    (MethAt.mk' a_Frame_try_act i_Frame_try_act l_Frame_try_act e_Frame_try_act k_Frame_try_act fun _ _ _ _ _ _ us hl => match us, hl with | [_, _, _, _, _], _ => rfl),
    (MethAt.mk' a_Sum_carry_from i_Sum_carry_from l_Sum_carry_from e_Sum_carry_from k_Sum_carry_from fun _ _ _ _ _ _ us hl => match us, hl with | [_, _], _ => rfl),
    (DefAt.mk' X G a_make_fault l_make_fault e_make_fault k_make_fault fun _ _ _ _ _ _ us hl => match us, hl with | [_], _ => rfl),
    (InitAt.mk' X G aC_Frame mk_Frame kc_Frame a_Frame_init i_Frame_init l_Frame_init e_Frame_init k_Frame_init fun _ _ _ _ _ _ us hl => match us, hl with | [_, _, _], _ => rfl),
    (MethAt.mk' a_Sum_act_on i_Sum_act_on l_Sum_act_on e_Sum_act_on k_Sum_act_on fun _ _ _ _ _ _ us hl => match us, hl with | [_, _, _], _ => rfl),
    (MethAt.mk' a_Sum_go_on i_Sum_go_on l_Sum_go_on e_Sum_go_on k_Sum_go_on fun _ _ _ _ _ _ us hl => match us, hl with | [_], _ => rfl),
    (MethAt.mk' a_Sum_do_digit i_Sum_do_digit l_Sum_do_digit e_Sum_do_digit k_Sum_do_digit fun _ _ _ _ _ _ us hl => match us, hl with | [_, _, _], _ => rfl),
    (DefAt.mk' X G a_acts_of_sum l_acts_of_sum e_acts_of_sum k_acts_of_sum fun _ _ _ _ _ _ us hl => match us, hl with | [_, _, _, _, _, _, _], _ => rfl),
    (DefAt.mk' X G a_sum_of l_sum_of e_sum_of k_sum_of fun _ _ _ _ _ _ us hl => match us, hl with | [_, _, _, _, _, _, _, _], _ => rfl)⟩
end Sg
namespace PySem.W.Fast
def tw5197741868887594485:=()
def tw14233034392835593803:=()
def tw5742673359938217235:=()
def tw4246587613927769799:=()
def tw17563655073082252349:=()
def tw17815814563657952311:=()
def tw17393628402173358517:=()
def tw10320992914184431129:=()
def tw14598720767306133361:=()
def tw8382067411038781034:=()
def tw2686564100752072352:=()
def tw16004437568026609736:=()
def tw8286346139970179737:=()
def tw5383858853307234732:=()
def tw2642582236318093187:=()
def tw12790271940185423262:=()
def tw13083783045191784979:=()
def tw13624585289469213270:=()
def tw3053219381404289098:=()
def tw17468132251723732304:=()
def tw8249956590481975949:=()
def tw11699267876000804022:=()
def tw17913326886280580846:=()
def tw2982108007802876574:=()
def tw14239280171878428088:=()
def tw5911689825209106233:=()
def tw3220902073263032536:=()
def tw13952782394960247827:=()
def tw9139069428009433086:=()
def tw11762804167210203288:=()
def tw6970080776963344106:=()
end PySem.W.Fast
open PySem PySem.W PyProof.Rows
set_option maxRecDepth 100000 in
set_option maxHeartbeats 0 in
theorem PySem.Challenge.cw_abacusbooks_s03_sum_of_holds : PySem.Challenge.rw_abacusbooks_s03_sum_of.Holds := by
  w_on; k_headS; (case hw => exact ⟨[.int 0, .int 0, .int 0, .int 0, .list [], .list [], .list [], .list []], by decide +kernel, by decide +kernel⟩)
  k_fillS
  refine L2.walk_specK (r := PySem.Challenge.rw_abacusbooks_s03_sum_of) (k := 9) (CX := L2.CX0) (ps := ["op", "order", "h", "v", "make", "hand", "standing", "book"]) (sp := Sg.sp_sum_of) (by decide +kernel) rfl rfl ⟨rfl, by decide, by decide⟩ (fun w h Y => PySem.W.kIn_of Y) ?F ?S (fun _ _ _ _ z => z)
  case F =>
    intro w mg fa h Y KX G hmg
    obtain ⟨ca, T⟩ : ∃ ca, Sg.Txt (L2.KOf KX) mg ca := by
      dsimp only [L2.KOf]
      refine' ⟨_, Sg.txt_mk KX G ?h_BOOK_RULE ?h_CARRY ?l_CARRY ?h_DECKS ?h_DIGITS_RULE ?h_FROM_THE_LEFT ?h_HAND_RULE ?h_HIGHEST_COST ?h_HIGHEST_DIGIT ?h_HIGHEST_DIRECTION ?h_HIGHEST_OP ?h_HIGHEST_RATIO ?h_HIGHEST_STROKE ?h_HIGHEST_WORTH ?h_HIGHEST_WORTH_TOGETHER ?h_LOWEST_RATIO ?h_MAKE_LENGTH_RULE ?h_MOST_BEADS ?h_MOST_RODS ?h_MOST_STEPS ?h_MOST_STEPS_A_SUM ?h_MOST_STROKES ?h_NUMBERS_A_ROD ?h_NUMBERS_A_STROKE ?h_ROD_RULE ?h_STANDING_RULE ?h_STROKE_RULE ?h_TO_THE_BEAM ?h_WORTH_TOGETHER_RULE ?h_abs ?h_all ?h_enumerate ?h_len ?h_list ?h_min ?h_range ?h_reversed ?h_sum ?h_tuple ?aC_Frame ?aC_GoesWrong ?aC_RunsOver ?aC_TooLong ?aC_RuleUnderWay ?aC_Sum ?pg_Frame ?hd_Frame ?po_Frame ?sa_Frame ?mk_Frame ?kc_Frame ?na_Frame_rods ?na_Frame_pushed ?na_Frame_digits ?pg_RuleUnderWay ?hd_RuleUnderWay ?po_RuleUnderWay ?sa_RuleUnderWay ?mk_RuleUnderWay ?kc_RuleUnderWay ?na_RuleUnderWay_number ?na_RuleUnderWay_steps ?na_RuleUnderWay_begun ?pg_Sum ?hd_Sum ?po_Sum ?sa_Sum ?mk_Sum ?kc_Sum ?na_Sum_op ?na_Sum_frame ?na_Sum_strokes ?na_Sum_rules ?na_Sum_under_way ?na_Sum_steps_begun ?na_Sum_acts ?ok_GoesWrong ?sb_GoesWrong ?cl_GoesWrong ?ty_GoesWrong ?eq_GoesWrong ?ne_GoesWrong_RunsOver ?ne_GoesWrong_TooLong ?ok_RunsOver ?sb_RunsOver ?cl_RunsOver ?ty_RunsOver ?eq_RunsOver ?ne_RunsOver_GoesWrong ?ne_RunsOver_TooLong ?ok_TooLong ?sb_TooLong ?cl_TooLong ?ty_TooLong ?eq_TooLong ?ne_TooLong_GoesWrong ?ne_TooLong_RunsOver ?a_rods_of ?l_rods_of ?e_rods_of ?k_rods_of ?a_ratio_of ?l_ratio_of ?e_ratio_of ?k_ratio_of ?a_beads_of ?l_beads_of ?e_beads_of ?k_beads_of ?a_worth_of ?l_worth_of ?e_worth_of ?k_worth_of ?a_goes_before ?l_goes_before ?e_goes_before ?k_goes_before ?a_strokes_of ?l_strokes_of ?e_strokes_of ?k_strokes_of ?a_first_part ?l_first_part ?e_first_part ?k_first_part ?a_second_part ?l_second_part ?e_second_part ?k_second_part ?a_cost_of ?l_cost_of ?e_cost_of ?k_cost_of ?a_steps_of ?l_steps_of ?e_steps_of ?k_steps_of ?a_first_fault ?l_first_fault ?e_first_fault ?k_first_fault ?a_deck_can_be ?l_deck_can_be ?e_deck_can_be ?k_deck_can_be ?a_hand_can_be ?l_hand_can_be ?e_hand_can_be ?k_hand_can_be ?a_part_can_be ?l_part_can_be ?e_part_can_be ?k_part_can_be ?a_length_can_be ?l_length_can_be ?e_length_can_be ?k_length_can_be ?a_head_can_be ?l_head_can_be ?e_head_can_be ?k_head_can_be ?a_step_can_be ?l_step_can_be ?e_step_can_be ?k_step_can_be ?a_Frame_shown_on ?i_Frame_shown_on ?l_Frame_shown_on ?e_Frame_shown_on ?k_Frame_shown_on ?a_in_one_list ?l_in_one_list ?e_in_one_list ?k_in_one_list ?a_RuleUnderWay_init ?i_RuleUnderWay_init ?l_RuleUnderWay_init ?e_RuleUnderWay_init ?k_RuleUnderWay_init ?a_span_of ?l_span_of ?e_span_of ?k_span_of ?a_digits_of ?l_digits_of ?e_digits_of ?k_digits_of ?a_worth_together ?l_worth_together ?e_worth_together ?k_worth_together ?a_forms_with_deck ?l_forms_with_deck ?e_forms_with_deck ?k_forms_with_deck ?a_tour_cost ?l_tour_cost ?e_tour_cost ?k_tour_cost ?a_behind_part ?l_behind_part ?e_behind_part ?k_behind_part ?a_rules_of ?l_rules_of ?e_rules_of ?k_rules_of ?a_rod_can_be ?l_rod_can_be ?e_rod_can_be ?k_rod_can_be ?a_standing_fault ?l_standing_fault ?e_standing_fault ?k_standing_fault ?a_stroke_can_be ?l_stroke_can_be ?e_stroke_can_be ?k_stroke_can_be ?a_steps_can_be ?l_steps_can_be ?e_steps_can_be ?k_steps_can_be ?a_Frame_is_in_form ?i_Frame_is_in_form ?l_Frame_is_in_form ?e_Frame_is_in_form ?k_Frame_is_in_form ?a_Frame_as_standing ?i_Frame_as_standing ?l_Frame_as_standing ?e_Frame_as_standing ?k_Frame_as_standing ?a_digit_forms ?l_digit_forms ?e_digit_forms ?k_digit_forms ?a_behind_act ?l_behind_act ?e_behind_act ?k_behind_act ?a_hand_fault ?l_hand_fault ?e_hand_fault ?k_hand_fault ?a_row_can_be ?l_row_can_be ?e_row_can_be ?k_row_can_be ?a_Sum_init ?i_Sum_init ?l_Sum_init ?e_Sum_init ?k_Sum_init ?a_Sum_begin_rule ?i_Sum_begin_rule ?l_Sum_begin_rule ?e_Sum_begin_rule ?k_Sum_begin_rule ?a_digits_in_order ?l_digits_in_order ?e_digits_in_order ?k_digits_in_order ?a_digits_by_form ?l_digits_by_form ?e_digits_by_form ?k_digits_by_form ?a_rule_broken ?l_rule_broken ?e_rule_broken ?k_rule_broken ?a_book_fault ?l_book_fault ?e_book_fault ?k_book_fault ?a_Frame_try_act ?i_Frame_try_act ?l_Frame_try_act ?e_Frame_try_act ?k_Frame_try_act ?a_Sum_carry_from ?i_Sum_carry_from ?l_Sum_carry_from ?e_Sum_carry_from ?k_Sum_carry_from ?a_make_fault ?l_make_fault ?e_make_fault ?k_make_fault ?a_Frame_init ?i_Frame_init ?l_Frame_init ?e_Frame_init ?k_Frame_init ?a_Sum_act_on ?i_Sum_act_on ?l_Sum_act_on ?e_Sum_act_on ?k_Sum_act_on ?a_Sum_go_on ?i_Sum_go_on ?l_Sum_go_on ?e_Sum_go_on ?k_Sum_go_on ?a_Sum_do_digit ?i_Sum_do_digit ?l_Sum_do_digit ?e_Sum_do_digit ?k_Sum_do_digit ?a_acts_of_sum ?l_acts_of_sum ?e_acts_of_sum ?k_acts_of_sum ?a_sum_of ?l_sum_of ?e_sum_of ?k_sum_of⟩
      (case h_BOOK_RULE => k_is); (case h_CARRY => k_is); (case l_CARRY => k_is); (case h_DECKS => k_is); (case h_DIGITS_RULE => k_is); (case h_FROM_THE_LEFT => k_is)
      (case h_HAND_RULE => k_is); (case h_HIGHEST_COST => k_is); (case h_HIGHEST_DIGIT => k_is); (case h_HIGHEST_DIRECTION => k_is); (case h_HIGHEST_OP => k_is); (case h_HIGHEST_RATIO => k_is)
      (case h_HIGHEST_STROKE => k_is); (case h_HIGHEST_WORTH => k_is); (case h_HIGHEST_WORTH_TOGETHER => k_is); (case h_LOWEST_RATIO => k_is); (case h_MAKE_LENGTH_RULE => k_is); (case h_MOST_BEADS => k_is)
      (case h_MOST_RODS => k_is); (case h_MOST_STEPS => k_is); (case h_MOST_STEPS_A_SUM => k_is); (case h_MOST_STROKES => k_is); (case h_NUMBERS_A_ROD => k_is); (case h_NUMBERS_A_STROKE => k_is)
      (case h_ROD_RULE => k_is); (case h_STANDING_RULE => k_is); (case h_STROKE_RULE => k_is); (case h_TO_THE_BEAM => k_is); (case h_WORTH_TOGETHER_RULE => k_is); (case h_abs => k_is)
      (case h_all => k_is); (case h_enumerate => k_is); (case h_len => k_is); (case h_list => k_is); (case h_min => k_is); (case h_range => k_is)
      (case h_reversed => k_is); (case h_sum => k_is); (case h_tuple => k_is); (case aC_Frame => k_is); (case aC_GoesWrong => k_is); (case aC_RunsOver => k_is)
      (case aC_TooLong => k_is); (case aC_RuleUnderWay => k_is); (case aC_Sum => k_is); (case pg_Frame => k_is); (case hd_Frame => k_is); (case po_Frame => k_is)
      (case sa_Frame => k_is); (case mk_Frame => k_is); (case kc_Frame => k_is); (case na_Frame_rods => k_is); (case na_Frame_pushed => k_is); (case na_Frame_digits => k_is)
      (case pg_RuleUnderWay => k_is); (case hd_RuleUnderWay => k_is); (case po_RuleUnderWay => k_is); (case sa_RuleUnderWay => k_is); (case mk_RuleUnderWay => k_is); (case kc_RuleUnderWay => k_is)
      (case na_RuleUnderWay_number => k_is); (case na_RuleUnderWay_steps => k_is); (case na_RuleUnderWay_begun => k_is); (case pg_Sum => k_is); (case hd_Sum => k_is); (case po_Sum => k_is)
      (case sa_Sum => k_is); (case mk_Sum => k_is); (case kc_Sum => k_is); (case na_Sum_op => k_is); (case na_Sum_frame => k_is); (case na_Sum_strokes => k_is)
      (case na_Sum_rules => k_is); (case na_Sum_under_way => k_is); (case na_Sum_steps_begun => k_is); (case na_Sum_acts => k_is); (case ok_GoesWrong => k_exc); (case sb_GoesWrong => k_is)
      (case cl_GoesWrong => k_is); (case ty_GoesWrong => k_is); (case eq_GoesWrong => k_is); (case ne_GoesWrong_RunsOver => k_is); (case ne_GoesWrong_TooLong => k_is); (case ok_RunsOver => k_exc)
      (case sb_RunsOver => k_is); (case cl_RunsOver => k_is); (case ty_RunsOver => k_is); (case eq_RunsOver => k_is); (case ne_RunsOver_GoesWrong => k_is); (case ne_RunsOver_TooLong => k_is)
      (case ok_TooLong => k_exc); (case sb_TooLong => k_is); (case cl_TooLong => k_is); (case ty_TooLong => k_is); (case eq_TooLong => k_is); (case ne_TooLong_GoesWrong => k_is)
      (case ne_TooLong_RunsOver => k_is); (case a_rods_of => k_is); (case l_rods_of => k_is); (case e_rods_of => k_is); (case k_rods_of => k_is); (case a_ratio_of => k_is)
      (case l_ratio_of => k_is); (case e_ratio_of => k_is); (case k_ratio_of => k_is); (case a_beads_of => k_is); (case l_beads_of => k_is); (case e_beads_of => k_is)
      (case k_beads_of => k_is); (case a_worth_of => k_is); (case l_worth_of => k_is); (case e_worth_of => k_is); (case k_worth_of => k_is); (case a_goes_before => k_is)
      (case l_goes_before => k_is); (case e_goes_before => k_is); (case k_goes_before => k_is); (case a_strokes_of => k_is); (case l_strokes_of => k_is); (case e_strokes_of => k_is)
      (case k_strokes_of => k_is); (case a_first_part => k_is); (case l_first_part => k_is); (case e_first_part => k_is); (case k_first_part => k_is); (case a_second_part => k_is)
      (case l_second_part => k_is); (case e_second_part => k_is); (case k_second_part => k_is); (case a_cost_of => k_is); (case l_cost_of => k_is); (case e_cost_of => k_is)
      (case k_cost_of => k_is); (case a_steps_of => k_is); (case l_steps_of => k_is); (case e_steps_of => k_is); (case k_steps_of => k_is); (case a_first_fault => k_is)
      (case l_first_fault => k_is); (case e_first_fault => k_is); (case k_first_fault => k_is); (case a_deck_can_be => k_is); (case l_deck_can_be => k_is); (case e_deck_can_be => k_is)
      (case k_deck_can_be => k_is); (case a_hand_can_be => k_is); (case l_hand_can_be => k_is); (case e_hand_can_be => k_is); (case k_hand_can_be => k_is); (case a_part_can_be => k_is)
      (case l_part_can_be => k_is); (case e_part_can_be => k_is); (case k_part_can_be => k_is); (case a_length_can_be => k_is); (case l_length_can_be => k_is); (case e_length_can_be => k_is)
      (case k_length_can_be => k_is); (case a_head_can_be => k_is); (case l_head_can_be => k_is); (case e_head_can_be => k_is); (case k_head_can_be => k_is); (case a_step_can_be => k_is)
      (case l_step_can_be => k_is); (case e_step_can_be => k_is); (case k_step_can_be => k_is); (case a_Frame_shown_on => k_is); (case i_Frame_shown_on => k_is); (case l_Frame_shown_on => k_is)
      (case e_Frame_shown_on => k_is); (case k_Frame_shown_on => k_is); (case a_in_one_list => k_is); (case l_in_one_list => k_is); (case e_in_one_list => k_is); (case k_in_one_list => k_is)
      (case a_RuleUnderWay_init => k_is); (case i_RuleUnderWay_init => k_is); (case l_RuleUnderWay_init => k_is); (case e_RuleUnderWay_init => k_is); (case k_RuleUnderWay_init => k_is); (case a_span_of => k_is)
      (case l_span_of => k_is); (case e_span_of => k_is); (case k_span_of => k_is); (case a_digits_of => k_is); (case l_digits_of => k_is); (case e_digits_of => k_is)
      (case k_digits_of => k_is); (case a_worth_together => k_is); (case l_worth_together => k_is); (case e_worth_together => k_is); (case k_worth_together => k_is); (case a_forms_with_deck => k_is)
      (case l_forms_with_deck => k_is); (case e_forms_with_deck => k_is); (case k_forms_with_deck => k_is); (case a_tour_cost => k_is); (case l_tour_cost => k_is); (case e_tour_cost => k_is)
      (case k_tour_cost => k_is); (case a_behind_part => k_is); (case l_behind_part => k_is); (case e_behind_part => k_is); (case k_behind_part => k_is); (case a_rules_of => k_is)
      (case l_rules_of => k_is); (case e_rules_of => k_is); (case k_rules_of => k_is); (case a_rod_can_be => k_is); (case l_rod_can_be => k_is); (case e_rod_can_be => k_is)
      (case k_rod_can_be => k_is); (case a_standing_fault => k_is); (case l_standing_fault => k_is); (case e_standing_fault => k_is); (case k_standing_fault => k_is); (case a_stroke_can_be => k_is)
      (case l_stroke_can_be => k_is); (case e_stroke_can_be => k_is); (case k_stroke_can_be => k_is); (case a_steps_can_be => k_is); (case l_steps_can_be => k_is); (case e_steps_can_be => k_is)
      (case k_steps_can_be => k_is); (case a_Frame_is_in_form => k_is); (case i_Frame_is_in_form => k_is); (case l_Frame_is_in_form => k_is); (case e_Frame_is_in_form => k_is); (case k_Frame_is_in_form => k_is)
      (case a_Frame_as_standing => k_is); (case i_Frame_as_standing => k_is); (case l_Frame_as_standing => k_is); (case e_Frame_as_standing => k_is); (case k_Frame_as_standing => k_is); (case a_digit_forms => k_is)
      (case l_digit_forms => k_is); (case e_digit_forms => k_is); (case k_digit_forms => k_is); (case a_behind_act => k_is); (case l_behind_act => k_is); (case e_behind_act => k_is)
      (case k_behind_act => k_is); (case a_hand_fault => k_is); (case l_hand_fault => k_is); (case e_hand_fault => k_is); (case k_hand_fault => k_is); (case a_row_can_be => k_is)
      (case l_row_can_be => k_is); (case e_row_can_be => k_is); (case k_row_can_be => k_is); (case a_Sum_init => k_is); (case i_Sum_init => k_is); (case l_Sum_init => k_is)
      (case e_Sum_init => k_is); (case k_Sum_init => k_is); (case a_Sum_begin_rule => k_is); (case i_Sum_begin_rule => k_is); (case l_Sum_begin_rule => k_is); (case e_Sum_begin_rule => k_is)
      (case k_Sum_begin_rule => k_is); (case a_digits_in_order => k_is); (case l_digits_in_order => k_is); (case e_digits_in_order => k_is); (case k_digits_in_order => k_is); (case a_digits_by_form => k_is)
      (case l_digits_by_form => k_is); (case e_digits_by_form => k_is); (case k_digits_by_form => k_is); (case a_rule_broken => k_is); (case l_rule_broken => k_is); (case e_rule_broken => k_is)
      (case k_rule_broken => k_is); (case a_book_fault => k_is); (case l_book_fault => k_is); (case e_book_fault => k_is); (case k_book_fault => k_is); (case a_Frame_try_act => k_is)
      (case i_Frame_try_act => k_is); (case l_Frame_try_act => k_is); (case e_Frame_try_act => k_is); (case k_Frame_try_act => k_is); (case a_Sum_carry_from => k_is); (case i_Sum_carry_from => k_is)
      (case l_Sum_carry_from => k_is); (case e_Sum_carry_from => k_is); (case k_Sum_carry_from => k_is); (case a_make_fault => k_is); (case l_make_fault => k_is); (case e_make_fault => k_is)
      (case k_make_fault => k_is); (case a_Frame_init => k_is); (case i_Frame_init => k_is); (case l_Frame_init => k_is); (case e_Frame_init => k_is); (case k_Frame_init => k_is)
      (case a_Sum_act_on => k_is); (case i_Sum_act_on => k_is); (case l_Sum_act_on => k_is); (case e_Sum_act_on => k_is); (case k_Sum_act_on => k_is); (case a_Sum_go_on => k_is)
      (case i_Sum_go_on => k_is); (case l_Sum_go_on => k_is); (case e_Sum_go_on => k_is); (case k_Sum_go_on => k_is); (case a_Sum_do_digit => k_is); (case i_Sum_do_digit => k_is)
      (case l_Sum_do_digit => k_is); (case e_Sum_do_digit => k_is); (case k_Sum_do_digit => k_is); (case a_acts_of_sum => k_is); (case l_acts_of_sum => k_is); (case e_acts_of_sum => k_is)
      (case k_acts_of_sum => k_is); (case a_sum_of => k_is); (case l_sum_of => k_is); (case e_sum_of => k_is); (case k_sum_of => k_is)
    obtain ⟨f, fd, D⟩ := T.d_sum_of
    have e := hmg.symm.trans D.mg
    cases e
    exact ⟨fd, fun s us hu => .of_eq (D.ba us hu), fun base _ _ => Sg.ok_sum_of T D⟩
  case S =>
    intro K H xs a hO hwi hask hx
    obtain ⟨op, order, h, v, m, hd, st, bk, u⟩ := a
    have hw2 : (Codec.inInt 0 4294967295 op && (Codec.inInt 0 4294967295 order && (Codec.inInt 0 4294967295 h && (Codec.inInt 0 2037035976334486086268445688409378161051468393665936250636140449354381299763336706183397375 v && ((Codec.inLen 0 500 m && m.all (Codec.inInt 0 4294967295)) && ((Codec.inLen 0 300 hd && hd.all (Codec.inInt 0 4294967295)) && ((Codec.inLen 0 250 st && st.all (Codec.inInt 0 4294967295)) && ((Codec.inLen 0 820 bk && bk.all fun r => (Codec.inLen 0 36 r && r.all (Codec.inInt 0 4294967295))) && true)))))))) = true := hwi
    simp only [Bool.and_eq_true] at hw2
    obtain ⟨o1, o2, o3, o4, ⟨m1, m2⟩, ⟨h1, h2⟩, ⟨t1, t2⟩, ⟨b1, b2⟩, _⟩ := hw2
    have o1 : (0 : Int) ≤ op := (Codec.inInt_iff.mp o1).1
    have o2 : (0 : Int) ≤ order := (Codec.inInt_iff.mp o2).1
    have o3 : (0 : Int) ≤ h := (Codec.inInt_iff.mp o3).1
    have o4 : (0 : Int) ≤ v := (Codec.inInt_iff.mp o4).1
    obtain ⟨op, rfl⟩ : ∃ n : Nat, op = (n : Int) := ⟨Int.toNat op, (Int.toNat_of_nonneg o1).symm⟩
    obtain ⟨order, rfl⟩ : ∃ n : Nat, order = (n : Int) := ⟨Int.toNat order, (Int.toNat_of_nonneg o2).symm⟩
    obtain ⟨h, rfl⟩ : ∃ n : Nat, h = (n : Int) := ⟨Int.toNat h, (Int.toNat_of_nonneg o3).symm⟩
    obtain ⟨v, rfl⟩ : ∃ n : Nat, v = (n : Int) := ⟨Int.toNat v, (Int.toNat_of_nonneg o4).symm⟩
    have hm0 : ∀ x ∈ m, 0 ≤ x := fun x hx => (Codec.inInt_iff.mp (List.all_eq_true.mp m2 x hx)).1
    have hh0 : ∀ x ∈ hd, 0 ≤ x := fun x hx => (Codec.inInt_iff.mp (List.all_eq_true.mp h2 x hx)).1
    have ht0 : ∀ x ∈ st, 0 ≤ x := fun x hx => (Codec.inInt_iff.mp (List.all_eq_true.mp t2 x hx)).1
    have hrows : ∀ ns ∈ bk, ns.length ≤ 36 ∧ ∀ x ∈ ns, 0 ≤ x := fun ns hn => by
      have q := List.all_eq_true.mp b2 ns hn
      rw [Bool.and_eq_true] at q
      exact ⟨(Codec.inNat_iff.mp q.1).2, fun x hx => (Codec.inInt_iff.mp (List.all_eq_true.mp q.2 x hx)).1⟩
    have em : BkNeutral.ints (BkNeutral.nats m) = m := Rm.ints_nats hm0
    have eh : BkNeutral.ints (BkNeutral.nats hd) = hd := Rm.ints_nats hh0
    have et : BkNeutral.ints (BkNeutral.nats st) = st := Rm.ints_nats ht0
    have eb : (BkNeutral.rows bk).map BkNeutral.ints = bk := by
      unfold BkNeutral.rows
      rw [List.map_map]
      refine (List.map_congr_left fun ns hn => ?_).trans (List.map_id _)
      exact Rm.ints_nats (hrows ns hn).2
    cases hx with
    | cons x1 r1 =>
      cases r1 with
      | cons x2 r2 =>
        cases r2 with
        | cons x3 r3 =>
          cases r3 with
          | cons x4 r4 =>
            cases r4 with
            | cons x5 r5 =>
              cases r5 with
              | cons x6 r6 =>
                cases r6 with
                | cons x7 r7 =>
                  cases r7 with
                  | cons x8 r8 =>
                    cases r8
                    cases x1
                    cases x2
                    cases x3
                    cases x4
                    cases x5 with
                    | lst s1 d1 =>
                      cases x6 with
                      | lst s2 d2 =>
                        cases x7 with
                        | lst s3 d3 =>
                          cases x8 with
                          | lst s4 d4 =>
                            have e1 := L2.ints_dw m _ d1
                            have e2 := L2.ints_dw hd _ d2
                            have e3 := L2.ints_dw st _ d3
                            obtain ⟨as, e4, hl, hr⟩ := Com.rows_dw bk _ d4
                            subst e1 e2 e3 e4
                            refine ⟨_, _, _, _, op, order, h, v, BkNeutral.nats m, BkNeutral.nats hd, BkNeutral.nats st, as, BkNeutral.rows bk, rfl, ?_, ?_, ?_, ?_, ?_, ?_, s4, ⟨?_, fun i b g e4 e5 => ?_⟩, ?_, fun l hl' => ?_, fun H' p hp => ?_⟩
                            · show L2.SqL K H _ ((BkNeutral.ints (BkNeutral.nats m)).map L2.V.int)
                              rw [em]
                              exact s1
                            · rw [Bm.nats_len]
                              exact (Codec.inNat_iff.mp m1).2
                            · show L2.SqL K H _ ((BkNeutral.ints (BkNeutral.nats hd)).map L2.V.int)
                              rw [eh]
                              exact s2
                            · rw [Bm.nats_len]
                              exact (Codec.inNat_iff.mp h1).2
                            · show L2.SqL K H _ ((BkNeutral.ints (BkNeutral.nats st)).map L2.V.int)
                              rw [et]
                              exact s3
                            · rw [Bm.nats_len]
                              exact Nat.le_trans (Codec.inNat_iff.mp t1).2 (by decide)
                            · unfold BkNeutral.rows
                              rw [List.length_map]
                              exact hl
                            · unfold BkNeutral.rows at e5
                              rw [List.getElem?_map] at e5
                              cases e6 : bk[i]? with
                              | none =>
                                rw [e6] at e5
                                cases e5
                              | some ns =>
                                rw [e6] at e5
                                have e5 : BkNeutral.nats ns = g := Option.some.inj e5
                                show L2.SqL K H b ((BkNeutral.ints g).map L2.V.int)
                                rw [← e5, Rm.ints_nats (hrows ns (List.mem_of_getElem? e6)).2]
                                exact hr i b ns e4 e6
                            · unfold BkNeutral.rows
                              rw [List.length_map]
                              exact (Codec.inNat_iff.mp b1).2
                            · obtain ⟨ns, hn, rfl⟩ := List.mem_map.mp hl'
                              rw [Bm.nats_len]
                              exact (hrows ns hn).1
                            · show L2.Dw K H' (.ref p) (WData.list ((PyYqacca.sum_of op order h v m hd st bk).map WData.int))
                              have hp : H' p = some (.lst ((PyYqacca.sum_of op order h v (BkNeutral.ints (BkNeutral.nats m)) (BkNeutral.ints (BkNeutral.nats hd)) (BkNeutral.ints (BkNeutral.nats st)) ((BkNeutral.rows bk).map BkNeutral.ints)).map L2.V.int)) := hp
                              rw [em, eh, et, eb] at hp
                              exact .lst (L2.SqL.of hp) (L2.dw_ints _)
#print axioms PySem.Challenge.cw_abacusbooks_s03_sum_of_holds
