import PyProof.Rows.All
import Wide.All
import OpenK.AllK
import Wide.FinOn
import PyProof.EqAt
import PyProof.EqKinds
import PyProof.TupleCall
import KE.BitLaws
import Open.SpecLaws
import KE.OsHead
import KE.OsGo
import KE.KTryMore
import KE.KRevIter
import KE.KDictList
import KE.IntBitsLaws
import PyProof.ExcInit
import PyProof.InstStoreFacts
import PyProof.ExcArgsOwn
import PyProof.ExcAttrAll.Exception
import PyProof.ListRange
import PySem.Challenge.RW_abacusbooks_s04_best
section
set_option Elab.async false
set_option linter.all false
set_option maxRecDepth 100000
namespace L2
open PySem PySem.Spec PyProof.Rows
abbrev Key:=Sum Int Str
def keyIs:Key -> Value -> Bool
  | .inl k,v => Value.isInt k v
  | .inr x,v => Value.isStrOf x v
def keyH (w:World):Key -> Int
  | .inl k => hashInt k
  | .inr x => hashStr w x
theorem keyIs_shape:∀ {k:Key} {v:Value},keyIs k v = true -> (∃ i t,k = Sum.inl i /\ v = Value.int i t) \/ (∃ x t,k = Sum.inr x /\ v = Value.str x t)
  | .inl i,v,h => by
    obtain ⟨t,e⟩:=Value.isInt_shape (k:=i) (v:=v) h
    exact .inl ⟨i,t,rfl,e⟩
  | .inr x,v,h => by
    obtain ⟨t,e⟩:=Value.isStrOf_shape (x:=x) (v:=v) h
    exact .inr ⟨x,t,rfl,e⟩
theorem keyIs_int (i:Int) (t:Tok):keyIs (.inl i) (.int i t) = true:=by simp [keyIs,Value.isInt]
theorem keyIs_str (x:Str) (t:Tok):keyIs (.inr x) (.str x t) = true:=by simp [keyIs,Value.isStrOf]
theorem key_ll (a b:Int):decide ((Sum.inl a:Key) = Sum.inl b) = (a == b):=by
  by_cases e:a = b
  . subst e; simp
  . have h:¬ (Sum.inl a:Key) = Sum.inl b:=fun q => e (Sum.inl.inj q)
    rw [decide_eq_false h]
    exact (beq_eq_false_iff_ne.mpr e).symm
theorem key_rr (a b:Str):decide ((Sum.inr a:Key) = Sum.inr b) = decide (a = b):=by
  by_cases e:a = b
  . subst e; simp
  . have h:¬ (Sum.inr a:Key) = Sum.inr b:=fun q => e (Sum.inr.inj q)
    rw [decide_eq_false h,decide_eq_false e]
theorem key_lr (a:Int) (b:Str):decide ((Sum.inl a:Key) = Sum.inr b) = false:=decide_eq_false (fun q => nomatch q)
theorem key_rl (a:Str) (b:Int):decide ((Sum.inr a:Key) = Sum.inl b) = false:=decide_eq_false (fun q => nomatch q)
def mixKind (prog:Program) (w:World):PySem.KeyKind prog w Key where
  is:=keyIs
  hash:=keyH w
  inj:=fun v a b ha hb => by
    rcases keyIs_shape ha with ⟨i,t,rfl,rfl⟩ | ⟨x,t,rfl,rfl⟩
    . rcases keyIs_shape hb with ⟨j,u,rfl,e⟩ | ⟨y,u,rfl,e⟩
      . injection e with e1 _; rw [e1]
      . exact nomatch e
    . rcases keyIs_shape hb with ⟨j,u,rfl,e⟩ | ⟨y,u,rfl,e⟩
      . exact nomatch e
      . injection e with e1 _; rw [e1]
  byValue:=fun k v h => by
    rcases keyIs_shape h with ⟨i,t,rfl,rfl⟩ | ⟨x,t,rfl,rfl⟩ <;> rfl
  pyHash:=fun hv h => by
    rcases keyIs_shape hv with ⟨i,t,rfl,rfl⟩ | ⟨x,t,rfl,rfl⟩
    . exact wpAny_pyHash_int h
    . exact wpAny_pyHash_str h
  eqBool:=fun hu hv h => by
    rcases keyIs_shape hu with ⟨i,t,rfl,rfl⟩ | ⟨x,t,rfl,rfl⟩
    . rcases keyIs_shape hv with ⟨j,u,rfl,rfl⟩ | ⟨y,u,rfl,rfl⟩
      . rw [key_ll] at h; exact wpAny_eqBool_int h
      . rw [key_lr] at h; exact SeqAt.EqAt.int_str i t y u _ _ _ _ h
    . rcases keyIs_shape hv with ⟨j,u,rfl,rfl⟩ | ⟨y,u,rfl,rfl⟩
      . rw [key_rl] at h; exact SeqAt.EqAt.str_int x t j u _ _ _ _ h
      . rw [key_rr] at h; exact wpAny_eqBool_str h
  «strs»:=fun k x t v h => by
    rcases keyIs_shape h with ⟨i,u,rfl,e⟩ | ⟨y,u,rfl,e⟩
    . exact nomatch e
    . injection e with e1 _
      subst e1
      cases v <;> rfl
theorem mixKind_int (prog:Program) (w:World) (i:Int) (t:Tok):(mixKind prog w).is (.inl i) (.int i t) = true:=keyIs_int i t
theorem mixKind_str (prog:Program) (w:World) (x:Str) (t:Tok):(mixKind prog w).is (.inr x) (.str x t) = true:=keyIs_str x t
end L2
namespace L2
open PySem PySem.Spec PyProof.Rows
inductive V where
  | non | bl (b:Bool) | int (i:Int) | str (x:Str) | byt (b:Array UInt8) | flt (b:UInt64) | ref (a:Addr) | ty (n:String)
  deriving DecidableEq
def RelV:V -> Value -> Prop
  | .non,u => u = Value.none
  | .bl b,u => u = Value.bool b
  | .int i,u => ∃ t,u = Value.int i t
  | .str x,u => ∃ t,u = Value.str x t
  | .byt b,u => ∃ t,u = Value.bytes b t
  | .flt b,u => ∃ t,u = Value.float b t
  | .ref a,u => u = Value.ref a
  | .ty n,u => u = Value.type n
abbrev Vals:List V -> List Value -> Prop:=Paired RelV
theorem Vals.length {xs:List V} {us:List Value} (r:Vals xs us):xs.length = us.length:=Paired.length r
theorem Vals.get:∀ {xs:List V} {us:List Value} {i:Nat} {x:V},Vals xs us -> xs[i]? = some x -> ∃ u,us[i]? = some u /\ RelV x u
  | _,_,_,_,.nil,e => by simp at e
  | _,_,0,_,.cons r _,e => by simp at e; subst e; exact ⟨_,rfl,r⟩
  | _,_,i + 1,x,.cons _ t,e => by
    obtain ⟨u,h1,h2⟩:=Vals.get (i:=i) (x:=x) t (by simpa using e)
    exact ⟨u,by simpa using h1,h2⟩
theorem Vals.set {x:V} {u:Value} (r:RelV x u):∀ {xs:List V} {us:List Value} (i:Nat),Vals xs us -> Vals (xs.set i x) (us.set i u)
  | _,_,_,.nil => .nil
  | _,_,0,.cons _ t => .cons r t
  | _,_,i + 1,.cons q t => .cons q (Vals.set r i t)
theorem Vals.append:∀ {xs ys:List V} {us ws:List Value},Vals xs us -> Vals ys ws -> Vals (xs ++ ys) (us ++ ws)
  | _,_,_,_,.nil,s => s
  | _,_,_,_,.cons r t,s => .cons r (Vals.append t s)
theorem Vals.take:∀ {xs:List V} {us:List Value} (n:Nat),Vals xs us -> Vals (xs.take n) (us.take n)
  | _,_,0,_ => .nil
  | _,_,_ + 1,.nil => .nil
  | _,_,n + 1,.cons r t => .cons r (Vals.take n t)
theorem Vals.drop:∀ {xs:List V} {us:List Value} (n:Nat),Vals xs us -> Vals (xs.drop n) (us.drop n)
  | _,_,0,r => r
  | _,_,_ + 1,.nil => .nil
  | _,_,n + 1,.cons _ t => Vals.drop n t
def RelO:Option V -> Option Value -> Prop
  | some v,some u => RelV v u
  | none,none => True
  | _,_ => False
def KV {κ:Type}:List (κ × V) -> List (κ × Value) -> Prop:=Paired fun (p:κ × V) (q:κ × Value) => p.1 = q.1 /\ RelV p.2 q.2
def kV:Key -> V
  | .inl i => .int i
  | .inr x => .str x
inductive HO where
    | lst (xs:List V)
    | tup (xs:List V)
    | dK (kvs:List (Key × V)) | dT (kvs:List (List Key × V))
    | set (S:Int -> Bool) (n:Nat)
    | ins (C dx:Addr) (fs:List (Str × V))
    | own (x:Addr)
    | xd (fs:List (Str × V))
    | met (f x:Addr)
    | rng (lo hi:Int)
    | frz (o:Obj) (u:HO)
    | tbl (ps:Array Value)
    | ext (φ:Heap -> Prop)
abbrev Hp:=Addr -> Option HO
def upd (H:Hp) (a:Addr) (o:HO):Hp:=fun b => if b = a then some o else H b
theorem upd_same {H:Hp} {a:Addr} {o:HO}:upd H a o a = some o:=by unfold upd; rw [if_pos rfl]
theorem upd_ne {H:Hp} {a b:Addr} {o:HO} (h:b ≠ a):upd H a o b = H b:=by unfold upd; rw [if_neg h]
theorem upd_upd {H:Hp} {a:Addr} {o u:HO}:upd (upd H a o) a u = upd H a u:=by
  funext b; unfold upd; split <;> rfl
theorem ne_of {H:Hp} {a b:Addr} {o u:HO} (h:H a = some o) (h':H b = some u) (d:o ≠ u):a ≠ b:=by
  intro e; subst e; rw [h] at h'; exact d (Option.some.inj h')
theorem ne_of_none {H:Hp} {a b:Addr} {o:HO} (h:H a = some o) (h':H b = none):a ≠ b:=by
  intro e; subst e; rw [h] at h'; cases h'
section
variable (P:Program) (w:World)
def ObjOk (H:Hp) (h:Heap) (a:Addr):HO -> Prop
  | .lst xs => xs.length <= sizeLine /\ ∃ (its:List Value) (n:Nat),Vals xs its /\ h.get? a = some { cls:=.type "list",data:=.seq its.toArray n }
  | .tup xs => xs.length <= sizeLine /\ ∃ its:List Value,Vals xs its /\ IsTup h a its.toArray
  | .dK kvs => kvs.length <= sizeLine /\ (a == sysModules) = false /\ ∃ vs,KV kvs vs /\ h.DictOf (mixKind P w) a vs
  | .dT kvs => kvs.length <= sizeLine /\ (a == sysModules) = false /\ ∃ xs:List (List Key × Addr × Value),
      Paired (fun (p:List Key × V) (q:List Key × Addr × Value) => p.1 = q.1 /\ H q.2.1 = some (.tup (p.1.map kV)) /\ RelV p.2 q.2.2) kvs xs /\
      ∃ o es ep,h.get? a = some o /\ o.ExactDict /\ o.data = .dict es ep /\ es.toList = xs.map (entryOfKey (tupleKind (mixKind P w))) /\ (xs.map (·.1)).Nodup
  | .set S n => h.SetOf (intKind P w) a S n
  | .ins C dx fs => H dx = some (.own a) /\ fs.length <= 1000 /\ dx ≠ a /\ h.get? a = some (PySem.W.instObj C dx) /\
      ∃ mA,h.Ns1 dx mA /\ (∀ f,RelO (fs.lookup f) (mA f)) /\ PySem.Within mA (fs.map (·.1))
  | .own _ => ∃ o,h.get? a = some o
  | .xd fs => ∃ mA,h.Ns1 a mA /\ ∀ f,RelO (fs.lookup f) (mA f)
  | .rng lo hi => ∃ t u v,h.get? a = some { cls:=.type "range",data:=.fields #[.int lo t,.int hi u,.int 1 v] }
  | .frz o u => h.get? a = some o /\ ObjOk H h a u
  | .tbl ps => h.get? a = some { cls:=.none,data:=.fields ps }
  | .met f x => h.get? a = some (PySem.W.methodObj (.ref f) (.ref x))
  | .ext φ => φ h /\ (∃ o,h.get? a = some o) /\ ∀ h1 h2:Heap,φ h1 -> (∀ o,h1.get? a = some o -> h2.get? a = some o) -> φ h2
def HOk (H:Hp) (h:Heap):Prop:=∀ a o,H a = some o -> ObjOk P w H h a o
end
section
variable {P:Program} {w:World} {H H':Hp} {h h':Heap} {a:Addr} {o:HO}
theorem ObjOk.lt (x:ObjOk P w H h a o):a < h.objs.size:=by
  cases o with
  | lst xs => obtain ⟨_,_,_,_,e⟩:=x; exact Heap.lt_size e
  | tup xs => obtain ⟨_,_,_,p⟩:=x; exact p.lt
  | dK kvs => obtain ⟨_,_,_,_,o,_,_,e,_⟩:=x; exact Heap.lt_size e
  | dT kvs => obtain ⟨_,_,_,_,o,_,_,e,_⟩:=x; exact Heap.lt_size e
  | set S n => obtain ⟨o,_,_,_,e,_⟩:=x; exact Heap.lt_size e
  | ins C dx fs => obtain ⟨_,_,_,e,_⟩:=x; exact Heap.lt_size e
  | own y => obtain ⟨_,e⟩:=x; exact Heap.lt_size e
  | xd fs => obtain ⟨_,⟨_,_,_,e,_⟩,_⟩:=x; exact Heap.lt_size e
  | rng lo hi => obtain ⟨_,_,_,e⟩:=x; exact Heap.lt_size e
  | frz ob u => obtain ⟨e,_⟩:=x; exact Heap.lt_size e
  | tbl ps => exact Heap.lt_size (show h.get? a = some _ from x)
  | met f y => exact Heap.lt_size (show h.get? a = some _ from x)
  | ext φ => obtain ⟨_,⟨_,e⟩,_⟩:=x; exact Heap.lt_size e
theorem Paired.mapP {α β:Type} {F G:α -> β -> Prop}:∀ {l₁:List α} {l₂:List β},Paired F l₁ l₂ -> (∀ a b,F a b -> G a b) -> Paired G l₁ l₂
  | _,_,.nil,_ => .nil
  | _,_,.cons r t,f => .cons (f _ _ r) (Paired.mapP t f)
theorem ObjOk.stay (x:ObjOk P w H h a o) (k:∀ b u,(b = a \/ H b = some (.own a)) -> h.get? b = some u -> h'.get? b = some u)
    (ho:∀ b,H b = some (.own a) -> H' b = some (.own a)) (ht:∀ b xs,H b = some (.tup xs) -> H' b = some (.tup xs)):ObjOk P w H' h' a o:=by
  induction o with
  | lst xs => obtain ⟨z,its,n,r,e⟩:=x; exact ⟨z,its,n,r,k _ _ (.inl rfl) e⟩
  | tup xs => obtain ⟨z,its,r,ob,e,c⟩:=x; exact ⟨z,its,r,ob,k _ _ (.inl rfl) e,c⟩
  | dK kvs => obtain ⟨z,y,vs,r,ob,es,ep,e,c⟩:=x; exact ⟨z,y,vs,r,ob,es,ep,k _ _ (.inl rfl) e,c⟩
  | dT kvs =>
    obtain ⟨z,y,xs,r,ob,es,ep,e,c⟩:=x
    exact ⟨z,y,xs,Paired.mapP r fun p q z => ⟨z.1,ht _ _ z.2.1,z.2.2⟩,ob,es,ep,k _ _ (.inl rfl) e,c⟩
  | set S n => obtain ⟨ob,es,ep,t,e,c⟩:=x; exact ⟨ob,es,ep,t,k _ _ (.inl rfl) e,c⟩
  | ins C dx fs =>
    obtain ⟨d,z,ne,e,mA,⟨od,es,ep,e2,c⟩,r⟩:=x
    exact ⟨ho _ d,z,ne,k _ _ (.inl rfl) e,mA,⟨od,es,ep,k _ _ (.inr d) e2,c⟩,r⟩
  | own y => obtain ⟨ob,e⟩:=x; exact ⟨ob,k _ _ (.inl rfl) e⟩
  | xd fs => obtain ⟨mA,⟨od,es,ep,e,c⟩,r⟩:=x; exact ⟨mA,⟨od,es,ep,k _ _ (.inl rfl) e,c⟩,r⟩
  | rng lo hi => obtain ⟨t,u,v,e⟩:=x; exact ⟨t,u,v,k _ _ (.inl rfl) e⟩
  | frz ob u ih => obtain ⟨e,q⟩:=x; exact ⟨k _ _ (.inl rfl) e,ih q⟩
  | tbl ps =>
    have e:h.get? a = some { cls:=.none,data:=.fields ps }:=x
    show h'.get? a = some { cls:=.none,data:=.fields ps }
    exact k a _ (.inl rfl) e
  | met f y =>
    have e:h.get? a = some (PySem.W.methodObj (.ref f) (.ref y)):=x
    show h'.get? a = some (PySem.W.methodObj (.ref f) (.ref y))
    exact k a _ (.inl rfl) e
  | ext φ => obtain ⟨p,⟨o,e⟩,st⟩:=x; exact ⟨st _ _ p fun o q => k _ _ (.inl rfl) q,⟨o,k _ _ (.inl rfl) e⟩,st⟩
theorem HOk.lt (x:HOk P w H h) (e:H a = some o):a < h.objs.size:=(x a o e).lt
theorem HOk.fresh (x:HOk P w H h) (e:h.objs.size <= a):H a = none:=by
  cases q:H a with
  | none => rfl
  | some u => exact absurd (Nat.lt_of_lt_of_le (x.lt q) e) (Nat.lt_irrefl _)
theorem HOk.kept (x:HOk P w H h) (k:∀ b u,h.get? b = some u -> h'.get? b = some u):HOk P w H h':=fun a o e =>
  (x a o e).stay (fun b u _ q => k b u q) (fun _ q => q) fun _ _ q => q
theorem HOk.laid (x:HOk P w H h) (k:∀ b u,h.get? b = some u -> h'.get? b = some u) (hp:h.objs.size <= a) (new:ObjOk P w (upd H a o) h' a o):HOk P w (upd H a o) h':=fun b u e => by
  have hn:=x.fresh hp
  by_cases hb:b = a
  . subst hb; rw [upd_same] at e; cases e; exact new
  . rw [upd_ne hb] at e
    exact (x b u e).stay (fun c v _ q => k c v q) (fun c q => by rw [upd_ne (ne_of_none q hn)]; exact q) fun c xs q => by rw [upd_ne (ne_of_none q hn)]; exact q
end
def Rd (H:Hp) (a:Addr) (u:HO):Prop:=H a = some u \/ ∃ o,H a = some (.frz o u)
theorem Rd.ok {P:Program} {w:World} {H:Hp} {h:Heap} {a:Addr} {u:HO} (r:Rd H a u) (x:HOk P w H h):ObjOk P w H h a u:=by
  rcases r with r | ⟨o,r⟩
  . exact x a u r
  . obtain ⟨_,q⟩:=x a _ r
    exact q
def Mut:Option HO -> Prop
  | some (.lst _) => True
  | some (.dK _) => True
  | some (.dT _) => True
  | some (.set _ _) => True
  | some (.ins _ _ _) => True
  | some (.ext _) => True
  | _ => False
section
variable {P:Program} {w:World} {H:Hp} {h h':Heap} {x e:Addr} {o':HO}
theorem HOk.write (ok:HOk P w H h) (mu:Mut (H x)) (he:e = x \/ H e = some (.own x)) (k:∀ b u,b ≠ e -> h.get? b = some u -> h'.get? b = some u) (heo:∃ u,h'.get? e = some u)
    (new:ObjOk P w (upd H x o') h' x o'):HOk P w (upd H x o') h':=fun b u q => by
  have nown:∀ c y,H c = some (.own y) -> c ≠ x:=fun c y r z => by subst z; rw [r] at mu; exact mu
  have ntup:∀ c xs,H c = some (.tup xs) -> c ≠ x:=fun c xs r z => by subst z; rw [r] at mu; exact mu
  by_cases hb:b = x
  . subst hb; rw [upd_same] at q; cases q; exact new
  . rw [upd_ne hb] at q
    by_cases hbe:b = e
    . have q':H b = some (.own x):=by
        rcases he with z | z
        . exact absurd (hbe.trans z) hb
        . rw [hbe]; exact z
      rw [q] at q'; cases q'
      obtain ⟨v,hv⟩:=heo
      exact ⟨v,by rw [hbe]; exact hv⟩
    . refine (ok b u q).stay (fun c v hc r => k c v ?_ r) (fun c r => by rw [upd_ne (nown c b r)]; exact r) fun c xs r => by rw [upd_ne (ntup c xs r)]; exact r
      rcases hc with rfl | hc
      . exact hbe
      . rintro rfl
        rcases he with z | z
        . exact nown c b hc z
        . rw [hc] at z; cases z; exact hb rfl
end
structure Un (fs ex:List Addr) (H H':Hp) (h h':Heap):Prop where
  keep:∀ b o,h.get? b = some o -> H b = none -> b ∉ fs -> b ∉ ex -> h'.get? b = some o
  slot:∀ b o,h.get? b = some o -> H b = none -> b ∈ fs -> b ∉ ex -> ∃ sl,h'.get? b = some { o with slots:=sl }
  free:∀ b o,h.get? b = some o -> H b = none -> b ∉ ex -> H' b = none
  there:∀ b o,h.get? b = some o -> b ∉ ex -> ∃ o',h'.get? b = some o'
  tups:∀ b xs,H b = some (.tup xs) -> H' b = some (.tup xs)
  frzs:∀ b o u,H b = some (.frz o u) -> H' b = some (.frz o u)
  tbls:∀ b ps,H b = some (.tbl ps) -> ∃ more,H' b = some (.tbl (ps ++ more))
section
variable {fs fs' ex ex':List Addr} {H H1 H2:Hp} {h h1 h2 h':Heap} {a x e:Addr} {o:HO}
theorem Un.any (u:Un fs ex H H1 h h1) {b:Addr} {ob:Obj} (q:h.get? b = some ob) (n:H b = none) (hx:b ∉ ex):∃ sl,h1.get? b = some { ob with slots:=sl }:=by
  by_cases hb:b ∈ fs
  . exact u.slot b ob q n hb hx
  . exact ⟨ob.slots,u.keep b ob q n hb hx⟩
theorem Un.kept (k:∀ b u,h.get? b = some u -> h'.get? b = some u):Un fs ex H H h h' :=
  ⟨fun b ob q _ _ _ => k b ob q,fun b ob q _ _ _ => ⟨ob.slots,k b ob q⟩,fun _ _ _ n _ => n,fun b ob q _ => ⟨ob,k b ob q⟩,fun _ _ q => q,fun _ _ _ q => q,fun _ ps q => ⟨#[],by rw [q]; simp⟩⟩
theorem Un.refl:Un fs ex H H h h:=Un.kept fun _ _ q => q
theorem Un.laid (k:∀ b u,h.get? b = some u -> h'.get? b = some u) (hp:h.objs.size <= a) (hn:H a = none):Un fs ex H (upd H a o) h h' where
  keep:=fun b u q _ _ _ => k b u q
  slot:=fun b u q _ _ _ => ⟨u.slots,k b u q⟩
  free:=fun b u q n _ => by rw [upd_ne (Nat.ne_of_lt (Nat.lt_of_lt_of_le (Heap.lt_size q) hp))]; exact n
  there:=fun b u q _ => ⟨u,k b u q⟩
  tups:=fun b xs q => by rw [upd_ne (ne_of_none q hn)]; exact q
  frzs:=fun b u xs q => by rw [upd_ne (ne_of_none q hn)]; exact q
  tbls:=fun b ps q => ⟨#[],by rw [upd_ne (ne_of_none q hn),q]; simp⟩
theorem Un.write (mu:Mut (H x)) (he:e = x \/ H e = some (.own x)) (k:∀ b u,b ≠ e -> h.get? b = some u -> h'.get? b = some u) (heo:∃ u,h'.get? e = some u):Un fs ex H (upd H x o) h h':=by
  have hx:∀ b,H b = none -> b ≠ x:=fun b n z => by subst z; rw [n] at mu; exact mu
  have hb:∀ b,H b = none -> b ≠ e:=fun b n z => by
    subst z
    rcases he with r | r
    . exact hx b n r
    . rw [n] at r; cases r
  have hm:∀ b u,H b = some u -> ¬ Mut (some u) -> b ≠ x:=fun b u q nm z => by subst z; rw [q] at mu; exact nm mu
  refine ⟨fun b u q n _ _ => k b u (hb b n) q,fun b u q n _ _ => ⟨u.slots,k b u (hb b n) q⟩,fun b u q n _ => by rw [upd_ne (hx b n)]; exact n,fun b u q _ => ?_,
    fun b xs q => by rw [upd_ne (hm b _ q fun z => z)]; exact q,fun b u xs q => by rw [upd_ne (hm b _ q fun z => z)]; exact q,fun b ps q => ⟨#[],by rw [upd_ne (hm b _ q fun z => z),q]; simp⟩⟩
  by_cases hbe:b = e
  . subst hbe; exact heo
  . exact ⟨u,k b u hbe q⟩
end
def trk (h:Heap) (H:Hp):List Addr:=(List.range h.objs.size).filter fun a => (H a).isSome
def hidT (h:Heap) (H:Hp):Heap:=PySem.W.hideAll h (trk h H)
theorem hidT_size (h:Heap) (H:Hp):(hidT h H).objs.size = h.objs.size:=PySem.W.hideAll_size _ _
theorem hidT_get {h:Heap} {H:Hp} {b:Addr} {o:Obj} (e:h.get? b = some o) (n:H b = none):(hidT h H).get? b = some o :=
  PySem.W.hideAll_get _ e fun hm => by
    have q:(H b).isSome = true:=(List.mem_filter.mp hm).2
    rw [n] at q; simp at q
theorem of_hidT {h:Heap} {H:Hp} {b:Addr} {o:Obj} (e:(hidT h H).get? b = some o):h.get? b = some o /\ H b = none:=by
  have e':h.get? b = some o:=PySem.W.of_hideAll (trk h H) e
  refine ⟨e',?_⟩
  cases q:H b with
  | none => rfl
  | some x =>
    have hm:b ∈ trk h H:=List.mem_filter.mpr ⟨List.mem_range.mpr (Heap.lt_size e'),by simp [q]⟩
    have z:(hidT h H).get? b = none:=PySem.W.hideAll_none (trk h H) hm
    rw [z] at e; cases e
end L2
namespace L2
open PySem PySem.Spec PyProof.Rows
structure Mod (K:PySem.W.Frag) (mg:Str -> Option Value) (base:Heap):Prop where
  kin:K.In base
  glob:base.Ns mainGlobals mg
  blt:∃ mb,base.Ns builtinsNs mb /\ ∀ x:Str,x ≠ "__name__" -> mb x = bootBuiltins x
  nolimit:base.NoLimit
structure Cx where
  prog:Program
  w:World
  K:PySem.W.Frag
  mg:Str -> Option Value
  base:Heap
  A:Around
  N:List Str
  s_0:Shared
  H_0:Hp
  env:Env
  outer:List Env
  stack:List Env
  ex:List Addr
  fn:Str -> Bool
  calm:Bool
  pn:List (Addr × Obj)
  xe:Value -> Shared -> Prop
def frs (l:List Env):List Addr:=l.filterMap (·.frame)
abbrev Cx.fs (X:Cx):List Addr:=frs X.outer
def Vis (sc:Scope) (x:Str):Prop:=sc.names.lookup x = some .local \/ sc.names.lookup x = some .cell \/ sc.names.lookup x = some .free
def Loc (sc:Scope) (x:Str):Prop:=sc.names.lookup x = some .local \/ sc.names.lookup x = some .cell
def Look (env:Env) (h:Heap) (m:Str -> Option Value) (x:Str) (u:Value):Prop :=
  (env.kindOf x = some .local /\ m x = some u) \/ ((env.kindOf x = some .cell \/ env.kindOf x = some .free) /\ ∃ c,env.cells.lookup x = some c /\ h.IsCell c (some u))
structure Cx.Ok (X:Cx):Prop where
  mod:Mod X.K X.mg X.base
  kind:X.env.scope.kind = .function
  glob:X.env.globals = mainGlobals
  blt:X.env.builtins = builtinsNs
  above:X.s_0.heap.objs.size <= X.env.locals
  inj:∀ x y c,X.env.cells.lookup x = some c -> X.env.cells.lookup y = some c -> x = y
  has:∀ x,(X.env.kindOf x = some .cell \/ X.env.kindOf x = some .free) -> ∃ c,X.env.cells.lookup x = some c
  cab:∀ x c,X.fn x = true -> X.env.cells.lookup x = some c -> X.s_0.heap.objs.size <= c
  hd:X.calm = true -> X.A.handled = none
  frames:X.A.frames = some X.stack
  stk:X.stack = X.outer \/ (X.stack = X.env :: X.outer /\ X.env.frame = some X.env.locals)
  exf:∀ b ∈ X.ex,b ≠ X.env.locals /\ ∀ x c,X.env.cells.lookup x = some c -> c ≠ b
  bs:∀ b o,X.base.get? b = some o -> X.s_0.heap.get? b = some o /\ X.H_0 b = none
  bsz:X.base.objs.size <= X.s_0.heap.objs.size
  noex:∀ b o,X.base.get? b = some o -> b ∉ X.ex
  exfs:∀ b ∈ X.ex,b ∉ X.fs
  funs:X.s_0.heap.FunFrames X.base X.outer
  frf:∀ b ∈ X.fs,X.H_0 b = none
structure Inv (X:Cx) (pins:List (Addr × Obj)) (σ:List (Option V)) (H:Hp) (s:Shared):Prop where
  ok:X.Ok
  os:s.os = X.s_0.os
  bare:AllBare s.gens
  base:Un X.fs X.ex X.H_0 H X.s_0.heap s.heap
  loc:∃ m,s.heap.Ns X.env.locals m /\ ∀ (i:Nat) (x:Str) (v:V),X.N[i]? = some x -> σ[i]? = some (some v) -> Vis X.env.scope x -> ∃ u,RelV v u /\ Look X.env s.heap m x u
  cell:∀ x c,X.env.cells.lookup x = some c -> ∃ v,s.heap.IsCell c v
  free:H X.env.locals = none
  freeC:∀ x c,X.env.cells.lookup x = some c -> H c = none
  pin:∀ p ∈ X.pn ++ pins,s.heap.get? p.1 = some p.2 /\ H p.1 = none /\ p.1 ≠ X.env.locals /\ p.1 ∉ X.fs /\ ∀ v,p.2.data ≠ .cell v
  hok:HOk X.prog X.w H s.heap
  len:σ.length = X.N.length
section
variable {X:Cx} {pins:List (Addr × Obj)} {σ:List (Option V)} {H H':Hp} {s:Shared} {h':Heap}
theorem Cx.Ok.nofr (ok:X.Ok) {b:Addr} {o:Obj} (e:X.base.get? b = some o):b ∉ X.fs:=fun hb => by
  have:=(ok.funs.mem hb).1
  rw [e] at this; cases this
theorem Inv.bs (I:Inv X pins σ H s):∀ b o,X.base.get? b = some o -> s.heap.get? b = some o /\ H b = none:=fun b o e =>
  ⟨I.base.keep b o (I.ok.bs b o e).1 (I.ok.bs b o e).2 (I.ok.nofr e) (I.ok.noex b o e),I.base.free b o (I.ok.bs b o e).1 (I.ok.bs b o e).2 (I.ok.noex b o e)⟩
theorem Inv.bk (I:Inv X pins σ H s):∀ b o,X.base.get? b = some o -> s.heap.get? b = some o:=fun b o e => (I.bs b o e).1
theorem Inv.mod (I:Inv X pins σ H s):Mod X.K X.mg X.base:=I.ok.mod
theorem Inv.kIn (I:Inv X pins σ H s):X.K.In s.heap:=I.ok.mod.kin.keeps I.bk
theorem Inv.lt (I:Inv X pins σ H s):X.env.locals < s.heap.objs.size:=let ⟨_,hn,_⟩:=I.loc; hn.lt
theorem Inv.sz (I:Inv X pins σ H s):X.s_0.heap.objs.size <= s.heap.objs.size:=Nat.le_trans I.ok.above (Nat.le_of_lt I.lt)
theorem Inv.nofs (I:Inv X pins σ H s) {a:Addr} (h:s.heap.objs.size <= a):a ∉ X.fs:=fun hb => by
  obtain ⟨_,o,ho,_⟩:=I.ok.funs.mem hb
  exact absurd (Nat.lt_of_lt_of_le (Heap.lt_size ho) (Nat.le_trans I.sz h)) (Nat.lt_irrefl _)
theorem Inv.cne (I:Inv X pins σ H s):∀ x c,X.env.cells.lookup x = some c -> c ≠ X.env.locals:=fun x c e z => by
  obtain ⟨v,o,ho,hd⟩:=I.cell x c e
  obtain ⟨m,⟨o',es,ep,ho',hd',_⟩,_⟩:=I.loc
  rw [z,ho'] at ho; cases ho; rw [hd'] at hd; cases hd
theorem Inv.funs (I:Inv X pins σ H s):s.heap.FunFrames X.base X.outer:=by
  have all:∀ (l:List Env),(∀ b ∈ frs l,b ∈ X.fs) -> X.s_0.heap.FunFrames X.base l -> s.heap.FunFrames X.base l:=by
    intro l
    induction l with
    | nil => intro _ _; trivial
    | cons env r ih =>
      intro hs hl
      obtain ⟨hk,⟨L,o,hf,hn,ho,hd⟩,hr⟩:=hl
      have hL:L ∈ X.fs:=hs L (by unfold frs; rw [List.filterMap_cons,hf]; exact List.mem_cons_self)
      obtain ⟨sl,e⟩:=I.base.slot L o ho (I.ok.frf L hL) hL fun z => I.ok.exfs L z hL
      exact ⟨hk,⟨L,_,hf,hn,e,hd⟩,ih (fun b hb => hs b (by unfold frs; rw [List.filterMap_cons,hf]; exact List.mem_cons_of_mem _ hb)) hr⟩
  exact all X.outer (fun _ hb => hb) I.ok.funs
theorem Inv.stack (I:Inv X pins σ H s):s.heap.FunFrames X.base X.stack:=by
  rcases I.ok.stk with e | ⟨e,hf⟩
  . rw [e]; exact I.funs
  . rw [e]
    obtain ⟨m,hn,_⟩:=I.loc
    refine .cons (by rw [I.ok.kind]; decide) hf hn ?_ I.funs
    exact Heap.get?_none_of_le (Nat.le_trans I.ok.bsz I.ok.above)
theorem Inv.stkSub (I:Inv X pins σ H s):∀ b ∈ frs X.stack,b ∈ X.env.locals :: X.fs:=fun b hb => by
  rcases I.ok.stk with e | ⟨e,hf⟩
  . rw [e] at hb; exact List.mem_cons_of_mem _ hb
  . rw [e] at hb
    unfold frs at hb
    rw [List.filterMap_cons,hf] at hb
    exact hb
theorem Inv.stkFree (I:Inv X pins σ H s):∀ b ∈ frs X.stack,H b = none:=fun b hb => by
  rcases List.mem_cons.mp (I.stkSub b hb) with e | hb
  . rw [e]; exact I.free
  . obtain ⟨_,o,ho,_⟩:=I.ok.funs.mem hb
    exact I.base.free b o ho (I.ok.frf b hb) fun z => I.ok.exfs b z hb
theorem Inv.step {g':Array GenState} {t':Nat} {d':Drawn} {ch:List Addr} (I:Inv X pins σ H s)
    (hch:∀ b ∈ ch,(b ∈ X.ex \/ X.s_0.heap.objs.size <= b) /\ b ≠ X.env.locals /\ (∀ x c,X.env.cells.lookup x = some c -> c ≠ b) /\ ∀ p ∈ X.pn ++ pins,p.1 ≠ b)
    (keep:∀ b o,b ≠ X.env.locals -> b ∉ X.fs -> b ∉ ch -> s.heap.get? b = some o -> H b = none -> h'.get? b = some o)
    (slot:∀ b o,b ≠ X.env.locals -> b ∈ X.fs -> b ∉ ch -> s.heap.get? b = some o -> H b = none -> ∃ sl,h'.get? b = some { o with slots:=sl }) (free:∀ b o,b ∉ ch -> s.heap.get? b = some o -> H b = none -> H' b = none)
    (there:∀ b o,b ∉ ch -> s.heap.get? b = some o -> ∃ o',h'.get? b = some o')
    (tups:∀ b xs,H b = some (.tup xs) -> H' b = some (.tup xs)) (frzs:∀ b o u,H b = some (.frz o u) -> H' b = some (.frz o u)) (tbls:∀ b ps,H b = some (.tbl ps) -> ∃ more,H' b = some (.tbl (ps ++ more)))
    (ns:∀ m,s.heap.Ns X.env.locals m -> h'.Ns X.env.locals m) (hok:HOk X.prog X.w H' h') (hg:AllBare g') :
    Inv X pins σ H' { s with heap:=h',gens:=g',drawn:=d',toks:=t' }:=by
  have neL:∀ b o,X.s_0.heap.get? b = some o -> b ≠ X.env.locals:=fun b o e => Nat.ne_of_lt (Nat.lt_of_lt_of_le (Heap.lt_size e) I.ok.above)
  have neC:∀ b o,X.s_0.heap.get? b = some o -> b ∉ X.ex -> b ∉ ch:=fun b o e hx hb => by
    rcases (hch b hb).1 with z | z
    . exact hx z
    . exact absurd (Nat.lt_of_lt_of_le (Heap.lt_size e) z) (Nat.lt_irrefl _)
  have cellK:∀ x c,X.env.cells.lookup x = some c -> ∀ v,s.heap.IsCell c v -> h'.IsCell c v:=fun x c e v ⟨o,ho,hd⟩ => by
    have nch:c ∉ ch:=fun z => (hch c z).2.2.1 x c e rfl
    by_cases hc:c ∈ X.fs
    . obtain ⟨sl,q⟩:=slot c o (I.cne x c e) hc nch ho (I.freeC x c e)
      exact ⟨_,q,hd⟩
    . exact ⟨o,keep c o (I.cne x c e) hc nch ho (I.freeC x c e),hd⟩
  refine ⟨I.ok,I.os,hg,⟨fun b o e n hb hx => ?_,fun b o e n hb hx => ?_,fun b o e n hx => ?_,fun b o e hx => ?_,fun b xs e => tups b xs (I.base.tups b xs e),fun b o xs e => frzs b o xs (I.base.frzs b o xs e),fun b ps e => ?_⟩,?_,fun x c e => ?_,?_,fun x c e => ?_,fun p hp => ?_,hok,I.len⟩
  . exact keep b o (neL b o e) hb (neC b o e hx) (I.base.keep b o e n hb hx) (I.base.free b o e n hx)
  . obtain ⟨sl,e1⟩:=I.base.slot b o e n hb hx
    obtain ⟨sl',e2⟩:=slot b _ (neL b o e) hb (neC b o e hx) e1 (I.base.free b o e n hx)
    exact ⟨sl',e2⟩
  . obtain ⟨o',e1⟩:=I.base.there b o e hx
    exact free b o' (neC b o e hx) e1 (I.base.free b o e n hx)
  . obtain ⟨o',e1⟩:=I.base.there b o e hx
    exact there b o' (neC b o e hx) e1
  . obtain ⟨m1,e1⟩:=I.base.tbls b ps e
    obtain ⟨m2,e2⟩:=tbls b _ e1
    exact ⟨m1 ++ m2,by rw [e2,Array.append_assoc]⟩
  . obtain ⟨m,hn,hl⟩:=I.loc
    refine ⟨m,ns m hn,fun i x v e1 e2 e3 => ?_⟩
    obtain ⟨u,r,l⟩:=hl i x v e1 e2 e3
    refine ⟨u,r,?_⟩
    rcases l with l | ⟨k,c,e,z⟩
    . exact .inl l
    . exact .inr ⟨k,c,e,cellK x c e _ z⟩
  . obtain ⟨v,z⟩:=I.cell x c e
    exact ⟨v,cellK x c e v z⟩
  . obtain ⟨m,⟨o,_,_,ho,_⟩,_⟩:=I.loc
    exact free _ o (fun z => (hch _ z).2.1 rfl) ho I.free
  . obtain ⟨v,o,ho,hd⟩:=I.cell x c e
    exact free c o (fun z => (hch c z).2.2.1 x c e rfl) ho (I.freeC x c e)
  . obtain ⟨e,n,ne,nf,d⟩:=I.pin p hp
    have nch:p.1 ∉ ch:=fun z => (hch p.1 z).2.2.2 p hp rfl
    exact ⟨keep p.1 p.2 ne nf nch e n,free p.1 p.2 nch e n,ne,nf,d⟩
theorem Inv.un {t':Nat} (I:Inv X pins σ H s) (u:Un X.fs [] H H' s.heap h') (hok:HOk X.prog X.w H' h'):Inv X pins σ H' { s with heap:=h',toks:=t' }:=by
  obtain ⟨m,⟨o,es,ep,ho,r⟩,_⟩:=id I.loc
  obtain ⟨sl,hL⟩:=u.any ho I.free (by simp)
  exact I.step (g':=s.gens) (d':=s.drawn) (ch:=[]) (fun _ z => nomatch z) (fun b o _ hb _ e n => u.keep b o e n hb (by simp)) (fun b o _ hb _ e n => u.slot b o e n hb (by simp)) (fun b o _ e n => u.free b o e n (by simp)) (fun b o _ e => u.there b o e (by simp)) u.tups u.frzs u.tbls (fun m' hm => by
    obtain ⟨o',es',ep',ho',r'⟩:=hm
    rw [ho] at ho'; cases ho'
    exact ⟨_,es',ep',hL,r'⟩) hok I.bare
theorem Inv.call {g':Array GenState} {t':Nat} {d':Drawn} {ch:List Addr} (I:Inv X pins σ H s) (u:Un (frs X.stack) ch H H' s.heap h') (hok:HOk X.prog X.w H' h') (hg:AllBare g')
    (hch:∀ b ∈ ch,(b ∈ X.ex \/ X.s_0.heap.objs.size <= b) /\ b ≠ X.env.locals /\ (∀ x c,X.env.cells.lookup x = some c -> c ≠ b) /\ ∀ p ∈ X.pn ++ pins,p.1 ≠ b) :
    Inv X pins σ H' { s with heap:=h',gens:=g',drawn:=d',toks:=t' }:=by
  obtain ⟨m,⟨o,es,ep,ho,r⟩,_⟩:=id I.loc
  obtain ⟨sl,hL⟩:=u.any ho I.free fun z => (hch _ z).2.1 rfl
  exact I.step (ch:=ch) hch (fun b o hL hb hc e n => u.keep b o e n (fun z => (List.mem_cons.mp (I.stkSub b z)).elim hL hb) hc) (fun b o _ _ hc e n => u.any e n hc) (fun b o hc e n => u.free b o e n hc) (fun b o hc e => u.there b o e hc) u.tups u.frzs u.tbls (fun m' hm => by
    obtain ⟨o',es',ep',ho',r'⟩:=hm
    rw [ho] at ho'; cases ho'
    exact ⟨_,es',ep',hL,r'⟩) hok hg
theorem Inv.turned {t':Nat} {it:Addr} (I:Inv X pins σ H s) (k:∀ b o,b ≠ it -> s.heap.get? b = some o -> h'.get? b = some o) (hn:H it = none) (hL:it ≠ X.env.locals)
    (h1:it ∈ X.ex \/ X.s_0.heap.objs.size <= it) (h2:∀ x c,X.env.cells.lookup x = some c -> c ≠ it) (h3:∀ p ∈ X.pn ++ pins,p.1 ≠ it):Inv X pins σ H { s with heap:=h',toks:=t' }:=by
  have nit:∀ b u,H b = some u -> b ≠ it:=fun b u e z => by rw [z,hn] at e; cases e
  refine I.step (g':=s.gens) (d':=s.drawn) (ch:=[it]) (fun b hb => ?_) (fun b o _ _ hc e _ => k b o (fun z => hc (by simp [z])) e) (fun b o _ _ hc e _ => ⟨o.slots,k b o (fun z => hc (by simp [z])) e⟩) (fun _ _ _ _ n => n)
    (fun b o hc e => ⟨o,k b o (fun z => hc (by simp [z])) e⟩) (fun _ _ e => e) (fun _ _ _ e => e) (fun b ps e => ⟨#[],by rw [e]; simp⟩) (fun m hm => ?_) (fun b u e => ?_) I.bare
  . have e:b = it:=by simpa using hb
    subst e
    exact ⟨h1,hL,h2,h3⟩
  . obtain ⟨o,es,ep,ho,r⟩:=hm
    exact ⟨o,es,ep,k _ o (Ne.symm hL) ho,r⟩
  . refine (I.hok b u e).stay (fun c v hc q => k c v ?_ q) (fun _ q => q) fun _ _ q => q
    rcases hc with z | z
    . rw [z]; exact nit b u e
    . exact nit c _ z
theorem Inv.tok (I:Inv X pins σ H s) (t:Nat):Inv X pins σ H { s with toks:=t }:=I.un (h':=s.heap) (t':=t) Un.refl I.hok
theorem Inv.kept {t':Nat} (I:Inv X pins σ H s) (k:∀ b u,s.heap.get? b = some u -> h'.get? b = some u):Inv X pins σ H { s with heap:=h',toks:=t' }:=I.un (Un.kept k) (I.hok.kept k)
theorem Inv.laid {a:Addr} {o:HO} {t':Nat} (I:Inv X pins σ H s) (k:∀ b u,s.heap.get? b = some u -> h'.get? b = some u) (hp:s.heap.objs.size <= a) (new:ObjOk X.prog X.w (upd H a o) h' a o) :
    Inv X pins σ (upd H a o) { s with heap:=h',toks:=t' }:=I.un (Un.laid k hp (I.hok.fresh hp)) (I.hok.laid k hp new)
theorem Inv.write {x e:Addr} {o:HO} {t':Nat} (I:Inv X pins σ H s) (mu:Mut (H x)) (he:e = x \/ H e = some (.own x)) (k:∀ b u,b ≠ e -> s.heap.get? b = some u -> h'.get? b = some u) (heo:∃ u,h'.get? e = some u)
    (new:ObjOk X.prog X.w (upd H x o) h' x o):Inv X pins σ (upd H x o) { s with heap:=h',toks:=t' }:=I.un (Un.write mu he k heo) (I.hok.write mu he k heo new)
theorem Inv.weak {σ':List (Option V)} (I:Inv X pins σ H s) (hl:σ'.length = σ.length) (w:∀ (i:Nat) v,σ'[i]? = some (some v) -> σ[i]? = some (some v)):Inv X pins σ' H s :=
  ⟨I.ok,I.os,I.bare,I.base,let ⟨m,hn,hl'⟩:=I.loc; ⟨m,hn,fun i x v e1 e2 e3 => hl' i x v e1 (w i v e2) e3⟩,I.cell,I.free,I.freeC,I.pin,I.hok,hl.trans I.len⟩
theorem Inv.pins_of {pins':List (Addr × Obj)} (I:Inv X pins σ H s) (h:∀ p ∈ pins',s.heap.get? p.1 = some p.2 /\ H p.1 = none /\ p.1 ≠ X.env.locals /\ p.1 ∉ X.fs /\ ∀ v,p.2.data ≠ .cell v):Inv X pins' σ H s :=
  ⟨I.ok,I.os,I.bare,I.base,I.loc,I.cell,I.free,I.freeC,fun p hp => (List.mem_append.mp hp).elim (fun z => I.pin p (List.mem_append_left _ z)) (h p),I.hok,I.len⟩
theorem nodup_ix {N:List Str} (hN:N.Nodup) {i j:Nat} {x:Str} (a:N[i]? = some x) (b:N[j]? = some x):i = j:=by
  obtain ⟨h1,e1⟩:=List.getElem?_eq_some_iff.mp a
  obtain ⟨h2,e2⟩:=List.getElem?_eq_some_iff.mp b
  exact (List.getElem_inj hN).mp (e1.trans e2.symm)
theorem store_ok2 {M:Model} {A:Around} {E:Value -> Shared -> Prop} {i:Nat} {x:Str} {v:V} {u:Value} {Q:Unit -> Shared -> Prop} (I:Inv X pins σ H s) (hN:X.N.Nodup) (hi:X.N[i]? = some x) (hx:Loc X.env.scope x) (r:RelV v u)
    (h:∀ s',Inv X pins (σ.set i (some v)) H s' -> (∃ a,Heap.SameBut a s.heap s'.heap /\ (a = X.env.locals \/ X.env.cells.lookup x = some a)) -> Q () s') (hf:X.fn x = true \/ X.env.scope.names.lookup x = some .local:=by first | exact .inl rfl | exact .inr rfl | assumption):wpAny M A (storeName X.env x u) Q E s:=by
  obtain ⟨m,hn,hl⟩:=id I.loc
  have hcls:(X.env.scope.kind == .class || (X.env.scope.kind == .module && X.env.locals != X.env.globals)) = false:=by rw [I.ok.kind]; rfl
  have hiσ:i < σ.length:=by rw [I.len]; exact (List.getElem?_eq_some_iff.mp hi).1
  have cne:=I.cne
  have tracked:∀ {a:Addr} {h':Heap},(∃ o,s.heap.get? a = some o /\ H a = none) -> Heap.SameBut a s.heap h' -> HOk X.prog X.w H h':=fun {a h'} ha hs b ob e => by
    obtain ⟨_,_,hfree⟩:=ha
    refine (I.hok b ob e).stay (fun c w' hc q => (hs.2 c ?_).trans q) (fun _ q => q) fun _ _ q => q
    rintro rfl
    rcases hc with rfl | hc
    . rw [hfree] at e; cases e
    . rw [hfree] at hc; cases hc
  rcases hx with hk | hk
  . refine wpAny_storeName_local hk hn (fun h' hn' hs => ?_) hcls
    obtain ⟨oL,_,_,hoL,_⟩:=id hn
    refine h _ ⟨I.ok,I.os,I.bare,⟨fun b o e n hb hx => ?_,fun b o e n hb hx => ?_,I.base.free,fun b o e hx => ?_,I.base.tups,I.base.frzs,I.base.tbls⟩,⟨_,hn',fun j y v' e1 e2 e3 => ?_⟩,fun y c e => ?_,I.free,I.freeC,fun p hp => ?_,tracked ⟨oL,hoL,I.free⟩ hs,by simpa using I.len⟩ ⟨_,hs,.inl rfl⟩
    . exact (hs.2 b (Nat.ne_of_lt (Nat.lt_of_lt_of_le (Heap.lt_size e) I.ok.above))).trans (I.base.keep b o e n hb hx)
    . obtain ⟨sl,e1⟩:=I.base.slot b o e n hb hx
      exact ⟨sl,(hs.2 b (Nat.ne_of_lt (Nat.lt_of_lt_of_le (Heap.lt_size e) I.ok.above))).trans e1⟩
    . obtain ⟨o',e1⟩:=I.base.there b o e hx
      exact ⟨o',(hs.2 b (Nat.ne_of_lt (Nat.lt_of_lt_of_le (Heap.lt_size e) I.ok.above))).trans e1⟩
    . by_cases hj:j = i
      . subst hj
        rw [hi] at e1; cases e1
        rw [List.getElem?_set_self hiσ] at e2
        cases e2
        exact ⟨u,r,.inl ⟨hk,by simp⟩⟩
      . rw [List.getElem?_set_ne (Ne.symm hj)] at e2
        obtain ⟨u',r',q⟩:=hl j y v' e1 e2 e3
        refine ⟨u',r',?_⟩
        rcases q with ⟨k,e⟩ | ⟨k,c,e,z⟩
        . refine .inl ⟨k,?_⟩
          have:y ≠ x:=fun e => hj (nodup_ix hN e1 (e ▸ hi))
          simp [this,e]
        . exact .inr ⟨k,c,e,z.sameBut hs (cne y c e)⟩
    . obtain ⟨w',z⟩:=I.cell y c e
      exact ⟨w',z.sameBut hs (cne y c e)⟩
    . obtain ⟨e,n,ne,nf,d⟩:=I.pin p hp
      exact ⟨(hs.2 p.1 ne).trans e,n,ne,nf,d⟩
  . have hfn:X.fn x = true:=by
      rcases hf with z | z
      . exact z
      . rw [z] at hk; cases hk
    obtain ⟨c,hc⟩:=I.ok.has x (.inl hk)
    obtain ⟨w',z⟩:=I.cell x c hc
    refine wpAny_storeName_cell I.ok.kind hk hc z (fun h' hc' hs => ?_)
    obtain ⟨oc,hoc,hocd⟩:=id z
    refine h { s with heap:=h' } ⟨I.ok,I.os,I.bare,⟨fun b o e n hb hx => ?_,fun b o e n hb hx => ?_,I.base.free,fun b o e hx => ?_,I.base.tups,I.base.frzs,I.base.tbls⟩,⟨m,hn.sameBut hs (Ne.symm (cne x c hc)),fun j y v' e1 e2 e3 => ?_⟩,fun y c' e => ?_,I.free,I.freeC,fun p hp => ?_,tracked ⟨oc,hoc,I.freeC x c hc⟩ hs,by simpa using I.len⟩ ⟨c,hs,.inr hc⟩
    . exact (hs.2 b (Nat.ne_of_lt (Nat.lt_of_lt_of_le (Heap.lt_size e) (I.ok.cab x c hfn hc)))).trans (I.base.keep b o e n hb hx)
    . obtain ⟨sl,e1⟩:=I.base.slot b o e n hb hx
      exact ⟨sl,(hs.2 b (Nat.ne_of_lt (Nat.lt_of_lt_of_le (Heap.lt_size e) (I.ok.cab x c hfn hc)))).trans e1⟩
    . obtain ⟨o',e1⟩:=I.base.there b o e hx
      exact ⟨o',(hs.2 b (Nat.ne_of_lt (Nat.lt_of_lt_of_le (Heap.lt_size e) (I.ok.cab x c hfn hc)))).trans e1⟩
    . by_cases hj:j = i
      . subst hj
        rw [hi] at e1; cases e1
        rw [List.getElem?_set_self hiσ] at e2
        cases e2
        exact ⟨u,r,.inr ⟨.inl hk,c,hc,hc'⟩⟩
      . rw [List.getElem?_set_ne (Ne.symm hj)] at e2
        obtain ⟨u',r',q⟩:=hl j y v' e1 e2 e3
        refine ⟨u',r',?_⟩
        rcases q with q | ⟨k,c',e,z'⟩
        . exact .inl q
        . refine .inr ⟨k,c',e,z'.sameBut hs ?_⟩
          rintro rfl
          exact hj (nodup_ix hN e1 (I.ok.inj _ _ _ e hc ▸ hi))
    . by_cases hcc:c' = c
      . subst hcc; exact ⟨_,hc'⟩
      . obtain ⟨w2,z2⟩:=I.cell y c' e
        exact ⟨w2,z2.sameBut hs hcc⟩
    . obtain ⟨e,n,ne,nf,d⟩:=I.pin p hp
      refine ⟨(hs.2 p.1 ?_).trans e,n,ne,nf,d⟩
      intro q
      rw [q,hoc] at e
      have q':oc = p.2:=Option.some.inj e
      exact d w' (by rw [<- q']; exact hocd)
theorem store_ok {M:Model} {A:Around} {E:Value -> Shared -> Prop} {i:Nat} {x:Str} {v:V} {u:Value} {Q:Unit -> Shared -> Prop} (I:Inv X pins σ H s) (hN:X.N.Nodup) (hi:X.N[i]? = some x) (hx:Loc X.env.scope x) (r:RelV v u)
    (h:∀ s',Inv X pins (σ.set i (some v)) H s' -> Q () s') (hf:X.fn x = true \/ X.env.scope.names.lookup x = some .local:=by first | exact .inl rfl | exact .inr rfl | assumption):wpAny M A (storeName X.env x u) Q E s :=
  store_ok2 I hN hi hx r (fun s' I' _ => h s' I') hf
theorem Inv.call' {s':Shared} {ch:List Addr} (I:Inv X pins σ H s) (ho:s'.os = s.os) (u:Un (frs X.stack) ch H H' s.heap s'.heap) (hok:HOk X.prog X.w H' s'.heap) (hg:AllBare s'.gens)
    (hch:∀ b ∈ ch,(b ∈ X.ex \/ X.s_0.heap.objs.size <= b) /\ b ≠ X.env.locals /\ (∀ x c,X.env.cells.lookup x = some c -> c ≠ b) /\ ∀ p ∈ X.pn ++ pins,p.1 ≠ b):Inv X pins σ H' s':=by
  obtain ⟨h',g',d',t',o'⟩:=s'
  have e:o' = s.os:=ho
  subst e
  exact I.call (g':=g') (t':=t') (d':=d') u hok hg hch
end
abbrev XK:=Value -> Option Addr -> Hp -> Prop
abbrev St:=List (Option V)
abbrev VK:=V -> Hp -> Prop
abbrev TE:=St -> Hp -> VK -> Prop
abbrev TT:=St -> Hp -> (Bool -> Hp -> Prop) -> Prop
abbrev TA:=St -> Hp -> (List V -> Hp -> Prop) -> Prop
structure Ends where
  nx:St -> Hp -> Prop
  rt:VK
  bk:St -> Hp -> Prop:=fun _ _ => False
  ct:St -> Hp -> Prop:=fun _ _ => False
abbrev TS:=Ends -> St -> Hp -> Prop
def EP (X:Cx) (pins:List (Addr × Obj)) (σ:St) (Q:VK) (u:Value) (s':Shared):Prop:=∃ v H',Inv X pins σ H' s' /\ RelV v u /\ Q v H'
def TP (X:Cx) (pins:List (Addr × Obj)) (σ:St) (Q:Bool -> Hp -> Prop) (b:Bool) (s':Shared):Prop:=∃ H',Inv X pins σ H' s' /\ Q b H'
def AP (X:Cx) (pins:List (Addr × Obj)) (σ:St) (Q:List V -> Hp -> Prop) (us:List Value) (s':Shared):Prop:=∃ vs H',Inv X pins σ H' s' /\ Vals vs us /\ Q vs H'
def SP (X:Cx) (pins:List (Addr × Obj)) (D:Ends) (f:Flow) (s':Shared):Prop :=
  match f with
  | .next => ∃ σ' H',Inv X pins σ' H' s' /\ D.nx σ' H'
  | .brk => ∃ σ' H',Inv X pins σ' H' s' /\ D.bk σ' H'
  | .cont => ∃ σ' H',Inv X pins σ' H' s' /\ D.ct σ' H'
  | .ret u => ∃ v σ' H',Inv X pins σ' H' s' /\ RelV v u /\ D.rt v H'
def PE (X:Cx) (e:Expr) (t:TE):Prop :=
  ∀ (pins:List (Addr × Obj)) (s:Shared) (σ:St) (H:Hp) (Q:VK),Inv X pins σ H s -> t σ H Q -> wpAny (model X.prog X.w) X.A (eval e X.env) (EP X pins σ Q) X.xe s
def PT (X:Cx) (e:Expr) (t:TT):Prop :=
  ∀ (pins:List (Addr × Obj)) (s:Shared) (σ:St) (H:Hp) (Q:Bool -> Hp -> Prop),Inv X pins σ H s -> t σ H Q -> wpAny (model X.prog X.w) X.A (isTrue e X.env (eval e X.env)) (TP X pins σ Q) X.xe s
def PW (X:Cx) (e:Expr) (t:TT):Prop :=
  ∀ (whole:Sem Value) (pins:List (Addr × Obj)) (s:Shared) (σ:St) (H:Hp) (Q:Bool -> Hp -> Prop),Inv X pins σ H s -> t σ H Q -> wpAny (model X.prog X.w) X.A (isTrue e X.env whole) (TP X pins σ Q) X.xe s
theorem PW.pt {X:Cx} {e:Expr} {t:TT} (h:PW X e t):PT X e t:=h _
def PA (X:Cx) (es:List Expr) (t:TA):Prop :=
  ∀ (pos:Pos) (pins:List (Addr × Obj)) (s:Shared) (σ:St) (H:Hp) (Q:List V -> Hp -> Prop),Inv X pins σ H s -> t σ H Q -> wpAny (model X.prog X.w) X.A (spliced (backTo pos (starEach es X.env))) (AP X pins σ Q) X.xe s
def PS (X:Cx) (st:Stmt) (t:TS):Prop :=
  ∀ (pins:List (Addr × Obj)) (s:Shared) (σ:St) (H:Hp) (D:Ends),Inv X pins σ H s -> t D σ H -> wpAny (model X.prog X.w) X.A (exec st X.env) (SP X pins D) X.xe s
def PSs (X:Cx) (st:List Stmt) (t:TS):Prop :=
  ∀ (pins:List (Addr × Obj)) (s:Shared) (σ:St) (H:Hp) (D:Ends),Inv X pins σ H s -> t D σ H -> wpAny (model X.prog X.w) X.A (execs st X.env) (SP X pins D) X.xe s
theorem thn {α:Type} {t:Sem α} {Q Q':α -> Shared -> Prop} {M:Model} {A:Around} {E:Value -> Shared -> Prop} {s:Shared} (h:wpAny M A t Q E s) (hQ:∀ a s,Q a s -> Q' a s):wpAny M A t Q' E s:=wpAny_mono h hQ fun _ _ x => x
end L2
namespace L2
open PySem PySem.Spec PyProof.Rows
section
variable {X:Cx}
theorem bin {a b:Expr} {ta tb:TE} (ha:PE X a ta) (hb:PE X b tb) {pins:List (Addr × Obj)} {s:Shared} {σ:St} {H:Hp} {R:V -> V -> Hp -> Prop} (I:Inv X pins σ H s) (h:ta σ H fun x H1 => tb σ H1 fun y H2 => R x y H2)
    {α:Type} {Q:α -> Shared -> Prop} {f:Value -> Value -> Sem α}
    (hf:∀ v u s2 x y H2,Inv X pins σ H2 s2 -> RelV x v -> RelV y u -> R x y H2 -> wpAny (model X.prog X.w) X.A (f v u) Q X.xe s2) :
    wpAny (model X.prog X.w) X.A (eval a X.env) (fun v s₁ => wpAny (model X.prog X.w) X.A (eval b X.env) (fun u s₂ => wpAny (model X.prog X.w) X.A (f v u) Q X.xe s₂) X.xe s₁) X.xe s:=by
  refine thn (ha pins s σ H _ I h) fun v s1 ⟨x,H1,I1,r1,q1⟩ => ?_
  refine thn (hb pins s1 σ H1 _ I1 q1) fun u s2 ⟨y,H2,I2,r2,q2⟩ => ?_
  exact hf v u s2 x y H2 I2 r1 r2 q2
def tVar (i:Nat):TE:=fun σ H Q => ∃ v,σ[i]? = some (some v) /\ Q v H
def tC (v:V):TE:=fun _ H Q => Q v H
theorem pe_var {i : Nat} {x : Str} {pos : Pos} (hN : X.N[i]? = some x) (hv : Vis X.env.scope x) (hd : (x == ("__debug__" : Str)) = false := by decide) (hcd : (x == ("__classdict__" : Str)) = false := by decide) : PE X (.Name x pos) (tVar i) := by
  intro pins s σ H Q I h
  obtain ⟨v,e,h⟩:=h
  obtain ⟨m,hn,hl⟩:=I.loc
  obtain ⟨u,r,l⟩:=hl i x v hN e hv
  have fin:EP X pins σ Q u s:=⟨v,H,I,r,h⟩
  rcases l with ⟨hk,hm⟩ | ⟨hk,c,hc,hcell⟩
  . exact wpAny_Name (wpAny_loadName_local I.ok.kind hk hn hm fin) hd
  . rcases hk with hk | hk
    . exact wpAny_Name (wpAny_loadName_cell I.ok.kind hk hc hcell fin) hd
    . exact wpAny_Name (wpAny_loadName_free I.ok.kind hk hc hcell fin hcd) hd
theorem pe_int {i j pos}:PE X (.Constant (.int i) j pos) (tC (.int i)):=fun _ _ _ H _ I h => wpAny_Constant_int ⟨.int i,H,I.tok _,⟨_,rfl⟩,h⟩
theorem pe_bl {b j pos}:PE X (.Constant (.bool b) j pos) (tC (.bl b)):=fun _ _ _ H _ I h => Constant_bool ⟨.bl b,H,I,rfl,h⟩
theorem pe_non {j pos}:PE X (.Constant .none j pos) (tC .non):=fun _ _ _ H _ I h => Constant_none ⟨.non,H,I,rfl,h⟩
def Gl (X:Cx) (x:Str):Prop:=X.env.kindOf x = some .globalImplicit
theorem ld_glob {E:Value -> Shared -> Prop} {pins:List (Addr × Obj)} {s:Shared} {σ:St} {H:Hp} {x:Str} {u:Value} {pos:Pos} {Q:Value -> Shared -> Prop} (I:Inv X pins σ H s) (hg:Gl X x) (hm:X.mg x = some u) (h:Q u s)
    (hd:(x == ("__debug__":Str)) = false:=by decide):wpAny (model X.prog X.w) X.A (eval (.Name x pos) X.env) Q E s :=
  Calls.Name_function_global I.ok.kind hg (Calls.loadGlobal_global (by rw [I.ok.glob]; exact I.mod.glob.keeps I.bk) hm h) hd
theorem ld_blt {E:Value -> Shared -> Prop} {pins:List (Addr × Obj)} {s:Shared} {σ:St} {H:Hp} {x:Str} {u:Value} {pos:Pos} {Q:Value -> Shared -> Prop} (I:Inv X pins σ H s) (hg:Gl X x) (hm:X.mg x = none) (hv:bootBuiltins x = some u) (h:Q u s)
    (hn : x ≠ "__name__" := by decide) (hd : (x == ("__debug__" : Str)) = false := by decide) : wpAny (model X.prog X.w) X.A (eval (.Name x pos) X.env) Q E s := by
  obtain ⟨mb,h1,h2⟩:=I.mod.blt
  exact Calls.Name_function_global I.ok.kind hg (Calls.loadGlobal_builtin (by rw [I.ok.glob]; exact I.mod.glob.keeps I.bk) hm (by rw [I.ok.blt]; exact h1.keeps I.bk) ((h2 x hn).trans hv) h) hd
theorem pe_glob {x:Str} {v:V} {u:Value} {pos:Pos} (hg:Gl X x) (hm:X.mg x = some u) (r:RelV v u) (hd:(x == ("__debug__":Str)) = false:=by decide):PE X (.Name x pos) (tC v) :=
  fun _ _ _ H _ I h => ld_glob I hg hm ⟨v,H,I,r,h⟩ hd
def t2I (ta tb:TE) (k:Int -> Int -> Hp -> Prop):St -> Hp -> Prop:=fun σ H => ta σ H fun x H1 => tb σ H1 fun y H2 => ∃ i j,x = .int i /\ y = .int j /\ k i j H2
variable {a b:Expr} {ta tb:TE} {pos:Pos}
def PC (X:Cx) (op:CmpOp) (a b:Expr) (t:TE):Prop :=
  ∀ (pins:List (Addr × Obj)) (s:Shared) (σ:St) (H:Hp) (Q:VK),Inv X pins σ H s -> t σ H Q ->
    wpAny (model X.prog X.w) X.A (eval a X.env) (fun v s₁ => wpAny (model X.prog X.w) X.A (eval b X.env) (fun u s₂ => wpAny (model X.prog X.w) X.A (compareOp op v u) (EP X pins σ Q) X.xe s₂) X.xe s₁) X.xe s
theorem nobehind (b:Expr) {op:CmpOp} (h:op ≠ .In) (h2:op ≠ .NotIn):behindInMarks op b = false:=by
  have e1:(op == CmpOp.In) = false:=by cases op <;> first | rfl | exact absurd rfl h
  have e2:(op == CmpOp.NotIn) = false:=by cases op <;> first | rfl | exact absurd rfl h2
  cases b <;> simp [behindInMarks,e1,e2]
def tCmp (p:Int -> Int -> Bool) (ta tb:TE):TE:=fun σ H Q => t2I ta tb (fun i j H2 => Q (.bl (p i j)) H2) σ H
abbrev tLt:TE -> TE -> TE:=tCmp fun i j => decide (i < j)
abbrev tLe:TE -> TE -> TE:=tCmp fun i j => decide (i <= j)
abbrev tGt:TE -> TE -> TE:=tCmp fun i j => decide (j < i)
abbrev tGe:TE -> TE -> TE:=tCmp fun i j => decide (j <= i)
abbrev tEqI:TE -> TE -> TE:=tCmp fun i j => decide (i = j)
abbrev tNeI:TE -> TE -> TE:=tCmp fun i j => !decide (i = j)
theorem pc_int {op:CmpOp} {p:Int -> Int -> Bool} (ha:PE X a ta) (hb:PE X b tb)
    (rule:∀ (i j:Int) (t u:Tok) (Q:Value -> Shared -> Prop) (s:Shared),Q (.bool (p i j)) s -> wpAny (model X.prog X.w) X.A (compareOp op (.int i t) (.int j u)) Q X.xe s):PC X op a b (tCmp p ta tb):=by
  intro pins s σ H Q I h
  refine bin ha hb I h fun v u s2 x y H2 I2 rx ry q => ?_
  obtain ⟨i,j,rfl,rfl,q⟩:=q
  obtain ⟨t,rfl⟩:=rx
  obtain ⟨t',rfl⟩:=ry
  exact rule i j t t' _ s2 ⟨.bl _,H2,I2,rfl,q⟩
theorem pc_lt (ha:PE X a ta) (hb:PE X b tb):PC X .Lt a b (tLt ta tb):=pc_int ha hb fun _ _ _ _ _ _ h => lt_int h
theorem pc_le (ha:PE X a ta) (hb:PE X b tb):PC X .LtE a b (tLe ta tb):=pc_int ha hb fun _ _ _ _ _ _ h => le_int h
theorem pc_gt (ha:PE X a ta) (hb:PE X b tb):PC X .Gt a b (tGt ta tb):=pc_int ha hb fun _ _ _ _ _ _ h => gt_int h
theorem pc_ge (ha:PE X a ta) (hb:PE X b tb):PC X .GtE a b (tGe ta tb):=pc_int ha hb fun _ _ _ _ _ _ h => ge_int h
theorem pc_eqI (ha:PE X a ta) (hb:PE X b tb):PC X .Eq a b (tEqI ta tb):=pc_int ha hb fun _ _ _ _ _ _ h => eq_int (by rw [Bool.beq_eq_decide_eq]; exact h)
theorem pc_neI (ha:PE X a ta) (hb:PE X b tb):PC X .NotEq a b (tNeI ta tb):=pc_int ha hb fun _ _ _ _ _ _ h => ne_int (by rw [bne,Bool.beq_eq_decide_eq]; exact h)
def tIsN (ta:TE):TE:=fun σ H Q => ta σ H fun x H1 => Q (.bl (decide (x = .non))) H1
def tNotN (ta:TE):TE:=fun σ H Q => ta σ H fun x H1 => Q (.bl (!decide (x = .non))) H1
theorem RelV.none_iff {x:V} {v:Value} (r:RelV x v):(v == Value.none) = decide (x = .non):=by
  cases x with
  | non => cases r; rfl
  | bl _ => cases r; rfl
  | int _ => obtain ⟨t,rfl⟩:=r; rfl
  | str _ => obtain ⟨t,rfl⟩:=r; rfl
  | byt _ => obtain ⟨t,rfl⟩:=r; rfl
  | flt _ => obtain ⟨t,rfl⟩:=r; rfl
  | ref _ => cases r; rfl
  | ty _ => cases r; rfl
theorem pc_isN {j pos'} (ha:PE X a ta):PC X .Is a (.Constant .none j pos') (tIsN ta):=by
  intro pins s σ H Q I h
  refine thn (ha pins s σ H _ I h) fun v s1 ⟨x,H1,I1,r1,q1⟩ => ?_
  exact Constant_none (is_none_gen ⟨.bl _,H1,I1,by rw [r1.none_iff]; rfl,q1⟩)
theorem pc_notN {j pos'} (ha:PE X a ta):PC X .IsNot a (.Constant .none j pos') (tNotN ta):=by
  intro pins s σ H Q I h
  refine thn (ha pins s σ H _ I h) fun v s1 ⟨x,H1,I1,r1,q1⟩ => ?_
  exact Constant_none (isnot_none_gen ⟨.bl _,H1,I1,by rw [r1.none_iff]; rfl,q1⟩)
def tB (t:TE):TT:=fun σ H Q => t σ H fun x H1 => ∃ c,x = .bl c /\ Q c H1
theorem pe_cmp {op:CmpOp} {t:TE} (h:PC X op a b t) (h1:behindInMarks op b = false:=by first | exact nobehind _ (by decide) (by decide) | rfl):PE X (.Compare a [op] [b] pos) t:=fun pins s σ H Q I hw => wpAny_Compare1 (h pins s σ H Q I hw) h1
theorem pt_cmp {op:CmpOp} {t:TE} (h:PC X op a b t) (h1:behindInMarks op b = false:=by first | exact nobehind _ (by decide) (by decide) | rfl):PT X (.Compare a [op] [b] pos) (tB t):=by
  intro pins s σ H Q I hw
  refine wpAny_isTrue_Compare1 (thn (h pins s σ H _ I hw) fun v s1 h1 => thn h1 fun u s2 h2 => thn h2 fun c s3 ⟨x,H1,I1,r1,q1⟩ => ?_) h1
  obtain ⟨d,rfl,q⟩:=q1
  cases r1
  exact wpAny_truthy_bool ⟨H1,I1,q⟩
theorem pt_val {e:Expr} {t:TE} (h:PE X e t) (he:∀ whole,isTrue e X.env whole = (do let v <- whole; standAt e.pos; holding [v] (truthy v)):=by intro _; rfl):PT X e (tB t):=by
  intro pins s σ H Q I hw
  refine isTrue_plain (thn (h pins s σ H _ I hw) fun v s1 ⟨x,H1,I1,r1,q1⟩ => ?_) (he _)
  obtain ⟨d,rfl,q⟩:=q1
  cases r1
  exact wpAny_truthy_bool ⟨H1,I1,q⟩
variable {tA tB':TT} {rest:List Expr}
def tAnd (t u:TT):TT:=fun σ H Q => t σ H fun c H1 => if c = true then u σ H1 Q else Q false H1
def tOr (t u:TT):TT:=fun σ H Q => t σ H fun c H1 => if c = true then Q true H1 else u σ H1 Q
def tNot (t:TT):TT:=fun σ H Q => t σ H fun c H1 => Q (!c) H1
theorem pw_and1 (ha:PT X a tA):PW X (.BoolOp .And [a] pos) tA:=by
  intro wh pins s σ H Q I h
  refine isTrue_and (thn (ha pins s σ H Q I h) fun c s1 e => ?_)
  cases c with
  | true => exact isTrue_and_nil e
  | false => exact e
theorem pw_or1 (ha:PT X a tA):PW X (.BoolOp .Or [a] pos) tA:=by
  intro wh pins s σ H Q I h
  refine isTrue_or (thn (ha pins s σ H Q I h) fun c s1 e => ?_)
  cases c with
  | false => exact isTrue_or_nil e
  | true => exact e
theorem pw_and (ha:PT X a tA) (hb:PW X (.BoolOp .And (b :: rest) pos) tB'):PW X (.BoolOp .And (a :: b :: rest) pos) (tAnd tA tB'):=by
  intro wh pins s σ H Q I h
  refine isTrue_and (thn (ha pins s σ H _ I h) fun c s1 ⟨H1,I1,q1⟩ => ?_)
  cases c with
  | true => exact hb wh pins s1 σ H1 Q I1 q1
  | false => exact ⟨H1,I1,q1⟩
theorem pw_or (ha:PT X a tA) (hb:PW X (.BoolOp .Or (b :: rest) pos) tB'):PW X (.BoolOp .Or (a :: b :: rest) pos) (tOr tA tB'):=by
  intro wh pins s σ H Q I h
  refine isTrue_or (thn (ha pins s σ H _ I h) fun c s1 ⟨H1,I1,q1⟩ => ?_)
  cases c with
  | true => exact ⟨H1,I1,q1⟩
  | false => exact hb wh pins s1 σ H1 Q I1 q1
theorem pt_not (ha:PT X a tA):PT X (.UnaryOp .Not a pos) (tNot tA):=by
  intro pins s σ H Q I h
  exact isTrue_not (ha pins s σ H (fun c H1 => Q (!c) H1) I h)
def tAndV (ta tb:TE):TE:=fun σ H Q => ta σ H fun x H1 => ∃ c,x = .bl c /\ if c = true then tb σ H1 Q else Q (.bl false) H1
def tOrV (ta tb:TE):TE:=fun σ H Q => ta σ H fun x H1 => ∃ c,x = .bl c /\ if c = true then Q (.bl true) H1 else tb σ H1 Q
theorem pe_one {op} {t:TE} (h:PE X a t):PE X (.BoolOp op [a] pos) t:=fun pins s σ H Q I hw => BoolOp_one (h pins s σ H Q I hw)
theorem pe_and (ha:PE X a ta) (hb:PE X (.BoolOp .And (b :: rest) pos) tb):PE X (.BoolOp .And (a :: b :: rest) pos) (tAndV ta tb):=by
  intro pins s σ H Q I h
  refine BoolOp_and (thn (ha pins s σ H _ I h) fun v s1 ⟨x,H1,I1,r1,q1⟩ => ?_)
  obtain ⟨c,rfl,q1⟩:=q1
  cases r1
  refine wpAny_truthy_bool ?_
  cases c with
  | true => exact hb pins s1 σ H1 Q I1 q1
  | false => exact ⟨.bl false,H1,I1,rfl,q1⟩
theorem pe_or (ha:PE X a ta) (hb:PE X (.BoolOp .Or (b :: rest) pos) tb):PE X (.BoolOp .Or (a :: b :: rest) pos) (tOrV ta tb):=by
  intro pins s σ H Q I h
  refine BoolOp_or (thn (ha pins s σ H _ I h) fun v s1 ⟨x,H1,I1,r1,q1⟩ => ?_)
  obtain ⟨c,rfl,q1⟩:=q1
  cases r1
  refine wpAny_truthy_bool ?_
  cases c with
  | false => exact hb pins s1 σ H1 Q I1 q1
  | true => exact ⟨.bl true,H1,I1,rfl,q1⟩
def tIf (t:TT) (ta tb:TE):TE:=fun σ H Q => t σ H fun c H1 => if c = true then ta σ H1 Q else tb σ H1 Q
theorem pe_ifExp {c:Expr} (hc:PT X c tA) (ha:PE X a ta) (hb:PE X b tb):PE X (.IfExp c a b pos) (tIf tA ta tb):=by
  intro pins s σ H Q I h
  refine wpAny_IfExp (thn (hc pins s σ H _ I h) fun d s1 ⟨H1,I1,q1⟩ => ?_)
  cases d with
  | true => exact ha pins s1 σ H1 Q I1 q1
  | false => exact hb pins s1 σ H1 Q I1 q1
end
end L2
namespace L2
open PySem PySem.Spec PyProof.Rows
def SqL (K:PySem.W.Frag) (H:Hp) (a:Addr) (xs:List V):Prop :=
  Rd H a (.lst xs) \/
    ∃ (o:Obj) (its:Array Value) (n:Nat),K.lookup a = some o /\ o.cls = .type "list" /\ o.dict = none /\ o.data = .seq its n /\ its.size <= sizeLine /\ Vals xs its.toList
def SqT (K:PySem.W.Frag) (H:Hp) (a:Addr) (xs:List V):Prop :=
  Rd H a (.tup xs) \/
    ∃ (o:Obj) (its:Array Value) (n:Nat),K.lookup a = some o /\ o.cls = .type "tuple" /\ o.data = .seq its n /\ its.size <= sizeLine /\ Vals xs its.toList
def absV:Value -> Option V
  | .none => some .non
  | .bool b => some (.bl b)
  | .int i _ => some (.int i)
  | .str x _ => some (.str x)
  | .bytes b _ => some (.byt b)
  | .float b _ => some (.flt b)
  | .ref a => some (.ref a)
  | .type n => some (.ty n)
  | _ => none
theorem RelV.abs {x:V} {u:Value} (r:RelV x u):absV u = some x:=by
  cases x with
  | non => cases r; rfl
  | bl _ => cases r; rfl
  | int _ => obtain ⟨t,rfl⟩:=r; rfl
  | str _ => obtain ⟨t,rfl⟩:=r; rfl
  | byt _ => obtain ⟨t,rfl⟩:=r; rfl
  | flt _ => obtain ⟨t,rfl⟩:=r; rfl
  | ref _ => cases r; rfl
  | ty _ => cases r; rfl
theorem RelV.inj {x y:V} {u:Value} (r:RelV x u) (q:RelV y u):x = y:=Option.some.inj (r.abs.symm.trans q.abs)
theorem Vals.inj:∀ {xs ys:List V} {us:List Value},Vals xs us -> Vals ys us -> xs = ys
  | _,_,_,.nil,.nil => rfl
  | _,_,_,.cons r t,.cons r' t' => by rw [r.inj r',Vals.inj t t']
section
variable {X:Cx} {pins:List (Addr × Obj)} {σ:St} {H:Hp} {s:Shared} {a:Addr} {xs ys:List V}
theorem SqL.of {K:PySem.W.Frag} (h:H a = some (.lst xs)):SqL K H a xs:=.inl (.inl h)
theorem SqT.of {K:PySem.W.Frag} (h:H a = some (.tup xs)):SqT K H a xs:=.inl (.inl h)
theorem Inv.list (I:Inv X pins σ H s) (h:SqL X.K H a xs):∃ its:List Value,Vals xs its /\ PlainL s.heap a its.toArray /\ xs.length <= sizeLine:=by
  rcases h with h | ⟨o,its,n,hk,hc,hd,hs,hz,r⟩
  . obtain ⟨z,its,n,r,e⟩:=h.ok I.hok
    exact ⟨its,r,⟨_,n,e,rfl,rfl,rfl⟩,z⟩
  . refine ⟨its.toList,r,⟨o,n,I.kIn a o hk,hc,hd,by simpa using hs⟩,?_⟩
    have e:=r.length
    simp only [Array.length_toList] at e
    omega
theorem Inv.tuple (I:Inv X pins σ H s) (h:SqT X.K H a xs):∃ its:List Value,Vals xs its /\ IsTup s.heap a its.toArray /\ xs.length <= sizeLine:=by
  rcases h with h | ⟨o,its,n,hk,hc,hs,hz,r⟩
  . obtain ⟨z,its,r,p⟩:=h.ok I.hok
    exact ⟨its,r,p,z⟩
  . refine ⟨its.toList,r,⟨o,I.kIn a o hk,hc,n,by simpa using hs⟩,?_⟩
    have e:=r.length
    simp only [Array.length_toList] at e
    omega
theorem Inv.list_inj (I:Inv X pins σ H s) (h:SqL X.K H a xs) (h':SqL X.K H a ys):xs = ys:=by
  obtain ⟨its,r,⟨o,n,e,_,_,d⟩,_⟩:=I.list h
  obtain ⟨its',r',⟨o',n',e',_,_,d'⟩,_⟩:=I.list h'
  rw [e] at e'; cases e'
  rw [d] at d'
  injection d' with d1 _
  have:its = its':=by simpa using congrArg Array.toList d1
  subst this
  exact r.inj r'
theorem Inv.tuple_inj (I:Inv X pins σ H s) (h:SqT X.K H a xs) (h':SqT X.K H a ys):xs = ys:=by
  obtain ⟨its,r,⟨o,e,_,n,d⟩,_⟩:=I.tuple h
  obtain ⟨its',r',⟨o',e',_,n',d'⟩,_⟩:=I.tuple h'
  rw [e] at e'; cases e'
  rw [d] at d'
  injection d' with d1 _
  have:its = its':=by simpa using congrArg Array.toList d1
  subst this
  exact r.inj r'
end
abbrev Cx.wish (X:Cx) (E:Value -> Shared -> Prop):Cx:={ X with xe:=E }
abbrev Cx.nox (X:Cx):Cx:=X.wish fun _ _ => False
theorem Cx.Ok.wish {X:Cx} (ok:X.Ok) (E:Value -> Shared -> Prop):(X.wish E).Ok :=
  ⟨ok.mod,ok.kind,ok.glob,ok.blt,ok.above,ok.inj,ok.has,ok.cab,ok.hd,ok.frames,ok.stk,ok.exf,ok.bs,ok.bsz,ok.noex,ok.exfs,ok.funs,ok.frf⟩
theorem Cx.Ok.unwish {X:Cx} {E:Value -> Shared -> Prop} (ok:(X.wish E).Ok):X.Ok :=
  ⟨ok.mod,ok.kind,ok.glob,ok.blt,ok.above,ok.inj,ok.has,ok.cab,ok.hd,ok.frames,ok.stk,ok.exf,ok.bs,ok.bsz,ok.noex,ok.exfs,ok.funs,ok.frf⟩
section
variable {X:Cx} {pins:List (Addr × Obj)} {σ:St} {H:Hp} {s:Shared} {E:Value -> Shared -> Prop}
theorem Inv.wish (I:Inv X pins σ H s) (E:Value -> Shared -> Prop):Inv (X.wish E) pins σ H s:=⟨I.ok.wish E,I.os,I.bare,I.base,I.loc,I.cell,I.free,I.freeC,I.pin,I.hok,I.len⟩
theorem Inv.unwish (I:Inv (X.wish E) pins σ H s):Inv X pins σ H s:=⟨I.ok.unwish,I.os,I.bare,I.base,I.loc,I.cell,I.free,I.freeC,I.pin,I.hok,I.len⟩
theorem SP.unwish {D:Ends} {f:Flow} {s':Shared} (h:SP (X.wish E) pins D f s'):SP X pins D f s':=by
  cases f with
  | next => obtain ⟨σ',H',I,q⟩:=h; exact ⟨σ',H',I.unwish,q⟩
  | brk => obtain ⟨σ',H',I,q⟩:=h; exact ⟨σ',H',I.unwish,q⟩
  | cont => obtain ⟨σ',H',I,q⟩:=h; exact ⟨σ',H',I.unwish,q⟩
  | ret u => obtain ⟨v,σ',H',I,r,q⟩:=h; exact ⟨v,σ',H',I.unwish,r,q⟩
theorem PSs.nox {st:List Stmt} {t:TS} (h:PSs X.nox st t):PSs X st t:=fun pins s σ H D I hw =>
  wpAny_mono (h pins s σ H D (I.wish _) hw) (fun _ _ q => q.unwish) fun _ _ z => False.elim z
end
section
variable {X:Cx} {st:Stmt} {rest:List Stmt} {t u:TS} {e:Expr} {te:TE} {pos:Pos}
def tNext:TS:=fun D σ H => D.nx σ H
def tSeq (t u:TS):TS:=fun D σ H => t { D with nx:=u D } σ H
theorem pss_nil:PSs X [] tNext:=fun _ _ σ H _ I h => wpAny_execs_nil ⟨σ,H,I,h⟩
theorem pss_cons (h1:PS X st t) (h2:PSs X rest u):PSs X (st :: rest) (tSeq t u):=by
  intro pins s σ H D I h
  refine wpAny_execs_cons (thn (h1 pins s σ H { D with nx:=u D } I h) fun f s1 q => ?_)
  cases f with
  | next =>
    obtain ⟨σ',H',I',q⟩:=q
    exact h2 pins s1 σ' H' D I' q
  | ret v => exact q
  | brk => exact q
  | cont => exact q
theorem pss_one (h1:PS X st t):PSs X [st] t:=by
  intro pins s σ H D I h
  refine wpAny_execs_cons (thn (h1 pins s σ H D I h) fun f s1 q => ?_)
  cases f with
  | next => exact wpAny_execs_nil q
  | ret v => exact q
  | brk => exact q
  | cont => exact q
def tBreak:TS:=fun D σ H => D.bk σ H
theorem ps_break:PS X (.Break pos) tBreak:=fun _ _ σ H _ I h => wpAny_Break ⟨σ,H,I,h⟩
theorem Inv.quiet {pins:List (Addr × Obj)} {σ:St} {H:Hp} {s:Shared} (I:Inv X pins σ H s):interactive X.env = false:=by simp [interactive,I.ok.kind]
def tDrop (te:TE):TS:=fun D σ H => te σ H fun _ H1 => D.nx σ H1
theorem ps_expr (he:PE X e te) (hs:swapsWith e none pos.line X.env = pure false:=by rfl):PS X (.Expr e pos) (tDrop te):=by
  intro pins s σ H D I h
  exact wpAny_Expr_any (thn (he pins s σ H _ I h) fun v s1 ⟨x,H1,I1,r1,q1⟩ => ⟨σ,H1,I1,q1⟩) I.quiet hs
def tRet (te:TE):TS:=fun D σ H => te σ H D.rt
theorem ps_ret (he:PE X e te):PS X (.Return (some e) pos) (tRet te):=by
  intro pins s σ H D I h
  exact wpAny_Return_some (thn (he pins s σ H _ I h) fun v s1 ⟨x,H1,I1,r1,q1⟩ => ⟨x,σ,H1,I1,r1,q1⟩)
def tIfS (c:TT) (t u:TS):TS:=fun D σ H => c σ H fun b H1 => if b = true then t D σ H1 else u D σ H1
theorem ps_if {c:Expr} {a b:List Stmt} {tc:TT} (hc:PT X c tc) (ha:PSs X a t) (hb:PSs X b u):PS X (.If c a b pos) (tIfS tc t u):=by
  intro pins s σ H D I h
  refine wpAny_If (thn (hc pins s σ H _ I h) fun d s1 ⟨H1,I1,q1⟩ => ?_)
  cases d with
  | true => exact ha pins s1 σ H1 D I1 q1
  | false => exact hb pins s1 σ H1 D I1 q1
end
abbrev TG:=V -> St -> Hp -> (St -> Hp -> Prop) -> Prop
abbrev TGs:=List V -> St -> Hp -> (St -> Hp -> Prop) -> Prop
def PG (X:Cx) (target:Expr) (t:TG):Prop :=
  ∀ (pins:List (Addr × Obj)) (s:Shared) (σ:St) (H:Hp) (v:V) (u:Value) (Q:St -> Hp -> Prop),Inv X pins σ H s -> RelV v u -> t v σ H Q ->
    wpAny (model X.prog X.w) X.A (assign target X.env u) (fun _ s' => ∃ σ' H',Inv X pins σ' H' s' /\ Q σ' H') X.xe s
def PGs (X:Cx) (ts:List Expr) (t:TGs):Prop :=
  ∀ (pins:List (Addr × Obj)) (s:Shared) (σ:St) (H:Hp) (vs:List V) (us:List Value) (Q:St -> Hp -> Prop),Inv X pins σ H s -> Vals vs us -> t vs σ H Q ->
    wpAny (model X.prog X.w) X.A (assignInOrder ((assignEach ts X.env).map (·.2)) us) (fun _ s' => ∃ σ' H',Inv X pins σ' H' s' /\ Q σ' H') X.xe s
abbrev TSet:=V -> V -> V -> Hp -> (Hp -> Prop) -> Prop
def PSet (X:Cx) (t:TSet):Prop :=
  ∀ (pins:List (Addr × Obj)) (s:Shared) (σ:St) (H:Hp) (o i v:V) (ov iv u:Value) (Q:Hp -> Prop),Inv X pins σ H s -> RelV o ov -> RelV i iv -> RelV v u -> t o i v H Q ->
    wpAny (model X.prog X.w) X.A (setItem ov iv u) (fun _ s' => ∃ H',Inv X pins σ H' s' /\ Q H') X.xe s
abbrev TIp:=V -> V -> Hp -> VK -> Prop
def PIp (X:Cx) (op:Operator) (t:TIp):Prop :=
  ∀ (pins:List (Addr × Obj)) (s:Shared) (σ:St) (H:Hp) (x y:V) (v u:Value) (Q:VK),Inv X pins σ H s -> RelV x v -> RelV y u -> t x y H Q ->
    wpAny (model X.prog X.w) X.A (inplaceOp op v u) (EP X pins σ Q) X.xe s
section
variable {X:Cx} {pos:Pos}
def gName (i:Nat):TG:=fun v σ H Q => Q (σ.set i (some v)) H
theorem pg_name {i:Nat} {x:Str} (hN:X.N.Nodup) (hi:X.N[i]? = some x) (hx:Loc X.env.scope x) (hf:X.fn x = true \/ X.env.scope.names.lookup x = some .local:=by first | exact .inl rfl | exact .inr rfl | assumption):PG X (.Name x pos) (gName i):=by
  intro pins s σ H v u Q I r h
  exact wpAny_assign_Name (store_ok I hN hi hx r (fun s' I' => ⟨_,H,I',h⟩) hf)
def gNil:TGs:=fun vs σ H Q => vs = [] /\ Q σ H
def gCons (t:TG) (u:TGs):TGs:=fun vs σ H Q => ∃ v r,vs = v :: r /\ t v σ H fun σ' H' => u r σ' H' Q
theorem pgs_nil:PGs X [] gNil:=by
  intro pins s σ H vs us Q I r h
  obtain ⟨e,h⟩:=h
  subst e
  cases r
  exact assignInOrder_nil ⟨σ,H,I,h⟩
theorem pgs_cons {e:Expr} {es:List Expr} {t:TG} {u:TGs} (h1:PG X e t) (h2:PGs X es u)
    (hs:(assignEach (e :: es) X.env).map (·.2) = assign e X.env :: (assignEach es X.env).map (·.2):=by rfl):PGs X (e :: es) (gCons t u):=by
  intro pins s σ H vs us Q I r h
  obtain ⟨v,vr,e1,h⟩:=h
  subst e1
  cases r with
  | cons r rr =>
    rw [hs]
    refine assignInOrder_cons (thn (h1 pins s σ H _ _ _ I r h) fun _ s1 ⟨σ1,H1,I1,q1⟩ => ?_)
    exact h2 pins s1 σ1 H1 _ _ Q I1 rr q1
def gTup (K:PySem.W.Frag) (n:Nat) (t:TGs):TG:=fun v σ H Q => ∃ a xs,v = .ref a /\ SqT K H a xs /\ xs.length = n /\ t xs σ H Q
theorem pg_tup {es:List Expr} {k:Nat} {t:TGs} {n:Nat} (hc:X.calm = true) (h:PGs X es t)
    (hn:(assignEach es X.env).length = n:=by rfl) (hst:(assignEach es X.env).findIdx? (·.1) = none:=by rfl):PG X (.Tuple es k pos) (gTup X.K n t):=by
  intro pins s σ H v u Q I r hw
  obtain ⟨a,xs,e1,hq,hl,hw⟩:=hw
  subst e1
  cases r
  obtain ⟨its,rv,ht,hz⟩:=I.tuple hq
  refine assign_Tuple_tuple (I.ok.hd hc) ht (by simp [hn,<- hl,rv.length]) hst fun h' hx => ?_
  have I1:Inv X pins σ H { s with heap:=h' }:=I.kept (t':=s.toks) fun b o e => hx b o (Nat.ne_of_lt (Heap.lt_size e)) e
  exact h pins _ σ H xs _ Q I1 (by simpa using rv) hw
def tAsg (te:TE) (g:TG):TS:=fun D σ H => te σ H fun x H1 => g x σ H1 D.nx
theorem ps_set {i:Nat} {x:Str} {e:Expr} {te:TE} {pos':Pos} (hN:X.N.Nodup) (hi:X.N[i]? = some x) (hx:Loc X.env.scope x) (he:PE X e te) (hs:swapsWith e (some (.Name x pos')) pos.line X.env = pure false:=by rfl) (hf:X.fn x = true \/ X.env.scope.names.lookup x = some .local:=by first | exact .inl rfl | exact .inr rfl | assumption) :
    PS X (.Assign [.Name x pos'] e pos) (tAsg te (gName i)):=by
  intro pins s σ H D I h
  refine wpAny_Assign_Name (thn (he pins s σ H _ I h) fun v s1 ⟨y,H1,I1,r1,q1⟩ => ?_) hs
  exact store_ok I1 hN hi hx r1 (fun s2 I2 => ⟨_,H1,I2,q1⟩) hf
def tAug (i:Nat) (te:TE) (ti:TIp):TS:=fun D σ H => ∃ x,σ[i]? = some (some x) /\ te σ H fun y H1 => ti x y H1 fun z H2 => D.nx (σ.set i (some z)) H2
theorem ps_aug {i:Nat} {x:Str} {e:Expr} {te:TE} {op:Operator} {ti:TIp} {pos':Pos} (hN:X.N.Nodup) (hi:X.N[i]? = some x) (hx:Loc X.env.scope x) (he:PE X e te) (ho:PIp X op ti) (hf:X.fn x = true \/ X.env.scope.names.lookup x = some .local:=by first | exact .inl rfl | exact .inr rfl | assumption) :
    PS X (.AugAssign (.Name x pos') op e pos) (tAug i te ti):=by
  intro pins s σ H D I h
  obtain ⟨v,e1,h⟩:=h
  obtain ⟨m,hn,hl⟩:=I.loc
  have vis:Vis X.env.scope x:=by rcases hx with k | k; exact .inl k; exact .inr (.inl k)
  obtain ⟨u,r,l⟩:=hl i x v hi e1 vis
  refine wpAny_AugAssign_Name ?_
  have go:wpAny (model X.prog X.w) X.A (eval e X.env) (fun w s₂ => wpAny (model X.prog X.w) X.A (inplaceOp op u w) (fun r s₃ => wpAny (model X.prog X.w) X.A (storeName X.env x r) (fun _ => SP X pins D .next) X.xe s₃) X.xe s₂) X.xe s:=by
    refine thn (he pins s σ H _ I h) fun w s1 ⟨y,H1,I1,r1,q1⟩ => ?_
    refine thn (ho pins s1 σ H1 v y u w _ I1 r r1 q1) fun z s2 ⟨zv,H2,I2,r2,q2⟩ => ?_
    exact store_ok I2 hN hi hx r2 (fun s3 I3 => ⟨_,H2,I3,q2⟩) hf
  rcases l with ⟨hk,hm⟩ | ⟨hk,c,hc,hcell⟩
  . exact wpAny_loadName_local I.ok.kind hk hn hm go
  . rcases hk with hk | hk
    . exact wpAny_loadName_cell I.ok.kind hk hc hcell go
    . rcases hx with k | k
      . have:X.env.scope.names.lookup x = some .free:=hk
        rw [k] at this; cases this
      . have:X.env.scope.names.lookup x = some .free:=hk
        rw [k] at this; cases this
def tAugS (to ti te:TE) (tget:V -> V -> Hp -> VK -> Prop) (tip:TIp) (tset:TSet):TS:=fun D σ H => to σ H fun o H1 => ti σ H1 fun i H2 => tget o i H2 fun x H3 => te σ H3 fun y H4 => tip x y H4 fun z H5 => tset o i z H5 fun H6 => D.nx σ H6
def PGet (X:Cx) (t:V -> V -> Hp -> VK -> Prop):Prop :=
  ∀ (pins:List (Addr × Obj)) (s:Shared) (σ:St) (H:Hp) (o i:V) (ov iv:Value) (Q:VK),Inv X pins σ H s -> RelV o ov -> RelV i iv -> t o i H Q ->
    wpAny (model X.prog X.w) X.A (getItem ov iv) (EP X pins σ Q) X.xe s
theorem ps_augS {o i e:Expr} {to ti te:TE} {tget:V -> V -> Hp -> VK -> Prop} {tip:TIp} {tset:TSet} {op:Operator} {tpos:Pos} (ho:PE X o to) (hi:PE X i ti) (hg:PGet X tget) (he:PE X e te) (hp:PIp X op tip) (hs:PSet X tset)
    (ha:∀ ov iv new,augStore i ov iv new = (do holding [new,ov,iv] (setItem ov iv new); release [new,ov,iv] []; pure .next):=by intros; rfl):PS X (.AugAssign (.Subscript o i tpos) op e pos) (tAugS to ti te tget tip tset):=by
  intro pins s σ H D I h
  refine wpAny_AugAssign_SubscriptAny (thn (ho pins s σ H _ I h) fun ov s1 ⟨x1,H1,I1,r1,q1⟩ => ?_) ha
  refine thn (hi pins s1 σ H1 _ I1 q1) fun iv s2 ⟨x2,H2,I2,r2,q2⟩ => ?_
  refine thn (hg pins s2 σ H2 x1 x2 ov iv _ I2 r1 r2 q2) fun old s3 ⟨x3,H3,I3,r3,q3⟩ => ?_
  refine thn (he pins s3 σ H3 _ I3 q3) fun v s4 ⟨x4,H4,I4,r4,q4⟩ => ?_
  refine thn (hp pins s4 σ H4 x3 x4 old v _ I4 r3 r4 q4) fun new s5 ⟨x5,H5,I5,r5,q5⟩ => ?_
  exact thn (hs pins s5 σ H5 x1 x2 x5 ov iv new _ I5 r1 r2 r5 q5) fun _ s6 ⟨H6,I6,q6⟩ => ⟨σ,H6,I6,q6⟩
def ipI (f:Int -> Int -> Int):TIp:=fun x y H Q => ∃ i j,x = .int i /\ y = .int j /\ Q (.int (f i j)) H
theorem ip_add:PIp X .Add (ipI fun i j => i + j):=by
  intro pins s σ H x y v u Q I r1 r2 h
  obtain ⟨i,j,e1,e2,q⟩:=h
  subst e1; subst e2
  obtain ⟨t,rfl⟩:=r1
  obtain ⟨t',rfl⟩:=r2
  exact iadd_int ⟨.int _,H,I.tok _,⟨_,rfl⟩,q⟩
theorem ip_sub:PIp X .Sub (ipI fun i j => i - j):=by
  intro pins s σ H x y v u Q I r1 r2 h
  obtain ⟨i,j,e1,e2,q⟩:=h
  subst e1; subst e2
  obtain ⟨t,rfl⟩:=r1
  obtain ⟨t',rfl⟩:=r2
  exact isub_int ⟨.int _,H,I.tok _,⟨_,rfl⟩,q⟩
end
section
variable {X:Cx} {pos:Pos}
def tWhile (c:TT) (tb:TS):TS:=fun D σ H => ∃ W:Nat -> St -> Hp -> Prop,(∃ m,W m σ H) /\ ∀ m σ H,W m σ H ->
  c σ H fun b H1 => if b = true then ∃ N:St -> Hp -> Prop,(∀ σ' H',N σ' H' -> ∃ m',m' < m /\ W m' σ' H') /\ tb { D with nx:=N,ct:=N,bk:=D.nx } σ H1 else D.nx σ H1
theorem ps_while {c:Expr} {body:List Stmt} {tc:TT} {tb:TS} (hp:PassesOwn (model X.prog X.w) X.A X.env X.xe) (hc:PT X c tc) (hb:PSs X body tb):PS X (.While c body [] pos) (tWhile tc tb):=by
  intro pins s σ H D I h
  obtain ⟨W,⟨m0,w0⟩,turn⟩:=h
  refine wpAny_While (codeAny_whileLoop (fun n s' => ∃ σ' H',Inv X pins σ' H' s' /\ W n σ' H') ?_ m0 ⟨σ,H,I,w0⟩)
  rintro n s1 ⟨σ1,H1,I1,w1⟩
  refine wpAny_passesOwn hp (thn (hc pins s1 σ1 H1 _ I1 (turn n σ1 H1 w1)) fun b s2 ⟨H2,I2,q2⟩ => ?_)
  cases b with
  | true =>
    obtain ⟨N,hN,q2⟩:=q2
    rw [if_pos rfl]
    refine wpAny_passesOwn hp (thn (hb pins s2 σ1 H2 _ I2 q2) fun f s3 q3 => ?_)
    cases f with
    | next =>
      obtain ⟨σ3,H3,I3,n3⟩:=q3
      obtain ⟨m',hm,w3⟩:=hN σ3 H3 n3
      exact ⟨m',hm,σ3,H3,I3,w3⟩
    | cont =>
      obtain ⟨σ3,H3,I3,n3⟩:=q3
      obtain ⟨m',hm,w3⟩:=hN σ3 H3 n3
      exact ⟨m',hm,σ3,H3,I3,w3⟩
    | brk => exact q3
    | ret v => exact q3
  | false =>
    rw [if_neg Bool.false_ne_true]
    exact wpAny_execs_nil ⟨σ1,H2,I2,q2⟩
end
structure It where
  go:Nat -> Hp -> Prop
  yld:Nat -> Hp -> V -> Hp -> Prop
  stop:Nat -> Hp -> Prop
def FpOk (X:Cx) (pins:List (Addr × Obj)) (H:Hp) (b:Addr):Prop :=
  H b = none /\ b ≠ X.env.locals /\ b ∉ X.fs /\ (b ∈ X.ex \/ X.s_0.heap.objs.size <= b) /\ (∀ x c,X.env.cells.lookup x = some c -> c ≠ b) /\ ∀ p ∈ X.pn ++ pins,p.1 ≠ b
theorem Inv.fpOk {X:Cx} {pins:List (Addr × Obj)} {σ:St} {H H':Hp} {s:Shared} {b:Addr} (I:Inv X pins σ H s) (hb:s.heap.objs.size <= b) (hn:H' b = none):FpOk X pins H' b:=by
  refine ⟨hn,Nat.ne_of_gt (Nat.lt_of_lt_of_le I.lt hb),I.nofs hb,.inr (Nat.le_trans I.sz hb),fun x c e z => ?_,fun p hp z => ?_⟩
  . obtain ⟨v,q⟩:=I.cell x c e
    exact absurd (Nat.lt_of_lt_of_le q.lt (by rw [z]; exact hb)) (Nat.lt_irrefl _)
  . exact absurd (Nat.lt_of_lt_of_le (Heap.lt_size (I.pin p hp).1) (by rw [z]; exact hb)) (Nat.lt_irrefl _)
structure Turn (P:Program) (w:World) (K:PySem.W.Frag) (tg:Expr) (J:It) (fp:List Addr) (it:Addr) (tn:Nat -> Heap -> Prop):Prop where
  mem:it ∈ fp
  obj:∀ i h,tn i h -> ∀ b ∈ fp,∃ o,h.get? b = some o /\ ∀ v,o.data ≠ .cell v
  keep:∀ i h h',tn i h -> (∀ b ∈ fp,∀ o,h.get? b = some o -> h'.get? b = some o) -> tn i h'
  item:∀ (X:Cx),X.prog = P -> X.w = w -> X.K = K -> X.calm = true -> ∀ (i:Nat) (pins:List (Addr × Obj)) (s:Shared) (σ:St) (H:Hp) (E:Value -> Shared -> Prop),Inv X pins σ H s -> (∀ b ∈ fp,FpOk X pins H b) -> tn i s.heap -> J.go i H ->
    wpAny (model P w) X.A (pyNext (.ref it)) (fun r s1 => ∃ u,r = some u /\
      wpAny (model P w) X.A (letOwnedTupleGo tg (.ref it) u) (fun _ s2 => ∃ x H',Inv X pins σ H' s2 /\ RelV x u /\ J.yld i H x H' /\ tn (i + 1) s2.heap /\ ∀ b ∈ fp,H' b = none) E s1) E s
  done:∀ (X:Cx),X.prog = P -> X.w = w -> X.K = K -> X.calm = true -> ∀ (i:Nat) (pins:List (Addr × Obj)) (s:Shared) (σ:St) (H:Hp) (E:Value -> Shared -> Prop),Inv X pins σ H s -> (∀ b ∈ fp,FpOk X pins H b) -> tn i s.heap -> J.stop i H ->
    wpAny (model P w) X.A (pyNext (.ref it)) (fun r s1 => r = none /\ Inv X pins σ H s1) E s
  self:∀ (A:Around) (i:Nat) (s:Shared) (Q:Value -> Shared -> Prop) (E:Value -> Shared -> Prop),tn i s.heap -> Q (.ref it) s -> wpAny (model P w) A (pyIter (.ref it)) Q E s
abbrev TI:=St -> Hp -> (It -> Hp -> Prop) -> Prop
def PIE (X:Cx) (pins:List (Addr × Obj)) (σ:St) (tg:Expr) (R:It -> Hp -> Prop) (itv:Value) (s2:Shared):Prop :=
  ∃ (it:Addr) (fp:List Addr) (tn:Nat -> Heap -> Prop) (J:It) (H':Hp),itv = .ref it /\ Inv X pins σ H' s2 /\ Turn X.prog X.w X.K tg J fp it tn /\ tn 0 s2.heap /\ (∀ b ∈ fp,FpOk X pins H' b) /\ R J H'
def PI (X:Cx) (tg iter:Expr) (wi:TI):Prop :=
  ∀ (pins:List (Addr × Obj)) (s:Shared) (σ:St) (H:Hp) (R:It -> Hp -> Prop),Inv X pins σ H s -> wi σ H R ->
    wpAny (model X.prog X.w) X.A (eval iter X.env) (fun v s1 => wpAny (model X.prog X.w) X.A (pyIter v) (PIE X pins σ tg R) X.xe s1) X.xe s
theorem go_of {M:Model} {A:Around} {E:Value -> Shared -> Prop} {s:Shared} {tg:Expr} {it:Addr} {u:Value} {o:Obj} {n:String} {vs:Array Value} {Q:Unit -> Shared -> Prop} (ho:s.heap.get? it = some o) (hc:o.cls = .type n) (hd:o.data = .fields vs)
    (hn : ["enumerate", "zip", "dict_itemiterator", "dict_reverseitemiterator", "odict_iterator", "itertools.zip_longest", "itertools.pairwise"].contains n = false) (hQ : Q () s) : wpAny M A (letOwnedTupleGo tg (.ref it) u) Q E s := by
  unfold letOwnedTupleGo
  cases tg <;> first
    | exact wpAny_pure hQ
    | (cases u <;> first
        | exact wpAny_pure hQ
        | (refine wpAny_bind (wpAny_load ho ?_)
           rw [hc,hd]
           show wpAny M A (if (["enumerate", "zip", "dict_itemiterator", "dict_reverseitemiterator", "odict_iterator", "itertools.zip_longest", "itertools.pairwise"].contains n && vs[0]? == some (rawInt _)) = true then _ else _) Q E s
           rw [if_neg (by intro h; rw [hn,Bool.false_and] at h; cases h)]
           exact wpAny_pure hQ))
def Itl (K:PySem.W.Frag) (a:Addr):It :=
  ⟨fun i H => ∃ xs x,SqL K H a xs /\ xs[i]? = some x,fun i H x H' => H' = H /\ ∀ xs,SqL K H a xs -> xs[i]? = some x,fun i H => ∃ xs,SqL K H a xs /\ xs.length <= i⟩
def Itt (K:PySem.W.Frag) (a:Addr):It :=
  ⟨fun i H => ∃ xs x,SqT K H a xs /\ xs[i]? = some x,fun i H x H' => H' = H /\ ∀ xs,SqT K H a xs -> xs[i]? = some x,fun i H => ∃ xs,SqT K H a xs /\ xs.length <= i⟩
def Itr (lo:Int) (n:Nat):It:=⟨fun i _ => i < n,fun i H x H' => H' = H /\ x = .int (lo + i),fun i _ => n <= i⟩
theorem turn_list {P:Program} {w:World} {K:PySem.W.Frag} {tg:Expr} (a it:Addr):Turn P w K tg (Itl K a) [it] it (fun i h => h.IsListIter it a i) where
  mem:=by simp
  obj:=fun i h st b hb => by
    have e:b = it:=by simpa using hb
    subst e
    obtain ⟨o,e,c,d⟩:=st
    exact ⟨o,e,fun v z => by rw [d] at z; cases z⟩
  keep:=fun i h h' st k => st.at fun o e => k it (by simp) o e
  item:=by
    intro X hP hw hK hc i pins s σ H E I hf st hg
    subst hP hw hK
    obtain ⟨xs,x,hq,hx⟩:=hg
    obtain ⟨its,rv,p,hz⟩:=I.list hq
    obtain ⟨u,hu,ru⟩:=rv.get hx
    obtain ⟨f0,f1,f2,f3,f4,f5⟩:=hf it (by simp)
    refine wpAny_pyNext_list_item st p.isList (x:=u) (by simpa using hu) fun h' st' sb => ?_
    have I1:Inv X pins σ H { s with heap:=h' }:=I.turned (t':=s.toks) (fun b o hb e => (sb.2 b hb).trans e) f0 f1 f3 f4 f5
    obtain ⟨o,e,c,d⟩:=id st'
    exact ⟨u,rfl,go_of (s:={ s with heap:=h' }) e c d (by decide) ⟨x,H,I1,ru,⟨rfl,fun ys hy => by rw [I.list_inj hy hq]; exact hx⟩,st',fun b hb => (hf b hb).1⟩⟩
  done:=by
    intro X hP hw hK hc i pins s σ H E I hf st hg
    subst hP hw hK
    obtain ⟨xs,hq,hx⟩:=hg
    obtain ⟨its,rv,p,hz⟩:=I.list hq
    obtain ⟨f0,f1,f2,f3,f4,f5⟩:=hf it (by simp)
    have hl:=rv.length
    exact wpAny_pyNext_list_end (I.ok.hd hc) st p.isList (by simp; omega) fun h' eb => ⟨rfl,I.turned (t':=s.toks) (fun b o hb e => eb b o hb e) f0 f1 f3 f4 f5⟩
  self:=fun _ _ _ _ _ st h => wpAny_pyIter_listiter st h
theorem turn_tuple {P:Program} {w:World} {K:PySem.W.Frag} {tg:Expr} (a it:Addr):Turn P w K tg (Itt K a) [it] it (fun i h => h.IsTupleIter it a i) where
  mem:=by simp
  obj:=fun i h st b hb => by
    have e:b = it:=by simpa using hb
    subst e
    obtain ⟨o,e,c,d⟩:=st
    exact ⟨o,e,fun v z => by rw [d] at z; cases z⟩
  keep:=fun i h h' st k => st.at fun o e => k it (by simp) o e
  item:=by
    intro X hP hw hK hc i pins s σ H E I hf st hg
    subst hP hw hK
    obtain ⟨xs,x,hq,hx⟩:=hg
    obtain ⟨its,rv,p,hz⟩:=I.tuple hq
    obtain ⟨u,hu,ru⟩:=rv.get hx
    obtain ⟨f0,f1,f2,f3,f4,f5⟩:=hf it (by simp)
    refine wpAny_pyNext_tuple_item st (show s.heap.IsTuple a its.toArray from p) (x:=u) (by simpa using hu) fun h' st' sb => ?_
    have I1:Inv X pins σ H { s with heap:=h' }:=I.turned (t':=s.toks) (fun b o hb e => (sb.2 b hb).trans e) f0 f1 f3 f4 f5
    obtain ⟨o,e,c,d⟩:=id st'
    exact ⟨u,rfl,go_of (s:={ s with heap:=h' }) e c d (by decide) ⟨x,H,I1,ru,⟨rfl,fun ys hy => by rw [I.tuple_inj hy hq]; exact hx⟩,st',fun b hb => (hf b hb).1⟩⟩
  done:=by
    intro X hP hw hK hc i pins s σ H E I hf st hg
    subst hP hw hK
    obtain ⟨xs,hq,hx⟩:=hg
    obtain ⟨its,rv,p,hz⟩:=I.tuple hq
    obtain ⟨f0,f1,f2,f3,f4,f5⟩:=hf it (by simp)
    have hl:=rv.length
    exact wpAny_pyNext_tuple_end (I.ok.hd hc) st (show s.heap.IsTuple a its.toArray from p) (by simp; omega) fun h' eb => ⟨rfl,I.turned (t':=s.toks) (fun b o hb e => eb b o hb e) f0 f1 f3 f4 f5⟩
  self:=fun _ _ _ _ _ st h => wpAny_pyIter_tupleiter st h
theorem turn_range {P:Program} {w:World} {K:PySem.W.Frag} {tg:Expr} (it:Addr) (lo:Int) (n:Nat):Turn P w K tg (Itr lo n) [it] it (fun i h => IsRangeIter h it (lo + (i:Nat) * 1) ((n:Int) - (i:Nat)) 1) where
  mem:=by simp
  obj:=fun i h st b hb => by
    have e:b = it:=by simpa using hb
    subst e
    exact ⟨_,st,fun v z => by
      have z':Data.fields _ = Data.cell v:=z
      cases z'⟩
  keep:=fun i h h' st k => k it (by simp) _ st
  item:=by
    intro X hP hw hK hc i pins s σ H E I hf st hg
    subst hP hw hK
    obtain ⟨f0,f1,f2,f3,f4,f5⟩:=hf it (by simp)
    have W:=Walks.range (prog:=X.prog) (w:=X.w) (I.ok.hd hc) it lo 1 n
    refine W.item i s _ _ hg st fun v h' tk hv st' kk => ?_
    obtain ⟨t,rfl⟩:=hv
    have I1:Inv X pins σ H { s with heap:=h',toks:=tk }:=I.turned (fun b o hb e => kk b o (by simpa using hb) e) f0 f1 f3 f4 f5
    refine ⟨_,rfl,go_of (s:={ s with heap:=h',toks:=tk }) (n:="range_iterator") st' rfl rfl (by decide) ⟨.int (lo + i),H,I1,⟨t,?_⟩,⟨rfl,rfl⟩,st',fun b hb => (hf b hb).1⟩⟩
    rw [Int.mul_one]
  done:=by
    intro X hP hw hK hc i pins s σ H E I hf st hg
    subst hP hw hK
    obtain ⟨f0,f1,f2,f3,f4,f5⟩:=hf it (by simp)
    exact wpAny_pyNext_range_end (I.ok.hd hc) st (by have:n <= i:=hg; omega) fun h' eb => ⟨rfl,I.turned (t':=s.toks) (fun b o hb e => eb b o hb e) f0 f1 f3 f4 f5⟩
  self:=fun _ _ _ _ _ st h => wpAny_pyIter_rangeiter st h
end L2
namespace L2
open PySem PySem.Spec PyProof.Rows
section
variable {X:Cx} {tg:Expr}
def iList (K:PySem.W.Frag) (tl:TE):TI:=fun σ H R => tl σ H fun x H1 => ∃ a,x = .ref a /\ (∃ xs,SqL K H1 a xs) /\ R (Itl K a) H1
def iTup (K:PySem.W.Frag) (tl:TE):TI:=fun σ H R => tl σ H fun x H1 => ∃ a,x = .ref a /\ (∃ xs,SqT K H1 a xs) /\ R (Itt K a) H1
theorem pi_list {l:Expr} {tl:TE} (hl:PE X l tl):PI X tg l (iList X.K tl):=by
  intro pins s σ H R I h
  refine thn (hl pins s σ H _ I h) fun v s1 ⟨x,H1,I1,r1,q1⟩ => ?_
  obtain ⟨a,e,⟨xs,hq⟩,q⟩:=q1
  subst e
  cases r1
  obtain ⟨its,rv,p,hz⟩:=I1.list hq
  refine wpAny_pyIter_list p.isList ?_
  refine ⟨s1.heap.objs.size,[s1.heap.objs.size],_,_,H1,rfl,I1.kept (t':=s1.toks) fun b o e => Heap.get?_push_of_some _ e,turn_list a _,⟨_,Heap.get?_push_size _ rfl,rfl,rfl⟩,fun b hb => ?_,q⟩
  have e:b = s1.heap.objs.size:=by simpa using hb
  subst e
  exact I1.fpOk (Nat.le_refl _) (I1.hok.fresh (Nat.le_refl _))
theorem pi_tup {l:Expr} {tl:TE} (hl:PE X l tl):PI X tg l (iTup X.K tl):=by
  intro pins s σ H R I h
  refine thn (hl pins s σ H _ I h) fun v s1 ⟨x,H1,I1,r1,q1⟩ => ?_
  obtain ⟨a,e,⟨xs,hq⟩,q⟩:=q1
  subst e
  cases r1
  obtain ⟨its,rv,p,hz⟩:=I1.tuple hq
  refine wpAny_pyIter_tuple (show s1.heap.IsTuple a its.toArray from p) ?_
  refine ⟨s1.heap.objs.size,[s1.heap.objs.size],_,_,H1,rfl,I1.kept (t':=s1.toks) fun b o e => Heap.get?_push_of_some _ e,turn_tuple a _,⟨_,Heap.get?_push_size _ rfl,rfl,rfl⟩,fun b hb => ?_,q⟩
  have e:b = s1.heap.objs.size:=by simpa using hb
  subst e
  exact I1.fpOk (Nat.le_refl _) (I1.hok.fresh (Nat.le_refl _))
theorem range_it {pins:List (Addr × Obj)} {σ:St} {H:Hp} {s:Shared} {R:It -> Hp -> Prop} {E:Value -> Shared -> Prop} {lo hi:Int} {t u v:Tok} {tk:Nat} (I:Inv X pins σ H s) (h1:-(2 ^ 62) <= lo) (h2:lo < 2 ^ 62) (h3:-(2 ^ 62) <= hi) (h4:hi < 2 ^ 62)
    (q:R (Itr lo (hi - lo).toNat) H):wpAny (model X.prog X.w) X.A (pyIter (.ref s.heap.objs.size)) (PIE X pins σ tg R) E { s with heap:=s.heap.push { cls:=.type "range",data:=.fields #[.int lo t,.int hi u,.int 1 v] },toks:=tk }:=by
  refine wpAny_pyIter_range (IsRange.new ..) (small_one h1 h2 h3 h4) ?_
  have I1:Inv X pins σ H { s with heap:=s.heap.push { cls:=.type "range",data:=.fields #[.int lo t,.int hi u,.int 1 v] },toks:=tk }:=I.kept fun b o e => Heap.get?_push_of_some _ e
  refine ⟨(s.heap.push { cls := .type "range", data := .fields #[.int lo t, .int hi u, .int 1 v] }).objs.size, [(s.heap.push { cls := .type "range", data := .fields #[.int lo t, .int hi u, .int 1 v] }).objs.size], _, _, H, rfl,
    I1.kept (t':=tk) fun b o e => Heap.get?_push_of_some _ e,turn_range _ lo (hi - lo).toNat,?_,fun b hb => ?_,q⟩
  . have e1:lo + ((0:Nat):Int) * 1 = lo:=by simp
    have e2:(((hi - lo).toNat:Nat):Int) - ((0:Nat):Int) = Builtin.Range.rangeSize lo hi 1:=by rw [rangeSize_one]; split <;> omega
    show IsRangeIter _ _ (lo + ((0:Nat):Int) * 1) ((((hi - lo).toNat:Nat):Int) - ((0:Nat):Int)) 1
    rw [e1,e2]
    exact Heap.get?_push_size _ rfl
  . have e:b = (s.heap.push { cls:=.type "range",data:=.fields #[.int lo t,.int hi u,.int 1 v] }).objs.size:=by simpa using hb
    subst e
    exact I1.fpOk (Nat.le_refl _) (I1.hok.fresh (Nat.le_refl _))
def iRng1 (ta:TA):TI:=fun σ H R => ta σ H fun vs H1 => ∃ j:Int,vs = [.int j] /\ -(2 ^ 62) <= j /\ j < 2 ^ 62 /\ R (Itr 0 j.toNat) H1
def iRng2 (ta:TA):TI:=fun σ H R => ta σ H fun vs H1 => ∃ i j:Int,vs = [.int i,.int j] /\ (-(2 ^ 62) <= i /\ i < 2 ^ 62 /\ -(2 ^ 62) <= j /\ j < 2 ^ 62) /\ R (Itr i (j - i).toNat) H1
theorem pi_range1 {a : Expr} {ta : TA} {p pos : Pos} (hg : Gl X "range") (hm : X.mg "range" = none) (ha : PA X [a] ta) (hs : starEach [a] X.env = [(false, eval a X.env)] := by rfl) : PI X tg (.Call (.Name "range" p) [a] [] pos) (iRng1 ta) := by
  intro pins s σ H R I h
  refine Call_ (ld_blt I hg hm boot_range (PyProof.Rows.callWith_type1 (thn (ha pos pins s σ H _ I h) fun us s1 ⟨vs,H1,I1,r1,q1⟩ => ?_) hs rfl))
  obtain ⟨j,e,q1,q2,q⟩:=q1
  subst e
  cases r1 with
  | cons r rr =>
    cases rr
    obtain ⟨t,rfl⟩:=r
    exact call_range_1 (range_it I1 (by omega) (by omega) q1 q2 (by simpa using q))
theorem pi_range2 {a b : Expr} {ta : TA} {p pos : Pos} (hg : Gl X "range") (hm : X.mg "range" = none) (ha : PA X [a, b] ta) (hs : starEach [a, b] X.env = [(false, eval a X.env), (false, eval b X.env)] := by rfl) (hs2 : starEach [b] X.env = [(false, eval b X.env)] := by rfl) :
    PI X tg (.Call (.Name "range" p) [a,b] [] pos) (iRng2 ta):=by
  intro pins s σ H R I h
  refine Call_ (ld_blt I hg hm boot_range (PyProof.Rows.callWith_type1 (thn (ha pos pins s σ H _ I h) fun us s1 ⟨vs,H1,I1,r1,q1⟩ => ?_) (by rw [hs,hs2]) (by rw [hs2]; rfl)))
  obtain ⟨i,j,e,⟨q1,q2,q3,q4⟩,q⟩:=q1
  subst e
  cases r1 with
  | cons r rr =>
    cases rr with
    | cons r' rr =>
      cases rr
      obtain ⟨t,rfl⟩:=r
      obtain ⟨t',rfl⟩:=r'
      exact call_range_2 (range_it I1 q1 q2 q3 q4 q)
def tFor (wi:TI) (g:TG) (tb:TS):TS:=fun D σ H => wi σ H fun J H1 => ∃ W:Nat -> Nat -> St -> Hp -> Prop,(∃ m,W 0 m σ H1) /\ ∀ i m σ H,W i m σ H ->
  (J.stop i H /\ D.nx σ H) \/ (J.go i H /\ ∃ N:St -> Hp -> Prop,(∀ σ' H',N σ' H' -> ∃ m',m' < m /\ W (i + 1) m' σ' H') /\ ∀ x H',J.yld i H x H' -> g x σ H' fun σ2 H2 => tb { D with nx:=N,ct:=N,bk:=D.nx } σ2 H2)
def pinsAt (fp:List Addr) (h:Heap):List (Addr × Obj):=fp.filterMap fun b => (h.get? b).map fun o => (b,o)
theorem mem_pinsAt {fp:List Addr} {h:Heap} {b:Addr} {o:Obj} (hb:b ∈ fp) (e:h.get? b = some o):(b,o) ∈ pinsAt fp h:=List.mem_filterMap.mpr ⟨b,hb,by rw [e]; rfl⟩
theorem of_pinsAt {fp:List Addr} {h:Heap} {p:Addr × Obj} (hp:p ∈ pinsAt fp h):p.1 ∈ fp /\ h.get? p.1 = some p.2:=by
  obtain ⟨b,hb,e⟩:=List.mem_filterMap.mp hp
  cases q:h.get? b with
  | none => rw [q] at e; cases e
  | some o =>
    rw [q] at e
    have e':(b,o) = p:=Option.some.inj e
    subst e'
    exact ⟨hb,q⟩
theorem Inv.pinned {pins:List (Addr × Obj)} {σ:St} {H:Hp} {s:Shared} {fp:List Addr} (I:Inv X pins σ H s) (hf:∀ b ∈ fp,FpOk X pins H b) (ho:∀ b ∈ fp,∃ o,s.heap.get? b = some o /\ ∀ v,o.data ≠ .cell v):Inv X (pins ++ pinsAt fp s.heap) σ H s :=
  I.pins_of fun p hp => (List.mem_append.mp hp).elim (fun z => I.pin p (List.mem_append_right _ z)) fun z => by
    obtain ⟨hb,e⟩:=of_pinsAt z
    obtain ⟨f0,f1,f2,_⟩:=hf p.1 hb
    obtain ⟨o,e',d⟩:=ho p.1 hb
    rw [e] at e'; cases e'
    exact ⟨e,f0,f1,f2,d⟩
theorem Inv.unpinned {pins pl:List (Addr × Obj)} {σ:St} {H:Hp} {s:Shared} (I:Inv X (pins ++ pl) σ H s):Inv X pins σ H s:=I.pins_of fun p hp => I.pin p (List.mem_append_right _ (List.mem_append_left _ hp))
theorem ps_for {iter:Expr} {body:List Stmt} {wi:TI} {g:TG} {tb:TS} {pos:Pos} (hp:PassesOwn (model X.prog X.w) X.A X.env X.xe) (hc:X.calm = true) (hi:PI X tg iter wi) (hg:PG X tg g) (hb:PSs X body tb)
    (hs:∀ x,foldedSetIterable iter X.env x = pure x:=by intro _; rfl):PS X (.For tg iter body [] pos) (tFor wi g tb):=by
  intro pins s σ H D I h
  refine wpAny_For (thn (hi pins s σ H _ I h) fun v s1 h1 => thn h1 fun itv s2 h2 => ?_) hs
  obtain ⟨it,fp,tn,J,H2,e,I2,T,st2,f2,W,⟨m0,w0⟩,turn⟩:=h2
  subst e
  have stat:∀ {H':Hp},(∀ b ∈ fp,H' b = none) -> ∀ b ∈ fp,FpOk X pins H' b:=fun hn b hb => ⟨hn b hb,(f2 b hb).2⟩
  refine codeAny_forLoop_any (fun n s' => ∃ i σ' H',Inv X pins σ' H' s' /\ tn i s'.heap /\ (∀ b ∈ fp,H' b = none) /\ W i n σ' H') ?_ m0 ⟨0,σ,H2,I2,st2,fun b hb => (f2 b hb).1,w0⟩
  rintro n s3 ⟨i,σ3,H3,I3,st3,fr3,w3⟩
  rcases turn i n σ3 H3 w3 with ⟨stop,qn⟩ | ⟨go,N,hN,step⟩
  . refine wpAny_passesOwn hp (thn (T.done X rfl rfl rfl hc i pins s3 σ3 H3 X.xe I3 (stat fr3) st3 stop) fun r s4 ⟨hr,I4⟩ => ?_)
    subst hr
    exact wpAny_execs_nil ⟨σ3,H3,I4,qn⟩
  . refine wpAny_passesOwn hp (thn (T.item X rfl rfl rfl hc i pins s3 σ3 H3 X.xe I3 (stat fr3) st3 go) fun r s4 ⟨u,hr,h4⟩ => ?_)
    subst hr
    refine wpAny_passesOwn hp (thn h4 fun _ s5 ⟨x,H5,I5,r5,y5,st5,fr5⟩ => ?_)
    have I5':=I5.pinned (stat fr5) (T.obj _ _ st5)
    refine wpAny_passesOwn hp (thn (hg _ s5 σ3 H5 x u _ I5' r5 (step x H5 y5)) fun _ s6 ⟨σ6,H6,I6,q6⟩ => ?_)
    refine wpAny_passesOwn hp (thn (hb _ s6 σ6 H6 _ I6 q6) fun f s7 q7 => ?_)
    have again:∀ {σ7:St} {H7:Hp},Inv X (pins ++ pinsAt fp s5.heap) σ7 H7 s7 -> N σ7 H7 -> ∃ m,m < n /\ ∃ i σ' H',Inv X pins σ' H' s7 /\ tn i s7.heap /\ (∀ b ∈ fp,H' b = none) /\ W i m σ' H':=fun {σ7 H7} I7 n7 => by
      obtain ⟨m',hm,w7⟩:=hN σ7 H7 n7
      refine ⟨m',hm,i + 1,σ7,H7,I7.unpinned,T.keep _ _ _ st5 fun b hb o e => (I7.pin (b,o) (List.mem_append_right _ (List.mem_append_right _ (mem_pinsAt hb e)))).1,fun b hb => ?_,w7⟩
      obtain ⟨o,e,d⟩:=T.obj _ _ st5 b hb
      exact (I7.pin (b,o) (List.mem_append_right _ (List.mem_append_right _ (mem_pinsAt hb e)))).2.1
    cases f with
    | next => obtain ⟨σ7,H7,I7,n7⟩:=q7; exact again I7 n7
    | cont => obtain ⟨σ7,H7,I7,n7⟩:=q7; exact again I7 n7
    | brk => obtain ⟨σ7,H7,I7,q7⟩:=q7; exact ⟨σ7,H7,I7.unpinned,q7⟩
    | ret v => obtain ⟨x7,σ7,H7,I7,r7,q7⟩:=q7; exact ⟨x7,σ7,H7,I7.unpinned,r7,q7⟩
end
theorem for_list {K:PySem.W.Frag} {a:Addr} {xs:List V} {g:TG} {tb:TS} {D:Ends} {σ:St} {H:Hp} (Pv:Nat -> St -> Hp -> Prop) (h0:Pv 0 σ H) (hl:∀ i σ H,i <= xs.length -> Pv i σ H -> SqL K H a xs)
    (hs:∀ i x σ H,xs[i]? = some x -> Pv i σ H -> g x σ H fun σ2 H2 => tb { D with nx:=Pv (i + 1),ct:=Pv (i + 1),bk:=D.nx } σ2 H2) (hd:∀ σ H,Pv xs.length σ H -> D.nx σ H) :
    ∃ W:Nat -> Nat -> St -> Hp -> Prop,(∃ m,W 0 m σ H) /\ ∀ i m σ H,W i m σ H ->
      ((Itl K a).stop i H /\ D.nx σ H) \/ ((Itl K a).go i H /\ ∃ N:St -> Hp -> Prop,(∀ σ' H',N σ' H' -> ∃ m',m' < m /\ W (i + 1) m' σ' H') /\ ∀ x H',(Itl K a).yld i H x H' -> g x σ H' fun σ2 H2 => tb { D with nx:=N,ct:=N,bk:=D.nx } σ2 H2):=by
  refine ⟨fun i m σ H => m = xs.length - i /\ i <= xs.length /\ Pv i σ H,⟨xs.length,by simp,Nat.zero_le _,h0⟩,?_⟩
  rintro i m σ H ⟨rfl,hi,p⟩
  have q:=hl i σ H hi p
  by_cases hlt:i < xs.length
  . refine .inr ⟨⟨xs,xs[i],q,by simp [hlt]⟩,Pv (i + 1),fun σ' H' p' => ⟨xs.length - (i + 1),by omega,rfl,hlt,p'⟩,fun x H' y => ?_⟩
    obtain ⟨e,y⟩:=y
    subst e
    exact hs i x σ _ (y xs q) p
  . have e:i = xs.length:=by omega
    subst e
    exact .inl ⟨⟨xs,q,Nat.le_refl _⟩,hd σ H p⟩
theorem for_tup {K:PySem.W.Frag} {a:Addr} {xs:List V} {g:TG} {tb:TS} {D:Ends} {σ:St} {H:Hp} (Pv:Nat -> St -> Hp -> Prop) (h0:Pv 0 σ H) (hl:∀ i σ H,i <= xs.length -> Pv i σ H -> SqT K H a xs)
    (hs:∀ i x σ H,xs[i]? = some x -> Pv i σ H -> g x σ H fun σ2 H2 => tb { D with nx:=Pv (i + 1),ct:=Pv (i + 1),bk:=D.nx } σ2 H2) (hd:∀ σ H,Pv xs.length σ H -> D.nx σ H) :
    ∃ W:Nat -> Nat -> St -> Hp -> Prop,(∃ m,W 0 m σ H) /\ ∀ i m σ H,W i m σ H ->
      ((Itt K a).stop i H /\ D.nx σ H) \/ ((Itt K a).go i H /\ ∃ N:St -> Hp -> Prop,(∀ σ' H',N σ' H' -> ∃ m',m' < m /\ W (i + 1) m' σ' H') /\ ∀ x H',(Itt K a).yld i H x H' -> g x σ H' fun σ2 H2 => tb { D with nx:=N,ct:=N,bk:=D.nx } σ2 H2):=by
  refine ⟨fun i m σ H => m = xs.length - i /\ i <= xs.length /\ Pv i σ H,⟨xs.length,by simp,Nat.zero_le _,h0⟩,?_⟩
  rintro i m σ H ⟨rfl,hi,p⟩
  have q:=hl i σ H hi p
  by_cases hlt:i < xs.length
  . refine .inr ⟨⟨xs,xs[i],q,by simp [hlt]⟩,Pv (i + 1),fun σ' H' p' => ⟨xs.length - (i + 1),by omega,rfl,hlt,p'⟩,fun x H' y => ?_⟩
    obtain ⟨e,y⟩:=y
    subst e
    exact hs i x σ _ (y xs q) p
  . have e:i = xs.length:=by omega
    subst e
    exact .inl ⟨⟨xs,q,Nat.le_refl _⟩,hd σ H p⟩
theorem for_range {lo:Int} {n:Nat} {g:TG} {tb:TS} {D:Ends} {σ:St} {H:Hp} (Pv:Nat -> St -> Hp -> Prop) (h0:Pv 0 σ H)
    (hs:∀ i σ H,i < n -> Pv i σ H -> g (.int (lo + i)) σ H fun σ2 H2 => tb { D with nx:=Pv (i + 1),ct:=Pv (i + 1),bk:=D.nx } σ2 H2) (hd:∀ σ H,Pv n σ H -> D.nx σ H) :
    ∃ W:Nat -> Nat -> St -> Hp -> Prop,(∃ m,W 0 m σ H) /\ ∀ i m σ H,W i m σ H ->
      ((Itr lo n).stop i H /\ D.nx σ H) \/ ((Itr lo n).go i H /\ ∃ N:St -> Hp -> Prop,(∀ σ' H',N σ' H' -> ∃ m',m' < m /\ W (i + 1) m' σ' H') /\ ∀ x H',(Itr lo n).yld i H x H' -> g x σ H' fun σ2 H2 => tb { D with nx:=N,ct:=N,bk:=D.nx } σ2 H2):=by
  refine ⟨fun i m σ H => m = n - i /\ i <= n /\ Pv i σ H,⟨n,by simp,Nat.zero_le _,h0⟩,?_⟩
  rintro i m σ H ⟨rfl,hi,p⟩
  by_cases hlt:i < n
  . refine .inr ⟨hlt,Pv (i + 1),fun σ' H' p' => ⟨n - (i + 1),by omega,rfl,hlt,p'⟩,fun x H' y => ?_⟩
    obtain ⟨e,y⟩:=y
    subst e y
    exact hs i σ _ hlt p
  . have e:i = n:=by omega
    subst e
    exact .inl ⟨Nat.le_refl _,hd σ H p⟩
end L2
namespace L2
open PySem PySem.Spec PyProof.Rows
abbrev R2:=V -> V -> Hp -> VK -> Prop
def OpR (X:Cx) (f:Value -> Value -> Sem Value) (r:R2):Prop :=
  ∀ (pins:List (Addr × Obj)) (s:Shared) (σ:St) (H:Hp) (x y:V) (v u:Value) (Q:VK),Inv X pins σ H s -> RelV x v -> RelV y u -> r x y H Q ->
    wpAny (model X.prog X.w) X.A (f v u) (EP X pins σ Q) X.xe s
def UnR (X:Cx) (f:Value -> Sem Value) (r:V -> Hp -> VK -> Prop):Prop :=
  ∀ (pins:List (Addr × Obj)) (s:Shared) (σ:St) (H:Hp) (x:V) (v:Value) (Q:VK),Inv X pins σ H s -> RelV x v -> r x H Q ->
    wpAny (model X.prog X.w) X.A (f v) (EP X pins σ Q) X.xe s
def CallR (X:Cx) (f:Value) (r:List V -> Hp -> VK -> Prop):Prop :=
  ∀ (pins:List (Addr × Obj)) (s:Shared) (σ:St) (H:Hp) (xs:List V) (us:List Value) (Q:VK),Inv X pins σ H s -> Vals xs us -> r xs H Q ->
    wpAny (model X.prog X.w) X.A (call f us) (EP X pins σ Q) X.xe s
def tOp (r:R2) (ta tb:TE):TE:=fun σ H Q => ta σ H fun x H1 => tb σ H1 fun y H2 => r x y H2 Q
def tUn (r:V -> Hp -> VK -> Prop) (ta:TE):TE:=fun σ H Q => ta σ H fun x H1 => r x H1 Q
def rI (C:Int -> Int -> Prop) (g:Int -> Int -> V):R2:=fun x y H Q => ∃ i j,x = .int i /\ y = .int j /\ C i j /\ Q (g i j) H
def rI0 (g:Int -> Int -> V):R2:=fun x y H Q => ∃ i j,x = .int i /\ y = .int j /\ Q (g i j) H
def rU (g:Int -> V):V -> Hp -> VK -> Prop:=fun x H Q => ∃ i,x = .int i /\ Q (g i) H
section
variable {X:Cx} {a b c:Expr} {ta tb tc:TE} {pos:Pos}
theorem binT (ha:PE X a ta) (hb:PE X b tb) {pins:List (Addr × Obj)} {s:Shared} {σ:St} {H:Hp} {R:V -> V -> Hp -> Prop} (I:Inv X pins σ H s)
    (h:ta σ H fun x H1 => tb σ H1 fun y H2 => R x y H2) {Q:Value -> Shared -> Prop} {f:Value -> Value -> Sem Value}
    (hf:∀ v u s2 x y H2,Inv X pins σ H2 s2 -> RelV x v -> RelV y u -> R x y H2 -> wpAny (model X.prog X.w) X.A (f v u) Q X.xe s2) :
    wpAny (model X.prog X.w) X.A (eval a X.env) (fun v s₁ => wpAny (model X.prog X.w) X.A (eval b X.env) (fun u s₂ => wpAny (model X.prog X.w) X.A (f v u) Q X.xe s₂) X.xe s₁) X.xe s:=by
  refine thn (ha pins s σ H _ I h) fun v s1 ⟨x,H1,I1,r1,q1⟩ => ?_
  refine thn (hb pins s1 σ H1 _ I1 q1) fun u s2 ⟨y,H2,I2,r2,q2⟩ => ?_
  exact hf v u s2 x y H2 I2 r1 r2 q2
theorem pe_op {op:Operator} {r:R2} (ho:OpR X (binaryOp op) r) (ha:PE X a ta) (hb:PE X b tb):PE X (.BinOp a op b pos) (tOp r ta tb):=by
  intro pins s σ H Q I h
  exact wpAny_BinOp (binT ha hb I h fun v u s2 x y H2 I2 rx ry q => ho pins s2 σ H2 x y v u Q I2 rx ry q)
theorem pe_un {op:UnaryOp} {r:V -> Hp -> VK -> Prop} (ho:UnR X (unaryOp op) r) (ha:PE X a ta):PE X (.UnaryOp op a pos) (tUn r ta):=by
  intro pins s σ H Q I h
  exact UnaryOp_ (thn (ha pins s σ H _ I h) fun v s1 ⟨x,H1,I1,r1,q1⟩ => ho pins s1 σ H1 x v Q I1 r1 q1)
theorem opI {f:Value -> Value -> Sem Value} {C:Int -> Int -> Prop} {g:Int -> Int -> Int}
    (rule:∀ (i j:Int) (t u:Tok) (s:Shared) (Q:Value -> Shared -> Prop) (E:Value -> Shared -> Prop),C i j -> Q (.int (g i j) s.toks) { s with toks:=s.toks + 1 } -> wpAny (model X.prog X.w) X.A (f (.int i t) (.int j u)) Q E s) :
    OpR X f (rI C fun i j => .int (g i j)):=by
  intro pins s σ H x y v u Q I rx ry h
  obtain ⟨i,j,rfl,rfl,hc,q⟩:=h
  obtain ⟨t,rfl⟩:=rx
  obtain ⟨t',rfl⟩:=ry
  exact rule i j t t' s _ _ hc ⟨.int (g i j),H,I.tok _,⟨_,rfl⟩,q⟩
theorem opI0 {f:Value -> Value -> Sem Value} {g:Int -> Int -> Int}
    (rule:∀ (i j:Int) (t u:Tok) (s:Shared) (Q:Value -> Shared -> Prop) (E:Value -> Shared -> Prop),Q (.int (g i j) s.toks) { s with toks:=s.toks + 1 } -> wpAny (model X.prog X.w) X.A (f (.int i t) (.int j u)) Q E s) :
    OpR X f (rI0 fun i j => .int (g i j)):=by
  intro pins s σ H x y v u Q I rx ry h
  obtain ⟨i,j,rfl,rfl,q⟩:=h
  obtain ⟨t,rfl⟩:=rx
  obtain ⟨t',rfl⟩:=ry
  exact rule i j t t' s _ _ ⟨.int (g i j),H,I.tok _,⟨_,rfl⟩,q⟩
theorem opB0 {f:Value -> Value -> Sem Value} {g:Int -> Int -> Bool}
    (rule:∀ (i j:Int) (t u:Tok) (s:Shared) (Q:Value -> Shared -> Prop) (E:Value -> Shared -> Prop),Q (.bool (g i j)) s -> wpAny (model X.prog X.w) X.A (f (.int i t) (.int j u)) Q E s) :
    OpR X f (rI0 fun i j => .bl (g i j)):=by
  intro pins s σ H x y v u Q I rx ry h
  obtain ⟨i,j,rfl,rfl,q⟩:=h
  obtain ⟨t,rfl⟩:=rx
  obtain ⟨t',rfl⟩:=ry
  exact rule i j t t' s _ _ ⟨.bl (g i j),H,I,rfl,q⟩
def CDiv (i j:Int):Prop:=0 < j /\ j < 1073741824
def CMul (i j:Int):Prop:=(-(2 ^ 64) < i /\ i < 2 ^ 64) \/ (-(2 ^ 64) < j /\ j < 2 ^ 64)
theorem CMul.ok {i j:Int} (h:CMul i j):IntMulOk i j:=by
  rcases h with ⟨h1,h2⟩ | ⟨h1,h2⟩
  . exact .of_left (intBits_le_64 h1 h2)
  . exact .of_right (intBits_le_64 h1 h2)
theorem two_pow_nn (k:Nat):(0:Int) <= 2 ^ k:=by
  rw [two_pow_cast]
  exact Int.natCast_nonneg _
theorem op_add:OpR X (binaryOp .Add) (rI0 fun i j => .int (i + j)):=opI0 fun _ _ _ _ _ _ _ q => add_int q
theorem op_sub:OpR X (binaryOp .Sub) (rI0 fun i j => .int (i - j)):=opI0 fun _ _ _ _ _ _ _ q => sub_int q
theorem op_mul:OpR X (binaryOp .Mult) (rI CMul fun i j => .int (i * j)):=opI fun _ _ _ _ _ _ _ hc q => mul_int q hc.ok
theorem op_fdiv:OpR X (binaryOp .FloorDiv) (rI CDiv fun i j => .int (i / j)):=opI fun i j _ _ _ _ _ hc q => by
  have h1:(0:Int) < j:=hc.1
  have h2:j < 1073741824:=hc.2
  exact floordiv_int (by omega) (by rw [Int.fdiv_eq_ediv_of_nonneg i (by omega)]; exact q) (.inl (PyProof.noPylong_small (by omega)))
theorem op_mod:OpR X (binaryOp .Mod) (rI (fun _ j => 0 < j) fun i j => .int (i % j)):=opI fun i j _ _ _ _ _ hc q => by
  have h1:(0:Int) < j:=hc
  exact mod_int' (by omega) (by rw [Int.fmod_eq_emod_of_nonneg i (by omega)]; exact q)
theorem unI {f:Value -> Sem Value} {g:Int -> Int}
    (rule:∀ (i:Int) (t:Tok) (s:Shared) (Q:Value -> Shared -> Prop) (E:Value -> Shared -> Prop),Q (.int (g i) s.toks) { s with toks:=s.toks + 1 } -> wpAny (model X.prog X.w) X.A (f (.int i t)) Q E s) :
    UnR X f (rU fun i => .int (g i)):=by
  intro pins s σ H x v Q I rx h
  obtain ⟨i,rfl,q⟩:=h
  obtain ⟨t,rfl⟩:=rx
  exact rule i t s _ _ ⟨.int (g i),H,I.tok _,⟨_,rfl⟩,q⟩
theorem un_neg:UnR X (unaryOp .USub) (rU fun i => .int (-i)):=unI fun _ _ _ _ _ q => neg_int q
theorem un_inv:UnR X (unaryOp .Invert) (rU fun i => .int (Builtin.bitNot i)):=unI fun _ _ _ _ _ q => invert_int q
end
section
variable {X:Cx} {a b c:Expr} {ta tb tc:TE} {pos:Pos}
theorem op_lt:OpR X (compareOp .Lt) (rI0 fun i j => .bl (decide (i < j))):=opB0 fun _ _ _ _ _ _ _ q => lt_int q
theorem op_le:OpR X (compareOp .LtE) (rI0 fun i j => .bl (decide (i <= j))):=opB0 fun _ _ _ _ _ _ _ q => le_int q
theorem nomark (b:Expr) {op:CmpOp} (h:op ≠ .In:=by decide) (h2:op ≠ .NotIn:=by decide):behindInMarks op b = false:=by
  have e1:(op == CmpOp.In) = false:=by cases op <;> first | rfl | exact absurd rfl h
  have e2:(op == CmpOp.NotIn) = false:=by cases op <;> first | rfl | exact absurd rfl h2
  cases b <;> simp [behindInMarks,e1,e2]
theorem pe_cmpR {op:CmpOp} {r:R2} (ho:OpR X (compareOp op) r) (ha:PE X a ta) (hb:PE X b tb) (hm:behindInMarks op b = false):PE X (.Compare a [op] [b] pos) (tOp r ta tb):=by
  intro pins s σ H Q I h
  exact wpAny_Compare1 (binT ha hb I h fun v u s2 x y H2 I2 rx ry q => ho pins s2 σ H2 x y v u Q I2 rx ry q) hm
def tTest (t:TE):TT:=fun σ H Q => t σ H fun x H' => ∃ k,x = .bl k /\ Q k H'
theorem pt_cmpR {op:CmpOp} {r:R2} (ho:OpR X (compareOp op) r) (ha:PE X a ta) (hb:PE X b tb) (hm:behindInMarks op b = false):PT X (.Compare a [op] [b] pos) (tTest (tOp r ta tb)):=by
  intro pins s σ H Q I h
  refine wpAny_isTrue_Compare1 (thn (ha pins s σ H _ I h) fun v s1 ⟨x,H1,I1,r1,q1⟩ => thn (hb pins s1 σ H1 _ I1 q1) fun u s2 ⟨y,H2,I2,r2,q2⟩ =>
    thn (ho pins s2 σ H2 x y v u _ I2 r1 r2 q2) fun c s3 ⟨z,H3,I3,r3,k,e,q3⟩ => ?_) hm
  subst e
  cases r3
  exact wpAny_truthy_bool ⟨H3,I3,q3⟩
def tChain (r r':R2) (ta tb tc:TE):TE:=fun σ H Q => ta σ H fun x H1 => tb σ H1 fun y H2 => r x y H2 fun z H3 => ∃ k,z = .bl k /\
  (if k = true then tc σ H3 fun w' H4 => r' y w' H4 Q else Q (.bl false) H3)
theorem pe_chain {op op':CmpOp} {r r':R2} (ho:OpR X (compareOp op) r) (ho':OpR X (compareOp op') r') (ha:PE X a ta) (hb:PE X b tb) (hc:PE X c tc)
    (hm:lastMarks [op,op'] [b,c] = false:=by with_unfolding_all rfl):PE X (.Compare a [op,op'] [b,c] pos) (tChain r r' ta tb tc):=by
  intro pins s σ H Q I h
  refine Compare_chain (thn (ha pins s σ H _ I h) fun v s1 ⟨x,H1,I1,r1,q1⟩ => chain_link (thn (hb pins s1 σ H1 _ I1 q1) fun u s2 ⟨y,H2,I2,r2,q2⟩ =>
    thn (ho pins s2 σ H2 x y v u _ I2 r1 r2 q2) fun d s3 ⟨z,H3,I3,r3,k,e,q3⟩ => ?_)) hm
  subst e
  cases r3
  refine wpAny_truthy_bool ?_
  cases k with
  | false => exact ite_ff ⟨.bl false,H3,I3,rfl,q3⟩
  | true => exact ite_tt (chain_last (thn (hc pins s3 σ H3 _ I3 q3) fun w' s4 ⟨z',H4,I4,r4,q4⟩ => ho' pins s4 σ H4 y z' u w' Q I4 r2 r4 q4))
theorem pt_chain {op op':CmpOp} {r r':R2} (ho:OpR X (compareOp op) r) (ho':OpR X (compareOp op') r') (ha:PE X a ta) (hb:PE X b tb) (hc:PE X c tc)
    (hm:lastMarks [op,op'] [b,c] = false:=by with_unfolding_all rfl):PT X (.Compare a [op,op'] [b,c] pos) (tTest (tChain r r' ta tb tc)):=by
  intro pins s σ H Q I h
  refine isTrue_chain (thn (ha pins s σ H _ I h) fun v s1 ⟨x,H1,I1,r1,q1⟩ => test_link (thn (hb pins s1 σ H1 _ I1 q1) fun u s2 ⟨y,H2,I2,r2,q2⟩ =>
    thn (ho pins s2 σ H2 x y v u _ I2 r1 r2 q2) fun d s3 ⟨z,H3,I3,r3,k,e,q3⟩ => ?_)) hm
  subst e
  cases r3
  refine wpAny_truthy_bool ?_
  cases k with
  | false =>
    obtain ⟨k',e',q'⟩:=q3
    cases e'
    exact ite_ff ⟨H3,I3,q'⟩
  | true =>
    refine ite_tt (test_last (thn (hc pins s3 σ H3 _ I3 q3) fun w' s4 ⟨z',H4,I4,r4,q4⟩ => thn (ho' pins s4 σ H4 y z' u w' _ I4 r2 r4 q4) fun d' s5 ⟨z2,H5,I5,r5,k2,e2,q5⟩ => ?_))
    subst e2
    cases r5
    exact wpAny_truthy_bool ⟨H5,I5,q5⟩
theorem line63:(sizeLine:Nat) < 2 ^ 63:=by rw [sizeLine_eq]; decide
theorem vals1 {x:V} {us:List Value} (r:Vals [x] us):∃ u,us = [u] /\ RelV x u:=by
  cases r with
  | cons r1 r2 => cases r2; exact ⟨_,rfl,r1⟩
theorem vals2 {x y:V} {us:List Value} (r:Vals [x,y] us):∃ u w',us = [u,w'] /\ RelV x u /\ RelV y w':=by
  cases r with
  | cons r1 r2 =>
    cases r2 with
    | cons r3 r4 => cases r4; exact ⟨_,_,rfl,r1,r3⟩
theorem call_max2 (hc:X.calm = true):CallR X (.builtin "max") (fun xs H Q => ∃ i j,xs = [.int i,.int j] /\ Q (.int (if j > i then j else i)) H):=by
  intro pins s σ H xs us Q I r h
  obtain ⟨i,j,rfl,q⟩:=h
  obtain ⟨u,w',rfl,⟨t,rfl⟩,⟨t',rfl⟩⟩:=vals2 r
  refine max_two_ints (I.ok.hd hc) fun h' tk k => ⟨_,H,I.kept k,?_,q⟩
  by_cases hj:j > i
  . rw [if_pos hj,if_pos hj]; exact ⟨_,rfl⟩
  . rw [if_neg hj,if_neg hj]; exact ⟨_,rfl⟩
theorem call_min2 (hc:X.calm = true):CallR X (.builtin "min") (fun xs H Q => ∃ i j,xs = [.int i,.int j] /\ Q (.int (if j < i then j else i)) H):=by
  intro pins s σ H xs us Q I r h
  obtain ⟨i,j,rfl,q⟩:=h
  obtain ⟨u,w',rfl,⟨t,rfl⟩,⟨t',rfl⟩⟩:=vals2 r
  refine min_two_ints (I.ok.hd hc) fun h' tk k => ⟨_,H,I.kept k,?_,q⟩
  by_cases hj:j < i
  . rw [if_pos hj,if_pos hj]; exact ⟨_,rfl⟩
  . rw [if_neg hj,if_neg hj]; exact ⟨_,rfl⟩
end
end L2
namespace L2
open PySem PySem.Spec PyProof.Rows
structure ObjM (h:Heap) (x dx C:Addr) (mA:Str -> Option Value):Prop where
  obj:h.get? x = some (PySem.W.instObj C dx)
  ns:h.Ns1 dx mA
  ne:dx ≠ x
theorem lookIn_ns {h:Heap} {dx:Addr} {mA:Str -> Option Value} (n:h.Ns1 dx mA):∃ od,h.get? dx = some od /\ ∀ name,PySem.W.lookIn name od = some (mA name):=by
  obtain ⟨o,es,ep,ho,hd,hk,_,hm⟩:=n
  refine ⟨o,ho,fun name => ?_⟩
  have e:=hm name
  unfold nsFind findBy at e
  rw [<- Array.find?_toList] at e
  unfold PySem.W.lookIn
  rw [hd]
  dsimp only
  split
  . rename_i y q
    rw [q] at e
    exact congrArg some e
  . rename_i q
    rw [q] at e
    have a:es.toList.any (·.refKey) = false:=by
      rw [List.any_eq_false]
      intro y hy
      obtain ⟨z,t,hkey⟩:=hk y (Array.mem_toList_iff.mp hy)
      simp [DictEntry.refKey,hkey]
    have a':¬ es.toList.any (·.refKey) = true:=by rw [a]; exact Bool.false_ne_true
    rw [if_neg a']
    exact congrArg some e
theorem ObjM.look {h:Heap} {x dx C:Addr} {mA:Str -> Option Value} (I:ObjM h x dx C mA):∃ od,PySem.W.InstAt h x (PySem.W.instObj C dx) C (some od) /\ ∀ name,PySem.W.lookIn name od = some (mA name) :=
  let ⟨od,ho,hl⟩:=lookIn_ns I.ns
  ⟨od,⟨I.obj,rfl,rfl,ho⟩,hl⟩
section
variable {prog:Program} {w:World} {A:Around} {E:Value -> Shared -> Prop} {s:Shared} {K:PySem.W.Frag} {x dx C f:Addr} {mA:Str -> Option Value} {name:Str} {v:Value}
theorem get_map {expr:Bool} {Q:Value -> Shared -> Prop} (X:K.In s.heap) (I:ObjM s.heap x dx C mA) (hg:PySem.W.plainGet K C name = true) (hh:PySem.W.hasDictIn K C = true)
    (ha:PySem.W.findIn K (.ref C) name = some none) (hv:mA name = some v) (hv':PySem.W.handedIn v = true) (h:Q v { s with toks:=s.toks + 1 }) :
    wpAny (model prog w) A (getAttr (.ref x) name expr) Q E s:=by
  obtain ⟨od,J,hl⟩:=I.look
  exact PySem.W.get_value X J (PySem.W.plainGet_of hg).1 (PySem.W.findObj_own hh ha rfl (by rw [hl,hv])) hv' h
theorem get_meth {pl:Sem Bool} {Q:Value × List Value -> Shared -> Prop} (X:K.In s.heap) (I:ObjM s.heap x dx C mA) (hg:PySem.W.plainGet K C name = true)
    (hf:PySem.W.findIn K (.ref C) name = some (some (.ref f))) (ht:PySem.W.isFn K (.ref f) = true) (hv:mA name = none) (h:Q (.ref f,[.ref x]) s) :
    wpAny (model prog w) A (getMethod (.ref x) name pl) Q E s:=by
  obtain ⟨od,J,hl⟩:=I.look
  exact PySem.W.method_fn X J (PySem.W.plainGet_of hg).1 (PySem.W.plainGet_of hg).2 hf (beq_iff_eq.mp ht) (by show (PySem.W.lookIn name od).map (·.isSome) = some false; rw [hl,hv]; rfl) h
theorem set_map {ns:List Str} {Q:Unit -> Shared -> Prop} (X:K.In s.heap) (I:ObjM s.heap x dx C mA)
    (hs:PySem.W.findIn K (.ref C) "__setattr__" = some (some (.builtin "object.__setattr__"))) (hp:PySem.W.plainOver K C = true) (ht:PySem.W.takerIn K C name = some none) (hh:PySem.W.hasDictIn K C = true)
    (hw:PySem.Within mA ns) (hsz:ns.length <= sizeLine)
    (h:∀ h',ObjM h' x dx C (fun y => if y = name then some v else mA y) -> Heap.SameBut dx s.heap h' -> Q () { s with heap:=h',toks:=s.toks + 2 }) :
    wpAny (model prog w) A (setAttr (.ref x) name v) Q E s:=by
  obtain ⟨od,J,hl⟩:=I.look
  refine PySem.W.set_plain X J hs (PySem.W.osa_open (s:={ s with toks:=s.toks + 1 }) (r:=none) X J hp ht fun b => ?_)
  obtain ⟨cd,hc,hd'⟩:=PySem.W.any_some hh
  have hx:s.heap.get? x = some ⟨.ref C,some dx,.plain,#[]⟩:=I.obj
  refine wpAny_bind (wpAny_pure (wpAny_bind (wpAny_bind (wpAny_loadPart hx (wpAny_bind (PySem.W.Looks.here (s:={ s with toks:=s.toks + 1 }) (PySem.W.looks_clsIn X hc) ?_))))))
  rw [hd']
  refine wpAny_pure (a:=some dx) (wpAny_bind (wpAny_pure (wpAny_bind ?_)))
  refine wpAny_nsSet1 (s:={ s with toks:=s.toks + 1 }) I.ns fun h' hn2 hs2 => ?_
  obtain ⟨oD,esD,epD,hoD,hdD,hcD⟩:=hn2.count (PySem.Within.cons name v hw)
  refine wpAny_bind (wpAny_lookBehind hoD (by rw [hdD]; exact pastItsLine_dict (Nat.le_trans hcD (by rw [List.length_cons]; omega))) ?_)
  exact wpAny_pure (h _ ⟨(hs2.2 _ (Ne.symm I.ne)).trans I.obj,hn2,I.ne⟩ hs2)
theorem make_map {R:Result -> Shared -> Prop} {vs:List Value} {kw:List (Str × Value)} (X:K.In s.heap) (hm:PySem.W.makesIn K C = true)
    (hi : PySem.W.findIn K (.ref C) "__init__" = some (some (.ref f))) (hf : PySem.W.typeIn K (.ref f) = some (.type "function"))
    (h:codeAny (model prog w) (A.under (.builtin "type.__call__" ⟨.ref C :: vs,kw⟩)) (.call (.ref f) ⟨.ref (s.heap.objs.size + 1) :: vs,kw⟩) (PySem.W.InitBack (s.heap.objs.size + 1) R)
      { s with heap:=(s.heap.push PySem.W.emptyDict).push (PySem.W.instObj C s.heap.objs.size) }) :
    codeAny (model prog w) A (.call (.ref C) ⟨vs,kw⟩) R s:=by
  obtain ⟨hh,g,d,t,os⟩:=s
  exact PySem.W.make_core (PySem.W.makes_of X hm) (PySem.W.looks_findIn X hi) (fun self => PySem.W.bind_fn X self hf) (.inl rfl) h
end
def putF (f:Str) (v:V):List (Str × V) -> List (Str × V)
  | [] => [(f,v)]
  | (g,x) :: r => if g = f then (g,v) :: r else (g,x) :: putF f v r
theorem lookup_putF (f g:Str) (v:V):∀ fs:List (Str × V),(putF f v fs).lookup g = if g = f then some v else fs.lookup g
  | [] => by
    show List.lookup g [(f,v)] = _
    by_cases h:g = f
    . have hb:(g == f) = true:=beq_iff_eq.mpr h
      simp only [List.lookup,hb,if_pos h]
    . have hb:(g == f) = false:=beq_eq_false_iff_ne.mpr h
      simp only [List.lookup,hb,if_neg h]
  | (k,x) :: r => by
    have ih:=lookup_putF f g v r
    rw [show putF f v ((k,x) :: r) = (if k = f then (k,v) :: r else (k,x) :: putF f v r) from rfl]
    by_cases hk:k = f
    . rw [if_pos hk]
      by_cases h:g = k
      . have hb:(g == k) = true:=beq_iff_eq.mpr h
        simp only [List.lookup,hb,if_pos (h.trans hk)]
      . have hb:(g == k) = false:=beq_eq_false_iff_ne.mpr h
        simp only [List.lookup,hb,if_neg (fun e:g = f => h (e.trans hk.symm))]
    . rw [if_neg hk]
      by_cases h:g = k
      . have hb:(g == k) = true:=beq_iff_eq.mpr h
        simp only [List.lookup,hb,if_neg (fun e:g = f => hk (h.symm.trans e))]
      . have hb:(g == k) = false:=beq_eq_false_iff_ne.mpr h
        simp only [List.lookup,hb]
        exact ih
theorem keys_putF (f:Str) (v:V):∀ fs:List (Str × V),f ∈ (putF f v fs).map (·.1) /\ ∀ g,g ∈ fs.map (·.1) -> g ∈ (putF f v fs).map (·.1)
  | [] => ⟨by simp [putF],fun g h => by simp at h⟩
  | (k,x) :: r => by
    obtain ⟨i1,i2⟩:=keys_putF f v r
    rw [show putF f v ((k,x) :: r) = (if k = f then (k,v) :: r else (k,x) :: putF f v r) from rfl]
    by_cases hk:k = f
    . rw [if_pos hk]
      subst hk
      exact ⟨by simp,fun g h => by simpa using h⟩
    . rw [if_neg hk]
      refine ⟨?_,fun g h => ?_⟩
      . rw [List.map_cons]
        exact List.mem_cons_of_mem _ i1
      . rw [List.map_cons] at h |-
        rcases List.mem_cons.mp h with e | e
        . exact List.mem_cons.mpr (.inl e)
        . exact List.mem_cons_of_mem _ (i2 g e)
theorem length_putF (f:Str) (v:V):∀ fs:List (Str × V),(putF f v fs).length <= fs.length + 1
  | [] => by simp [putF]
  | (k,x) :: r => by
    have ih:=length_putF f v r
    rw [show putF f v ((k,x) :: r) = (if k = f then (k,v) :: r else (k,x) :: putF f v r) from rfl]
    by_cases hk:k = f
    . rw [if_pos hk,List.length_cons,List.length_cons]; omega
    . rw [if_neg hk,List.length_cons,List.length_cons]; omega
theorem RelO.some_of {v:V} {o:Option Value} (r:RelO (some v) o):∃ u,o = some u /\ RelV v u:=by
  cases o with
  | none => exact (show False from r).elim
  | some u => exact ⟨u,rfl,r⟩
theorem RelO.none_of {o:Option Value} (r:RelO none o):o = none:=by
  cases o with
  | none => rfl
  | some u => exact (show False from r).elim
theorem handed_of {v:V} {u:Value} (r:RelV v u):PySem.W.handedIn u = true:=by
  cases v with
  | non => cases (show u = Value.none from r); rfl
  | bl b => cases (show u = Value.bool b from r); rfl
  | int i => obtain ⟨t,e⟩:=(show ∃ t,u = Value.int i t from r); cases e; rfl
  | str x => obtain ⟨t,e⟩:=(show ∃ t,u = Value.str x t from r); cases e; rfl
  | byt b => obtain ⟨t,e⟩:=(show ∃ t,u = Value.bytes b t from r); cases e; rfl
  | flt b => obtain ⟨t,e⟩:=(show ∃ t,u = Value.float b t from r); cases e; rfl
  | ref a => cases (show u = Value.ref a from r); rfl
  | ty n => cases (show u = Value.type n from r); rfl
section
variable {P:Program} {w:World} {H H':Hp} {h h':Heap} {a C dx:Addr} {fs fs':List (Str × V)}
theorem ins_get (hok:HOk P w H h) (e:H a = some (.ins C dx fs)):∃ mA,ObjM h a dx C mA /\ (∀ f,RelO (fs.lookup f) (mA f)) /\ PySem.Within mA (fs.map (·.1)) /\ fs.length <= 1000 /\ H dx = some (.own a):=by
  obtain ⟨d,z,ne,ob,mA,n,r,q⟩:=(show ObjOk P w H h a (.ins C dx fs) from hok a _ e)
  exact ⟨mA,⟨ob,n,ne⟩,r,q,z,d⟩
end
structure Cls (K:PySem.W.Frag) (C:Addr):Prop where
  pg:PySem.W.plainGet K C Str.empty = true
  hd:PySem.W.hasDictIn K C = true
  po:PySem.W.plainOver K C = true
  sa:PySem.W.findIn K (.ref C) "__setattr__" = some (some (.builtin "object.__setattr__"))
theorem Cls.get {K:PySem.W.Frag} {C:Addr} (c:Cls K C) (f:Str):PySem.W.plainGet K C f = true:=c.pg
def NoAttr (K:PySem.W.Frag) (C:Addr) (f:Str):Prop:=PySem.W.findIn K (.ref C) f = some none
theorem NoAttr.taker {K:PySem.W.Frag} {C:Addr} {f:Str} (n:NoAttr K C f):PySem.W.takerIn K C f = some none:=by
  unfold PySem.W.takerIn
  rw [show PySem.W.findIn K (.ref C) f = some none from n]
  rfl
structure Con (K:PySem.W.Frag) (C:Addr) (f:Str) (v:V) (u:Value):Prop where
  at_:PySem.W.findIn K (.ref C) f = some (some u)
  rel:RelV v u
  get:PySem.W.specialIn K u "__get__" = some none
  cp:PySem.W.copiedNames.contains f = false
structure Meth (K:PySem.W.Frag) (C:Addr) (m:Str) (f:Addr):Prop where
  at_:PySem.W.findIn K (.ref C) m = some (some (.ref f))
  fn:PySem.W.isFn K (.ref f) = true
  kp:PySem.W.keepIn K (.ref f) = true
section
variable {X:Cx} {pins:List (Addr × Obj)} {σ:St} {H:Hp} {s:Shared} {a C dx:Addr} {fs:List (Str × V)} {f:Str} {v:V} {A:Around} {E:Value -> Shared -> Prop}
theorem getattr_ok {b:Bool} {Q:Value -> Shared -> Prop} (I:Inv X pins σ H s) (e:H a = some (.ins C dx fs)) (c:Cls X.K C) (n:NoAttr X.K C f) (l:fs.lookup f = some v)
    (h:∀ u s',Inv X pins σ H s' -> RelV v u -> Q u s'):wpAny (model X.prog X.w) A (getAttr (.ref a) f b) Q E s:=by
  obtain ⟨mA,O,r,_,_,_⟩:=ins_get I.hok e
  obtain ⟨u,hu,ru⟩:=RelO.some_of (v:=v) (o:=mA f) (by rw [<- l]; exact r f)
  exact get_map I.kIn O (c.get f) c.hd n hu (handed_of ru) (h u _ (I.tok _) ru)
theorem getmeth_ok {m:Str} {g:Addr} {pl:Sem Bool} {Q:Value × List Value -> Shared -> Prop} (I:Inv X pins σ H s) (e:H a = some (.ins C dx fs)) (c:Cls X.K C) (k:Meth X.K C m g) (l:fs.lookup m = none)
    (h:Q (.ref g,[.ref a]) s):wpAny (model X.prog X.w) A (getMethod (.ref a) m pl) Q E s:=by
  obtain ⟨mA,O,r,_,_,_⟩:=ins_get I.hok e
  have hn:mA m = none:=RelO.none_of (by rw [<- l]; exact r m)
  exact get_meth I.kIn O (c.get m) k.at_ k.fn hn h
theorem setattr_ok {y:V} {u:Value} {Q:Unit -> Shared -> Prop} (I:Inv X pins σ H s) (e:H a = some (.ins C dx fs)) (c:Cls X.K C) (n:NoAttr X.K C f) (hl:fs.length < 1000) (ry:RelV y u)
    (h:∀ s',Inv X pins σ (upd H a (.ins C dx (putF f y fs))) s' -> Q () s'):wpAny (model X.prog X.w) A (setAttr (.ref a) f u) Q E s:=by
  obtain ⟨mA,O,r,wi,_,ho⟩:=ins_get I.hok e
  have hz:(fs.map (·.1)).length <= sizeLine:=by rw [List.length_map,sizeLine_eq]; omega
  refine set_map I.kIn O c.sa c.po n.taker c.hd wi hz fun h' O' sb => h _ ?_
  have hd:∃ o,h'.get? dx = some o:=let ⟨o,_,_,e',_⟩:=O'.ns; ⟨o,e'⟩
  refine I.write (x:=a) (e:=dx) (by rw [e]; exact True.intro) (.inr ho) (fun b q hb z => (sb.2 b hb).trans z) hd ?_
  refine ⟨by rw [upd_ne O.ne]; exact ho,?_,O.ne,O'.obj,_,O'.ns,fun g => ?_,fun g hg => ?_⟩
  . have:=length_putF f y fs; omega
  . show RelO ((putF f y fs).lookup g) (if g = f then some u else mA g)
    rw [lookup_putF]
    by_cases q:g = f
    . rw [if_pos q,if_pos q]; exact ry
    . rw [if_neg q,if_neg q]; exact r g
  . by_cases q:g = f
    . rw [q]; exact (keys_putF f y fs).1
    . refine (keys_putF f y fs).2 g (wi g fun z => hg ?_)
      show (if g = f then some u else mA g) = none
      rw [if_neg q]; exact z
theorem Inv.made (I:Inv X pins σ H s):Inv X pins σ (upd (upd H s.heap.objs.size (.own (s.heap.objs.size + 1))) (s.heap.objs.size + 1) (.ins C s.heap.objs.size []))
    { s with heap:=(s.heap.push PySem.W.emptyDict).push (PySem.W.instObj C s.heap.objs.size) }:=by
  have e1:(s.heap.push PySem.W.emptyDict).get? s.heap.objs.size = some PySem.W.emptyDict:=Heap.get?_push_size s.heap rfl
  have e2:((s.heap.push PySem.W.emptyDict).push (PySem.W.instObj C s.heap.objs.size)).get? (s.heap.objs.size + 1) = some (PySem.W.instObj C s.heap.objs.size):=by
    have:=Heap.get?_push_size (s.heap.push PySem.W.emptyDict) (o:=PySem.W.instObj C s.heap.objs.size) rfl
    rwa [Heap.size_push] at this
  have e3:(s.heap.push PySem.W.emptyDict).Ns s.heap.objs.size (fun _ => none):=⟨PySem.W.emptyDict,#[],_,e1,rfl,(fun e he => absurd he (by simp)),fun _ => rfl⟩
  have I1:=I.laid (a:=s.heap.objs.size) (o:=.own (s.heap.objs.size + 1)) (h':=s.heap.push PySem.W.emptyDict) (t':=s.toks) (fun b u q => Heap.get?_push_of_some _ q) (Nat.le_refl _) ⟨_,e1⟩
  refine I1.laid (a:=s.heap.objs.size + 1) (o:=.ins C s.heap.objs.size []) (t':=s.toks) (fun b u q => Heap.get?_push_of_some _ q) (Nat.le_of_eq (Heap.size_push _ _)) ?_
  have ne:s.heap.objs.size ≠ s.heap.objs.size + 1:=Nat.ne_of_lt (Nat.lt_succ_self _)
  refine ⟨by rw [upd_ne ne,upd_same],Nat.zero_le _,ne,e2,fun _ => none,(Heap.Ns1.of_empty e3).at fun o q => Heap.get?_push_of_some _ q,fun _ => True.intro,fun y hy => absurd rfl hy⟩
theorem attr_of {prog:Program} {w:World} {env:Env} {e:Expr} {f:Str} {pos:Pos} {s:Shared} {Q:Value -> Shared -> Prop} (hb:attributeBase e f env (eval e env) = eval e env)
    (h:wpAny (model prog w) A (eval e env) (fun o s₁ => wpAny (model prog w) A (getAttr o f true) Q E s₁) E s):wpAny (model prog w) A (eval (.Attribute e f pos) env) Q E s :=
  Attribute_any_ h (by rw [arm_eval_Attribute,hb])
end
def tFld (K:PySem.W.Frag) (ta:TE) (f:Str):TE:=fun σ H Q => ta σ H fun x H1 => ∃ a C dx fs v,x = .ref a /\ H1 a = some (.ins C dx fs) /\ Cls K C /\ NoAttr K C f /\ fs.lookup f = some v /\ Q v H1
def sFld (K:PySem.W.Frag) (ta tv:TE) (f:Str):TS:=fun D σ H => tv σ H fun y H1 => ta σ H1 fun x H2 => ∃ a C dx fs,x = .ref a /\ H2 a = some (.ins C dx fs) /\ Cls K C /\ NoAttr K C f /\ fs.length < 1000 /\
  D.nx σ (upd H2 a (.ins C dx (putF f y fs)))
def InOp (X:Cx) (op:Operator) (rd:V -> V -> Hp -> VK -> Prop):Prop :=
  ∀ (pins:List (Addr × Obj)) (s:Shared) (σ:St) (H:Hp) (x y:V) (u v:Value) (Q:VK),Inv X pins σ H s -> RelV x u -> RelV y v -> rd x y H Q -> wpAny (model X.prog X.w) X.A (inplaceOp op u v) (EP X pins σ Q) X.xe s
def sFldAug (K:PySem.W.Frag) (ta tv:TE) (rd:V -> V -> Hp -> VK -> Prop) (f:Str):TS:=fun D σ H => ta σ H fun x H1 => ∃ a C dx fs v,x = .ref a /\ H1 a = some (.ins C dx fs) /\ Cls K C /\ NoAttr K C f /\ fs.lookup f = some v /\
  tv σ H1 fun y H2 => rd v y H2 fun z H3 => ∃ dx' fs',H3 a = some (.ins C dx' fs') /\ fs'.length < 1000 /\ D.nx σ (upd H3 a (.ins C dx' (putF f z fs')))
section
variable {X:Cx} {o e value:Expr} {f:Str} {pos pos' tpos:Pos} {ta tv:TE}
theorem pe_fld (he:PE X e ta) (hb:attributeBase e f X.env (eval e X.env) = eval e X.env):PE X (.Attribute e f pos) (tFld X.K ta f):=by
  intro pins s σ H Q I h
  refine attr_of hb (thn (he pins s σ H _ I h) fun u s1 ⟨x,H1,I1,rx,a,C,dx,fs,v,ex,ea,c,n,l,q⟩ => ?_)
  subst ex
  obtain rfl:u = Value.ref a:=rx
  exact getattr_ok I1 ea c n l fun u' s2 I2 ru => ⟨v,H1,I2,ru,q⟩
theorem ps_fld (ha:PE X o ta) (hv:PE X value tv) (hs:swapsWith value (some (.Attribute o f pos')) pos.line X.env = pure false):PS X (.Assign [.Attribute o f pos'] value pos) (sFld X.K ta tv f):=by
  intro pins s σ H D I h
  refine plainObj_wpAny_Assign_Attribute (thn (hv pins s σ H _ I h) fun u s1 ⟨y,H1,I1,ry,q⟩ => thn (ha pins s1 σ H1 _ I1 q) fun ov s2 ⟨x,H2,I2,rx,a,C,dx,fs,ex,ea,c,n,l,q2⟩ => ?_) hs
  subst ex
  obtain rfl:ov = Value.ref a:=rx
  exact setattr_ok I2 ea c n l ry fun s3 I3 => ⟨σ,_,I3,q2⟩
theorem ps_fldaug {op:Operator} {rd:V -> V -> Hp -> VK -> Prop} (ha:PE X o ta) (hv:PE X value tv) (hop:InOp X op rd):PS X (.AugAssign (.Attribute o f tpos) op value pos) (sFldAug X.K ta tv rd f):=by
  intro pins s σ H D I h
  refine wpAny_AugAssign_AttributeAny (thn (ha pins s σ H _ I h) fun ov s1 ⟨x,H1,I1,rx,a,C,dx,fs,v,ex,ea,c,n,l,q⟩ => ?_)
  subst ex
  obtain rfl:ov = Value.ref a:=rx
  refine getattr_ok I1 ea c n l fun u s2 I2 ru => thn (hv pins s2 σ H1 _ I2 q) fun w3 s3 ⟨y,H2,I3,ry,q3⟩ => thn (hop pins s3 σ H2 v y u w3 _ I3 ru ry q3) fun w4 s4 ⟨z,H3,I4,rz,dx',fs',ea',l',q4⟩ => ?_
  exact setattr_ok I4 ea' c n l' rz fun s5 I5 => ⟨σ,_,I5,q4⟩
def rAdd:V -> V -> Hp -> VK -> Prop:=fun x y H Q => ∃ i j,x = .int i /\ y = .int j /\ Q (.int (i + j)) H
theorem in_add:InOp X .Add rAdd:=by
  rintro pins s σ H x y u v Q I rx ry ⟨i,j,rfl,rfl,q⟩
  obtain ⟨t,rfl⟩:=(show ∃ t,u = Value.int i t from rx)
  obtain ⟨t',rfl⟩:=(show ∃ t',v = Value.int j t' from ry)
  exact PyProof.Rows.iadd_int ⟨.int (i + j),H,I.tok _,⟨_,rfl⟩,q⟩
end
section
variable {X:Cx} {pins:List (Addr × Obj)} {σ:St} {H:Hp} {s:Shared} {A:Around} {E:Value -> Shared -> Prop} {Q:Value -> Shared -> Prop} {c:Value} {b:Bool}
inductive TyOf (K:PySem.W.Frag) (H:Hp):V -> Value -> Prop where
  | non:TyOf K H .non (.type "NoneType")
  | bl (x:Bool):TyOf K H (.bl x) (.type "bool")
  | int (i:Int):TyOf K H (.int i) (.type "int")
  | str (x:Str):TyOf K H (.str x) (.type "str")
  | flt (x:UInt64):TyOf K H (.flt x) (.type "float")
  | lst {a:Addr} {xs:List V} (e:H a = some (.lst xs)):TyOf K H (.ref a) (.type "list")
  | frz {a:Addr} {o:Obj} {xs:List V} (e:H a = some (.frz o (.lst xs))):TyOf K H (.ref a) (.type "list")
  | tup {a:Addr} {xs:List V} (e:H a = some (.tup xs)):TyOf K H (.ref a) (.type "tuple")
  | dK {a:Addr} {kvs:List (Key × V)} (e:H a = some (.dK kvs)):TyOf K H (.ref a) (.type "dict")
  | dT {a:Addr} {kvs:List (List Key × V)} (e:H a = some (.dT kvs)):TyOf K H (.ref a) (.type "dict")
  | ins {a C dx:Addr} {fs:List (Str × V)} (e:H a = some (.ins C dx fs)) (cl:Cls K C) (ha:PySem.W.findIn K (.ref C) "__class__" = some (some (.builtin "object.__class__")))
      (hn : PySem.W.specialIn K (.builtin "object.__class__") "__get__" = some (some (.builtin "getset_descriptor.__get__"))) (htk : PySem.W.takesIn K (.builtin "object.__class__") = some true)
      (hm:PySem.W.mroIn K C (.type "object") = some true):TyOf K H (.ref a) (.ref C)
end
end L2
namespace L2
open PySem PySem.Spec PyProof.Rows
structure Room (k:Nat) (A:Around):Prop where
  hd:A.handled = none
  dp:A.depth + 3 * k + 5 < recursionLimit
  un:A.units + 16 * k + 200 < cLine
theorem Room.mono {j k:Nat} {A:Around} (r:Room k A) (h:j <= k):Room j A:=⟨r.hd,by have:=r.dp; omega,by have:=r.un; omega⟩
theorem Room.deeper {k:Nat} {A:Around} (r:Room (k + 1) A) (env:Env):Room k (A.deeper env) :=
  ⟨r.hd,by have:=r.dp; show A.depth + 1 + 3 * k + 5 < _; omega,by have:=r.un; show A.units + 3 + 16 * k + 200 < _; omega⟩
theorem make_depth {A:Around} {C:Addr} {us:List Value} {kw:List (Str × Value)}:(A.under (.builtin "type.__call__" ⟨.ref C :: us,kw⟩)).depth = A.depth + 1:=by
  first | rfl | simp [Around.under,Code.weight,Code.isCreation,Code.isGuard,Code.isCaller,Code.frames,Code.isFrame,guardIds]
theorem make_units {A:Around} {C:Addr} {us:List Value} {kw:List (Str × Value)}:(A.under (.builtin "type.__call__" ⟨.ref C :: us,kw⟩)).units = A.units + 1:=by
  first | rfl | simp [Around.under,Code.cUnits,Code.frames,Code.isFrame]
theorem Room.make {k:Nat} {A:Around} (r:Room (k + 1) A) (C:Addr) (us:List Value) (kw:List (Str × Value)):Room k (A.under (.builtin "type.__call__" ⟨.ref C :: us,kw⟩)) :=
  ⟨r.hd,by have:=r.dp; rw [make_depth]; omega,by have:=r.un; rw [make_units]; omega⟩
theorem Room.depth {k:Nat} {A:Around} (r:Room k A):A.depth < recursionLimit:=by have:=r.dp; omega
theorem Room.units {k:Nat} {A:Around} (r:Room k A):A.units + 64 < cLine:=by have:=r.un; omega
theorem Room.units0 {k:Nat} {A:Around} (r:Room k A):A.units < cLine:=by have:=r.un; omega
def tNil:TA:=fun _ H Q => Q [] H
def tCons (ta:TE) (tr:TA):TA:=fun σ H Q => ta σ H fun x H1 => tr σ H1 fun xs H2 => Q (x :: xs) H2
section
variable {X:Cx} {e:Expr} {es:List Expr} {te:TE} {t:TA} {pos:Pos}
theorem pa_nil:PA X [] tNil:=fun _ _ _ _ H Q I h => Calls.spliced_nil ⟨[],H,I,.nil,h⟩
theorem pa_cons (ha:PE X e te) (hr:PA X es t) (hs:starEach (e :: es) X.env = (false,eval e X.env) :: starEach es X.env:=by rfl):PA X (e :: es) (tCons te t):=by
  intro pos pins s σ H Q I h
  rw [hs]
  show wpAny _ _ (spliced ((false,eval e X.env) :: backTo pos (starEach es X.env))) _ _ s
  refine Calls.spliced_cons (thn (ha pins s σ H _ I h) fun u s1 ⟨x,H1,I1,r1,q1⟩ => ?_)
  exact thn (hr pos pins s1 σ H1 _ I1 q1) fun us s2 ⟨xs,H2,I2,r2,q2⟩ => ⟨x :: xs,H2,I2,.cons r1 r2,q2⟩
def tTup (t:TA):TE:=fun σ H Q => t σ H fun xs H1 => xs.length <= sizeLine /\ ∀ p,H1 p = none -> Q (.ref p) (upd H1 p (.tup xs))
def tLst (t:TA):TE:=fun σ H Q => t σ H fun xs H1 => xs.length <= sizeLine /\ ∀ p,H1 p = none -> Q (.ref p) (upd H1 p (.lst xs))
theorem pe_tup {x1} (h:PA X es t):PE X (.Tuple es x1 pos) (tTup t):=by
  intro pins s σ H Q I hq
  refine wpAny_Tuple_spliced (thn (h pos pins s σ H _ I hq) fun us s1 ⟨xs,H1,I1,r,z,q⟩ => ⟨by rw [<- r.length]; exact z,?_⟩)
  have hf:H1 s1.heap.objs.size = none:=I1.hok.fresh (Nat.le_refl _)
  refine ⟨.ref s1.heap.objs.size,upd H1 s1.heap.objs.size (.tup xs),I1.laid (t':=s1.toks) (fun b u e => Heap.get?_push_of_some _ e) (Nat.le_refl _) ?_,rfl,q _ hf⟩
  exact ⟨z,us,r,⟨_,Heap.get?_push_size _ rfl,rfl,_,rfl⟩⟩
theorem pe_lst (h:PA X es t):PE X (.List es pos) (tLst t):=by
  intro pins s σ H Q I hq
  refine wpAny_List_spliced (thn (h pos pins s σ H _ I hq) fun us s1 ⟨xs,H1,I1,r,z,q⟩ => ⟨by rw [<- r.length]; exact z,?_⟩)
  have hf:H1 s1.heap.objs.size = none:=I1.hok.fresh (Nat.le_refl _)
  refine ⟨.ref s1.heap.objs.size,upd H1 s1.heap.objs.size (.lst xs),I1.laid (t':=s1.toks) (fun b u e => Heap.get?_push_of_some _ e) (Nat.le_refl _) ?_,rfl,q _ hf⟩
  exact ⟨z,us,0,r,Heap.get?_push_size _ rfl⟩
end
abbrev Sp:=List V -> Hp -> VK -> XK -> Prop
abbrev CXT:=List Env -> Hp -> Shared -> XK -> Value -> Shared -> Prop
structure Env0 (P:Program) (w:World) (K:PySem.W.Frag) (mg:Str -> Option Value) (base:Heap) (A:Around) (outer:List Env) (s:Shared) (H:Hp):Prop where
  frames:A.frames = some outer
  mod:Mod K mg base
  bs:∀ b o,base.get? b = some o -> s.heap.get? b = some o /\ H b = none
  bsz:base.objs.size <= s.heap.objs.size
  funs:s.heap.FunFrames base outer
  frf:∀ b ∈ frs outer,H b = none
  hok:HOk P w H s.heap
  bare:AllBare s.gens
def CE (outer:List Env) (P:Program) (w:World) (H:Hp) (s:Shared) (Q:VK) (u:Value) (s':Shared):Prop :=
  ∃ v H',s'.os = s.os /\ AllBare s'.gens /\ Un (frs outer) [] H H' s.heap s'.heap /\ HOk P w H' s'.heap /\ RelV v u /\ Q v H'
def CR (CX:CXT) (outer:List Env) (P:Program) (w:World) (H:Hp) (s:Shared) (Q:VK) (E:XK) (r:Result) (s':Shared):Prop :=
  match r with
  | .ok (.ret u) => CE outer P w H s Q u s'
  | .ok _ => False
  | .error e => CX outer H s E e s'
structure FnOk (P:Program) (w:World) (K:PySem.W.Frag) (mg:Str -> Option Value) (base:Heap) (CX:CXT) (k:Nat) (f:Addr) (fd:FuncData) (ps:List Str) (sp:Sp):Prop where
  len:∀ vs H Q E,sp vs H Q E -> vs.length = ps.length
  run:∀ (A:Around) (outer:List Env) (s:Shared) (H:Hp) (args:Args) (us:List Value) (vs:List V) (Q:VK) (E:XK),Room k A -> Env0 P w K mg base A outer s H -> BindsTo s fd args (ps.zip us) -> Vals vs us -> sp vs H Q E ->
    codeAny (model P w) A (.call (.ref f) args) (CR CX outer P w H s Q E) s
theorem Env0.make {P:Program} {w:World} {K:PySem.W.Frag} {mg:Str -> Option Value} {base:Heap} {A:Around} {outer:List Env} {s:Shared} {H:Hp} (e:Env0 P w K mg base A outer s H) (C:Addr) (us:List Value) (kw:List (Str × Value)) :
    Env0 P w K mg base (A.under (.builtin "type.__call__" ⟨.ref C :: us,kw⟩)) outer s H:=⟨by first | exact e.frames | (simpa [Around.under,Code.envs,Code.isFrame,pushEnvs] using e.frames),e.mod,e.bs,e.bsz,e.funs,e.frf,e.hok,e.bare⟩
section
variable {X:Cx} {pins:List (Addr × Obj)} {σ:St} {H:Hp} {s s':Shared}
theorem Inv.env0 (I:Inv X pins σ H s):Env0 X.prog X.w X.K X.mg X.base X.A X.stack s H :=
  ⟨I.ok.frames,I.ok.mod,I.bs,Nat.le_trans I.ok.bsz I.sz,I.stack,I.stkFree,I.hok,I.bare⟩
theorem Inv.after {Q:VK} {u:Value} (I:Inv X pins σ H s) (h:CE X.stack X.prog X.w H s Q u s'):EP X pins σ Q u s':=by
  obtain ⟨v,H',os,bare,un,hok,r,q⟩:=h
  obtain ⟨hh,g,d,t,os'⟩:=s'
  obtain rfl:os' = s.os:=os
  exact ⟨v,H',I.call (h':=hh) (g':=g) (d':=d) (t':=t) (ch:=[]) un hok bare (fun b z => absurd z (by simp)),r,q⟩
end
def tCall (sp:Sp) (dvs:List V) (E:XK) (t:TA):TE:=fun σ H Q => t σ H fun vs H1 => sp (vs ++ dvs) H1 Q E
def tMeth (C:Addr) (m:Str) (sp:Sp) (dvs:List V) (E:XK) (ta:TE) (t:TA):TE:=fun σ H Q => ta σ H fun x H1 => ∃ a dx fs,x = .ref a /\ H1 a = some (.ins C dx fs) /\ fs.lookup m = none /\
  t σ H1 fun vs H2 => sp (x :: (vs ++ dvs)) H2 Q E
def tMake (C:Addr) (sp:Sp) (dvs:List V) (E:XK) (t:TA):TE:=fun σ H Q => t σ H fun vs H1 => ∀ x dx,H1 x = none -> H1 dx = none -> dx ≠ x ->
  sp (.ref x :: (vs ++ dvs)) (upd (upd H1 dx (.own x)) x (.ins C dx [])) (fun v H2 => v = .non /\ Q (.ref x) H2) E
def Binds (K:PySem.W.Frag) (fd:FuncData) (ps:List Str) (ds:List Value):Prop :=
  ∀ (s:Shared) (us:List Value),K.In s.heap -> (us ++ ds).length = ps.length -> BindsTo s fd ⟨us,[]⟩ (ps.zip (us ++ ds))
theorem Binds.all {K:PySem.W.Frag} {fd:FuncData} {ps:List Str} (h:∀ us:List Value,us.length = ps.length -> bindArgs fd ⟨us,[]⟩ = pure (ps.zip us)):Binds K fd ps []:=fun s us _ hl => by
  rw [List.append_nil] at hl |-
  exact .of_eq (h us hl)
def Passes (CX:CXT) (X:Cx) (E:XK):Prop:=∀ (pins:List (Addr × Obj)) (σ:St) (H:Hp) (s:Shared) (e:Value) (s':Shared),Inv X pins σ H s -> CX X.stack H s E e s' -> X.xe e s'
section
variable {X:Cx} {CX:CXT} {k:Nat} {f C:Addr} {fd:FuncData} {ps:List Str} {sp:Sp} {dvs:List V} {ds:List Value} {E:XK} {x m:Str} {p pos apos:Pos} {e o:Expr} {es:List Expr} {ta:TE} {t:TA}
theorem run_fn {pins:List (Addr × Obj)} {σ:St} {H:Hp} {s:Shared} {Q:VK} {us:List Value} {vs:List V} (F:FnOk X.prog X.w X.K X.mg X.base CX k f fd ps sp) (hr:Room k X.A) (hb:Binds X.K fd ps ds) (hd:Vals dvs ds) (hx:Passes CX X E)
    (I:Inv X pins σ H s) (r:Vals vs us) (h:sp (vs ++ dvs) H Q E):wpAny (model X.prog X.w) X.A (call (.ref f) us) (EP X pins σ Q) X.xe s:=by
  have r2:Vals (vs ++ dvs) (us ++ ds):=r.append hd
  have hl:(us ++ ds).length = ps.length:=by rw [<- r2.length]; exact F.len _ _ _ _ h
  refine wpAny_call (codeAny_mono (F.run X.A X.stack s H ⟨us,[]⟩ (us ++ ds) (vs ++ dvs) Q E hr I.env0 (hb s us I.kIn hl) r2 h) fun r s' hq => ?_)
  cases r with
  | error e => exact hx pins σ H s e s' I hq
  | ok fl =>
    cases fl with
    | ret u => exact I.after hq
    | next => exact False.elim hq
    | brk => exact False.elim hq
    | cont => exact False.elim hq
theorem pe_call (F:FnOk X.prog X.w X.K X.mg X.base CX k f fd ps sp) (hr:Room k X.A) (hg:Gl X x) (hm:X.mg x = some (.ref f)) (hk:PySem.W.keepIn X.K (.ref f) = true) (hb:Binds X.K fd ps ds) (hd:Vals dvs ds) (hx:Passes CX X E)
    (ha:PA X (e :: es) t) (hdb:(x == ("__debug__":Str)) = false:=by decide) (he:starEach (e :: es) X.env = (false,eval e X.env) :: starEach es X.env:=by rfl) (hpl:(backTo pos (starEach es X.env)).any (·.1) = false:=by rfl) :
    PE X (.Call (.Name x p) (e :: es) [] pos) (tCall sp dvs E t):=by
  intro pins s σ H Q I h
  refine wpAny_Call_Name_kw (ld_glob I hg hm ?_ hdb)
  refine PySem.W.callWith_K (h₀:=X.base) I.ok.mod.kin hk (thn (ha pos pins s σ H _ I h) fun us s1 ⟨vs,H1,I1,r,q⟩ => ⟨I1.kIn,?_⟩) he hpl
  exact run_fn F hr hb hd hx I1 r q
theorem pe_meth {pl:Sem Bool} (he:PE X o ta) (c:Cls X.K C) (hm:Meth X.K C m f) (F:FnOk X.prog X.w X.K X.mg X.base CX k f fd ps sp) (hr:Room k X.A) (hb:Binds X.K fd ps ds) (hd:Vals dvs ds) (hx:Passes CX X E) (ha:PA X (e :: es) t)
    (hst:starEach (e :: es) X.env = (false,eval e X.env) :: starEach es X.env:=by rfl) (hpl:(backTo pos (starEach es X.env)).any (·.1) = false:=by rfl)
    (ht:eval (.Call (.Attribute o m apos) (e :: es) [] pos) X.env = (do
      let ov <- eval o X.env
      standAt apos.atName
      let (f,first) <- holding [ov] (getMethod ov m pl)
      callWith pos f first (backTo pos (starEach (e :: es) X.env)) (backToKw pos (keywordEach [] X.env))):=by rfl) :
    PE X (.Call (.Attribute o m apos) (e :: es) [] pos) (tMeth C m sp dvs E ta t):=by
  intro pins s σ H Q I h
  refine PySem.W.methodCall_KW (pl:=pl) (thn (he pins s σ H _ I h) fun u s1 ⟨x,H1,I1,rx,a,dx,fs,ex,ea,l,q⟩ => ?_) ht
  subst ex
  obtain rfl:u = Value.ref a:=rx
  refine getmeth_ok I1 ea c hm l ?_
  refine PySem.W.callWith_K (first:=[.ref a]) (h₀:=X.base) I.ok.mod.kin hm.kp (thn (ha pos pins s1 σ H1 _ I1 q) fun us s2 ⟨vs,H2,I2,r,q2⟩ => ⟨I2.kIn,?_⟩) hst hpl
  exact run_fn (us:=.ref a :: us) (vs:=.ref a :: vs) F hr hb hd hx I2 (.cons rfl r) q2
theorem pe_meth0 {pl:Sem Bool} (he:PE X o ta) (c:Cls X.K C) (hm:Meth X.K C m f) (F:FnOk X.prog X.w X.K X.mg X.base CX k f fd ps sp) (hr:Room k X.A) (hb:Binds X.K fd ps ds) (hd:Vals dvs ds) (hx:Passes CX X E)
    (ht:eval (.Call (.Attribute o m apos) [] [] pos) X.env = (do
      let ov <- eval o X.env
      standAt apos.atName
      let (f,first) <- holding [ov] (getMethod ov m pl)
      callWith pos f first (backTo pos (starEach [] X.env)) (backToKw pos (keywordEach [] X.env))):=by rfl) :
    PE X (.Call (.Attribute o m apos) [] [] pos) (tMeth C m sp dvs E ta tNil):=by
  intro pins s σ H Q I h
  refine PySem.W.methodCall_KW (pl:=pl) (thn (he pins s σ H _ I h) fun u s1 ⟨x,H1,I1,rx,a,dx,fs,ex,ea,l,q⟩ => ?_) ht
  subst ex
  obtain rfl:u = Value.ref a:=rx
  refine getmeth_ok I1 ea c hm l ?_
  exact PySem.W.callWith_K0 (first:=[.ref a]) I1.kIn hm.kp (run_fn (us:=[.ref a]) (vs:=[.ref a]) F hr hb hd hx I1 (.cons rfl .nil) q)
structure Mk (K:PySem.W.Frag) (C f:Addr):Prop where
  makes:PySem.W.makesIn K C = true
  init:PySem.W.findIn K (.ref C) "__init__" = some (some (.ref f))
  fn:PySem.W.isFn K (.ref f) = true
  kp:PySem.W.keepIn K (.ref C) = true
theorem run_make {pins:List (Addr × Obj)} {σ:St} {H:Hp} {s:Shared} {Q:VK} {us:List Value} {vs:List V} (M:Mk X.K C f) (F:FnOk X.prog X.w X.K X.mg X.base CX k f fd ps sp) (hr:Room (k + 1) X.A) (hb:Binds X.K fd ps ds) (hd:Vals dvs ds)
    (hx:Passes CX X E) (I:Inv X pins σ H s) (r:Vals vs us)
    (h:∀ x dx,H x = none -> H dx = none -> dx ≠ x -> sp (.ref x :: (vs ++ dvs)) (upd (upd H dx (.own x)) x (.ins C dx [])) (fun v H2 => v = .non /\ Q (.ref x) H2) E) :
    wpAny (model X.prog X.w) X.A (call (.ref C) us) (EP X pins σ Q) X.xe s:=by
  have hq:=h (s.heap.objs.size + 1) s.heap.objs.size (I.hok.fresh (Nat.le_succ _)) (I.hok.fresh (Nat.le_refl _)) (Nat.ne_of_lt (Nat.lt_succ_self _))
  have I2:=Inv.made (C:=C) I
  have r2:Vals (V.ref (s.heap.objs.size + 1) :: (vs ++ dvs)) (Value.ref (s.heap.objs.size + 1) :: (us ++ ds)):=.cons rfl (r.append hd)
  have hl:(Value.ref (s.heap.objs.size + 1) :: us ++ ds).length = ps.length:=by
    have e:=r2.length
    rw [F.len _ _ _ _ hq] at e
    exact e.symm
  refine wpAny_call (make_map (f:=f) I.kIn M.makes M.init (beq_iff_eq.mp M.fn) (codeAny_mono (F.run _ X.stack _ _ ⟨Value.ref (s.heap.objs.size + 1) :: us,[]⟩ (Value.ref (s.heap.objs.size + 1) :: (us ++ ds)) _ _ E (hr.make C us [])
    (I2.env0.make C us []) (hb _ (Value.ref (s.heap.objs.size + 1) :: us) I2.kIn hl) r2 hq) fun r s' hq' => ?_))
  cases r with
  | error e => exact hx pins σ _ _ e s' I2 hq'
  | ok fl =>
    cases fl with
    | ret u =>
      obtain ⟨v,H',I3,rv,ev,q3⟩:=I2.after hq'
      subst ev
      exact ⟨rv,⟨V.ref (s.heap.objs.size + 1),H',I3,rfl,q3⟩⟩
    | next => exact False.elim hq'
    | brk => exact False.elim hq'
    | cont => exact False.elim hq'
theorem pe_make (M:Mk X.K C f) (F:FnOk X.prog X.w X.K X.mg X.base CX k f fd ps sp) (hr:Room (k + 1) X.A) (hg:Gl X x) (hm:X.mg x = some (.ref C)) (hb:Binds X.K fd ps ds) (hd:Vals dvs ds) (hx:Passes CX X E)
    (ha:PA X (e :: es) t) (hdb:(x == ("__debug__":Str)) = false:=by decide) (he:starEach (e :: es) X.env = (false,eval e X.env) :: starEach es X.env:=by rfl) (hpl:(backTo pos (starEach es X.env)).any (·.1) = false:=by rfl) :
    PE X (.Call (.Name x p) (e :: es) [] pos) (tMake C sp dvs E t):=by
  intro pins s σ H Q I h
  refine wpAny_Call_Name_kw (ld_glob I hg hm ?_ hdb)
  refine PySem.W.callWith_K (h₀:=X.base) I.ok.mod.kin M.kp (thn (ha pos pins s σ H _ I h) fun us s1 ⟨vs,H1,I1,r,q⟩ => ⟨I1.kIn,?_⟩) he hpl
  exact run_make M F hr hb hd hx I1 r q
end
section
variable {X:Cx} {CX:CXT} {k:Nat} {f C:Addr} {fd:FuncData} {ps ks:List Str} {sp:Sp} {E:XK} {x m:Str} {p pos apos kpos:Pos} {e o:Expr} {es:List Expr} {kws:List Keyword} {te ta:TE} {t tk:TA} {nm:Option Str}
structure KBinds (K:PySem.W.Frag) (fd:FuncData) (ps ks:List Str) (g:List Value -> List Value -> List Value) (gV:List V -> List V -> List V):Prop where
  to:∀ (s:Shared) (us ws:List Value),K.In s.heap -> (g us ws).length = ps.length -> BindsTo s fd ⟨us,ks.zip ws⟩ (ps.zip (g us ws))
  rel:∀ {vs:List V} {us:List Value} {zs:List V} {ws:List Value},Vals vs us -> Vals zs ws -> Vals (gV vs zs) (g us ws)
variable {g:List Value -> List Value -> List Value} {gV:List V -> List V -> List V}
end
structure FnScope (N P:List Str) (sc:Scope):Prop where
  kind:sc.kind = .function
  co:sc.isCoroutine = false
  gen:sc.isGenerator = false
  nd:N.Nodup
  pre:N.take P.length = P
  par:∀ x ∈ P,sc.names.lookup x = some .local \/ sc.names.lookup x = some .cell
  nofree:∀ y ∈ sc.names,y.2 ≠ .free
theorem bindL_out {kindOf:Str -> Option NameKind} {x:Str}:∀ {binds:List (Str × Value)} {m:Str -> Option Value},(∀ v,(x,v) ∉ binds) -> bindL kindOf binds m x = m x
  | [],_,_ => rfl
  | (n,v) :: r,m,h => by
    unfold bindL
    rw [bindL_out fun w hw => h w (List.mem_cons_of_mem _ hw)]
    split
    . have:x ≠ n:=by rintro rfl; exact h v List.mem_cons_self
      simp [this]
    . rfl
theorem bindC_out {kindOf:Str -> Option NameKind} {x:Str}:∀ {binds:List (Str × Value)} {m:Str -> Option Value},(∀ v,(x,v) ∉ binds) -> bindC kindOf binds m x = m x
  | [],_,_ => rfl
  | (n,v) :: r,m,h => by
    unfold bindC
    rw [bindC_out fun w hw => h w (List.mem_cons_of_mem _ hw)]
    split
    . rfl
    . have:x ≠ n:=by rintro rfl; exact h v List.mem_cons_self
      simp [this]
theorem bindL_get {kindOf:Str -> Option NameKind} {x:Str} {v:Value}:∀ {P:List Str} {vs:List Value} {i:Nat} {m:Str -> Option Value},P.Nodup -> P[i]? = some x -> vs[i]? = some v -> kindOf x = some .local ->
    bindL kindOf (P.zip vs) m x = some v
  | [],_,_,_,_,h,_,_ => by simp at h
  | _ :: _,[],_,_,_,_,h,_ => by simp at h
  | p :: P,w :: vs,0,m,nd,h1,h2,hk => by
    simp at h1 h2; subst h1; subst h2
    show bindL kindOf ((p,w) :: P.zip vs) m p = _
    unfold bindL
    rw [bindL_out fun v hv => (List.nodup_cons.mp nd).1 (List.of_mem_zip hv).1,if_pos hk]
    simp
  | p :: P,w :: vs,i + 1,m,nd,h1,h2,hk => by
    show bindL kindOf ((p,w) :: P.zip vs) m x = _
    unfold bindL
    exact bindL_get (i:=i) (List.nodup_cons.mp nd).2 (by simpa using h1) (by simpa using h2) hk
theorem bindC_get {kindOf:Str -> Option NameKind} {x:Str} {v:Value}:∀ {P:List Str} {vs:List Value} {i:Nat} {m:Str -> Option Value},P.Nodup -> P[i]? = some x -> vs[i]? = some v -> kindOf x ≠ some .local ->
    bindC kindOf (P.zip vs) m x = some v
  | [],_,_,_,_,h,_,_ => by simp at h
  | _ :: _,[],_,_,_,_,h,_ => by simp at h
  | p :: P,w :: vs,0,m,nd,h1,h2,hk => by
    simp at h1 h2; subst h1; subst h2
    show bindC kindOf ((p,w) :: P.zip vs) m p = _
    unfold bindC
    rw [bindC_out fun v hv => (List.nodup_cons.mp nd).1 (List.of_mem_zip hv).1,if_neg hk]
    simp
  | p :: P,w :: vs,i + 1,m,nd,h1,h2,hk => by
    show bindC kindOf ((p,w) :: P.zip vs) m x = _
    unfold bindC
    exact bindC_get (i:=i) (List.nodup_cons.mp nd).2 (by simpa using h1) (by simpa using h2) hk
def start (N:List Str) (vs:List V):St:=vs.map some ++ List.replicate (N.length - vs.length) none
def cxOf (CX:CXT) (P:Program) (w:World) (K:PySem.W.Frag) (mg:Str -> Option Value) (base:Heap) (N:List Str) (qual:Str) (scope:Scope) (f:Addr) (cd:Value) (A:Around) (outer:List Env) (s:Shared) (H:Hp) (E:XK):Cx where
  prog:=P
  w:=w
  K:=K
  mg:=mg
  base:=base
  A:=A.deeper (envOfC qual scope s.heap.objs.size f cd)
  N:=N
  s_0:=s
  H_0:=H
  env:=envOfC qual scope s.heap.objs.size f cd
  outer:=outer
  stack:=envOfC qual scope s.heap.objs.size f cd :: outer
  ex:=[]
  calm:=true
  fn:=fun _ => true
  pn:=[]
  xe:=fun e s' => wpAny (model P w) (A.deeper (envOfC qual scope s.heap.objs.size f cd)) (leaving (envOfC qual scope s.heap.objs.size f cd) e) (fun _ s'' => CX outer H s E e s'') (fun e' s'' => CX outer H s E e' s'') s'
theorem cell_has {sc:Scope} {n:Nat} {x:Str} (h:sc.names.lookup x = some .cell):∃ c,(cellsFrom n sc.names []).lookup x = some c:=by
  have q:=PySem.W.cellsFrom_some sc.names n [] (.inl h)
  exact Option.isSome_iff_exists.mp q
theorem inv_start {CX:CXT} {P:Program} {w:World} {K:PySem.W.Frag} {mg:Str -> Option Value} {base:Heap} {N ps:List Str} {qual:Str} {scope:Scope} {f:Addr} {cd:Value} {A:Around} {outer:List Env} {s s1:Shared} {H:Hp} {E:XK} {us:List Value} {vs:List V}
    (S:FnScope N ps scope) (hd:A.handled = none) (e0:Env0 P w K mg base A outer s H) (hl:vs.length = ps.length) (r:Vals vs us)
    (x:InCallC s s.heap.objs.size (bindL (envOfC qual scope s.heap.objs.size f cd).kindOf (ps.zip us) fun _ => none) (cellsFrom (s.heap.objs.size + 1) scope.names []) (bindC (envOfC qual scope s.heap.objs.size f cd).kindOf (ps.zip us) fun _ => none) s1) :
    Inv (cxOf CX P w K mg base N qual scope f cd A outer s H E) [] (start N vs) H s1:=by
  have hpl:ps.length <= N.length:=by have:=congrArg List.length S.pre; rw [List.length_take] at this; omega
  obtain ⟨h1,tk,rfl,hk⟩:=x.done
  have noA:∀ b:Addr,b ∉ (cxOf CX P w K mg base N qual scope f cd A outer s H E).ex:=fun b z => absurd (show b ∈ ([]:List Addr) from z) (by simp)
  refine ⟨⟨e0.mod,S.kind,rfl,rfl,Nat.le_refl _,fun y z c h1 h2 => ?_,fun y hy => ?_,fun y c _ h => ?_,fun _ => hd,Around.frames_deeper e0.frames,.inr ⟨rfl,rfl⟩,fun b z => absurd z (noA b),e0.bs,e0.bsz,fun b _ _ => noA b,fun b z => absurd z (noA b),e0.funs,e0.frf⟩,
    rfl,e0.bare,Un.kept hk,⟨_,x.toInCall.ns,fun i y v h1 h2 h3 => ?_⟩,fun y c h => ⟨_,x.cell y c h⟩,e0.hok.fresh (Nat.le_refl _),fun y c h => ?_,fun p hp => absurd (show p ∈ ([]:List (Addr × Obj)) from hp) (by simp),e0.hok.kept hk,?_⟩
  . exact name_of_addr x.apart (PySem.mem_of_lookup h1) (PySem.mem_of_lookup h2)
  . have hy:scope.names.lookup y = some .cell \/ scope.names.lookup y = some .free:=hy
    rcases hy with hy | hy
    . exact cell_has hy
    . exact absurd rfl (S.nofree _ (PySem.mem_of_lookup hy))
  . exact Nat.le_of_lt (x.above y c (PySem.mem_of_lookup h))
  . have hi:i < vs.length:=by
      unfold start at h2
      by_cases hi:i < vs.length
      . exact hi
      . rw [List.getElem?_append_right (by simpa using hi)] at h2
        rw [List.getElem?_replicate] at h2
        split at h2 <;> cases h2
    have ha:vs[i]? = some v:=by
      unfold start at h2
      rw [List.getElem?_append_left (by simpa using hi),List.getElem?_map] at h2
      cases e:vs[i]? with
      | none => rw [e] at h2; cases h2
      | some a => rw [e] at h2; cases h2; rfl
    obtain ⟨u,hu,rv⟩:=r.get ha
    have hp:ps[i]? = some y:=by
      rw [<- S.pre,List.getElem?_take_of_lt (by omega)]; exact h1
    have ndP:ps.Nodup:=by rw [<- S.pre]; exact S.nd.sublist (List.take_sublist _ _)
    refine ⟨u,rv,?_⟩
    rcases S.par y (List.mem_of_getElem? hp) with k | k
    . exact .inl ⟨k,bindL_get ndP hp hu k⟩
    . obtain ⟨c,e⟩:=cell_has (n:=s.heap.objs.size + 1) k
      refine .inr ⟨.inl k,c,e,?_⟩
      have q:=x.cell y c e
      rw [bindC_get ndP hp hu (by show scope.names.lookup y ≠ _; rw [k]; decide)] at q
      exact q
  . exact e0.hok.fresh (Nat.le_of_lt (x.above y c (PySem.mem_of_lookup h)))
  . unfold start
    show _ = N.length
    rw [List.length_append,List.length_map,List.length_replicate]
    omega
theorem fn_of {CX:CXT} {P:Program} {w:World} {K:PySem.W.Frag} {mg:Str -> Option Value} {base:Heap} {k:Nat} {f:Addr} {name qual:Str} {params:Arguments} {body:List Stmt} {scope:Scope} {dV kV doc pm cdv ct oc:Value} {an od:Option Addr}
    {osl:Array (Option Value)} {N ps:List Str} {sp:Sp} (lk:K.lookup f = some ⟨oc,od,.func (PySem.W.fnOf name qual params body scope dV kV doc pm an cdv ct),osl⟩) (hcd:PySem.W.codeIn K cdv qual = true) (S:FnScope N ps scope)
    (len:∀ vs H Q E,sp vs H Q E -> vs.length = ps.length)
    (hbody:∀ (A:Around) (outer:List Env) (s:Shared) (H:Hp) (vs:List V) (Q:VK) (E:XK),Room k (A.deeper (envOfC qual scope s.heap.objs.size f cdv)) -> sp vs H Q E ->
      ∃ t,PSs (cxOf CX P w K mg base N qual scope f cdv A outer s H E) body t /\ t { nx:=fun _ H' => Q .non H',rt:=Q } (start N vs) H) :
    FnOk P w K mg base CX (k + 1) f (PySem.W.fnOf name qual params body scope dV kV doc pm an cdv ct) ps sp:=by
  refine ⟨len,fun A outer s H args us vs Q E hr e0 hb r hsp => ?_⟩
  have hl:=len _ _ _ _ hsp
  have KX:K.In s.heap:=e0.mod.kin.keeps fun b o e => (e0.bs b o e).1
  have lim:s.heap.NoLimit:=e0.mod.nolimit.keeps fun b o e => (e0.bs b o e).1
  have hkind:∀ y ∈ ps.zip us,scope.names.lookup y.1 = some .local \/ (scope.names.lookup y.1 = some .cell /\ ((cellsFrom (s.heap.objs.size + 1) scope.names []).lookup y.1).isSome = true):=fun ⟨n,v⟩ hy => by
    rcases S.par n (List.of_mem_zip hy).1 with q | q
    . exact .inl q
    . exact .inr ⟨q,PySem.W.cellsFrom_some _ _ _ (.inl q)⟩
  refine codeAny_call_function hr.depth (KX _ _ lk) rfl S.co S.gen rfl (PySem.W.codeRec_of KX hcd) (hb _ _ _ _ ?_)
  refine wpAny_newFunctionEnv_cells S.kind hkind fun env he s1 x => ?_
  subst he
  refine ⟨lim.keeps x.toInCall.keep,codeAny_func ?_⟩
  obtain ⟨t,ht,hq⟩:=hbody A outer s H vs Q E (hr.deeper _) hsp
  have I:Inv (cxOf CX P w K mg base N qual scope f cdv A outer s H E) [] (start N vs) H s1:=inv_start S hr.hd e0 hl r x
  refine wpAny_mono (ht [] s1 (start N vs) H _ I hq) (fun fl s' hs => ?_) fun e s' hs => hs
  have fin:∀ {σ':St} {H':Hp} {v:V} {u:Value},Inv (cxOf CX P w K mg base N qual scope f cdv A outer s H E) [] σ' H' s' -> RelV v u -> Q v H' -> CE outer P w H s Q u s' :=
    fun {σ' H' v u} J rv q => ⟨v,H',J.os,J.bare,J.base,J.hok,rv,q⟩
  cases fl with
  | ret u =>
    obtain ⟨v,σ',H',J,rv,q⟩:=hs
    exact fin J rv q
  | next =>
    obtain ⟨σ',H',J,q⟩:=hs
    exact fin (v:=V.non) (u:=Value.none) J rfl q
  | brk =>
    obtain ⟨_,_,_,q⟩:=hs
    exact False.elim q
  | cont =>
    obtain ⟨_,_,_,q⟩:=hs
    exact False.elim q
end L2
namespace L2
open PySem PySem.Spec PyProof.Rows
section
variable {X:Cx} {x:Str} {p pos:Pos} {e:Expr} {es:List Expr} {t:TA} {id T:String} {r:List V -> Hp -> VK -> Prop}
def tCB (r:List V -> Hp -> VK -> Prop) (t:TA):TE:=fun σ H Q => t σ H fun vs H1 => r vs H1 Q
theorem pe_callB (hc : CallR X (.builtin id) r) (hg : Gl X x) (hm : X.mg x = none) (hv : bootBuiltins x = some (.builtin id)) (ha : PA X (e :: es) t) (hn : x ≠ "__name__" := by decide) (hdb : (x == ("__debug__" : Str)) = false := by decide)
    (he:starEach (e :: es) X.env = (false,eval e X.env) :: starEach es X.env:=by rfl) (hpl:(backTo pos (starEach es X.env)).any (·.1) = false:=by rfl):PE X (.Call (.Name x p) (e :: es) [] pos) (tCB r t):=by
  intro pins s σ H Q I h
  refine wpAny_Call_Name_kw (ld_blt I hg hm hv ?_ hn hdb)
  exact PyProof.Rows.callWith_builtin1 (thn (ha pos pins s σ H _ I h) fun us s1 ⟨vs,H1,I1,r1,q1⟩ => hc pins s1 σ H1 vs us Q I1 r1 q1) he hpl
theorem pe_callTy (hc : CallR X (.type T) r) (hg : Gl X x) (hm : X.mg x = none) (hv : bootBuiltins x = some (.type T)) (ha : PA X (e :: es) t) (hn : x ≠ "__name__" := by decide) (hdb : (x == ("__debug__" : Str)) = false := by decide)
    (he:starEach (e :: es) X.env = (false,eval e X.env) :: starEach es X.env:=by rfl) (hpl:(backTo pos (starEach es X.env)).any (·.1) = false:=by rfl):PE X (.Call (.Name x p) (e :: es) [] pos) (tCB r t):=by
  intro pins s σ H Q I h
  refine wpAny_Call_Name_kw (ld_blt I hg hm hv ?_ hn hdb)
  exact PyProof.Rows.callWith_type1 (thn (ha pos pins s σ H _ I h) fun us s1 ⟨vs,H1,I1,r1,q1⟩ => hc pins s1 σ H1 vs us Q I1 r1 q1) he hpl
end
end L2
namespace HT
open PySem PyProof.Rows
def lexLt:List Int -> List Int -> Bool
  | [],[] => false
  | [],_ :: _ => true
  | _ :: _,[] => false
  | x :: xs,y :: ys => if x = y then lexLt xs ys else decide (x < y)
theorem lexLt_cons (x y:Int) (xs ys:List Int):lexLt (x :: xs) (y :: ys) = if x = y then lexLt xs ys else decide (x < y):=rfl
theorem lexLt_nil_nil:lexLt [] [] = false:=rfl
section
open PySem.SeqAt
open PySem.AutoSeq1 (wpAny_loadPart')
open PySem.MeetsSeq PySem.MeetsSeq2 PySem.MeetsSeq3
end
section
variable {prog:Program} {w:World} {A:Around} {E:Value -> Shared -> Prop} {s:Shared}
theorem cat_tup {t b:Addr} {vs ws:List Value} {Q:Value -> Shared -> Prop} (ht:IsTup s.heap t vs.toArray) (hb:IsTup s.heap b ws.toArray) (hv:vs ≠ [])
    (h1:ws = [] -> Q (.ref t) s) (h2:ws ≠ [] -> Q (.ref s.heap.objs.size) { s with heap:=s.heap.push { cls:=.type "tuple",data:=.seq (vs ++ ws).toArray } })
    (hsz:vs.length + ws.length <= sizeLine):wpAny (model prog w) A (binaryOp .Add (.ref t) (.ref b)) Q E s:=by
  obtain ⟨⟨cls,dd,data,sl⟩,ho,hc,n,hd⟩:=id ht
  obtain ⟨⟨cls2,dd2,data2,sl2⟩,ho2,hc2,n2,hd2⟩:=id hb
  simp only at hc hd hc2 hd2
  subst hc hd hc2 hd2
  have e:vs.toArray ++ ws.toArray = (vs ++ ws).toArray:=by simp
  by_cases hw:ws = []
  . exact concat_meets ⟨_,ho,rfl⟩ ⟨_,ho2,rfl⟩ noFill_tuple_add seq_tuple_add PySem.F.slot_tuple_add PySem.F.entry_tuple_add (PySem.F.args_tuple_add_2 _ _)
      (tuple_addW1 t b vs.toArray ws.toArray n n2 dd dd2 sl sl2 (by simpa using hv) (by simp [hw])) ⟨ho,ho2,h1 hw⟩
  . refine concat_meets ⟨_,ho,rfl⟩ ⟨_,ho2,rfl⟩ noFill_tuple_add seq_tuple_add PySem.F.slot_tuple_add PySem.F.entry_tuple_add (PySem.F.args_tuple_add_2 _ _)
      (tuple_addW2 t b vs.toArray ws.toArray n n2 dd dd2 sl sl2 (by simpa using hv) (by simpa using hw) (by rw [List.size_toArray,List.size_toArray]; exact hsz)) ⟨ho,ho2,?_⟩
    rw [e]
    exact h2 hw
def sIx (n d:Nat):Option Int -> Nat
  | none => d
  | some v => if v < 0 then (v + (n:Int)).toNat else min v.toNat n
theorem sIx_nat (n d k:Nat):sIx n d (some (k:Int)) = min k n:=by
  show (if (k:Int) < 0 then ((k:Int) + (n:Int)).toNat else min (k:Int).toNat n) = min k n
  rw [if_neg (by omega),Int.toNat_natCast]
end
end HT
namespace L2
open PySem PySem.Spec PyProof.Rows
abbrev TO:=St -> Hp -> (Option Int -> Hp -> Prop) -> Prop
def PO (X:Cx) (e:Option Expr) (t:TO):Prop :=
  ∀ (pins:List (Addr × Obj)) (s:Shared) (σ:St) (H:Hp) (Q:Option Int -> Hp -> Prop),Inv X pins σ H s -> t σ H Q ->
    wpAny (model X.prog X.w) X.A (evalPart e X.env) (fun u s' => ∃ o H',Inv X pins σ H' s' /\ IsPart u o /\ Q o H') X.xe s
def tPart (t:TE):TO:=fun σ H Q => t σ H fun x H1 => ∃ i,x = .int i /\ Q (some i) H1
theorem intsAre_of {ns:List Int}:∀ {us:List Value},Vals (ns.map V.int) us -> IntsAre us ns:=by
  induction ns with
  | nil => intro us r; rw [List.map_nil] at r; cases r; exact .nil
  | cons n ns ih =>
    intro us r
    rw [List.map_cons] at r
    cases r with
    | cons r1 r2 =>
      obtain ⟨t,e⟩:=r1
      subst e
      exact .cons n t (ih r2)
section
variable {X:Cx} {e:Expr} {te:TE} {lo hi:Option Expr} {tl th:TO} {pos p2:Pos}
theorem po_some (h:PE X e te):PO X (some e) (tPart te):=by
  intro pins s σ H Q I hw
  rw [evalPart_some]
  refine thn (h pins s σ H _ I hw) fun u s1 ⟨x,H1,I1,r1,q1⟩ => ?_
  obtain ⟨i,rfl,q⟩:=q1
  obtain ⟨t,rfl⟩:=r1
  exact ⟨some i,H1,I1,.int i t,q⟩
def SlR (X:Cx) (r:V -> Option Int -> Option Int -> Hp -> VK -> Prop):Prop :=
  ∀ (pins:List (Addr × Obj)) (s:Shared) (σ:St) (H:Hp) (x:V) (v vl vu:Value) (lo hi:Option Int) (sl:Addr) (Q:VK),Inv X pins σ H s -> RelV x v -> s.heap.IsSliceOf sl vl vu .none -> IsPart vl lo -> IsPart vu hi -> r x lo hi H Q ->
    ∃ T id,typeLookup (.type T) "__getitem__" = pure (some (.builtin id)) /\ s.TypeIs v T /\ wpAny (model X.prog X.w) X.A (getItem v (.ref sl)) (EP X pins σ Q) X.xe s
def tSl (r:V -> Option Int -> Option Int -> Hp -> VK -> Prop) (te:TE) (tl th:TO):TE:=fun σ H Q => te σ H fun x H1 => tl σ H1 fun l H2 => th σ H2 fun u H3 => r x l u H3 Q
theorem pe_slice {r:V -> Option Int -> Option Int -> Hp -> VK -> Prop} (hr:SlR X r) (he:PE X e te) (hl:PO X lo tl) (hu:PO X hi th):PE X (.Subscript e (.Slice lo hi none p2) pos) (tSl r te tl th):=by
  intro pins s σ H Q I h
  refine Subscript_ (thn (he pins s σ H _ I h) fun v s1 ⟨x,H1,I1,r1,q1⟩ => ?_)
  refine wpAny_Slice (thn (hl pins s1 σ H1 _ I1 q1) fun vl s2 ⟨l,H2,I2,pl,q2⟩ => thn (hu pins s2 σ H2 _ I2 q2) fun vu s3 ⟨u,H3,I3,pu,q3⟩ => ?_)
  rw [evalPart_none]
  refine wpAny_pure ?_
  have I4:Inv X pins σ H3 { s3 with heap:=s3.heap.push { cls:=.type "slice",data:=.fields #[vl,vu,.none] } }:=I3.kept (t':=s3.toks) fun b ob q => Heap.get?_push_of_some _ q
  obtain ⟨T,id,hT,ht,hg⟩:=hr pins { s3 with heap:=s3.heap.push { cls:=.type "slice",data:=.fields #[vl,vu,.none] } } σ H3 x v vl vu l u s3.heap.objs.size Q I4 r1 (Heap.IsSliceOf.new ..) pl pu q3
  show wpAny (model X.prog X.w) X.A (subscriptTail e (.Slice lo hi none p2) v (.ref s3.heap.objs.size)) (EP X pins σ Q) X.xe { s3 with heap:=s3.heap.push { cls:=.type "slice",data:=.fields #[vl,vu,.none] } }
  exact tail_any (ops:=[.ref s3.heap.objs.size,v]) ht hT hg (by with_unfolding_all rfl)
def cutV (xs:List V) (lo hi:Option Int):List V:=(xs.drop (HT.sIx xs.length 0 lo)).take (HT.sIx xs.length xs.length hi - HT.sIx xs.length 0 lo)
theorem cutV_length (xs:List V) (lo hi:Option Int):(cutV xs lo hi).length <= xs.length:=by
  unfold cutV
  rw [List.length_take,List.length_drop]
  omega
def rCatT (K:PySem.W.Frag):R2:=fun x y H Q => ∃ a b xs ys,x = .ref a /\ y = .ref b /\ SqT K H a xs /\ SqT K H b ys /\ xs ≠ [] /\ xs.length + ys.length <= sizeLine /\
  (ys = [] -> Q (.ref a) H) /\ (ys ≠ [] -> ∀ p,H p = none -> Q (.ref p) (upd H p (.tup (xs ++ ys))))
theorem Vals.nil_iff {xs:List V} {us:List Value} (r:Vals xs us):us = [] ↔ xs = []:=by
  cases r with
  | nil => simp
  | cons _ _ => simp
theorem op_catT:OpR X (binaryOp .Add) (rCatT X.K):=by
  intro pins s σ H x y v u Q I rx ry h
  obtain ⟨a,b,xs,ys,rfl,rfl,ha,hb,hx,hz,q1,q2⟩:=h
  cases rx
  cases ry
  obtain ⟨its,r1,p1,_⟩:=I.tuple ha
  obtain ⟨its2,r2,p2,_⟩:=I.tuple hb
  refine HT.cat_tup p1 p2 (fun z => hx (r1.nil_iff.mp z)) (fun z => ⟨.ref a,H,I,rfl,q1 (r2.nil_iff.mp z)⟩) (fun z => ?_) (by rw [<- r1.length,<- r2.length]; exact hz)
  refine ⟨.ref s.heap.objs.size,_,I.laid (t':=s.toks) (o:=.tup (xs ++ ys)) (fun b ob q => Heap.get?_push_of_some _ q) (Nat.le_refl _) ?_,rfl,q2 (fun w => z (r2.nil_iff.mpr w)) _ (I.hok.fresh (Nat.le_refl _))⟩
  exact ⟨by rw [List.length_append]; exact hz,_,r1.append r2,IsTup.new _ _⟩
end
end L2
namespace L2
open PySem PySem.Spec PyProof.Rows
def ixN (n:Nat) (i:Int):Option Nat:=if 0 <= i then (if i < n then some i.toNat else none) else if -(n:Int) <= i then some (i + n).toNat else none
def atI {α:Type} (xs:List α) (i:Int):Option α:=(ixN xs.length i).bind fun j => xs[j]?
theorem ixN_seq {n:Nat} {i:Int} {j:Nat} (h:ixN n i = some j):seqIndex? i n = some j /\ j < n /\ -(n:Int) <= i /\ i < n:=by
  unfold ixN at h
  by_cases h0:0 <= i
  . rw [if_pos h0] at h
    by_cases h1:i < n
    . rw [if_pos h1] at h
      have e:i.toNat = j:=Option.some.inj h
      exact ⟨by rw [seqIndex_of h0 h1,e],by omega,by omega,h1⟩
    . rw [if_neg h1] at h; cases h
  . rw [if_neg h0] at h
    by_cases h1:-(n:Int) <= i
    . rw [if_pos h1] at h
      have e:(i + n).toNat = j:=Option.some.inj h
      exact ⟨by rw [seqIndex_neg (by omega) h1,e],by omega,h1,by omega⟩
    . rw [if_neg h1] at h; cases h
theorem atI_get {α:Type} {xs:List α} {i:Int} {v:α} (h:atI xs i = some v):∃ j,seqIndex? i xs.length = some j /\ xs[j]? = some v /\ j < xs.length /\ -(xs.length:Int) <= i /\ i < xs.length:=by
  unfold atI at h
  cases e:ixN xs.length i with
  | none => rw [e] at h; cases h
  | some j =>
    rw [e] at h
    obtain ⟨h1,h2,h3,h4⟩:=ixN_seq e
    exact ⟨j,h1,h,h2,h3,h4⟩
theorem atI_nat {α:Type} {xs:List α} {j:Nat} {v:α} (h:xs[j]? = some v):atI xs (j:Int) = some v:=by
  have hj:j < xs.length:=(List.getElem?_eq_some_iff.mp h).1
  have e:ixN xs.length (j:Int) = some j:=by
    unfold ixN
    rw [if_pos (by omega),if_pos (by omega)]; simp
  unfold atI; rw [e]; exact h
def PlainIx (b:Expr):Prop:=∀ o i,subscripted b false o i = operate [o,i] (getItem o i)
def IxR (X:Cx) (r:R2):Prop :=
  ∀ (value slice:Expr) (pins:List (Addr × Obj)) (s:Shared) (σ:St) (H:Hp) (x y:V) (v u:Value) (Q:VK),Inv X pins σ H s -> RelV x v -> RelV y u -> r x y H Q ->
    subscripted slice false v u = operate [v,u] (getItem v u) -> wpAny (model X.prog X.w) X.A (subscriptTail value slice v u) (EP X pins σ Q) X.xe s
def MtR (X:Cx) (id:String) (r:V -> List V -> Hp -> VK -> Prop):Prop :=
  ∀ (pins:List (Addr × Obj)) (s:Shared) (σ:St) (H:Hp) (x:V) (xs:List V) (v:Value) (us:List Value) (Q:VK),Inv X pins σ H s -> RelV x v -> Vals xs us -> r x xs H Q ->
    wpAny (model X.prog X.w) X.A (call (.builtin id) (v :: us)) (EP X pins σ Q) X.xe s
section
variable {X:Cx} {a b:Expr} {ta tb:TE} {pos:Pos}
theorem pe_ix {r:R2} (hr:IxR X r) (ha:PE X a ta) (hb:PE X b tb) (hs:PlainIx b):PE X (.Subscript a b pos) (tOp r ta tb):=by
  intro pins s σ H Q I h
  exact Subscript_ (binT ha hb I h fun v u s2 x y H2 I2 rx ry q => hr a b pins s2 σ H2 x y v u Q I2 rx ry q (hs _ _))
def rIxL (K:PySem.W.Frag):R2:=fun x y H Q => ∃ p xs i v,x = .ref p /\ y = .int i /\ SqL K H p xs /\ atI xs i = some v /\ Q v H
def rIxT (K:PySem.W.Frag):R2:=fun x y H Q => ∃ p xs i v,x = .ref p /\ y = .int i /\ SqT K H p xs /\ atI xs i = some v /\ Q v H
theorem ix_list:IxR X (rIxL X.K):=by
  intro value slice pins s σ H x y v u Q I rx ry h hs
  obtain ⟨p,xs,i,z,rfl,rfl,hq,he,q⟩:=h
  cases rx
  obtain ⟨t,rfl⟩:=ry
  obtain ⟨its,r,pl,hz⟩:=I.list hq
  obtain ⟨j,h1,h2,h3,h4,h5⟩:=atI_get he
  obtain ⟨w,ew,rw'⟩:=r.get h2
  have hl:=r.length
  have hn:=line63
  have fin:EP X pins σ Q w s:=⟨z,H,I,rw',q⟩
  by_cases h0:0 <= i
  . have hj:i.toNat = j:=by
      rw [seqIndex_of h0 h5] at h1
      exact Option.some.inj h1
    exact item_listR pl.isList h0 (by omega) (by rw [hj]; simpa using ew) fin hs
  . have hj:(i + (its.toArray.size:Int)).toNat = j:=by
      rw [seqIndex_neg (by omega) h4] at h1
      rw [List.size_toArray,<- hl]
      exact Option.some.inj h1
    exact subscriptTail_builtinR (x:=w) pl.isList.typeIs slot_list_getitem.lookup
      (wpAny_getItem_list_neg (Q:=fun r s' => r = w /\ EP X pins σ Q r s') pl.isList (by omega) (by rw [List.size_toArray] <;> omega) (by omega) (by rw [hj]; simpa using ew) ⟨rfl,fin⟩) hs
theorem ix_tup:IxR X (rIxT X.K):=by
  intro value slice pins s σ H x y v u Q I rx ry h hs
  obtain ⟨p,xs,i,z,rfl,rfl,hq,he,q⟩:=h
  cases rx
  obtain ⟨t,rfl⟩:=ry
  obtain ⟨its,r,pl,hz⟩:=I.tuple hq
  obtain ⟨j,h1,h2,h3,h4,h5⟩:=atI_get he
  obtain ⟨w,ew,rw'⟩:=r.get h2
  have hl:=r.length
  have hn:=line63
  have fin:EP X pins σ Q w s:=⟨z,H,I,rw',q⟩
  exact subscriptTail_builtinR (x:=w) pl.typeIs slot_tuple_getitem.lookup
    (getItem_tuple (j:=j) (Q:=fun r s' => r = w /\ EP X pins σ Q r s') pl (by omega) (by omega) (by rw [List.size_toArray,<- hl]; exact h1) (by simpa using ew) ⟨rfl,fin⟩) hs
theorem mapSeq_set (its : List Value) (n j : Nat) (u : Value) : Obj.mapSeq (·.setIfInBounds j u) { cls := .type "list", data := .seq its.toArray n } = { cls := .type "list", data := .seq (its.set j u).toArray n } := by
  simp [Obj.mapSeq]
theorem Inv.lst {pins:List (Addr × Obj)} {σ:St} {H:Hp} {s:Shared} {p:Addr} {xs:List V} (I:Inv X pins σ H s) (h:H p = some (.lst xs)) :
    ∃ (its:List Value) (n:Nat),Vals xs its /\ s.heap.get? p = some { cls:=.type "list",data:=.seq its.toArray n } /\ xs.length <= sizeLine:=by
  obtain ⟨z,its,n,r,e⟩:=I.hok p _ h
  exact ⟨its,n,r,e,z⟩
theorem Inv.lstUpd {pins:List (Addr × Obj)} {σ:St} {H:Hp} {s:Shared} {p:Addr} {xs ys:List V} {its its':List Value} {n n':Nat} {f:Obj -> Obj} (I:Inv X pins σ H s) (h:H p = some (.lst xs))
    (ho : s.heap.get? p = some { cls := .type "list", data := .seq its.toArray n }) (hf : f { cls := .type "list", data := .seq its.toArray n } = { cls := .type "list", data := .seq its'.toArray n' }) (r : Vals ys its') (hz : ys.length <= sizeLine) (t : Nat) :
    Inv X pins σ (upd H p (.lst ys)) { s with heap:=s.heap.update p f,toks:=t }:=by
  have e:(s.heap.update p f).get? p = some { cls:=.type "list",data:=.seq its'.toArray n' }:=by
    rw [Heap.get?_update_self f ho (by rw [hf] <;> rfl),hf]
  refine I.write (x:=p) (e:=p) (by rw [h]; trivial) (.inl rfl) (fun b u hb q => (Heap.get?_update_other _ _ (Ne.symm hb)).trans q) ⟨_,e⟩ ?_
  exact ⟨hz,its',n',r,e⟩
def rSetL:V -> V -> V -> Hp -> (Hp -> Prop) -> Prop:=fun o i v H Q => ∃ p xs k j,o = .ref p /\ i = .int k /\ H p = some (.lst xs) /\ ixN xs.length k = some j /\ Q (upd H p (.lst (xs.set j v)))
theorem set_list:PSet X rSetL:=by
  intro pins s σ H o i v ov iv u Q I ro ri rv h
  obtain ⟨p,xs,k,j,rfl,rfl,hp,hj,q⟩:=h
  cases ro
  obtain ⟨t,rfl⟩:=ri
  obtain ⟨its,n,r,ho,hz⟩:=I.lst hp
  obtain ⟨h1,h2,h3,h4⟩:=ixN_seq hj
  have hl:=r.length
  have hn:=line63
  have I':Inv X pins σ (upd H p (.lst (xs.set j v))) { s with heap:=s.heap.update p (Obj.mapSeq (·.setIfInBounds j u)) } :=
    I.lstUpd hp ho (mapSeq_set its n j u) (r.set rv j) (by rw [List.length_set]; exact hz) s.toks
  by_cases h0:0 <= k
  . have hk:k.toNat = j:=by
      rw [seqIndex_of h0 h4] at h1
      exact Option.some.inj h1
    exact PySem.W.ki_setAt ho h0 (by omega) (by rw [List.size_toArray,<- hl]; exact h4) (by rw [hk]; exact ⟨_,I',q⟩)
  . have hk:(k + (its.toArray.size:Int)).toNat = j:=by
      rw [seqIndex_neg (by omega) h3] at h1
      rw [List.size_toArray,<- hl]
      exact Option.some.inj h1
    exact PySem.W.ki_setBack ho (by omega) (by rw [List.size_toArray,<- hl]; exact h3) (by omega) (by rw [hk]; exact ⟨_,I',q⟩)
theorem slice_bounds (lo hi:Option Int) (n:Nat):(sliceBounds lo hi none n).1 = ((HT.sIx n 0 lo:Nat):Int) /\ (sliceBounds lo hi none n).2.1 = ((HT.sIx n n hi:Nat):Int) /\ (sliceBounds lo hi none n).2.2 = 1:=by
  refine ⟨?_,?_,rfl⟩
  . cases lo with
    | none => simp [sliceBounds,HT.sIx]
    | some i =>
      simp only [sliceBounds,HT.sIx,Option.getD_none,show (1:Int) > 0 by decide,if_true]
      by_cases h:i < 0
      . simp only [h,if_true] <;> omega
      . simp only [h,if_false] <;> omega
  . cases hi with
    | none => simp [sliceBounds,HT.sIx]
    | some i =>
      simp only [sliceBounds,HT.sIx,Option.getD_none,show (1:Int) > 0 by decide,if_true]
      by_cases h:i < 0
      . simp only [h,if_true] <;> omega
      . simp only [h,if_false] <;> omega
theorem slicePick_cut (its:List Value) (lo hi:Option Int):slicePick its.toArray lo hi none = ((its.drop (HT.sIx its.length 0 lo)).take (HT.sIx its.length its.length hi - HT.sIx its.length 0 lo)).toArray:=by
  obtain ⟨h1,h2,h3⟩:=slice_bounds lo hi its.toArray.size
  unfold slicePick
  rw [h1,h2,h3]
  simp only [sliceRange_one,pick_run,List.size_toArray] <;> rfl
def rSlL (K:PySem.W.Frag):V -> Option Int -> Option Int -> Hp -> VK -> Prop:=fun x lo hi H Q => ∃ a xs,x = .ref a /\ SqL K H a xs /\ ∀ p,H p = none -> Q (.ref p) (upd H p (.lst (cutV xs lo hi)))
theorem sl_list:SlR X (rSlL X.K):=by
  intro pins s σ H x v vl vu lo hi sl Q I rx hs pl pu h
  obtain ⟨a,xs,rfl,hx,q⟩:=h
  cases rx
  obtain ⟨its,r,ht,hz⟩:=I.list hx
  have hlen:=r.length
  refine ⟨"list",_,slot_list_getitem.lookup,ht.isList.typeIs,?_⟩
  refine wpAny_getItem_list_slice ht.isList hs pl pu .none (by simp) ?_ (by rw [List.size_toArray] <;> omega)
  rw [slicePick_cut,<- hlen]
  refine ⟨.ref s.heap.objs.size,_,I.laid (t':=s.toks) (o:=.lst (cutV xs lo hi)) (fun b ob q => Heap.get?_push_of_some _ q) (Nat.le_refl _) ?_,rfl,q _ (I.hok.fresh (Nat.le_refl _))⟩
  exact ⟨Nat.le_trans (cutV_length xs lo hi) hz,_,0,(r.drop (HT.sIx xs.length 0 lo)).take (HT.sIx xs.length xs.length hi - HT.sIx xs.length 0 lo),Heap.get?_push_size _ rfl⟩
theorem call_len_seq:CallR X (.builtin "len") (fun xs H Q => ∃ p ys,xs = [.ref p] /\ (SqL X.K H p ys \/ SqT X.K H p ys) /\ Q (.int ys.length) H):=by
  intro pins s σ H xs us Q I r h
  obtain ⟨p,ys,rfl,hq,q⟩:=h
  obtain ⟨u,rfl,rx⟩:=vals1 r
  cases rx
  have hn:=line63
  rcases hq with hq | hq
  . obtain ⟨its,r',pl,hz⟩:=I.list hq
    have hlen:=r'.length
    exact Calls.call_len_list pl.isList (by simp only [List.size_toArray] <;> omega) ⟨.int ys.length,H,I.tok _,⟨s.toks + 1,by rw [List.size_toArray,hlen]⟩,q⟩
  . obtain ⟨its,r',pl,hz⟩:=I.tuple hq
    have hlen:=r'.length
    exact len_tuple pl (by simp only [List.size_toArray] <;> omega) ⟨.int ys.length,H,I.tok _,⟨s.toks + 1,by rw [List.size_toArray,hlen]⟩,q⟩
theorem call_list_of:CallR X (.type "list") (fun xs H Q => ∃ p ys,xs = [.ref p] /\ (SqL X.K H p ys \/ SqT X.K H p ys) /\ ∀ l,H l = none -> Q (.ref l) (upd H l (.lst ys))):=by
  intro pins s σ H xs us Q I r h
  obtain ⟨p,ys,rfl,hq,q⟩:=h
  obtain ⟨u,rfl,rx⟩:=vals1 r
  cases rx
  have fin:∀ (its:List Value),Vals ys its -> ys.length <= sizeLine -> ∀ (h':Heap) (c':Nat),(∀ b o',s.heap.get? b = some o' -> h'.get? b = some o') ->
      h'.get? s.heap.objs.size = some { cls:=.type "list",dict:=none,data:=.seq its.toArray c',slots:=#[] } -> EP X pins σ Q (.ref s.heap.objs.size) { s with heap:=h' }:=fun its r' hz h' c' kp e =>
    ⟨.ref s.heap.objs.size,_,I.laid (t':=s.toks) kp (Nat.le_refl _) (show ObjOk X.prog X.w _ h' _ (.lst ys) from ⟨hz,its,c',r',e⟩),rfl,q _ (I.hok.fresh (Nat.le_refl _))⟩
  rcases hq with hq | hq
  . obtain ⟨its,r',pl,hz⟩:=I.list hq
    have hlen:=r'.length
    obtain ⟨o,ho,hc,n,hd⟩:=pl.isList
    exact call_list_seq p (.inl rfl) ho hc hd (fun h' c' kp e => fin its r' hz h' c' kp e) (by simp only [List.size_toArray] <;> omega)
  . obtain ⟨its,r',pl,hz⟩:=I.tuple hq
    have hlen:=r'.length
    obtain ⟨o,ho,hc,n,hd⟩:=pl
    exact call_list_seq p (.inr rfl) ho hc hd (fun h' c' kp e => fin its r' hz h' c' kp e) (by simp only [List.size_toArray] <;> omega)
def tyV (K:PySem.W.Frag) (T:String) (x:V) (H:Hp):Prop:=match x with
  | .str _ => T = "str"
  | .int _ => T = "int"
  | .ref p => (T = "list" /\ ∃ xs, SqL K H p xs) \/ (T = "tuple" /\ ∃ o, K.lookup p = some o /\ o.cls = .type "tuple" /\ o.dict = none) \/
      (T = "dict" /\ ((∃ kvs, H p = some (.dK kvs)) \/ ∃ kvs, H p = some (.dT kvs))) \/ (T = "set" /\ ∃ S n, H p = some (.set S n))
  | _ => False
theorem tyV_is {pins:List (Addr × Obj)} {σ:St} {H:Hp} {s:Shared} {T:String} {x:V} {v:Value} (I:Inv X pins σ H s) (r:RelV x v) (ty:tyV X.K T x H) :
    s.TypeIs v T /\ ∀ a,v = .ref a -> ∃ ob,s.heap.get? a = some ob /\ ob.dict = none:=by
  cases x with
  | str z =>
    obtain ⟨t,rfl⟩:=r
    cases (show T = "str" from ty)
    exact ⟨typeIs_str s z t,fun _ e => nomatch e⟩
  | int i =>
    obtain ⟨t,rfl⟩:=r
    cases (show T = "int" from ty)
    exact ⟨typeIs_int s i t,fun _ e => nomatch e⟩
  | ref p =>
    cases r
    rcases ty with ⟨rfl,xs,hq⟩ | ⟨rfl,o,hk,hc,hd⟩ | ⟨rfl,hk⟩ | ⟨rfl,S,n,hk⟩
    . obtain ⟨its,_,pl,_⟩:=I.list hq
      refine ⟨pl.isList.typeIs,fun a e => ?_⟩
      cases e
      obtain ⟨o,n,e,c,hd,_⟩:=pl
      exact ⟨o,e,hd⟩
    . refine ⟨⟨o,I.kIn p o hk,hc⟩,fun a e => ?_⟩
      cases e
      exact ⟨o,I.kIn _ o hk,hd⟩
    . have z:∃ o,s.heap.get? p = some o /\ o.ExactDict:=by
        rcases hk with ⟨kvs,hk⟩ | ⟨kvs,hk⟩
        . obtain ⟨_,_,_,_,o,_,_,e,ex,_⟩:=I.hok p _ hk
          exact ⟨o,e,ex⟩
        . obtain ⟨_,_,_,_,o,_,_,e,ex,_⟩:=I.hok p _ hk
          exact ⟨o,e,ex⟩
      obtain ⟨o,e,ex⟩:=z
      refine ⟨⟨o,e,ex.1⟩,fun a e2 => ?_⟩
      cases e2
      exact ⟨o,e,ex.2.1⟩
    . obtain ⟨o,_,_,_,e,ex,_⟩:=I.hok p _ hk
      refine ⟨⟨o,e,ex.1⟩,fun a e2 => ?_⟩
      cases e2
      exact ⟨o,e,ex.2.1⟩
  | _ => exact False.elim ty
def tBM (K:PySem.W.Frag) (T:String) (r:V -> List V -> Hp -> VK -> Prop) (to:TE) (t:TA):TE:=fun σ H Q => to σ H fun x H1 => tyV K T x H1 /\ t σ H1 fun xs H2 => r x xs H2 Q
variable {o e:Expr} {es:List Expr} {to:TE} {t:TA} {name:Str} {apos cpos:Pos} {T id:String} {r:V -> List V -> Hp -> VK -> Prop}
theorem pe_bm (pa:PlainAttrs T) (slot:Slot T name id) (hty:typeOf (.builtin id) = pure (.type "method_descriptor")) (hm:MtR X id r) (ho:PE X o to) (ha:PA X (e :: es) t)
    (hbase:attributeBase o name X.env (eval o X.env) = eval o X.env:=by rfl)
    (hfew:((backTo cpos (starEach (e :: es) X.env)).all (fun x => !x.1) && (backToKw cpos (keywordEach [] X.env)).all (fun x => x.1.isSome)
      && decide ((e :: es).length + ([]:List Keyword).length + (if ([]:List Keyword).isEmpty then 0 else 1) < 30)) = true:=by rfl)
    (hline:(apos.endLine == cpos.line) = true:=by rfl) (hs:starEach (e :: es) X.env = (false,eval e X.env) :: starEach es X.env:=by rfl) (hplain:(backTo cpos (starEach es X.env)).any (·.1) = false:=by rfl) :
    PE X (.Call (.Attribute o name apos) (e :: es) [] cpos) (tBM X.K T r to t):=by
  intro pins s σ H Q I h
  refine wpAny_Call_method_late hbase hfew hline rfl (thn (ho pins s σ H _ I h) fun v s1 ⟨x,H1,I1,r1,ty,q1⟩ => ?_)
  obtain ⟨h1,h2⟩:=tyV_is I1 r1 ty
  refine ⟨T,id,pa,slot,hty,h1,h2,?_⟩
  have hA:=ha cpos pins s1 σ H1 _ I1 q1
  rw [hs] at hA |-
  refine Calls.callWith_builtin (by show (false || (backTo cpos (starEach es X.env)).any (·.1)) = false; rw [hplain] <;> rfl) (Calls.evalArgs_plain ?_)
  exact thn hA fun us s2 ⟨vs,H2,I2,r2,q2⟩ => hm pins s2 σ H2 x vs v us Q I2 r1 r2 q2
/- xs.append(e),list.index on a module's tuple .. are MtR facts of 06m -/
end
end L2
namespace L2
open PySem PySem.Spec PyProof.Rows
def MtM (X:Cx) (id:String) (r:V -> List V -> Hp -> VK -> Prop):Prop :=
  ∀ (pins:List (Addr × Obj)) (s:Shared) (σ:St) (H:Hp) (x:V) (xs:List V) (v:Value) (us:List Value) (Q:VK),Inv X pins σ H s -> RelV x v -> Vals xs us -> r x xs H Q ->
    wpAny (model X.prog X.w) X.A (call (.builtin id) (v :: us)) (EP X pins σ Q) X.xe s
theorem Vals.one:∀ {x:V} {us:List Value},Vals [x] us -> ∃ u,us = [u] /\ RelV x u
  | _,_,.cons r .nil => ⟨_,rfl,r⟩
theorem Vals.rep {xs:List V} {us:List Value} (h:Vals xs us):∀ k:Nat,Vals (List.replicate k xs).flatten (List.replicate k us).flatten
  | 0 => .nil
  | k + 1 => by
    rw [List.replicate_succ,List.replicate_succ,List.flatten_cons,List.flatten_cons]
    exact Vals.append h (Vals.rep h k)
theorem foldl_rep (its:List Value):∀ (k:Nat) (acc:List Value),
    List.foldl (fun x1 x2 => x1 ++ x2) acc.toArray (List.replicate k its.toArray) = (acc ++ (List.replicate k its).flatten).toArray
  | 0,acc => by simp
  | k + 1,acc => by
    have e:acc.toArray ++ its.toArray = (acc ++ its).toArray:=by simp
    have e2:(acc ++ its) ++ (List.replicate k its).flatten = acc ++ (List.replicate (k + 1) its).flatten:=by
      rw [List.replicate_succ,List.flatten_cons,List.append_assoc]
    rw [<- e2,<- foldl_rep its k (acc ++ its),<- e,List.replicate_succ,List.foldl_cons]
section
variable {X:Cx} {pins:List (Addr × Obj)} {σ:St} {H:Hp} {s:Shared} {l b:Addr} {xs ys zs:List V}
theorem Inv.lset {its its':List Value} {n:Nat} {f:Array Value -> Array Value} {t':Nat} (I:Inv X pins σ H s) (hH:H l = some (.lst xs))
    (e:s.heap.get? l = some { cls:=.type "list",data:=.seq its.toArray n }) (hf:f its.toArray = its'.toArray) (hv:Vals ys its') (hz:ys.length <= sizeLine) :
    Inv X pins σ (upd H l (.lst ys)) { s with heap:=s.heap.update l (Obj.mapSeq f),toks:=t' }:=by
  have q:=PySem.IsL.update e f
  rw [hf] at q
  refine I.write (x:=l) (e:=l) (by rw [hH]; exact trivial) (.inl rfl) (fun b' u hb hu => (Heap.get?_update_other s.heap (Obj.mapSeq f) (Ne.symm hb)).trans hu) ⟨_,q⟩ ?_
  exact ⟨hz,its',_,hv,q⟩
theorem Inv.lnew {its:List Value} {t':Nat} (I:Inv X pins σ H s) (hv:Vals ys its) (hz:ys.length <= sizeLine) :
    Inv X pins σ (upd H s.heap.objs.size (.lst ys)) { s with heap:=s.heap.push { cls:=.type "list",data:=.seq its.toArray },toks:=t' } :=
  I.laid (fun _ _ q => Heap.get?_push_of_some _ q) (Nat.le_refl _) ⟨hz,its,0,hv,Heap.get?_push_size _ rfl⟩
theorem Inv.fresh (I:Inv X pins σ H s):H s.heap.objs.size = none:=I.hok.fresh (Nat.le_refl _)
theorem Inv.lstM (I:Inv X pins σ H s) (hH:H l = some (.lst xs)):xs.length <= sizeLine /\ ∃ (its:List Value) (n:Nat),Vals xs its /\ xs.length = its.length /\ s.heap.get? l = some { cls:=.type "list",data:=.seq its.toArray n }:=by
  obtain ⟨z,its,n,r,e⟩:=I.hok l _ hH
  exact ⟨z,its,n,r,r.length,e⟩
theorem notLongL {n:Nat} (h:n <= sizeLine):Builtin.List.listTooLong n = false:=by
  unfold Builtin.List.listTooLong
  exact decide_eq_false (by omega)
end
section
variable {X:Cx}
def rAppend:V -> List V -> Hp -> VK -> Prop:=fun x vs H Q => ∃ l xs y,x = .ref l /\ vs = [y] /\ H l = some (.lst xs) /\ xs.length < sizeLine /\ Q .non (upd H l (.lst (xs ++ [y])))
theorem mt_append:MtM X "list.append" rAppend:=by
  intro pins s σ H x vs v us Q I rx rv h
  obtain ⟨l,xs,y,rfl,rfl,hH,hz,q⟩:=h
  cases rx
  obtain ⟨u,rfl,ru⟩:=rv.one
  obtain ⟨z,its,n,r,hl,e⟩:=I.lstM hH
  refine call_meets F.slot_list_append ⟨_,e,rfl⟩ F.entry_list_append (F.args_list_append_2 _ _) (PySem.list_append l its.toArray n u (by rw [List.size_toArray]; omega)) ⟨e,?_⟩
  refine ⟨.non,_,I.lset (its':=its ++ [u]) hH e (by simp) (r.append (.cons ru .nil)) ?_,rfl,q⟩
  rw [List.length_append,List.length_singleton]
  omega
def rExtend:V -> List V -> Hp -> VK -> Prop:=fun x vs H Q => ∃ l b xs zs,x = .ref l /\ vs = [.ref b] /\ H l = some (.lst xs) /\ H b = some (.lst zs) /\ xs.length + zs.length <= sizeLine /\ Q .non (upd H l (.lst (xs ++ zs)))
theorem mt_extend:MtM X "list.extend" rExtend:=by
  intro pins s σ H x vs v us Q I rx rv h
  obtain ⟨l,b,xs,zs,rfl,rfl,hH,hB,hz,q⟩:=h
  cases rx
  obtain ⟨u,rfl,ru⟩:=rv.one
  cases ru
  obtain ⟨z,its,n,r,hl,e⟩:=I.lstM hH
  obtain ⟨z2,its2,n2,r2,hl2,e2⟩:=I.lstM hB
  have hsz:its.toArray.size + its2.toArray.size <= sizeLine:=by rw [List.size_toArray,List.size_toArray]; omega
  have hlong:¬ (!its.toArray.isEmpty && Builtin.List.listTooLong (its.toArray.size + its2.toArray.size)) = true:=by
    rw [notLongL hsz,Bool.and_false]
    exact Bool.false_ne_true
  refine call_meets F.slot_list_extend ⟨_,e,rfl⟩ F.entry_list_extend (F.args_list_extend_2 _ _)
    (AutoSeq1.list_extend_list_list_0 l its.toArray n b its2.toArray n2 hlong (by rw [List.size_toArray]; omega) (by omega)) ⟨e,e2,?_⟩
  refine ⟨.non,_,I.lset (its':=its ++ its2) hH e (by simp) (r.append r2) ?_,rfl,q⟩
  rw [List.length_append]
  omega
def rCat:R2:=fun x y H Q => ∃ l b xs zs,x = .ref l /\ y = .ref b /\ H l = some (.lst xs) /\ H b = some (.lst zs) /\ xs.length + zs.length <= sizeLine /\ ∀ p,H p = none -> Q (.ref p) (upd H p (.lst (xs ++ zs)))
theorem op_cat:OpR X (binaryOp .Add) rCat:=by
  intro pins s σ H x y v u Q I rx ry h
  obtain ⟨l,b,xs,zs,rfl,rfl,hH,hB,hz,q⟩:=h
  cases rx
  cases ry
  obtain ⟨z,its,n,r,hl,e⟩:=I.lstM hH
  obtain ⟨z2,its2,n2,r2,hl2,e2⟩:=I.lstM hB
  refine PySem.P.add_list e e2 ?_ (by rw [List.size_toArray,List.size_toArray]; omega)
  have ea:its.toArray ++ its2.toArray = (its ++ its2).toArray:=by simp
  rw [ea]
  exact ⟨.ref _,_,I.lnew (t':=s.toks) (r.append r2) (by rw [List.length_append]; omega),rfl,q _ I.fresh⟩
def rRep:R2:=fun x y H Q => ∃ l k xs,x = .ref l /\ y = .int k /\ H l = some (.lst xs) /\ -(2 ^ 63) <= k /\ k < 2 ^ 63 /\ xs.length * k.toNat <= sizeLine /\
  ∀ p,H p = none -> Q (.ref p) (upd H p (.lst (List.replicate k.toNat xs).flatten))
theorem len_rep {α:Type} (xs:List α) (k:Nat):(List.replicate k xs).flatten.length = k * xs.length:=by
  induction k with
  | zero => simp
  | succ k ih => rw [List.replicate_succ,List.flatten_cons,List.length_append,ih,Nat.succ_mul,Nat.add_comm]
theorem op_rep:OpR X (binaryOp .Mult) rRep:=by
  intro pins s σ H x y v u Q I rx ry h
  obtain ⟨l,k,xs,rfl,rfl,hH,h1,h2,hz,q⟩:=h
  cases rx
  obtain ⟨t,rfl⟩:=ry
  obtain ⟨z,its,n,r,hl,e⟩:=I.lstM hH
  have hlen:its.toArray.size * k.toNat <= sizeLine:=by rw [List.size_toArray,<- hl]; exact hz
  have hcap:¬ its.toArray.size * k.toNat > (2 ^ 63 - 1) / 8:=by
    have:(sizeLine:Nat) <= (2 ^ 63 - 1) / 8:=by decide
    omega
  have hfit:¬ (!Builtin.List.listFitsIndex k) = true:=by
    rw [fitsIndex_both h1 h2]
    exact Bool.false_ne_true
  have hlong:¬ Builtin.List.listTooLong (its.toArray.size * k.toNat) = true:=by
    rw [notLongL hlen]
    exact Bool.false_ne_true
  have hnew:List.foldl (fun x1 x2 => x1 ++ x2) #[] (List.replicate (if its.toArray.isEmpty = true then 0 else k.toNat) its.toArray) = (List.replicate k.toNat its).flatten.toArray:=by
    have f0:∀ m:Nat,List.foldl (fun x1 x2 => x1 ++ x2) #[] (List.replicate m its.toArray) = (List.replicate m its).flatten.toArray:=fun m => by
      have:=foldl_rep its m []
      rw [List.nil_append] at this
      exact this
    rw [f0]
    cases its with
    | nil => simp
    | cons a r' => rw [if_neg (by simp)]
  refine wpAny_binaryOp_repeat_ref (T := "list") (U := "int") (by decide) ⟨_, e, rfl⟩ (fun s' => typeIs_int s' k t) noFill_list_mul F.fills_int_mul F.slot_int_rmul repeat_list F.slot_int_index.lookup
    (call_meets F.slot_int_rmul (typeIs_int s k t) F.entry_int_rmul (F.args_int_rmul_2 _ _) (int___rmul___int_list k t l its.toArray n)
      ⟨e,rfl,⟨_,e,rfl⟩,call_meets F.slot_list_mul ⟨_,e,rfl⟩ F.entry_list_mul (F.args_list_mul_2 _ _) (AutoListH.list___mul___list_int_3 l its.toArray n k t hfit hcap hlong) ⟨e,?_⟩⟩)
  rw [hnew]
  exact ⟨.ref _,_,I.lnew (t':=s.toks) (r.rep k.toNat) (by rw [len_rep,Nat.mul_comm]; exact hz),rfl,q _ I.fresh⟩
end
section
variable {prog:Program} {w:World} {A:Around} {E:Value -> Shared -> Prop} {s:Shared}
set_option maxRecDepth 100000 in
end
section
variable {X:Cx}
end
end L2
namespace L2
open PySem PySem.Spec PyProof.Rows
theorem Vals.ints:∀ {ns:List Int} {us:List Value},Vals (ns.map V.int) us -> IntsAre us ns
  | [],us,h => by
    rw [List.map_nil] at h
    cases h
    exact IntsAre.nil
  | n :: ns,us,h => by
    rw [List.map_cons] at h
    cases h with
    | cons r t =>
      obtain ⟨k,rfl⟩:=r
      exact IntsAre.cons n k (Vals.ints t)
theorem Vals.ref1 {a:Addr} {us:List Value} (r:Vals [V.ref a] us):us = [Value.ref a]:=by
  cases r with
  | cons r t =>
    cases t
    cases r
    rfl
section
variable {prog:Program} {w:World} {A:Around} {E:Value -> Shared -> Prop} {s:Shared} {l:Addr} {its:List Value} {ns:List Int} {Q:Value -> Shared -> Prop}
theorem sum_raw (hh:A.handled = none) (hl:s.heap.IsList l its.toArray) (hi:IntsAre its ns)
    (h:∀ h' tk t',(∀ b o,s.heap.get? b = some o -> h'.get? b = some o) -> Q (.int ns.sum t') { s with heap:=h',toks:=tk }):wpAny (model prog w) A (call (.builtin "sum") [.ref l]) Q E s:=by
  obtain ⟨xs,e⟩:=hi.allInts.items
  have hn:numsOf (intItems xs).toList = ns:=by rw [<- e]; exact hi.numsOf
  rw [nums_intItems] at hn
  rw [e] at hl
  refine PySem.sum_intListG hh hl fun h' tk t' hk => ?_
  have:=h h' tk t' hk
  rw [preSum_eq,List.take_of_length_le (by simp),hn]; exact this
end
section
variable {X:Cx}
def rSum (K:PySem.W.Frag):List V -> Hp -> VK -> Prop:=fun vs H Q => ∃ (a:Addr) (ns:List Int),vs = [V.ref a] /\ SqL K H a (ns.map V.int) /\ Q (.int ns.sum) H
theorem cr_sum (hc:X.calm = true):CallR X (.builtin "sum") (rSum X.K):=by
  intro pins s σ H vs us Q I r h
  obtain ⟨a,ns,rfl,hs,q⟩:=h
  obtain ⟨its,rv,hl,_⟩:=I.list hs
  rw [Vals.ref1 r]
  exact sum_raw (I.ok.hd hc) hl.isList rv.ints fun h' tk t' hk => ⟨.int _,H,I.kept hk,⟨_,rfl⟩,q⟩
end
section
variable {X:Cx}
end
section
variable {X:Cx}
end
section
variable {X:Cx}
end
mutual
inductive Dp (K:PySem.W.Frag) (H:Hp):V -> PyData -> Prop
  | non:Dp K H .non .none
  | bl (b:Bool):Dp K H (.bl b) (.bool b)
  | int (i:Int):Dp K H (.int i) (.int i)
  | str (x:Str):Dp K H (.str x) (.str x)
  | lst {a:Addr} {xs:List V} {ds:List PyData}:SqL K H a xs -> DpAll K H xs ds -> Dp K H (.ref a) (.list ds)
  | tup {a:Addr} {xs:List V} {ds:List PyData}:SqT K H a xs -> DpAll K H xs ds -> Dp K H (.ref a) (.tuple ds)
inductive DpAll (K:PySem.W.Frag) (H:Hp):List V -> List PyData -> Prop
  | nil:DpAll K H [] []
  | cons {v:V} {vs:List V} {d:PyData} {ds:List PyData}:Dp K H v d -> DpAll K H vs ds -> DpAll K H (v :: vs) (d :: ds)
end
section
variable {X:Cx} {pins:List (Addr × Obj)} {σ:St} {H:Hp} {s:Shared}
mutual
theorem Dp.reads (I:Inv X pins σ H s):∀ (d:PyData) (v:V) (u:Value),Dp X.K H v d -> RelV v u -> ∃ as,Reads s.heap u d as
  | .none,_,_,h,r => by
    cases h
    cases r
    exact ⟨_,Reads.none⟩
  | .bool b,_,_,h,r => by
    cases h
    cases r
    exact ⟨_,Reads.bool b⟩
  | .int i,_,_,h,r => by
    cases h
    obtain ⟨t,rfl⟩:=r
    exact ⟨_,Reads.int i t⟩
  | .str x,_,_,h,r => by
    cases h
    obtain ⟨t,rfl⟩:=r
    exact ⟨_,Reads.str x t⟩
  | .list ds,_,_,h,r => by
    cases h with
    | lst hs ha =>
      cases r
      obtain ⟨its,rv,⟨o,n,ho,hc,_,hd⟩,_⟩:=I.list hs
      obtain ⟨as,hr⟩:=Dp.readsAll I ds _ its ha rv
      exact ⟨_,Reads.list ho hc hd hr⟩
  | .tuple ds,_,_,h,r => by
    cases h with
    | tup hs ha =>
      cases r
      obtain ⟨its,rv,⟨o,ho,hc,n,hd⟩,_⟩:=I.tuple hs
      obtain ⟨as,hr⟩:=Dp.readsAll I ds _ its ha rv
      exact ⟨_,Reads.tuple ho hc hd hr⟩
  | .dict _,_,_,h,_ => by cases h
theorem Dp.readsAll (I:Inv X pins σ H s):∀ (ds:List PyData) (vs:List V) (us:List Value),DpAll X.K H vs ds -> Vals vs us -> ∃ as,ReadsAll s.heap us ds as
  | [],_,_,h,r => by
    cases h
    cases r
    exact ⟨_,ReadsAll.nil⟩
  | d :: ds,_,_,h,r => by
    cases h with
    | cons h1 h2 =>
      cases r with
      | cons r1 r2 =>
        obtain ⟨as,q1⟩:=Dp.reads I d _ _ h1 r1
        obtain ⟨bs,q2⟩:=Dp.readsAll I ds _ _ h2 r2
        exact ⟨_,ReadsAll.cons q1 q2⟩
end
end
section
variable {X:Cx}
def rEqD (K:PySem.W.Frag):R2:=fun x y H Q => ∃ d e,Dp K H x d /\ Dp K H y e /\ SeqAt.shaped d = true /\ SeqAt.shaped e = true /\ Q (.bl (PyData.eqv d e)) H
theorem op_eqD (hu:X.A.units + 64 < cLine):OpR X (compareOp .Eq) (rEqD X.K):=by
  intro pins s σ H x y v u Q I rx ry h
  obtain ⟨d,e,hd,he,sd,se,q⟩:=h
  obtain ⟨as,r1⟩:=Dp.reads I d x v hd rx
  obtain ⟨bs,r2⟩:=Dp.reads I e y u he ry
  exact SeqAt.compareEq_shaped r1 r2 sd se hu ⟨.bl _,H,I,rfl,q⟩
end
end L2
namespace L2
open PySem PySem.Spec PyProof.Rows
abbrev CellAt (h:Heap) (c:Addr) (v:Option Value):Prop:=h.IsCell c v
def relS (scope sc:Scope):Scope :=
  { scope with names:=scope.names.map fun (n,k) => if (k == .free && sc.kind == .function && sc.names.lookup n == some .cell) then (n,.cell) else (n,k) }
def cloFrom (cells:List (Str × Addr)):List (Str × NameKind) -> List (Str × Addr) -> List (Str × Addr)
  | [],acc => acc
  | (n,k) :: r,acc => if k == .free then cloFrom cells r ((n,(cells.lookup n).getD 0) :: acc) else cloFrom cells r acc
theorem closure_loop (env:Env) (f:Str × NameKind -> List (Str × Addr) -> Sem (ForInStep (List (Str × Addr))))
    (hf:∀ n k c,f (n,k) c = if k == .free then (do let a <- cellOf env n; pure (.yield ((n,a) :: c))) else pure (.yield c)) :
    ∀ (names:List (Str × NameKind)) (acc:List (Str × Addr)),(∀ y ∈ names,y.2 = .free -> ∃ c,env.cells.lookup y.1 = some c) -> forIn names acc f = pure (cloFrom env.cells names acc)
  | [],acc,_ => by rw [List.forIn_nil]; rfl
  | (n,k) :: r,acc,h => by
    rw [List.forIn_cons,hf]
    have ih:=fun acc => closure_loop env f hf r acc fun y hy => h y (List.mem_cons_of_mem _ hy)
    unfold cloFrom
    by_cases hk:(k == NameKind.free) = true
    . rw [if_pos hk,if_pos hk]
      obtain ⟨c,hc⟩:=h (n,k) List.mem_cons_self (by simpa using hk)
      have e:cellOf env n = pure c:=by unfold cellOf; rw [hc]
      rw [e]
      have e2:(env.cells.lookup n).getD 0 = c:=by rw [hc]; rfl
      rw [e2]
      exact ih _
    . rw [if_neg hk,if_neg hk]
      exact ih _
theorem closure_ok {scope:Scope} {env:Env} (h:∀ y ∈ scope.names,y.2 = .free -> ∃ c,env.cells.lookup y.1 = some c):closureFor scope env = pure (cloFrom env.cells scope.names []):=by
  simp only [closureFor]
  rw [closure_loop env _ (fun n k c => rfl) scope.names [] h]
  rfl
theorem mem_lookup {α:Type}:∀ {l:List (Str × α)} {n:Str} {c:α},(n,c) ∈ l -> ∃ c',l.lookup n = some c'
  | (k,v) :: r,n,c,h => by
    rw [List.lookup_cons]
    cases hb:n == k with
    | true => exact ⟨_,rfl⟩
    | false =>
      rcases List.mem_cons.mp h with e | h
      . cases e; simp at hb
      . exact mem_lookup h
theorem cloFrom_mem {cells:List (Str × Addr)}:∀ {names:List (Str × NameKind)} {acc:List (Str × Addr)} {n:Str} {c:Addr},(n,c) ∈ cloFrom cells names acc -> (n,c) ∈ acc \/ ((n,.free) ∈ names /\ c = (cells.lookup n).getD 0)
  | [],_,_,_,h => .inl h
  | (m,k) :: r,acc,n,c,h => by
    unfold cloFrom at h
    split at h
    . rename_i hk
      have hk:k = .free:=by simpa using hk
      rcases cloFrom_mem h with h | ⟨h1,h2⟩
      . rcases List.mem_cons.mp h with e | h
        . cases e; exact .inr ⟨hk ▸ List.mem_cons_self,rfl⟩
        . exact .inl h
      . exact .inr ⟨List.mem_cons_of_mem _ h1,h2⟩
    . rcases cloFrom_mem h with h | ⟨h1,h2⟩
      . exact .inl h
      . exact .inr ⟨List.mem_cons_of_mem _ h1,h2⟩
theorem cloFrom_acc {cells:List (Str × Addr)}:∀ {names:List (Str × NameKind)} {acc:List (Str × Addr)} {p:Str × Addr},p ∈ acc -> p ∈ cloFrom cells names acc
  | [],_,_,h => h
  | (m,k) :: r,acc,p,h => by
    unfold cloFrom
    split
    . exact cloFrom_acc (List.mem_cons_of_mem _ h)
    . exact cloFrom_acc h
theorem cloFrom_has {cells:List (Str × Addr)}:∀ {names:List (Str × NameKind)} {acc:List (Str × Addr)} {n:Str},(n,.free) ∈ names -> (n,(cells.lookup n).getD 0) ∈ cloFrom cells names acc
  | (m,k) :: r,acc,n,h => by
    unfold cloFrom
    rcases List.mem_cons.mp h with e | h
    . cases e
      exact cloFrom_acc List.mem_cons_self
    . split
      . exact cloFrom_has h
      . exact cloFrom_has h
theorem cells_mem:∀ {names:List (Str × NameKind)} {h:Heap} {acc:List (Str × Addr)} {x:Str} {c:Addr},(x,c) ∈ cellsFrom h.objs.size names acc ->
    (x,c) ∈ acc \/ ((x,.cell) ∈ names /\ h.objs.size <= c /\ CellAt (pushCells h names) c none)
  | [],_,_,_,_,h => .inl h
  | (n,k) :: r,h,acc,x,c,hm => by
    unfold cellsFrom at hm
    unfold pushCells
    split at hm
    . rename_i hk
      rw [if_pos hk]
      have hk:k = .cell:=by simpa using hk
      rw [<- Heap.size_push h { cls:=.type "cell",data:=.cell none }] at hm
      rcases cells_mem hm with hm | ⟨h1,h2,h3⟩
      . rcases List.mem_cons.mp hm with e | hm
        . cases e
          exact .inr ⟨hk ▸ List.mem_cons_self,Nat.le_refl _,_,pushCells_keeps r _ _ _ (Heap.get?_push_size _ rfl),rfl⟩
        . exact .inl hm
      . rw [Heap.size_push] at h2
        exact .inr ⟨List.mem_cons_of_mem _ h1,Nat.le_of_succ_le h2,h3⟩
    . rename_i hk
      rw [if_neg hk]
      rcases cells_mem hm with hm | ⟨h1,h2,h3⟩
      . exact .inl hm
      . exact .inr ⟨List.mem_cons_of_mem _ h1,h2,h3⟩
theorem cells_acc:∀ {names:List (Str × NameKind)} {n:Nat} {acc:List (Str × Addr)} {p:Str × Addr},p ∈ acc -> p ∈ cellsFrom n names acc
  | [],_,_,_,h => h
  | (m,k) :: r,n,acc,p,h => by
    unfold cellsFrom
    split
    . exact cells_acc (List.mem_cons_of_mem _ h)
    . exact cells_acc h
theorem cells_has:∀ {names:List (Str × NameKind)} {n:Nat} {acc:List (Str × Addr)} {x:Str},(x,.cell) ∈ names -> ∃ c,(x,c) ∈ cellsFrom n names acc
  | (m,k) :: r,n,acc,x,h => by
    unfold cellsFrom
    rcases List.mem_cons.mp h with e | h
    . cases e
      exact ⟨n,cells_acc List.mem_cons_self⟩
    . split
      . exact cells_has h
      . exact cells_has h
theorem cells_inj:∀ {names:List (Str × NameKind)} {h:Heap} {acc:List (Str × Addr)} {x y:Str} {c:Addr},(∀ p ∈ acc,p.2 < h.objs.size) -> (∀ x y c,(x,c) ∈ acc -> (y,c) ∈ acc -> x = y) ->
    (x,c) ∈ cellsFrom h.objs.size names acc -> (y,c) ∈ cellsFrom h.objs.size names acc -> x = y
  | [],_,_,_,_,_,_,hi,h1,h2 => hi _ _ _ h1 h2
  | (n,k) :: r,h,acc,x,y,c,hl,hi,h1,h2 => by
    unfold cellsFrom at h1 h2
    split at h1
    . rename_i hk
      rw [if_pos hk] at h2
      rw [<- Heap.size_push h { cls:=.type "cell",data:=.cell none }] at h1 h2
      refine cells_inj (h:=h.push _) (fun p hp => ?_) (fun x y c a b => ?_) h1 h2
      . rw [Heap.size_push]
        rcases List.mem_cons.mp hp with rfl | hp
        . exact Nat.lt_succ_self _
        . exact Nat.lt_succ_of_lt (hl p hp)
      . rcases List.mem_cons.mp a with e | a <;> rcases List.mem_cons.mp b with e' | b
        . cases e; cases e'; rfl
        . cases e; exact absurd (hl _ b) (Nat.lt_irrefl _)
        . cases e'; exact absurd (hl _ a) (Nat.lt_irrefl _)
        . exact hi _ _ _ a b
    . rename_i hk
      rw [if_neg hk] at h2
      exact cells_inj hl hi h1 h2
theorem newEnv_comp {M:Model} {A:Around} {E:Value -> Shared -> Prop} {s:Shared} {scope:Scope} {globals:Addr} {closure:List (Str × Addr)} {qual:Str} {func:Option Addr} {code:Value} {around:Env} {builtins:Addr} {Q:Env -> Shared -> Prop}
    (h:Q (newEnv scope s.heap.objs.size globals (cellsFrom (s.heap.objs.size + 1) scope.names closure) qual func code (some around) builtins)
      { s with heap:=pushCells (s.heap.push { cls:=.type "dict",data:=.dict #[] }) scope.names }) :
    wpAny M A (newFunctionEnv scope globals closure [] qual func code (some around) builtins) Q E s:=by
  simp only [newFunctionEnv,Option.isSome_some,if_true]
  refine wpAny_bind (wpAny_alloc ?_)
  refine wpAny_bind (wpAny_layCells _ (fun n k c => rfl) scope.names closure _ _ ?_)
  rw [show ({ s with heap:=s.heap.push { cls:=.type "dict",data:=.dict #[] } }:Shared).heap.objs.size = s.heap.objs.size + 1 from Heap.size_push ..]
  rw [List.forIn_nil]
  exact wpAny_bind (wpAny_pure (wpAny_pure h))
theorem lookup_relS {sc:Scope}:∀ {names:List (Str × NameKind)} {x:Str} {k:NameKind},
    (names.map fun (n,k) => if (k == NameKind.free && sc.kind == .function && sc.names.lookup n == some .cell) then (n,NameKind.cell) else (n,k)).lookup x = some k ->
    ∃ k',names.lookup x = some k' /\ (k = k' \/ (k' = .free /\ k = .cell))
  | [],_,_,h => by simp at h
  | (n,k₀) :: r,x,k,h => by
    have ih:=@lookup_relS sc r x k
    have h':List.lookup x ((if (k₀ == NameKind.free && sc.kind == .function && sc.names.lookup n == some .cell) = true then (n,NameKind.cell) else (n,k₀)) :: (r.map _)) = some k:=h
    cases hx:x == n with
    | true =>
      simp only [List.lookup_cons,hx]
      by_cases hc:(k₀ == NameKind.free && sc.kind == .function && sc.names.lookup n == some .cell) = true
      . rw [if_pos hc] at h'
        simp only [List.lookup_cons,hx] at h'
        cases h'
        simp only [Bool.and_eq_true,beq_iff_eq] at hc
        exact ⟨k₀,rfl,.inr ⟨hc.1.1,rfl⟩⟩
      . rw [if_neg hc] at h'
        simp only [List.lookup_cons,hx] at h'
        cases h'
        exact ⟨_,rfl,.inl rfl⟩
    | false =>
      simp only [List.lookup_cons,hx]
      by_cases hc:(k₀ == NameKind.free && sc.kind == .function && sc.names.lookup n == some .cell) = true
      . rw [if_pos hc] at h'
        simp only [List.lookup_cons,hx] at h'
        exact ih h'
      . rw [if_neg hc] at h'
        simp only [List.lookup_cons,hx] at h'
        exact ih h'
structure BlkOk (N:List Str) (sc scope:Scope) (own:List (Str × Nat)):Prop where
  kind:scope.kind = .function
  uniq:∀ y ∈ scope.names,scope.names.lookup y.1 = some y.2
  ix:∀ p ∈ own,N[p.2]? = some p.1
  free:∀ y ∈ scope.names,y.2 = .free -> sc.names.lookup y.1 = some .cell \/ sc.names.lookup y.1 = some .free
  own:∀ y ∈ scope.names,y.2 = .local \/ y.2 = .cell -> y.1 ∈ own.map (·.1) \/ y.1 ∉ N
def wipe (σ:St):List Nat -> St
  | [] => σ
  | v :: vs => (wipe σ vs).set v none
theorem wipe_length (σ:St):∀ vs:List Nat,(wipe σ vs).length = σ.length
  | [] => rfl
  | v :: vs => by unfold wipe; rw [List.length_set,wipe_length σ vs]
theorem wipe_some {σ:St} {i:Nat} {x:V}:∀ {vs:List Nat},(wipe σ vs)[i]? = some (some x) -> σ[i]? = some (some x) /\ i ∉ vs
  | [],h => ⟨h,by simp⟩
  | v :: vs,h => by
    unfold wipe at h
    by_cases hi:v = i
    . subst hi
      by_cases hv:v < (wipe σ vs).length
      . rw [List.getElem?_set_self hv] at h; cases h
      . rw [List.getElem?_eq_none (by simpa using hv)] at h; cases h
    . rw [List.getElem?_set_ne hi] at h
      obtain ⟨h1,h2⟩:=wipe_some h
      exact ⟨h1,by simp only [List.mem_cons,not_or]; exact ⟨fun e => hi e.symm,h2⟩⟩
abbrev Cx.blk (X:Cx) (s:Shared) (H:Hp) (scope:Scope) (cenv:Env) (fp:List Addr):Cx:={ X with s_0:=s,H_0:=H,env:=cenv,outer:=X.stack,ex:=fp,fn:=fun x => scope.names.lookup x == some .cell,pn:=[],xe:=fun _ _ => False }
section
variable {X:Cx} {pins:List (Addr × Obj)} {σ:St} {H:Hp} {s:Shared}
theorem block_start {scope:Scope} {own:List (Str × Nat)} {fp:List Addr} (I:Inv X pins σ H s) (ok:BlkOk X.N X.env.scope scope own) (hN:X.N.Nodup) (hfp:∀ b ∈ fp,FpOk X pins H b /\ b < s.heap.objs.size) :
    Inv (X.blk s H scope (compEnvC scope (cellsFrom (s.heap.objs.size + 1) scope.names (cloFrom X.env.cells scope.names [])) s.heap.objs.size X.env) fp) [] (wipe σ (own.map (·.2))) H { s with heap:=pushCells (s.heap.push { cls:=.type "dict",data:=.dict #[] }) scope.names }:=by
  have hfree:∀ y ∈ scope.names,y.2 = .free -> ∃ c,X.env.cells.lookup y.1 = some c:=fun y hy e => by
    rcases ok.free y hy e with k | k
    . exact I.ok.has _ (.inl k)
    . exact I.ok.has _ (.inr k)
  generalize hcenv:compEnvC scope (cellsFrom (s.heap.objs.size + 1) scope.names (cloFrom X.env.cells scope.names [])) s.heap.objs.size X.env = cenv
  have kp:∀ b o,s.heap.get? b = some o -> (pushCells (s.heap.push { cls:=.type "dict",data:=.dict #[] }) scope.names).get? b = some o:=fun b o e => pushCells_keeps _ _ _ _ (Heap.get?_push_of_some _ e)
  have hL:cenv.locals = s.heap.objs.size:=by rw [<- hcenv]; rfl
  have hcl:cenv.cells = cellsFrom (s.heap.objs.size + 1) scope.names (cloFrom X.env.cells scope.names []):=by rw [<- hcenv]; rfl
  have hsc:cenv.scope = relS scope X.env.scope:=by rw [<- hcenv]; rfl
  rw [<- Heap.size_push s.heap { cls:=.type "dict",data:=.dict #[] }] at hcl
  have cm:∀ {y c},(y,c) ∈ cloFrom X.env.cells scope.names [] -> X.env.cells.lookup y = some c /\ c < s.heap.objs.size:=fun {y c} hm => by
    rcases cloFrom_mem hm with hm | ⟨h1,rfl⟩
    . cases hm
    . obtain ⟨c,hc⟩:=hfree _ h1 rfl
      rw [hc]
      obtain ⟨w,z⟩:=I.cell _ _ hc
      exact ⟨rfl,z.lt⟩
  have mem:∀ {y c},cenv.cells.lookup y = some c -> (X.env.cells.lookup y = some c /\ c < s.heap.objs.size) \/ (s.heap.objs.size + 1 <= c /\ CellAt (pushCells (s.heap.push { cls:=.type "dict",data:=.dict #[] }) scope.names) c none):=fun {y c} e => by
    rw [hcl] at e
    rcases cells_mem (PySem.mem_of_lookup e) with hm | ⟨_,h2,h3⟩
    . exact .inl (cm hm)
    . rw [Heap.size_push] at h2; exact .inr ⟨h2,h3⟩
  have look:∀ {y},scope.names.lookup y = some .free -> ∃ c,cenv.cells.lookup y = some c /\ X.env.cells.lookup y = some c:=fun {y} hl => by
    have hy:(y,NameKind.free) ∈ scope.names:=PySem.mem_of_lookup hl
    obtain ⟨c',e'⟩:=mem_lookup (cells_acc (names:=scope.names) (n:=(s.heap.push { cls:=.type "dict",data:=.dict #[] }).objs.size) (cloFrom_has (cells:=X.env.cells) (acc:=[]) hy))
    rw [<- hcl] at e'
    refine ⟨c',e',?_⟩
    rw [hcl] at e'
    rcases cells_mem (PySem.mem_of_lookup e') with hm | ⟨h1,_,_⟩
    . exact (cm hm).1
    . have:=ok.uniq _ h1
      rw [hl] at this; cases this
  have okB:(X.blk s H scope cenv fp).Ok:=by
    refine ⟨I.ok.mod,by show cenv.scope.kind = _; rw [hsc]; exact ok.kind,by show cenv.globals = _; rw [<- hcenv]; exact I.ok.glob,by show cenv.builtins = _; rw [<- hcenv]; exact I.ok.blt,by show s.heap.objs.size <= cenv.locals; rw [hL]; exact Nat.le_refl _,
      fun y z c e1 e2 => ?_,fun y hy => ?_,fun y c z e => ?_,I.ok.hd,I.ok.frames,.inl rfl,fun b hb => ⟨?_,fun y c e z => ?_⟩,I.bs,Nat.le_trans I.ok.bsz I.sz,fun b o e hb => ?_,fun b hb z => ?_,I.stack,I.stkFree⟩
    . have e1:cenv.cells.lookup y = some c:=e1
      have e2:cenv.cells.lookup z = some c:=e2
      rw [hcl] at e1 e2
      refine cells_inj (fun p hp => ?_) (fun y z c a b => I.ok.inj y z c (cm a).1 (cm b).1) (PySem.mem_of_lookup e1) (PySem.mem_of_lookup e2)
      rw [Heap.size_push]
      exact Nat.lt_succ_of_lt (cm (y:=p.1) (c:=p.2) hp).2
    . show ∃ c,cenv.cells.lookup y = some c
      have key:∀ k,cenv.kindOf y = some k -> (k = .cell \/ k = .free) -> ∃ c,cenv.cells.lookup y = some c:=fun k hk hk' => by
        unfold Env.kindOf at hk
        rw [hsc] at hk
        obtain ⟨k',e,r⟩:=lookup_relS hk
        have:k' = .cell \/ k' = .free:=by
          rcases r with rfl | ⟨rfl,_⟩
          . exact hk'
          . exact .inr rfl
        rcases this with rfl | rfl
        . obtain ⟨c,hm⟩:=cells_has (n:=(s.heap.push { cls:=.type "dict",data:=.dict #[] }).objs.size) (acc:=cloFrom X.env.cells scope.names []) (PySem.mem_of_lookup e)
          obtain ⟨c',e'⟩:=mem_lookup hm
          exact ⟨c',by rw [hcl]; exact e'⟩
        . obtain ⟨c,h1,_⟩:=look e
          exact ⟨c,h1⟩
      rcases hy with hy | hy
      . exact key _ hy (.inl rfl)
      . exact key _ hy (.inr rfl)
    . have z:(scope.names.lookup y == some NameKind.cell) = true:=z
      have z:scope.names.lookup y = some .cell:=by simpa using z
      have e:cenv.cells.lookup y = some c:=e
      rw [hcl] at e
      rcases cells_mem (PySem.mem_of_lookup e) with hm | ⟨_,h2,_⟩
      . rcases cloFrom_mem hm with hm | ⟨h1,_⟩
        . cases hm
        . have q:=ok.uniq _ h1
          rw [z] at q; cases q
      . rw [Heap.size_push] at h2
        exact Nat.le_of_succ_le h2
    . show b ≠ cenv.locals
      rw [hL]; exact Nat.ne_of_lt (hfp b hb).2
    . have e:cenv.cells.lookup y = some c:=e
      rcases mem e with ⟨h1,_⟩ | ⟨h1,_⟩
      . exact (hfp b hb).1.2.2.2.2.1 y c h1 z
      . have h2:s.heap.objs.size + 1 <= b:=by rw [<- z]; exact h1
        exact absurd (Nat.lt_of_lt_of_le (hfp b hb).2 (Nat.le_of_succ_le h2)) (Nat.lt_irrefl _)
    . rcases (hfp b hb).1.2.2.2.1 with z | z
      . exact I.ok.noex b o e z
      . exact absurd (Nat.lt_of_lt_of_le (Heap.lt_size e) (Nat.le_trans I.ok.bsz z)) (Nat.lt_irrefl _)
    . rcases List.mem_cons.mp (I.stkSub b z) with z | z
      . exact (hfp b hb).1.2.1 z
      . exact (hfp b hb).1.2.2.1 z
  refine ⟨okB,rfl,I.bare,Un.kept kp,⟨fun _ => none,?_,fun i y av e1 e2 e3 => ?_⟩,fun y c e => ?_,?_,fun y c e => ?_,fun p hp => ?_,I.hok.kept kp,by rw [wipe_length]; exact I.len⟩
  . show Heap.Ns _ cenv.locals _
    rw [hL]
    exact Heap.Ns.keeps (Heap.Ns.new ..) fun b o e => pushCells_keeps _ _ _ _ e
  . obtain ⟨e2,hne⟩:=wipe_some e2
    have hfr:scope.names.lookup y = some .free /\ (cenv.kindOf y = some .cell \/ cenv.kindOf y = some .free):=by
      have key:∀ k,cenv.scope.names.lookup y = some k -> k = .local \/ k = .cell \/ k = .free -> scope.names.lookup y = some .free /\ (cenv.kindOf y = some .cell \/ cenv.kindOf y = some .free):=fun k hk hk' => by
        have hk0:=hk
        rw [hsc] at hk
        obtain ⟨k',e,r⟩:=lookup_relS hk
        have no:¬ (k' = .local \/ k' = .cell):=fun hh => by
          rcases ok.own _ (PySem.mem_of_lookup e) hh with e' | e'
          . obtain ⟨p,hp,hpy⟩:=List.mem_map.mp e'
            have e3:=ok.ix p hp
            have:p.1 = y:=hpy
            rw [this] at e3
            exact hne (List.mem_map.mpr ⟨p,hp,nodup_ix hN e3 e1⟩)
          . exact e' (List.mem_of_getElem? e1)
        rcases r with rfl | ⟨rfl,rfl⟩
        . rcases hk' with rfl | rfl | rfl
          . exact absurd (.inl rfl) no
          . exact absurd (.inr rfl) no
          . exact ⟨e,.inr hk0⟩
        . exact ⟨e,.inl hk0⟩
      have e3:Vis cenv.scope y:=e3
      rcases e3 with e3 | e3 | e3
      . exact key _ e3 (.inl rfl)
      . exact key _ e3 (.inr (.inl rfl))
      . exact key _ e3 (.inr (.inr rfl))
    obtain ⟨m,hn,hl⟩:=I.loc
    have hvis:Vis X.env.scope y:=(ok.free _ (PySem.mem_of_lookup hfr.1) rfl).elim (fun k => .inr (.inl k)) (fun k => .inr (.inr k))
    obtain ⟨w,r,q⟩:=hl i y av e1 e2 hvis
    refine ⟨w,r,.inr ⟨hfr.2,?_⟩⟩
    obtain ⟨c,h1,h2⟩:=look hfr.1
    rcases q with ⟨k,_⟩ | ⟨_,c',e',z⟩
    . have k:X.env.scope.names.lookup y = some .local:=k
      rcases ok.free _ (PySem.mem_of_lookup hfr.1) rfl with k' | k' <;> rw [show X.env.scope.names.lookup y = _ from k'] at k <;> cases k
    . rw [h2] at e'; cases e'
      exact ⟨c,h1,z.keeps kp⟩
  . have e:cenv.cells.lookup y = some c:=e
    rcases mem e with ⟨h1,_⟩ | ⟨_,z⟩
    . obtain ⟨w,z⟩:=I.cell y c h1
      exact ⟨w,z.keeps kp⟩
    . exact ⟨_,z⟩
  . show H cenv.locals = none
    rw [hL]; exact I.hok.fresh (Nat.le_refl _)
  . have e:cenv.cells.lookup y = some c:=e
    rcases mem e with ⟨h1,_⟩ | ⟨h1,_⟩
    . exact I.freeC y c h1
    . exact I.hok.fresh (Nat.le_of_succ_le h1)
  . exact absurd (show p ∈ ([]:List (Addr × Obj)) ++ [] from hp) (by simp)
theorem app_ok {E:Value -> Shared -> Prop} {D:Addr} {xs:List V} {y:V} {v:Value} {Q:Value -> Shared -> Prop} (I:Inv X pins σ H s) (hD:H D = some (.lst xs)) (hz:xs.length < sizeLine) (r:RelV y v)
    (h:∀ s',Inv X pins σ (upd H D (.lst (xs ++ [y]))) s' -> Q .none s'):wpAny (model X.prog X.w) X.A (call (.builtin "list.append") [.ref D,v]) Q E s:=by
  obtain ⟨hz',its,n,ri,e⟩:=I.hok D _ hD
  have hl:=ri.length
  refine append_at (hsz:=by rw [List.size_toArray]; omega) e fun h' sb ho' => ?_
  refine h { s with heap:=h' } (I.write (t':=s.toks) (by rw [hD]; trivial) (.inl rfl) (fun b u hb q => (sb.2 b hb).trans q) ⟨_,ho'⟩ ⟨by rw [List.length_append]; exact hz,its ++ [v],n + 1,ri.append (.cons r .nil),?_⟩)
  rw [ho']
  simp
def PTs (X:Cx) (ifs:List Expr) (t:TT):Prop :=
  ∀ (pins:List (Addr × Obj)) (s:Shared) (σ:St) (H:Hp) (Q:Bool -> Hp -> Prop),Inv X pins σ H s -> t σ H Q ->
    wpAny (model X.prog X.w) X.A (forIn ifs true fun c r => if r = true then do let ok <- isTrue c X.env (eval c X.env); pure (ForInStep.yield ok) else pure (ForInStep.yield r)) (TP X pins σ Q) X.xe s
def tYes:TT:=fun _ H Q => Q true H
theorem pts_nil:PTs X [] tYes:=fun _ _ _ H _ I h => wpAny_tests_nil ⟨H,I,h⟩
end
theorem thnF {α:Type} {t:Sem α} {Q Q':α -> Shared -> Prop} {M:Model} {A:Around} {E:Value -> Shared -> Prop} {s:Shared} (h:wpAny M A t Q (fun _ _ => False) s) (hQ:∀ a s,Q a s -> Q' a s):wpAny M A t Q' E s:=wpAny_mono h hQ fun _ _ z => False.elim z
theorem compLoop_any {prog:Program} {w:World} {A:Around} {R:Result -> Shared -> Prop} {s:Shared} {elt target iter:Expr} {ifs:List Expr} {scope:Scope} {pos:Pos} {it acc:Value} {env:Env} (I:Nat -> Shared -> Prop)
    (turn:∀ n s,I n s -> wpAny (model prog w) A (pyNext it) (fun r s₁ => match r with
      | none => R (.ok .next) s₁
      | some v => wpAny (model prog w) A (letOwnedTupleGo target it v) (fun _ s₁' => wpAny (model prog w) A (assign target env v) (fun _ s₂ =>
          wpAny (model prog w) A (forIn ifs true fun c r => if r = true then do let ok <- isTrue c env (eval c env); pure (ForInStep.yield ok) else pure (ForInStep.yield r)) (fun ok s₃ =>
            if ok = true then wpAny (model prog w) A (eval elt env) (fun x s₄ =>
              wpAny (model prog w) A (call (.builtin "list.append") [acc,x]) (fun _ s₅ => ∃ m,m < n /\ I m s₅) (notedBy (model prog w) A env fun e s' => R (.error e) s') s₄) (notedBy (model prog w) A env fun e s' => R (.error e) s') s₃
            else ∃ m,m < n /\ I m s₃) (notedBy (model prog w) A env fun e s' => R (.error e) s') s₂) (notedBy (model prog w) A env fun e s' => R (.error e) s') s₁') (notedBy (model prog w) A env fun e s' => R (.error e) s') s₁) (notedBy (model prog w) A env fun e s' => R (.error e) s') s)
    (n:Nat) (h:I n s) :
    codeAny (model prog w) A (.compLoop (.ListComp elt [⟨target,iter,ifs,0⟩] scope pos) 0 it acc env) R s:=by
  refine codeAny_loop rfl I (fun n s hI => ?_) n h
  show wpAny _ A ((compTurn (.ListComp elt [⟨target,iter,ifs,0⟩] scope pos) 0 it acc env).onRaise (fun x => do noteFrame x env; theTreesLotGoes x)) _ _ s
  refine wpAny_noted ?_
  rw [compTurn_list]
  refine wpAny_bind (wpAny_standAt (wpAny_bind (wpAny_mono (turn n s hI) (fun r s₁ h₁ => ?_) fun _ _ h' => h')))
  cases r with
  | none => exact wpAny_pure h₁
  | some v =>
    refine wpAny_bind (wpAny_mono h₁ (fun _ s₁' h₁' => ?_) fun _ _ h' => h')
    refine wpAny_bind (wpAny_mono h₁' (fun _ s₂ h₂ => wpAny_bind (wpAny_mono h₂ (fun ok s₃ h₃ => ?_) fun _ _ h' => h')) fun _ _ h' => h')
    cases ok with
    | false => exact wpAny_pure ⟨rfl,h₃⟩
    | true =>
      exact wpAny_bind (wpAny_bind (wpAny_mono h₃ (fun x s₄ h₄ => wpAny_bind (wpAny_mono h₄ (fun _ s₅ h₅ => wpAny_pure (wpAny_pure ⟨rfl,h₅⟩)) fun _ _ h' => h')) fun _ _ h' => h'))
section
variable {X:Cx}
def tLc (wi:TI) (g:TG) (tt:TT) (te:TE) (vs:List Nat):TE:=fun σ H Q => wi σ H fun J H1 => ∀ D,H1 D = none -> ∃ W:Nat -> Nat -> Hp -> Prop,(∃ m,W 0 m (upd H1 D (.lst []))) /\ ∀ i m H,W i m H ->
  (J.stop i H /\ Q (.ref D) H) \/ (J.go i H /\ ∃ Nx:Hp -> Prop,(∀ H',Nx H' -> ∃ m',m' < m /\ W (i + 1) m' H') /\ ∀ x H',J.yld i H x H' -> g x (wipe σ vs) H' fun σ2 H2 => wipe σ2 vs = wipe σ vs /\ tt σ2 H2 fun b H3 =>
    if b = true then te σ2 H3 fun y H4 => ∃ acc,H4 D = some (.lst acc) /\ acc.length < sizeLine /\ Nx (upd H4 D (.lst (acc ++ [y]))) else Nx H3)
theorem lc_core {pins:List (Addr × Obj)} {s:Shared} {σ:St} {H:Hp} {Q:VK} {elt tg iter:Expr} {ifs:List Expr} {scope:Scope} {own:List (Str × Nat)} {pos pos':Pos} {wi:TI} {g:TG} {tt:TT} {te:TE} {use:Option (Value -> Sem Unit)} {Qf:Value -> Shared -> Prop}
    (hc:X.calm = true) (hN:X.N.Nodup) (I:Inv X pins σ H s) (hi:PI X tg iter wi) (ok:BlkOk X.N X.env.scope scope own)
    (hg:∀ (s:Shared) (H:Hp) (C:Addr) (cl:List (Str × Addr)) (fp:List Addr),PG (X.blk s H scope (compEnvC scope cl C X.env) fp) tg g) (ht:∀ (s:Shared) (H:Hp) (C:Addr) (cl:List (Str × Addr)) (fp:List Addr),PTs (X.blk s H scope (compEnvC scope cl C X.env) fp) ifs tt)
    (he:∀ (s:Shared) (H:Hp) (C:Addr) (cl:List (Str × Addr)) (fp:List Addr),PE (X.blk s H scope (compEnvC scope cl C X.env) fp) elt te) (hs:∀ x,foldedSetIterable iter X.env x = pure x)
    (h:tLc wi g tt te (own.map (·.2)) σ H Q)
    (hRR:∀ D C s' m H',Inv X pins σ H' s' -> Q (.ref D) H' -> s'.heap.Ns C m -> FpOk X pins H' C -> compPost (model X.prog X.w) X.A X.xe use Qf (.ref D) C (.ok .next) s') :
    wpAny (model X.prog X.w) X.A (comprehension (.ListComp elt [⟨tg,iter,ifs,0⟩] scope pos) scope X.env pos' (newList []) false (eval iter X.env) use) Qf X.xe s:=by
  have hfree:∀ y ∈ scope.names,y.2 = .free -> ∃ c,X.env.cells.lookup y.1 = some c:=fun y hy e => by
    rcases ok.free y hy e with k | k
    . exact I.ok.has _ (.inl k)
    . exact I.ok.has _ (.inr k)
  refine wpAny_comprehension_free (use:=use) rfl hs (closure_ok hfree) ok.kind (fun y hy e => by rw [ok.uniq y hy,e])
    (thn (hi pins s σ H _ I h) fun xv s1 hx => thn hx fun itv s2 h2 => ?_)
  obtain ⟨it,fp,tn,J,H2,e,I2,T,st2,f2,q⟩:=h2
  subst e
  refine wpAny_newObj_type (newEnv_comp ?_) (by show 0 <= sizeLine; decide)
  generalize hD:s2.heap.objs.size = D
  have hDn:H2 D = none:=I2.hok.fresh (Nat.le_of_eq hD)
  obtain ⟨W,⟨m0,w0⟩,turn⟩:=q D hDn
  generalize hs3:({ s2 with heap:=s2.heap.push { cls:=.type "list",data:=.seq ([]:List Value).toArray } }:Shared) = s3
  have I3:Inv X pins σ (upd H2 D (.lst [])) s3:=by
    rw [<- hs3]
    refine I2.laid (t':=s2.toks) (fun b o e => Heap.get?_push_of_some _ e) (Nat.le_of_eq hD) ⟨Nat.zero_le _,[],0,.nil,?_⟩
    rw [<- hD]
    exact Heap.get?_push_size _ rfl
  have h3:s3.heap = s2.heap.push { cls:=.type "list",data:=.seq ([]:List Value).toArray }:=by rw [<- hs3]
  have sz:∀ b ∈ fp,b < s2.heap.objs.size:=fun b hb => by
    obtain ⟨o,e,_⟩:=T.obj _ _ st2 b hb
    exact Heap.lt_size e
  have f3:∀ b ∈ fp,FpOk X pins (upd H2 D (.lst [])) b /\ b < s3.heap.objs.size:=fun b hb => by
    have hlt:=sz b hb
    refine ⟨⟨?_,(f2 b hb).2⟩,by rw [h3,Heap.size_push]; exact Nat.lt_succ_of_lt hlt⟩
    rw [upd_ne (by rw [<- hD]; exact Nat.ne_of_lt hlt)]
    exact (f2 b hb).1
  have st3:tn 0 s3.heap:=T.keep _ _ _ st2 fun b _ o e => by rw [h3]; exact Heap.get?_push_of_some _ e
  have I4:=block_start I3 ok hN f3
  have pg:=hg s3 (upd H2 D (.lst [])) s3.heap.objs.size (cellsFrom (s3.heap.objs.size + 1) scope.names (cloFrom X.env.cells scope.names [])) fp
  have pt:=ht s3 (upd H2 D (.lst [])) s3.heap.objs.size (cellsFrom (s3.heap.objs.size + 1) scope.names (cloFrom X.env.cells scope.names [])) fp
  have pe:=he s3 (upd H2 D (.lst [])) s3.heap.objs.size (cellsFrom (s3.heap.objs.size + 1) scope.names (cloFrom X.env.cells scope.names [])) fp
  show codeAny _ _ (.compStart (.ListComp elt [⟨tg,iter,ifs,0⟩] scope pos) 0 (.ref it) (.ref D) (compEnvC scope (cellsFrom (s3.heap.objs.size + 1) scope.names (cloFrom X.env.cells scope.names [])) s3.heap.objs.size X.env)) (compPost (model X.prog X.w) X.A X.xe use Qf (.ref D) s3.heap.objs.size) { s3 with heap:=pushCells (s3.heap.push { cls:=.type "dict",data:=.dict #[] }) scope.names }
  have nfp:∀ b ∈ fp,(upd H2 D (.lst [])) b = none:=fun b hb => (f3 b hb).1.1
  generalize hce:compEnvC scope (cellsFrom (s3.heap.objs.size + 1) scope.names (cloFrom X.env.cells scope.names [])) s3.heap.objs.size X.env = ce at I4 pg pt pe |-
  have cL:ce.locals = s3.heap.objs.size:=by subst hce; rfl
  generalize hH3:upd H2 D (.lst []) = H3 at I3 I4 pg pt pe w0 nfp f3
  generalize hs4:({ s3 with heap:=pushCells (s3.heap.push { cls:=.type "dict",data:=.dict #[] }) scope.names }:Shared) = s4 at I4 |-
  have st4:tn 0 s4.heap:=T.keep _ _ _ st3 fun b _ o e => by rw [<- hs4]; exact pushCells_keeps _ _ _ _ (Heap.get?_push_of_some _ e)
  have stat:∀ {σ':St} {H':Hp} {s':Shared},Inv (X.blk s3 H3 scope ce fp) [] σ' H' s' -> (∀ b ∈ fp,H' b = none) -> ∀ b ∈ fp,FpOk (X.blk s3 H3 scope ce fp) [] H' b:=fun {σ' H' s'} I' hn b hb =>
    ⟨hn b hb,(I'.ok.exf b hb).1,I'.ok.exfs b hb,.inl hb,fun x c e => (I'.ok.exf b hb).2 x c e,fun p hp => absurd (show p ∈ ([]:List (Addr × Obj)) ++ [] from hp) (by simp)⟩
  have loop:codeAny (model X.prog X.w) X.A (.compLoop (.ListComp elt [⟨tg,iter,ifs,0⟩] scope pos) 0 (.ref it) (.ref D) ce) (compPost (model X.prog X.w) X.A X.xe use Qf (.ref D) s3.heap.objs.size) s4:=by
    refine compLoop_any (fun n s' => ∃ i H',Inv (X.blk s3 H3 scope ce fp) [] (wipe σ (own.map (·.2))) H' s' /\ tn i s'.heap /\ (∀ b ∈ fp,H' b = none) /\ W i n H') ?_ m0 ⟨0,H3,I4,st4,nfp,w0⟩
    rintro n s5 ⟨i,H5,I5,st5,n5,w5⟩
    rcases turn i n H5 w5 with ⟨stop,qq⟩ | ⟨go,Nx,hNx,step⟩
    . have td:=T.done (X.blk s3 H3 scope ce fp) rfl rfl rfl hc i [] s5 _ H5 (fun _ _ => False) I5 (stat I5 n5) st5 stop
      refine thnF td fun r s6 ⟨hr,I6⟩ => ?_
      subst hr
      have I7:Inv X pins σ H5 s6:=I3.call' (ch:=fp) I6.os I6.base I6.hok I6.bare fun b hb => ⟨(f3 b hb).1.2.2.2.1,(f3 b hb).1.2.1,(f3 b hb).1.2.2.2.2.1,(f3 b hb).1.2.2.2.2.2⟩
      have nC:H5 s3.heap.objs.size = none:=by
        have z:H5 ce.locals = none:=I6.free
        rw [cL] at z
        exact z
      obtain ⟨m,hn,_⟩:=I6.loc
      have hn:s6.heap.Ns ce.locals m:=hn
      rw [cL] at hn
      exact hRR D s3.heap.objs.size s6 m H5 I7 qq hn (I3.fpOk (Nat.le_refl _) nC)
    . have ti:=T.item (X.blk s3 H3 scope ce fp) rfl rfl rfl hc i [] s5 _ H5 (fun _ _ => False) I5 (stat I5 n5) st5 go
      refine thnF ti fun r s6 ⟨u,hr,h6⟩ => ?_
      subst hr
      refine thnF h6 fun _ s7 ⟨x,H7,I7,r7,y7,st7,n7⟩ => ?_
      have I7':=I7.pinned (stat I7 n7) (T.obj _ _ st7)
      refine thnF (pg _ s7 _ H7 x u _ I7' r7 (step x H7 y7)) fun _ s8 ⟨σ8,H8,I8,hw8,q8⟩ => ?_
      refine thnF (pt _ s8 σ8 H8 _ I8 q8) fun b s9 ⟨H9,I9,q9⟩ => ?_
      have fin:∀ {s':Shared} {H':Hp},Inv (X.blk s3 H3 scope ce fp) ([] ++ pinsAt fp s7.heap) σ8 H' s' -> Nx H' -> ∃ m,m < n /\ ∃ i H',Inv (X.blk s3 H3 scope ce fp) [] (wipe σ (own.map (·.2))) H' s' /\ tn i s'.heap /\ (∀ b ∈ fp,H' b = none) /\ W i m H':=fun {s' H'} I' nx => by
        obtain ⟨m',hm,w'⟩:=hNx H' nx
        have pin':∀ b ∈ fp,∀ o,s7.heap.get? b = some o -> s'.heap.get? b = some o /\ H' b = none:=fun b hb o e =>
          let z:=I'.pin (b,o) (List.mem_append_right _ (List.mem_append_right _ (mem_pinsAt hb e)))
          ⟨z.1,z.2.1⟩
        have hl:(wipe σ (own.map (·.2))).length = σ8.length:=by rw [<- hw8,wipe_length]
        refine ⟨m',hm,i + 1,H',(I'.unpinned (pins:=[])).weak hl (fun j v e => ?_),T.keep _ _ _ st7 fun b hb o e => (pin' b hb o e).1,fun b hb => ?_,w'⟩
        . rw [<- hw8] at e
          exact (wipe_some e).1
        . obtain ⟨o,e,_⟩:=T.obj _ _ st7 b hb
          exact (pin' b hb o e).2
      cases b with
      | false =>
        simp only [Bool.false_eq_true,if_false] at q9 |-
        exact fin I9 q9
      | true =>
        simp only [if_true] at q9 |-
        refine thnF (pe _ s9 σ8 H9 _ I9 q9) fun z s10 ⟨yv,H10,I10,r10,acc,hD10,hz10,nx⟩ => ?_
        exact app_ok (X:=X.blk s3 H3 scope ce fp) I10 hD10 hz10 r10 fun s11 I11 => fin I11 nx
  exact codeAny_compStart_list loop (T.self X.A 0 _ _ _ st4 loop)
theorem pe_lc {elt tg iter:Expr} {ifs:List Expr} {scope:Scope} {own:List (Str × Nat)} {pos:Pos} {wi:TI} {g:TG} {tt:TT} {te:TE} (hc:X.calm = true) (hN:X.N.Nodup) (hi:PI X tg iter wi) (ok:BlkOk X.N X.env.scope scope own)
    (hg:∀ (s:Shared) (H:Hp) (C:Addr) (cl:List (Str × Addr)) (fp:List Addr),PG (X.blk s H scope (compEnvC scope cl C X.env) fp) tg g) (ht:∀ (s:Shared) (H:Hp) (C:Addr) (cl:List (Str × Addr)) (fp:List Addr),PTs (X.blk s H scope (compEnvC scope cl C X.env) fp) ifs tt)
    (he:∀ (s:Shared) (H:Hp) (C:Addr) (cl:List (Str × Addr)) (fp:List Addr),PE (X.blk s H scope (compEnvC scope cl C X.env) fp) elt te) (hs:∀ x,foldedSetIterable iter X.env x = pure x:=by intro _; rfl) :
    PE X (.ListComp elt [⟨tg,iter,ifs,0⟩] scope pos) (tLc wi g tt te (own.map (·.2))):=by
  intro pins s σ H Q I h
  rw [eval_ListComp]
  refine lc_core hc hN I hi ok hg ht he hs h fun D C s' m H' I' q hn f => ⟨m,hn,fun h'' sb => ?_⟩
  obtain ⟨f0,f1,f2,f3,f4,f5⟩:=f
  exact ⟨.ref D,H',I'.turned (t':=s'.toks) (fun b o hb e => (sb.2 b hb).trans e) f0 f1 f3 f4 f5,rfl,q⟩
end
theorem lc_range {lo:Int} {n:Nat} {g:TG} {tt:TT} {te:TE} {vs:List Nat} {σ:St} {H1:Hp} {D:Addr} {Qd:Hp -> Prop} (Pv:Nat -> Hp -> Prop) (h0:Pv 0 (upd H1 D (.lst [])))
    (hs:∀ i H,i < n -> Pv i H -> g (.int (lo + i)) (wipe σ vs) H fun σ2 H2 => wipe σ2 vs = wipe σ vs /\ tt σ2 H2 fun b H3 =>
      if b = true then te σ2 H3 fun y H4 => ∃ acc,H4 D = some (.lst acc) /\ acc.length < sizeLine /\ Pv (i + 1) (upd H4 D (.lst (acc ++ [y]))) else Pv (i + 1) H3) (hd:∀ H,Pv n H -> Qd H) :
    ∃ W:Nat -> Nat -> Hp -> Prop,(∃ m,W 0 m (upd H1 D (.lst []))) /\ ∀ i m H,W i m H ->
      ((Itr lo n).stop i H /\ Qd H) \/ ((Itr lo n).go i H /\ ∃ Nx:Hp -> Prop,(∀ H',Nx H' -> ∃ m',m' < m /\ W (i + 1) m' H') /\ ∀ x H',(Itr lo n).yld i H x H' -> g x (wipe σ vs) H' fun σ2 H2 => wipe σ2 vs = wipe σ vs /\ tt σ2 H2 fun b H3 =>
        if b = true then te σ2 H3 fun y H4 => ∃ acc,H4 D = some (.lst acc) /\ acc.length < sizeLine /\ Nx (upd H4 D (.lst (acc ++ [y]))) else Nx H3):=by
  refine ⟨fun i m H => m = n - i /\ i <= n /\ Pv i H,⟨n,by simp,Nat.zero_le _,h0⟩,?_⟩
  rintro i m H ⟨rfl,hi,p⟩
  by_cases hlt:i < n
  . refine .inr ⟨hlt,Pv (i + 1),fun H' p' => ⟨n - (i + 1),by omega,rfl,hlt,p'⟩,fun x H' y => ?_⟩
    obtain ⟨e,y⟩:=y
    subst e y
    exact hs i _ hlt p
  . have e:i = n:=by omega
    subst e
    exact .inl ⟨Nat.le_refl _,hd H p⟩
def blkC (N:List Str) (sc scope:Scope) (own:List (Str × Nat)):Bool :=
  (match scope.kind with | .function => true | _ => false) && (scope.names.all fun y => decide (scope.names.lookup y.1 = some y.2)) && (own.all fun p => decide (N[p.2]? = some p.1)) &&
    (scope.names.all fun y => match y.2 with
      | .free => (match sc.names.lookup y.1 with | some .cell => true | some .free => true | _ => false)
      | .local => decide (y.1 ∈ own.map (·.1)) || decide (y.1 ∉ N)
      | .cell => decide (y.1 ∈ own.map (·.1)) || decide (y.1 ∉ N)
      | _ => true)
theorem blkOk_by {N:List Str} {sc scope:Scope} {own:List (Str × Nat)} (h:blkC N sc scope own = true):BlkOk N sc scope own:=by
  unfold blkC at h
  simp only [Bool.and_eq_true,List.all_eq_true,decide_eq_true_eq] at h
  obtain ⟨⟨⟨h1,h2⟩,h3⟩,h4⟩:=h
  refine ⟨?_,h2,h3,fun y hy e => ?_,fun y hy e => ?_⟩
  . split at h1
    . assumption
    . cases h1
  . have q:=h4 y hy
    simp only [e] at q
    split at q <;> first | exact .inl (by assumption) | exact .inr (by assumption) | cases q
  . have q:=h4 y hy
    rcases e with e | e <;> (simp only [e,Bool.or_eq_true,decide_eq_true_eq] at q; exact q)
end L2
namespace L2
open PySem PySem.Spec PyProof.Rows
section
variable {prog:Program} {w:World} {A:Around} {R:Result -> Shared -> Prop} {s:Shared} {elt t0 i0 t1 i1:Expr} {ifs0 ifs1:List Expr} {scope:Scope} {pos:Pos} {it acc:Value} {env:Env}
end
section
variable {X:Cx}
end
end L2
namespace L2
open PySem PySem.Spec PyProof.Rows
section
variable {κ:Type} [DecidableEq κ]
def valV (kvs:List (κ × V)) (k:κ):Option V:=(kvs.find? fun kv => decide (kv.1 = k)).map (·.2)
def putK (kvs:List (κ × V)) (k:κ) (v:V):List (κ × V) :=
  if (kvs.any fun kv => decide (kv.1 = k)) = true then kvs.map (fun kv => if kv.1 = k then (kv.1,v) else kv) else kvs ++ [(k,v)]
def dropK (kvs:List (κ × V)) (k:κ):List (κ × V):=kvs.filter fun kv => decide (kv.1 ≠ k)
theorem valV_nil {k:κ}:valV ([]:List (κ × V)) k = none:=rfl
theorem valV_pos {p:κ × V} {r:List (κ × V)} {k:κ} (e:p.1 = k):valV (p :: r) k = some p.2:=by simp [valV,List.find?_cons,e]
theorem valV_neg {p:κ × V} {r:List (κ × V)} {k:κ} (e:¬ p.1 = k):valV (p :: r) k = valV r k:=by simp [valV,List.find?_cons,e]
theorem valV_any (k:κ):∀ kvs:List (κ × V),(kvs.any fun kv => decide (kv.1 = k)) = (valV kvs k).isSome
  | [] => rfl
  | p :: r => by
    rw [List.any_cons]
    by_cases e:p.1 = k
    . simp only [valV_pos e,decide_eq_true e,Bool.true_or,Option.isSome_some]
    . rw [valV_neg e,decide_eq_false e,Bool.false_or]; exact valV_any k r
theorem valV_map (k j:κ) (y:V):∀ kvs:List (κ × V),valV (kvs.map fun kv => if kv.1 = k then (kv.1,y) else kv) j = (valV kvs j).map fun x => if j = k then y else x
  | [] => rfl
  | p :: r => by
    have ih:=valV_map k j y r
    rw [List.map_cons]
    by_cases h:p.1 = k
    . rw [if_pos h]
      by_cases e:p.1 = j
      . rw [valV_pos (p:=(p.1,y)) e,valV_pos e,Option.map_some,if_pos (e.symm.trans h)]
      . rw [valV_neg (p:=(p.1,y)) e,valV_neg e,ih]
    . rw [if_neg h]
      by_cases e:p.1 = j
      . rw [valV_pos (p:=p) e,valV_pos e,Option.map_some,if_neg (fun z => h (e.trans z))]
      . rw [valV_neg (p:=p) e,valV_neg e,ih]
theorem valV_snoc (k j:κ) (y:V):∀ kvs:List (κ × V),valV kvs k = none -> valV (kvs ++ [(k,y)]) j = if j = k then some y else valV kvs j
  | [],_ => by
    by_cases e:k = j
    . rw [if_pos e.symm]; exact valV_pos (p:=(k,y)) e
    . rw [if_neg (fun z => e z.symm)]; exact valV_neg (p:=(k,y)) e
  | p :: r,hn => by
    rw [List.cons_append]
    have hk:¬ p.1 = k:=fun z => by rw [valV_pos z] at hn; cases hn
    rw [valV_neg hk] at hn
    have ih:=valV_snoc k j y r hn
    by_cases e:p.1 = j
    . rw [valV_pos e,valV_pos e,if_neg (fun z => hk (e.trans z))]
    . rw [valV_neg e,valV_neg e,ih]
theorem valV_put (kvs:List (κ × V)) (k j:κ) (y:V):valV (putK kvs k y) j = if j = k then some y else valV kvs j:=by
  unfold putK
  by_cases a:(kvs.any fun kv => decide (kv.1 = k)) = true
  . rw [if_pos a,valV_map]
    rw [valV_any] at a
    by_cases e:j = k
    . obtain ⟨x,hx⟩:=Option.isSome_iff_exists.mp a
      rw [if_pos e,e,hx,Option.map_some,if_pos rfl]
    . rw [if_neg e]
      cases valV kvs j with
      | none => rfl
      | some x => rw [Option.map_some,if_neg e]
  . rw [if_neg a]
    refine valV_snoc k j y kvs ?_
    rw [valV_any] at a
    cases q:valV kvs k with
    | none => rfl
    | some x => rw [q] at a; exact (a rfl).elim
theorem length_putK (kvs:List (κ × V)) (k:κ) (v:V):(putK kvs k v).length <= kvs.length + 1:=by
  unfold putK
  split
  . rw [List.length_map]; omega
  . rw [List.length_append,List.length_cons,List.length_nil]; omega
theorem putK_new {kvs:List (κ × V)} {k:κ} (v:V) (h:valV kvs k = none):putK kvs k v = kvs ++ [(k,v)]:=by
  unfold putK
  rw [valV_any,h]
  exact if_neg (by decide)
theorem RelO.isSome_eq {o:Option V} {u:Option Value} (r:RelO o u):o.isSome = u.isSome:=by
  cases o with
  | none => cases u with
    | none => rfl
    | some _ => exact (show False from r).elim
  | some _ => cases u with
    | none => exact (show False from r).elim
    | some _ => rfl
theorem RelO.getD {o:Option V} {u:Option Value} {d:V} {d':Value} (r:RelO o u) (rd:RelV d d'):RelV (o.getD d) (u.getD d'):=by
  cases o with
  | none => cases u with
    | none => exact rd
    | some _ => exact (show False from r).elim
  | some _ => cases u with
    | none => exact (show False from r).elim
    | some _ => exact r
theorem KV.val {kvs:List (κ × V)} {vs:List (κ × Value)} (r:KV kvs vs) (k:κ):RelO (valV kvs k) (valueAt vs k):=by
  unfold KV at r
  induction r with
  | nil => exact True.intro
  | @cons p q ps qs h t ih =>
    obtain ⟨h1,h2⟩:=h
    by_cases e:p.1 = k
    . have e':q.1 = k:=h1.symm.trans e
      have b:valueAt (q :: qs) k = some q.2:=by simp [valueAt,List.find?_cons,e']
      rw [valV_pos e,b]; exact h2
    . have e':¬ q.1 = k:=fun z => e (h1.trans z)
      have b:valueAt (q :: qs) k = valueAt qs k:=by simp [valueAt,List.find?_cons,e']
      rw [valV_neg e,b]; exact ih
theorem KV.any {kvs:List (κ × V)} {vs:List (κ × Value)} (r:KV kvs vs) (k:κ):(kvs.any fun kv => decide (kv.1 = k)) = vs.any fun kv => decide (kv.1 = k):=by
  unfold KV at r
  induction r with
  | nil => rfl
  | cons h t ih => rw [List.any_cons,List.any_cons,ih,h.1]
theorem KV.repl {kvs:List (κ × V)} {vs:List (κ × Value)} (r:KV kvs vs) (k:κ) {y:V} {u:Value} (ry:RelV y u) :
    KV (kvs.map fun kv => if kv.1 = k then (kv.1,y) else kv) (vs.map fun kv => if kv.1 = k then (kv.1,u) else kv):=by
  unfold KV at r |-
  induction r with
  | nil => exact .nil
  | @cons p q ps qs h t ih =>
    rw [List.map_cons,List.map_cons]
    refine .cons ?_ ih
    obtain ⟨h1,h2⟩:=h
    by_cases e:p.1 = k
    . rw [if_pos e,if_pos (h1.symm.trans e)]; exact ⟨h1,ry⟩
    . rw [if_neg e,if_neg (fun z => e (h1.trans z))]; exact ⟨h1,h2⟩
theorem KV.put {kvs:List (κ × V)} {vs:List (κ × Value)} (r:KV kvs vs) (k:κ) {y:V} {u:Value} (ry:RelV y u):KV (putK kvs k y) (stored vs k u):=by
  unfold putK stored
  rw [r.any k]
  by_cases e:(vs.any fun kv => decide (kv.1 = k)) = true
  . rw [if_pos e,if_pos e]; exact r.repl k ry
  . rw [if_neg e,if_neg e]; exact Paired.snoc r ⟨rfl,ry⟩
theorem KV.drop {kvs:List (κ × V)} {vs:List (κ × Value)} (r:KV kvs vs) (k:κ):KV (dropK kvs k) (without vs k):=by
  unfold KV at r |-
  unfold dropK without
  induction r with
  | nil => exact .nil
  | @cons p q ps qs h t ih =>
    obtain ⟨h1,h2⟩:=h
    rw [List.filter_cons,List.filter_cons]
    by_cases e:p.1 = k
    . have a:¬ decide (p.1 ≠ k) = true:=by simp [e]
      have b:¬ decide (q.1 ≠ k) = true:=by simp [h1.symm.trans e]
      rw [if_neg a,if_neg b]; exact ih
    . have e':¬ q.1 = k:=fun z => e (h1.trans z)
      have a:decide (p.1 ≠ k) = true:=by simp [e]
      have b:decide (q.1 ≠ k) = true:=by simp [e']
      rw [if_pos a,if_pos b]; exact .cons ⟨h1,h2⟩ ih
theorem KV.length {kvs:List (κ × V)} {vs:List (κ × Value)} (r:KV kvs vs):kvs.length = vs.length:=Paired.length r
theorem dropK_le (kvs:List (κ × V)) (k:κ):(dropK kvs k).length <= kvs.length:=List.length_filter_le _ _
end
theorem kV_is {P:Program} {w:World} {k:Key} {u:Value} (r:RelV (kV k) u):(mixKind P w).is k u = true:=by
  cases k with
  | inl i => obtain ⟨t,e⟩:=(show ∃ t,u = Value.int i t from r); subst e; exact mixKind_int P w i t
  | inr x => obtain ⟨t,e⟩:=(show ∃ t,u = Value.str x t from r); subst e; exact mixKind_str P w x t
theorem items_are {P:Program} {w:World}:∀ {ks:List Key} {us:List Value},Vals (ks.map kV) us -> ItemsAre (mixKind P w) ks us
  | [],_,r => by rw [List.map_nil] at r; cases r; exact .nil
  | k :: ks,_,r => by
    rw [List.map_cons] at r
    cases r with
    | cons h t => exact .cons (kV_is h) (items_are t)
abbrev KT (H:Hp):List (List Key × V) -> List (List Key × Addr × Value) -> Prop:=Paired fun p q => p.1 = q.1 /\ H q.2.1 = some (.tup (p.1.map kV)) /\ RelV p.2 q.2.2
theorem KT.val {H:Hp} {kvs:List (List Key × V)} {xs:List (List Key × Addr × Value)} (r:KT H kvs xs) (k:List Key):RelO (valV kvs k) ((atKey xs k).map (·.2)):=by
  induction r with
  | nil => exact True.intro
  | @cons p q ps qs h t ih =>
    obtain ⟨h1,_,h2⟩:=h
    by_cases e:p.1 = k
    . have e':q.1 = k:=h1.symm.trans e
      have b:atKey (q :: qs) k = some q.2:=by simp [atKey,List.find?_cons,e']
      rw [valV_pos e,b]; exact h2
    . have e':¬ q.1 = k:=fun z => e (h1.trans z)
      have b:atKey (q :: qs) k = atKey qs k:=by simp [atKey,List.find?_cons,e']
      rw [valV_neg e,b]; exact ih
theorem KT.repl {H:Hp} {kvs:List (List Key × V)} {xs:List (List Key × Addr × Value)} (r:KT H kvs xs) (k:List Key) {y:V} {u:Value} (ry:RelV y u) :
    KT H (kvs.map fun kv => if kv.1 = k then (kv.1,y) else kv) (xs.map (putAt k u)):=by
  induction r with
  | nil => exact .nil
  | @cons p q ps qs h t ih =>
    rw [List.map_cons,List.map_cons]
    refine .cons ?_ ih
    obtain ⟨h1,h2,h3⟩:=h
    unfold putAt
    by_cases e:p.1 = k
    . rw [if_pos e,if_pos (h1.symm.trans e)]; exact ⟨h1,h2,ry⟩
    . rw [if_neg e,if_neg (fun z => e (h1.trans z))]; exact ⟨h1,h2,h3⟩
theorem KT.put {H:Hp} {kvs:List (List Key × V)} {xs:List (List Key × Addr × Value)} (r:KT H kvs xs) (k:List Key) {b:Addr} {y:V} {u:Value} (hb:H b = some (.tup (k.map kV))) (ry:RelV y u) :
    KT H (putK kvs k y) (storedH xs k b u):=by
  have e:(kvs.any fun kv => decide (kv.1 = k)) = (atKey xs k).isSome:=by
    rw [valV_any,(r.val k).isSome_eq,Option.isSome_map]
  unfold putK storedH
  rw [e]
  by_cases q:(atKey xs k).isSome = true
  . rw [if_pos q,if_pos q]; exact r.repl k ry
  . rw [if_neg q,if_neg q]; exact Paired.snoc r ⟨rfl,hb,ry⟩
theorem KT.keeps {H H':Hp} {kvs:List (List Key × V)} {xs:List (List Key × Addr × Value)} (r:KT H kvs xs) (ht:∀ b ys,H b = some (.tup ys) -> H' b = some (.tup ys)):KT H' kvs xs :=
  Paired.mapP r fun _ _ z => ⟨z.1,ht _ _ z.2.1,z.2.2⟩
section
variable {P:Program} {w:World} {H:Hp} {h:Heap} {a:Addr}
theorem rd_of {u:HO} (ok:HOk P w H h) (e:Rd H a u):ObjOk P w H h a u:=e.ok ok
theorem dk_rd {kvs:List (Key × V)} (ok:HOk P w H h) (e:Rd H a (.dK kvs)):kvs.length <= sizeLine /\ (a == sysModules) = false /\ ∃ vs,KV kvs vs /\ h.DictOf (mixKind P w) a vs :=
  show ObjOk P w H h a (.dK kvs) from rd_of ok e
theorem dk_of {kvs:List (Key × V)} (ok:HOk P w H h) (e:H a = some (.dK kvs)):kvs.length <= sizeLine /\ (a == sysModules) = false /\ ∃ vs,KV kvs vs /\ h.DictOf (mixKind P w) a vs:=dk_rd ok (.inl e)
theorem key_of {ks:List Key} (ok:HOk P w H h) (e:H a = some (.tup (ks.map kV))):(tupleKind (mixKind P w)).is h ks a:=by
  obtain ⟨_,its,r,o,h1,h2,n,h3⟩:=(show ObjOk P w H h a (.tup (ks.map kV)) from ok a _ e)
  exact ⟨o,its.toArray,n,h1,h2,h3,by simpa using items_are r⟩
theorem dt_rd {kvs:List (List Key × V)} (ok:HOk P w H h) (e:Rd H a (.dT kvs)):kvs.length <= sizeLine /\ (a == sysModules) = false /\
    ∃ xs,KT H kvs xs /\ h.DictOfH (tupleKind (mixKind P w)) a xs:=by
  obtain ⟨z,y,xs,r,o,es,ep,h1,h2,h3,h4,h5⟩:=(show ObjOk P w H h a (.dT kvs) from rd_of ok e)
  refine ⟨z,y,xs,r,o,es,ep,h1,h2,h3,h4,fun x hx => ?_,h5⟩
  have all:∀ {l:List (List Key × V)} {m:List (List Key × Addr × Value)},KT H l m -> ∀ x ∈ m,(tupleKind (mixKind P w)).is h x.1 x.2.1:=by
    intro l m q
    induction q with
    | nil => intro x hx; exact nomatch hx
    | @cons p q ps qs hq t ih =>
      intro x hx
      rcases List.mem_cons.mp hx with e | hx
      . subst e
        exact key_of ok (by rw [<- hq.1]; exact hq.2.1)
      . exact ih x hx
  exact all r x hx
theorem dt_of {kvs:List (List Key × V)} (ok:HOk P w H h) (e:H a = some (.dT kvs)):kvs.length <= sizeLine /\ (a == sysModules) = false /\
    ∃ xs,KT H kvs xs /\ h.DictOfH (tupleKind (mixKind P w)) a xs:=dt_rd ok (.inl e)
end
def DGet (H:Hp) (a:Addr) (y:V) (r:Option V):Prop :=
  (∃ kvs k,Rd H a (.dK kvs) /\ y = kV k /\ r = valV kvs k) \/ ∃ kvs k b,Rd H a (.dT kvs) /\ y = .ref b /\ H b = some (.tup (k.map kV)) /\ r = valV kvs k
def DPut (H:Hp) (a:Addr) (y v:V) (H':Hp):Prop :=
  (∃ kvs k,H a = some (.dK kvs) /\ y = kV k /\ kvs.length < sizeLine /\ H' = upd H a (.dK (putK kvs k v))) \/
  ∃ kvs k b,H a = some (.dT kvs) /\ y = .ref b /\ H b = some (.tup (k.map kV)) /\ kvs.length < sizeLine /\ H' = upd H a (.dT (putK kvs k v))
theorem DGet.k {H:Hp} {a:Addr} {kvs:List (Key × V)} {k:Key} (e:H a = some (.dK kvs)):DGet H a (kV k) (valV kvs k):=.inl ⟨kvs,k,.inl e,rfl,rfl⟩
theorem DGet.t {H:Hp} {a b:Addr} {kvs:List (List Key × V)} {k:List Key} (e:H a = some (.dT kvs)) (eb:H b = some (.tup (k.map kV))):DGet H a (.ref b) (valV kvs k):=.inr ⟨kvs,k,b,.inl e,rfl,eb,rfl⟩
theorem DPut.k {H:Hp} {a:Addr} {kvs:List (Key × V)} {k:Key} {v:V} (e:H a = some (.dK kvs)) (hl:kvs.length < sizeLine):DPut H a (kV k) v (upd H a (.dK (putK kvs k v))):=.inl ⟨kvs,k,e,rfl,hl,rfl⟩
theorem DPut.t {H:Hp} {a b:Addr} {kvs:List (List Key × V)} {k:List Key} {v:V} (e:H a = some (.dT kvs)) (eb:H b = some (.tup (k.map kV))) (hl:kvs.length < sizeLine) :
    DPut H a (.ref b) v (upd H a (.dT (putK kvs k v))):=.inr ⟨kvs,k,b,e,rfl,eb,hl,rfl⟩
section
variable {X:Cx} {pins:List (Addr × Obj)} {σ:St} {H:Hp} {s:Shared} {a:Addr} {y v:V} {u r:Value} {o:Option V} {A:Around} {E:Value -> Shared -> Prop}
theorem Inv.big (I:Inv X pins σ H s):sysModules < s.heap.objs.size:=by
  have h:mainGlobals < s.heap.objs.size:=(I.mod.glob.keeps I.bk).lt
  exact Nat.lt_trans (by decide) h
theorem d_getItem {Q:Value -> Shared -> Prop} (hu:A.units + 1 < cLine) (I:Inv X pins σ H s) (g:DGet H a y (some v)) (ry:RelV y u) (h:∀ w' s',Inv X pins σ H s' -> RelV v w' -> Q w' s') :
    wpAny (model X.prog X.w) A (getItem (.ref a) u) Q E s:=by
  rcases g with ⟨kvs,k,e,ey,l⟩ | ⟨kvs,k,b,e,ey,eb,l⟩
  . subst ey
    obtain ⟨z,hd,vs,rel,dd⟩:=dk_rd I.hok e
    obtain ⟨w',hw,rw'⟩:=RelO.some_of (v:=v) (o:=valueAt vs k) (by rw [l]; exact rel.val k)
    exact wpAny_getItem_of (kV_is ry) dd.mapOf hw (h w' _ (I.tok _) rw')
  . subst ey
    cases (show u = Value.ref b from ry)
    obtain ⟨z,hd,xs,rel,dd⟩:=dt_rd I.hok e
    obtain ⟨w',hw,rw'⟩:=RelO.some_of (v:=v) (o:=(atKey xs k).map (·.2)) (by rw [l]; exact rel.val k)
    obtain ⟨p,hp,hp2⟩:=Option.map_eq_some_iff.mp hw
    refine wpAny_getItem_heap (tupleKind_room_in1 hu) (key_of I.hok eb) dd hp ?_
    rw [hp2]
    exact h w' _ (I.tok _) rw'
theorem d_notIn {Q:Value -> Shared -> Prop} (hu:A.units + 1 < cLine) (I:Inv X pins σ H s) (g:DGet H a y o) (ry:RelV y u) (h:∀ s',Inv X pins σ H s' -> Q (.bool (!o.isSome)) s') :
    wpAny (model X.prog X.w) A (compareOp .NotIn u (.ref a)) Q E s:=by
  rcases g with ⟨kvs,k,e,ey,l⟩ | ⟨kvs,k,b,e,ey,eb,l⟩
  . subst ey
    obtain ⟨z,hd,vs,rel,dd⟩:=dk_rd I.hok e
    refine wpAny_notIn_of (kV_is ry) hd dd.mapOf ?_
    rw [<- (rel.val k).isSome_eq,<- l]
    exact h _ (I.tok _)
  . subst ey
    cases (show u = Value.ref b from ry)
    obtain ⟨z,hd,xs,rel,dd⟩:=dt_rd I.hok e
    refine wpAny_notIn_heap (tupleKind_room_in1 hu) (key_of I.hok eb) hd dd ?_
    have q:=(rel.val k).isSome_eq
    rw [Option.isSome_map] at q
    rw [<- q,<- l]
    exact h _ (I.tok _)
theorem d_write {h':Heap} {t':Nat} {ob:HO} (I:Inv X pins σ H s) (mu:Mut (H a)) (hs:Heap.SameBut a s.heap h') (he:∃ q,h'.get? a = some q) (new:ObjOk X.prog X.w (upd H a ob) h' a ob) :
    Inv X pins σ (upd H a ob) { s with heap:=h',toks:=t' } :=
  I.write (x:=a) (e:=a) mu (.inl rfl) (fun b q hb z => (hs.2 b hb).trans z) he new
theorem dk_new {P:Program} {w:World} {H':Hp} {h':Heap} {kvs:List (Key × V)} {vs:List (Key × Value)} (z:kvs.length <= sizeLine) (hd:(a == sysModules) = false) (rel:KV kvs vs) (dd:h'.DictOf (mixKind P w) a vs) :
    ObjOk P w H' h' a (.dK kvs):=⟨z,hd,vs,rel,dd⟩
theorem d_setItem {H':Hp} {Q:Unit -> Shared -> Prop} (hu:A.units + 1 < cLine) (I:Inv X pins σ H s) (g:DPut H a y v H') (ry:RelV y u) (rv:RelV v r) (h:∀ s',Inv X pins σ H' s' -> Q () s') :
    wpAny (model X.prog X.w) A (setItem (.ref a) u r) Q E s:=by
  rcases g with ⟨kvs,k,e,ey,l,eH⟩ | ⟨kvs,k,b,e,ey,eb,l,eH⟩
  . subst ey eH
    obtain ⟨z,hd,vs,rel,dd⟩:=dk_of I.hok e
    have hz:vs.length <= sizeLine:=by rw [<- rel.length]; exact z
    have hl:(putK kvs k v).length <= sizeLine:=by have:=length_putK kvs k v; omega
    refine wpAny_setItem_pairs (hsz:=hz) (kV_is ry) dd fun h' dd' hs => h _ ?_
    have he:∃ q,h'.get? a = some q:=let ⟨q,_,_,hq,_⟩:=dd'; ⟨q,hq⟩
    exact d_write I (by rw [e]; exact True.intro) hs he (dk_new hl hd (rel.put k rv) dd')
  . subst ey eH
    cases (show u = Value.ref b from ry)
    obtain ⟨z,hd,xs,rel,dd⟩:=dt_of I.hok e
    have hz:xs.length <= sizeLine:=by rw [<- Paired.length rel]; exact z
    have hl:(putK kvs k v).length <= sizeLine:=by have:=length_putK kvs k v; omega
    refine wpAny_setItem_heap (hsz:=hz) (tupleKind_room_in1 hu) (key_of I.hok eb) dd fun h' dd' hs => h _ ?_
    obtain ⟨q,es,ep,hq,h2,h3,h4,_,h5⟩:=dd'
    refine d_write I (by rw [e]; exact True.intro) hs ⟨q,hq⟩ ⟨hl,hd,_,(rel.put k eb rv).keeps fun c ys ec => ?_,q,es,ep,hq,h2,h3,h4,h5⟩
    rw [upd_ne (ne_of ec e (fun z => nomatch z))]
    exact ec
end
section
variable {X:Cx} {pins:List (Addr × Obj)} {σ:St} {H:Hp} {s:Shared} {a:Addr} {kvs:List (Key × V)} {k:Key} {u:Value} {A:Around} {E:Value -> Shared -> Prop}
theorem d_pop {v:V} {more:List Value} {Q:Value -> Shared -> Prop} (I:Inv X pins σ H s) (e:H a = some (.dK kvs)) (ry:RelV (kV k) u) (l:valV kvs k = some v) (hm:more = [] \/ ∃ x,more = [x])
    (h:∀ w' s',Inv X pins σ (upd H a (.dK (dropK kvs k))) s' -> RelV v w' -> Q w' s'):wpAny (model X.prog X.w) A (call (.builtin "dict.pop") (.ref a :: u :: more)) Q E s:=by
  obtain ⟨z,hd,vs,rel,dd⟩:=dk_of I.hok e
  obtain ⟨w',hw,rw'⟩:=RelO.some_of (v:=v) (o:=valueAt vs k) (by rw [<- l]; exact rel.val k)
  have hp:(keyPart u).isSome = true:=by
    cases k with
    | inl i => obtain ⟨t,q⟩:=(show ∃ t,u = Value.int i t from ry); subst q; rfl
    | inr x => obtain ⟨t,q⟩:=(show ∃ t,u = Value.str x t from ry); subst q; rfl
  have ha:argsOk "dict.pop" ⟨.ref a :: u :: more,[]⟩:=by
    rcases hm with q | ⟨x,q⟩
    . subst q; exact PySem.F.args_dict_pop_2 _ _
    . subst q; exact PySem.F.args_dict_pop_3 _ _ _
  refine call_meetsIn PySem.F.slot_dict_pop dd.typeIs PySem.F.entry_dict_pop ha (meets_dict_pop_there (mixKind X.prog X.w) a (kV_is ry) more hm hp)
    ⟨vs,w',dd,by rw [<- rel.length]; exact z,hw,fun h' dd' hs => h w' _ ?_ rw'⟩
  have he:∃ q,h'.get? a = some q:=let ⟨q,_,_,hq,_⟩:=dd'; ⟨q,hq⟩
  exact d_write I (by rw [e]; exact True.intro) hs he (dk_new (Nat.le_trans (dropK_le kvs k) z) hd (rel.drop k) dd')
theorem d_popD {r:Value} {Q:Value -> Shared -> Prop} (I:Inv X pins σ H s) (e:H a = some (.dK kvs)) (ry:RelV (kV k) u) (l:valV kvs k = none) (h:∀ s',Inv X pins σ H s' -> Q r s') :
    wpAny (model X.prog X.w) A (call (.builtin "dict.pop") [.ref a,u,r]) Q E s:=by
  obtain ⟨z,hd,vs,rel,dd⟩:=dk_of I.hok e
  have hn:valueAt vs k = none:=RelO.none_of (by rw [<- l]; exact rel.val k)
  have hp:(keyPart u).isSome = true:=by
    cases k with
    | inl i => obtain ⟨t,q⟩:=(show ∃ t,u = Value.int i t from ry); subst q; rfl
    | inr x => obtain ⟨t,q⟩:=(show ∃ t,u = Value.str x t from ry); subst q; rfl
  exact call_meetsIn PySem.F.slot_dict_pop dd.typeIs PySem.F.entry_dict_pop (PySem.F.args_dict_pop_3 _ _ _) (meets_dict_pop_default (mixKind X.prog X.w) a (kV_is ry) hd hp r) ⟨vs,dd,hn,h _ (I.tok _)⟩
theorem d_len {Q:Value -> Shared -> Prop} (I:Inv X pins σ H s) (e:Rd H a (.dK kvs)) (h:∀ t s',Inv X pins σ H s' -> Q (.int kvs.length t) s'):wpAny (model X.prog X.w) A (call (.builtin "len") [.ref a]) Q E s:=by
  obtain ⟨z,hd,vs,rel,dd⟩:=dk_rd I.hok e
  refine call_len_dict hd dd (by rw [<- rel.length]; rw [sizeLine_eq] at z; omega) ?_
  rw [<- rel.length]
  exact h _ _ (I.tok _)
end
def NoSl (i:Expr):Prop:=∀ ov iv,subscripted i false ov iv = operate [ov,iv] (getItem ov iv)
theorem subD_of {prog:Program} {w:World} {A:Around} {E:Value -> Shared -> Prop} {s:Shared} {env:Env} {value slice:Expr} {pos:Pos} {T id:String} {Q:Value -> Shared -> Prop}
    (hl:typeLookup (.type T) "__getitem__" = pure (some (.builtin id))) (hs:NoSl slice)
    (h:wpAny (model prog w) A (eval value env) (fun o s₁ => wpAny (model prog w) A (eval slice env) (fun i s₂ => s₂.TypeIs o T /\ wpAny (model prog w) A (getItem o i) Q E s₂) E s₁) E s) :
    wpAny (model prog w) A (eval (.Subscript value slice pos) env) Q E s:=by
  refine Subscript_ (wpAny_mono h (fun o s₁ h₁ => wpAny_mono h₁ (fun i s₂ h₂ => ?_) fun _ _ x => x) fun _ _ x => x)
  obtain ⟨hT,h₂⟩:=h₂
  unfold subscriptTail
  refine wpAny_bind ?_
  rw [getitemInPython_of_ne hT.not_modules]
  refine wpAny_bind (wpAny_specialOf hT hl ?_)
  have fin:wpAny (model prog w) A (subscripted slice false o i) (fun r s₃ => wpAny (model prog w) A (letTemporaryGo value o r >>= fun _ => pure r) Q E s₃) E s₂:=by
    rw [hs o i]
    exact wpAny_operating (wpAny_mono h₂ (fun r s₃ h₃ => wpAny_bind (wpAny_letTemporaryGo (wpAny_pure h₃))) fun _ _ x => x)
  first
    | exact wpAny_pure (wpAny_bind fin)
    | exact wpAny_bind (wpAny_pure (wpAny_bind fin))
    | exact wpAny_bind fin
theorem dict_typeIs {X:Cx} {pins:List (Addr × Obj)} {σ:St} {H:Hp} {s:Shared} {a:Addr} {y:V} {o:Option V} (I:Inv X pins σ H s) (g:DGet H a y o):s.TypeIs (.ref a) "dict":=by
  rcases g with ⟨kvs,k,e,_,_⟩ | ⟨kvs,k,b,e,_,_,_⟩
  . obtain ⟨_,_,vs,_,dd⟩:=dk_rd I.hok e
    exact dd.typeIs
  . obtain ⟨_,_,xs,_,dd⟩:=dt_rd I.hok e
    exact dd.typeIs
def tDGet (td ty:TE):TE:=fun σ H Q => td σ H fun x H1 => ty σ H1 fun y H2 => ∃ a v,x = .ref a /\ DGet H2 a y (some v) /\ Q v H2
def tDNotIn (ty td:TE):TE:=fun σ H Q => ty σ H fun y H1 => td σ H1 fun x H2 => ∃ a o,x = .ref a /\ DGet H2 a y o /\ Q (.bl (!o.isSome)) H2
def sDPut (td ty tv:TE):TS:=fun D σ H => tv σ H fun v H1 => td σ H1 fun x H2 => ty σ H2 fun y H3 => ∃ a H4,x = .ref a /\ DPut H3 a y v H4 /\ D.nx σ H4
section
variable {X:Cx} {o i e value:Expr} {pos pos' tpos:Pos} {td ty tv:TE}
theorem pe_dget (hu:X.A.units + 1 < cLine) (ho:PE X o td) (hi:PE X i ty) (hs:NoSl i):PE X (.Subscript o i pos) (tDGet td ty):=by
  intro pins s σ H Q I h
  refine subD_of PySem.F.slot_dict_getitem.lookup hs (thn (ho pins s σ H _ I h) fun u s1 ⟨x,H1,I1,rx,q1⟩ => thn (hi pins s1 σ H1 _ I1 q1) fun iv s2 ⟨y,H2,I2,ry,a,v,ex,g,q2⟩ => ?_)
  subst ex
  obtain rfl:u = Value.ref a:=rx
  exact ⟨dict_typeIs I2 g,d_getItem hu I2 g ry fun w' s3 I3 rw' => ⟨v,H2,I3,rw',q2⟩⟩
theorem pc_dnotin (hu:X.A.units + 1 < cLine) (hi:PE X i ty) (ho:PE X o td):PC X .NotIn i o (tDNotIn ty td):=by
  intro pins s σ H Q I h
  refine thn (hi pins s σ H _ I h) fun iv s1 ⟨y,H1,I1,ry,q1⟩ => thn (ho pins s1 σ H1 _ I1 q1) fun u s2 ⟨x,H2,I2,rx,a,ov,ex,g,q2⟩ => ?_
  subst ex
  obtain rfl:u = Value.ref a:=rx
  exact d_notIn hu I2 g ry fun s3 I3 => ⟨.bl (!ov.isSome),H2,I3,rfl,q2⟩
theorem ps_dput (hu:X.A.units + 1 < cLine) (ho:PE X o td) (hi:PE X i ty) (hv:PE X value tv) (hs:swapsWith value (some (.Subscript o i pos')) pos.line X.env = pure false) :
    PS X (.Assign [.Subscript o i pos'] value pos) (sDPut td ty tv):=by
  intro pins s σ H D I h
  refine wpAny_Assign_Subscript (thn (hv pins s σ H _ I h) fun r s1 ⟨v,H1,I1,rv,q1⟩ => thn (ho pins s1 σ H1 _ I1 q1) fun u s2 ⟨x,H2,I2,rx,q2⟩ => thn (hi pins s2 σ H2 _ I2 q2) fun iv s3 ⟨y,H3,I3,ry,a,H4,ex,g,q3⟩ => ?_) hs
  subst ex
  obtain rfl:u = Value.ref a:=rx
  exact d_setItem hu I3 g ry rv fun s4 I4 => ⟨σ,H4,I4,q3⟩
end
theorem dk_empty {P:Program} {w:World} {H:Hp} (h:Heap) (hb:sysModules < h.objs.size):ObjOk P w H (h.push { cls:=.type "dict",data:=.dict #[] }) h.objs.size (.dK []) :=
  ⟨Nat.zero_le _,beq_eq_false_iff_ne.mpr (Ne.symm (Nat.ne_of_lt hb)),[],.nil,Heap.DictOf.new h⟩
theorem dt_empty {P:Program} {w:World} {H:Hp} (h:Heap) (hb:sysModules < h.objs.size):ObjOk P w H (h.push { cls:=.type "dict",data:=.dict #[] }) h.objs.size (.dT []) :=
  ⟨Nat.zero_le _,beq_eq_false_iff_ne.mpr (Ne.symm (Nat.ne_of_lt hb)),[],.nil,_,#[],0,Heap.get?_push_size _ rfl,⟨rfl,rfl,rfl⟩,rfl,rfl,List.nodup_nil⟩
def tDNewK:TE:=fun _ H Q => ∀ p,H p = none -> Q (.ref p) (upd H p (.dK []))
def tDNewT:TE:=fun _ H Q => ∀ p,H p = none -> Q (.ref p) (upd H p (.dT []))
section
variable {X:Cx} {pos:Pos}
theorem pe_dnewK:PE X (.Dict [] [] pos) tDNewK:=fun pins s σ H Q I h =>
  wpAny_Dict_empty ⟨.ref s.heap.objs.size,_,I.laid (a:=s.heap.objs.size) (o:=.dK []) (t':=s.toks) (fun _ _ q => Heap.get?_push_of_some _ q) (Nat.le_refl _) (dk_empty s.heap I.big),rfl,h _ (I.hok.fresh (Nat.le_refl _))⟩
theorem pe_dnewT:PE X (.Dict [] [] pos) tDNewT:=fun pins s σ H Q I h =>
  wpAny_Dict_empty ⟨.ref s.heap.objs.size,_,I.laid (a:=s.heap.objs.size) (o:=.dT []) (t':=s.toks) (fun _ _ q => Heap.get?_push_of_some _ q) (Nat.le_refl _) (dt_empty s.heap I.big),rfl,h _ (I.hok.fresh (Nat.le_refl _))⟩
end
def tPairs:List (TE × TE) -> St -> Hp -> (List (V × V) -> Hp -> Prop) -> Prop
  | [],_,H,Q => Q [] H
  | (tk,tv) :: r,σ,H,Q => tk σ H fun x H1 => tv σ H1 fun y H2 => tPairs r σ H2 fun ps H3 => Q ((x,y) :: ps) H3
abbrev VV:List (V × V) -> List (Value × Value) -> Prop:=Paired fun p q => RelV p.1 q.1 /\ RelV p.2 q.2
def PPs (X:Cx) (pos:Pos) (keys:List (Option Expr)) (values:List Expr) (trs:List (TE × TE)):Prop :=
  ∀ (pins:List (Addr × Obj)) (s:Shared) (σ:St) (H:Hp) (Q:List (V × V) -> Hp -> Prop),Inv X pins σ H s -> tPairs trs σ H Q ->
    wpAny (model X.prog X.w) X.A (evalPairs (pairTrees keys values X.env pos)) (fun vs s' => ∃ ps H',Inv X pins σ H' s' /\ VV ps vs /\ Q ps H') X.xe s
theorem pps_nil {X:Cx} {pos:Pos}:PPs X pos [] [] []:=fun pins s σ H Q I h => pairTrees_nil_walk ⟨[],H,I,.nil,h⟩
theorem pps_cons {X:Cx} {pos:Pos} {k v:Expr} {ks:List (Option Expr)} {vs:List Expr} {tk tv:TE} {trs:List (TE × TE)} (hk:PE X k tk) (hv:PE X v tv) (hr:PPs X pos ks vs trs) :
    PPs X pos (some k :: ks) (v :: vs) ((tk,tv) :: trs):=fun pins s σ H Q I h =>
  pairTrees_cons_walk (thn (hk pins s σ H _ I h) fun u s1 ⟨x,H1,I1,rx,q1⟩ => thn (hv pins s1 σ H1 _ I1 q1) fun w2 s2 ⟨y,H2,I2,ry,q2⟩ =>
    thn (hr pins s2 σ H2 _ I2 q2) fun ws s3 ⟨ps,H3,I3,rel,q3⟩ => ⟨(x,y) :: ps,H3,I3,.cons ⟨rx,ry⟩ rel,q3⟩)
def mergeK (kvs more:List (Key × V)):List (Key × V):=more.foldl (fun acc kv => putK acc kv.1 kv.2) kvs
theorem KV.merge:∀ {more:List (Key × V)} {rs:List (Key × Value)} {kvs:List (Key × V)} {vs:List (Key × Value)},KV more rs -> KV kvs vs -> KV (mergeK kvs more) (merged vs rs):=by
  intro more rs kvs vs r
  unfold KV at r
  induction r generalizing kvs vs with
  | nil => intro q; exact q
  | @cons p q ps qs h t ih =>
    intro r0
    have e:KV (putK kvs p.1 p.2) (stored vs q.1 q.2):=by
      have:=r0.put p.1 h.2
      rw [<- h.1]; exact this
    exact ih e
theorem length_mergeK:∀ (more kvs:List (Key × V)),(mergeK kvs more).length <= kvs.length + more.length
  | [],kvs => by show kvs.length <= kvs.length + 0; omega
  | p :: r,kvs => by
    have h1:=length_mergeK r (putK kvs p.1 p.2)
    have h2:=length_putK kvs p.1 p.2
    show (mergeK (putK kvs p.1 p.2) r).length <= _
    rw [List.length_cons]; omega
theorem carries_of {P:Program} {w:World}:∀ {kvs:List (Key × V)} {ws:List (Value × Value)},VV (kvs.map fun kv => (kV kv.1,kv.2)) ws -> ∃ rs,Carries (mixKind P w) ws rs /\ KV kvs rs
  | [],_,r => by rw [List.map_nil] at r; cases r; exact ⟨[],True.intro,.nil⟩
  | p :: kvs,_,r => by
    rw [List.map_cons] at r
    cases r with
    | @cons a b as bs h t =>
      obtain ⟨rs,c,q⟩:=carries_of (P:=P) (w:=w) t
      obtain ⟨b1,b2⟩:=b
      exact ⟨(p.1,b2) :: rs,⟨kV_is h.1,rfl,c⟩,.cons ⟨rfl,h.2⟩ q⟩
def tDisp (trs:List (TE × TE)):TE:=fun σ H Q => ∀ p,H p = none -> tPairs trs σ (upd H p (.dK [])) fun ps H2 => H2 p = some (.dK []) /\ ∃ kvs:List (Key × V),ps = kvs.map (fun kv => (kV kv.1,kv.2)) /\ kvs.length <= 15 /\ Q (.ref p) (upd H2 p (.dK (mergeK [] kvs)))
theorem pe_disp {X:Cx} {pos:Pos} {keys:List (Option Expr)} {values:List Expr} {trs:List (TE × TE)} (h:PPs X pos keys values trs) (hall:keys.all (·.isSome) = true) (hl:keys.length = values.length) (h0:keys ≠ [])
    (h15:keys.length <= 15):PE X (.Dict keys values pos) (tDisp trs):=by
  intro pins s σ H Q I q
  have hn:=I.hok.fresh (Nat.le_refl s.heap.objs.size)
  have I1:=I.laid (a:=s.heap.objs.size) (o:=.dK []) (h':=s.heap.push { cls:=.type "dict",data:=.dict #[] }) (t':=s.toks) (fun _ _ q => Heap.get?_push_of_some _ q) (Nat.le_refl _) (dk_empty s.heap I.big)
  refine wpAny_Dict_walk (knd:=mixKind X.prog X.w) hall hl h0 h15 (thn (h pins _ σ _ _ I1 (q _ hn)) fun ws s2 ⟨ps,H2,I2,rel,e,kvs,ep,lk,q2⟩ => ?_)
  subst ep
  obtain ⟨rs,c,rk⟩:=carries_of (P:=X.prog) (w:=X.w) rel
  obtain ⟨z,hd,vs0,r0,dd⟩:=dk_of I2.hok e
  cases r0
  refine ⟨rs,c,dd,fun h' dd' hs => ⟨.ref s.heap.objs.size,_,?_,rfl,q2⟩⟩
  have hz:(mergeK [] kvs).length <= sizeLine:=by
    have h1:=length_mergeK kvs []
    rw [List.length_nil] at h1
    rw [sizeLine_eq]; omega
  have he:∃ q,h'.get? s.heap.objs.size = some q:=let ⟨q,_,_,hq,_⟩:=dd'; ⟨q,hq⟩
  exact d_write I2 (by rw [e]; exact True.intro) hs he (dk_new hz hd (rk.merge .nil) dd')
structure M1 (X:Cx) (o:Expr) (m:Str) (apos:Pos) (e:Expr) (cpos:Pos):Prop where
  base:attributeBase o m X.env (eval o X.env) = eval o X.env
  few:((backTo cpos (starEach [e] X.env)).all (fun x => !x.1) && (backToKw cpos (keywordEach [] X.env)).all (fun x => x.1.isSome)
    && decide (([e]:List Expr).length + ([]:List Keyword).length + (if ([]:List Keyword).isEmpty then 0 else 1) < 30)) = true
  line:(apos.endLine == cpos.line) = true
  trees:backTo cpos (starEach [e] X.env) = [(false,eval e X.env)]
structure M2 (X:Cx) (o:Expr) (m:Str) (apos:Pos) (e f:Expr) (cpos:Pos):Prop where
  base:attributeBase o m X.env (eval o X.env) = eval o X.env
  few:((backTo cpos (starEach [e,f] X.env)).all (fun x => !x.1) && (backToKw cpos (keywordEach [] X.env)).all (fun x => x.1.isSome)
    && decide (([e,f]:List Expr).length + ([]:List Keyword).length + (if ([]:List Keyword).isEmpty then 0 else 1) < 30)) = true
  line:(apos.endLine == cpos.line) = true
  trees:backTo cpos (starEach [e,f] X.env) = [(false,eval e X.env),(false,eval f X.env)]
def IsD (H:Hp) (a:Addr):Prop:=(∃ kvs,Rd H a (.dK kvs)) \/ ∃ kvs,Rd H a (.dT kvs)
theorem isD_at {X:Cx} {pins:List (Addr × Obj)} {σ:St} {H:Hp} {s:Shared} {a:Addr} (I:Inv X pins σ H s) (d:IsD H a) :
    s.TypeIs (.ref a) "dict" /\ (∀ b,Value.ref a = .ref b -> ∃ ob,s.heap.get? b = some ob /\ ob.dict = none) /\ (a == sysModules) = false:=by
  rcases d with ⟨kvs,e⟩ | ⟨kvs,e⟩
  . obtain ⟨_,hd,vs,_,dd⟩:=dk_rd I.hok e
    refine ⟨dd.typeIs,fun b q => ?_,hd⟩
    cases q
    obtain ⟨ob,_,_,h1,h2,_⟩:=dd
    exact ⟨ob,h1,h2.2.1⟩
  . obtain ⟨_,hd,xs,_,dd⟩:=dt_rd I.hok e
    refine ⟨dd.typeIs,fun b q => ?_,hd⟩
    cases q
    obtain ⟨ob,_,_,h1,h2,_⟩:=dd
    exact ⟨ob,h1,h2.2.1⟩
section
variable {X:Cx} {pins:List (Addr × Obj)} {σ:St} {H:Hp} {s:Shared} {a:Addr} {y d:V} {u r:Value} {o:Option V} {A:Around} {E:Value -> Shared -> Prop}
theorem d_get2 {Q:Value -> Shared -> Prop} (hu:A.units + 1 < cLine) (I:Inv X pins σ H s) (g:DGet H a y o) (ry:RelV y u) (rd:RelV d r) (h:∀ w' s',Inv X pins σ H s' -> RelV (o.getD d) w' -> Q w' s') :
    wpAny (model X.prog X.w) A (call (.builtin "dict.get") [.ref a,u,r]) Q E s:=by
  rcases g with ⟨kvs,k,e,ey,l⟩ | ⟨kvs,k,b,e,ey,eb,l⟩
  . subst ey
    obtain ⟨z,hd,vs,rel,dd⟩:=dk_rd I.hok e
    refine call_meetsIn PySem.F.slot_dict_get dd.typeIs PySem.F.entry_dict_get (PySem.F.args_dict_get_3 _ _ _) (meets_dict_get_default (mixKind X.prog X.w) a (kV_is ry) hd r) ⟨_,dd.mapOf,h _ _ (I.tok _) ?_⟩
    rw [l]
    exact (rel.val k).getD rd
  . subst ey
    cases (show u = Value.ref b from ry)
    obtain ⟨z,hd,xs,rel,dd⟩:=dt_rd I.hok e
    refine call_meetsIn PySem.F.slot_dict_get dd.typeIs PySem.F.entry_dict_get (PySem.F.args_dict_get_3 _ _ _) (meetsH_dict_get_default (tupleKind (mixKind X.prog X.w)) a b hd r) ⟨tupleKind_room_in1 hu,k,xs,key_of I.hok eb,dd,h _ _ (I.tok _) ?_⟩
    rw [l]
    exact (rel.val k).getD rd
end
def tDGet2 (td ty tx:TE):TE:=fun σ H Q => td σ H fun x H1 => ∃ a,x = .ref a /\ IsD H1 a /\ ty σ H1 fun y H2 => tx σ H2 fun z H3 => ∃ o,DGet H3 a y o /\ Q (o.getD z) H3
def tDPop2 (td ty tx:TE):TE:=fun σ H Q => td σ H fun x H1 => ∃ a,x = .ref a /\ IsD H1 a /\ ty σ H1 fun y H2 => tx σ H2 fun z H3 => ∃ kvs k,H3 a = some (.dK kvs) /\ y = kV k /\
  (∀ v,valV kvs k = some v -> Q v (upd H3 a (.dK (dropK kvs k)))) /\ (valV kvs k = none -> Q z H3)
section
variable {X:Cx} {o e f:Expr} {apos cpos:Pos} {td ty tx:TE}
theorem pe_dget2 (hu : X.A.units + 1 < cLine) (ho : PE X o td) (he : PE X e ty) (hf : PE X f tx) (m : M2 X o "get" apos e f cpos) : PE X (.Call (.Attribute o "get" apos) [e, f] [] cpos) (tDGet2 td ty tx) := by
  intro pins s σ H Q I h
  refine wpAny_Call_method m.base m.few m.line PySem.F.plainAttrs_dict PySem.F.slot_dict_get PySem.F.type_dict_get (thn (ho pins s σ H _ I h) fun u s1 ⟨x,H1,I1,rx,a,ex,d,q1⟩ => ?_)
  subst ex
  obtain rfl:u = Value.ref a:=rx
  obtain ⟨t1,t2,_⟩:=isD_at I1 d
  refine ⟨t1,t2,?_⟩
  rw [m.trees]
  refine Calls.callWith_builtin rfl (Calls.evalArgs_plain (Calls.spliced_cons (thn (he pins s1 σ H1 _ I1 q1) fun iv s2 ⟨y,H2,I2,ry,q2⟩ =>
    Calls.spliced_cons (thn (hf pins s2 σ H2 _ I2 q2) fun fv s3 ⟨z,H3,I3,rz,ov,g,q3⟩ => Calls.spliced_nil ?_))))
  exact d_get2 hu I3 g ry rz fun w' s4 I4 rw' => ⟨_,H3,I4,rw',q3⟩
theorem pe_dpop2 (ho : PE X o td) (he : PE X e ty) (hf : PE X f tx) (m : M2 X o "pop" apos e f cpos) : PE X (.Call (.Attribute o "pop" apos) [e, f] [] cpos) (tDPop2 td ty tx) := by
  intro pins s σ H Q I h
  refine wpAny_Call_method m.base m.few m.line PySem.F.plainAttrs_dict PySem.F.slot_dict_pop PySem.F.type_dict_pop (thn (ho pins s σ H _ I h) fun u s1 ⟨x,H1,I1,rx,a,ex,d,q1⟩ => ?_)
  subst ex
  obtain rfl:u = Value.ref a:=rx
  obtain ⟨t1,t2,_⟩:=isD_at I1 d
  refine ⟨t1,t2,?_⟩
  rw [m.trees]
  refine Calls.callWith_builtin rfl (Calls.evalArgs_plain (Calls.spliced_cons (thn (he pins s1 σ H1 _ I1 q1) fun iv s2 ⟨y,H2,I2,ry,q2⟩ =>
    Calls.spliced_cons (thn (hf pins s2 σ H2 _ I2 q2) fun fv s3 ⟨z,H3,I3,rz,kvs,k,ea,ey,q3,q4⟩ => Calls.spliced_nil ?_))))
  subst ey
  cases l:valV kvs k with
  | some v => exact d_pop I3 ea ry l (.inr ⟨fv,rfl⟩) fun w' s4 I4 rw' => ⟨v,_,I4,rw',q3 v l⟩
  | none => exact d_popD I3 ea ry l fun s4 I4 => ⟨z,H3,I4,rz,q4 l⟩
end
section
variable {X:Cx} {pins:List (Addr × Obj)} {σ:St} {H:Hp} {s:Shared} {a:Addr} {kvs:List (Key × V)} {A:Around} {E:Value -> Shared -> Prop}
end
section
variable {X:Cx} {pins:List (Addr × Obj)} {σ:St} {H:Hp} {s:Shared} {a:Addr} {y:V} {u:Value} {A:Around} {E:Value -> Shared -> Prop}
end
end L2
namespace L2
open PySem PySem.Spec PyProof.Rows
section
variable {prog:Program} {w:World} {A:Around} {E:Value -> Shared -> Prop}
end
section
variable {X:Cx}
end
end L2
namespace L2
open PySem PySem.Spec PyProof.Rows
section
variable {X:Cx} {pins:List (Addr × Obj)} {σ:St} {H:Hp} {s:Shared} {h':Heap}
theorem Inv.turnedNew {t':Nat} {ch:List Addr} {T:Addr} {ob:HO} (I:Inv X pins σ H s) (k:∀ b o,b ∉ ch -> s.heap.get? b = some o -> h'.get? b = some o) (hf:∀ b ∈ ch,FpOk X pins H b) (hT:s.heap.objs.size <= T)
    (new:ObjOk X.prog X.w (upd H T ob) h' T ob):Inv X pins σ (upd H T ob) { s with heap:=h',toks:=t' }:=by
  have hn:H T = none:=I.hok.fresh hT
  have nit:∀ b u,H b = some u -> b ∉ ch:=fun b u e z => by
    have q:=(hf b z).1
    rw [q] at e; cases e
  refine I.step (g':=s.gens) (d':=s.drawn) (ch:=ch) (fun b hb => ⟨(hf b hb).2.2.2.1,(hf b hb).2.1,(hf b hb).2.2.2.2.1,(hf b hb).2.2.2.2.2⟩) (fun b o _ _ hc e _ => k b o hc e) (fun b o _ _ hc e _ => ⟨o.slots,k b o hc e⟩)
    (fun b o _ e n => ?_) (fun b o hc e => ⟨o,k b o hc e⟩) (fun b xs e => ?_) (fun b o u e => ?_) (fun b ps e => ⟨#[],?_⟩) (fun m hm => ?_) (fun b u e => ?_) I.bare
  . rw [upd_ne (Nat.ne_of_lt (Nat.lt_of_lt_of_le (Heap.lt_size e) hT))]; exact n
  . rw [upd_ne (ne_of_none e hn)]; exact e
  . rw [upd_ne (ne_of_none e hn)]; exact e
  . rw [upd_ne (ne_of_none e hn),e]; simp
  . obtain ⟨o,es,ep,ho,r⟩:=hm
    exact ⟨o,es,ep,k _ o (fun z => (hf _ z).2.1 rfl) ho,r⟩
  . by_cases hb:b = T
    . subst hb
      rw [upd_same] at e
      cases e
      exact new
    . rw [upd_ne hb] at e
      refine (I.hok b u e).stay (fun c v hc q => k c v ?_ q) (fun c q => by rw [upd_ne (ne_of_none q hn)]; exact q) fun c xs q => by rw [upd_ne (ne_of_none q hn)]; exact q
      rcases hc with z | z
      . rw [z]; exact nit b u e
      . exact nit c _ z
theorem Inv.lock {d:Addr} {u:HO} (I:Inv X pins σ H s) (h:H d = some u) (mu:Mut (some u)):∃ od,Inv X pins σ (upd H d (.frz od u)) s:=by
  have x:=I.hok d u h
  have ex:∃ od,s.heap.get? d = some od:=by
    cases u with
    | lst xs => obtain ⟨_,_,_,_,e⟩:=x; exact ⟨_,e⟩
    | dK kvs => obtain ⟨_,_,_,_,o,_,_,e,_⟩:=x; exact ⟨o,e⟩
    | dT kvs => obtain ⟨_,_,_,_,o,_,_,e,_⟩:=x; exact ⟨o,e⟩
    | set S n => obtain ⟨o,_,_,_,e,_⟩:=x; exact ⟨o,e⟩
    | ins C dx fs => obtain ⟨_,_,_,e,_⟩:=x; exact ⟨_,e⟩
    | ext φ => obtain ⟨_,⟨_,e⟩,_⟩:=x; exact ⟨_,e⟩
    | _ => exact False.elim mu
  obtain ⟨od,e⟩:=ex
  have new:ObjOk X.prog X.w (upd H d (.frz od u)) s.heap d (.frz od u):=by
    refine ⟨e,x.stay (fun b v _ q => q) (fun b q => ?_) fun b xs q => ?_⟩
    . rw [upd_ne (fun z => by rw [z,h] at q; cases q; exact mu)]; exact q
    . rw [upd_ne (fun z => by rw [z,h] at q; cases q; exact mu)]; exact q
  exact ⟨od,I.write (x:=d) (e:=d) (t':=s.toks) (h':=s.heap) (by rw [h]; exact mu) (.inl rfl) (fun b v _ q => q) ⟨od,e⟩ new⟩
theorem Inv.nofrz {d:Addr} {u:HO} (I:Inv X pins σ H s) (h:H d = some u) (mu:Mut (some u)):∀ o' u',X.H_0 d ≠ some (.frz o' u'):=fun o' u' e => by
  have q:=I.base.frzs d o' u' e
  rw [h] at q
  cases q
  exact mu
theorem Inv.unlock {d:Addr} {od:Obj} {u:HO} (I:Inv X pins σ H s) (h:H d = some (.frz od u)) (hn:∀ o' u',X.H_0 d ≠ some (.frz o' u')):Inv X pins σ (upd H d u) s:=by
  have neH:∀ b o,H b = some o -> (∀ o' u',o ≠ .frz o' u') -> b ≠ d:=fun b o e hne z => by
    rw [z,h] at e
    cases e
    exact hne _ _ rfl
  have neN:∀ b,H b = none -> b ≠ d:=fun b e z => by rw [z,h] at e; cases e
  refine ⟨I.ok,I.os,I.bare,⟨I.base.keep,I.base.slot,fun b o e n hx => ?_,I.base.there,fun b xs e => ?_,fun b o x e => ?_,fun b ps e => ?_⟩,I.loc,I.cell,?_,fun x c e => ?_,fun p hp => ?_,fun b o e => ?_,I.len⟩
  . rw [upd_ne (neN b (I.base.free b o e n hx))]; exact I.base.free b o e n hx
  . have q:=I.base.tups b xs e
    rw [upd_ne (neH b _ q (fun _ _ z => nomatch z))]; exact q
  . have q:=I.base.frzs b o x e
    rw [upd_ne (fun z => by rw [z] at e; exact hn _ _ e)]; exact q
  . obtain ⟨m,q⟩:=I.base.tbls b ps e
    exact ⟨m,by rw [upd_ne (neH b _ q (fun _ _ z => nomatch z))]; exact q⟩
  . rw [upd_ne (neN _ I.free)]; exact I.free
  . rw [upd_ne (neN c (I.freeC x c e))]; exact I.freeC x c e
  . obtain ⟨e,n,r⟩:=I.pin p hp
    exact ⟨e,by rw [upd_ne (neN _ n)]; exact n,r⟩
  . by_cases hb:b = d
    . rw [hb,upd_same] at e
      cases e
      rw [hb]
      obtain ⟨_,x⟩:=I.hok d _ h
      exact x.stay (fun c v _ q => q) (fun c q => by rw [upd_ne (neH c _ q (fun _ _ z => nomatch z))]; exact q) fun c xs q => by rw [upd_ne (neH c _ q (fun _ _ z => nomatch z))]; exact q
    . rw [upd_ne hb] at e
      exact (I.hok b o e).stay (fun c v _ q => q) (fun c q => by rw [upd_ne (neH c _ q (fun _ _ z => nomatch z))]; exact q) fun c xs q => by rw [upd_ne (neH c _ q (fun _ _ z => nomatch z))]; exact q
end
def tLock (t:TS):TS:=fun D σ H => ∃ d u,H d = some u /\ Mut (some u) /\ ∀ od,t ⟨fun σ' H' => H' d = some (.frz od u) /\ D.nx σ' (upd H' d u),fun v H' => H' d = some (.frz od u) /\ D.rt v (upd H' d u),fun σ' H' => H' d = some (.frz od u) /\ D.bk σ' (upd H' d u),fun σ' H' => H' d = some (.frz od u) /\ D.ct σ' (upd H' d u)⟩ σ (upd H d (.frz od u))
section
variable {X:Cx}
theorem ps_lock {st:Stmt} {t:TS} (h:PS X st t):PS X st (tLock t):=by
  intro pins s σ H D I hw
  obtain ⟨d,u,hd,mu,hw⟩:=hw
  obtain ⟨od,I1⟩:=I.lock hd mu
  refine thn (h pins s σ _ _ I1 (hw od)) fun f s1 q => ?_
  cases f with
  | next => obtain ⟨σ',H',I2,e,q⟩:=q; exact ⟨σ',_,I2.unlock e (I.nofrz hd mu),q⟩
  | brk => obtain ⟨σ',H',I2,e,q⟩:=q; exact ⟨σ',_,I2.unlock e (I.nofrz hd mu),q⟩
  | cont => obtain ⟨σ',H',I2,e,q⟩:=q; exact ⟨σ',_,I2.unlock e (I.nofrz hd mu),q⟩
  | ret v => obtain ⟨x,σ',H',I2,r,e,q⟩:=q; exact ⟨x,σ',_,I2.unlock e (I.nofrz hd mu),r,q⟩
theorem pi_one {tg:Expr} {pins:List (Addr × Obj)} {σ:St} {H:Hp} {s:Shared} {R:It -> Hp -> Prop} {J:It} {tn:Nat -> Heap -> Prop} {tk:Nat} (I:Inv X pins σ H s) (o:Obj)
    (T:Turn X.prog X.w X.K tg J [s.heap.objs.size] s.heap.objs.size tn) (st:tn 0 (s.heap.push o)) (q:R J H):PIE X pins σ tg R (.ref s.heap.objs.size) { s with heap:=s.heap.push o,toks:=tk }:=by
  refine ⟨s.heap.objs.size,[s.heap.objs.size],tn,J,H,rfl,I.kept fun b ob e => Heap.get?_push_of_some _ e,T,st,fun b hb => ?_,q⟩
  have e:b = s.heap.objs.size:=by simpa using hb
  subst e
  exact I.fpOk (Nat.le_refl _) (I.hok.fresh (Nat.le_refl _))
end
def Itc (lo c:Int) (n:Nat):It:=⟨fun i _ => i < n,fun i H x H' => H' = H /\ x = .int (lo + (i:Nat) * c),fun i _ => n <= i⟩
theorem turn_rangeC {P:Program} {w:World} {K:PySem.W.Frag} {tg:Expr} (it:Addr) (lo c:Int) (n:Nat):Turn P w K tg (Itc lo c n) [it] it (fun i h => IsRangeIter h it (lo + (i:Nat) * c) ((n:Int) - (i:Nat)) c) where
  mem:=by simp
  obj:=fun i h st b hb => by
    have e:b = it:=by simpa using hb
    subst e
    exact ⟨_,st,fun v z => nomatch z⟩
  keep:=fun i h h' st k => k it (by simp) _ st
  item:=by
    intro X hP hw hK hc i pins s σ H E I hf st hg
    subst hP hw hK
    obtain ⟨f0,f1,f2,f3,f4,f5⟩:=hf it (by simp)
    have W:=Walks.range (prog:=X.prog) (w:=X.w) (I.ok.hd hc) it lo c n
    refine W.item i s _ _ hg st fun v h' tk hv st' kk => ?_
    obtain ⟨t,rfl⟩:=hv
    have I1:Inv X pins σ H { s with heap:=h',toks:=tk }:=I.turned (fun b o hb e => kk b o (by simpa using hb) e) f0 f1 f3 f4 f5
    exact ⟨_,rfl,go_of (s:={ s with heap:=h',toks:=tk }) (n:="range_iterator") st' rfl rfl (by decide) ⟨.int (lo + (i:Nat) * c),H,I1,⟨t,rfl⟩,⟨rfl,rfl⟩,st',fun b hb => (hf b hb).1⟩⟩
  done:=by
    intro X hP hw hK hc i pins s σ H E I hf st hg
    subst hP hw hK
    obtain ⟨f0,f1,f2,f3,f4,f5⟩:=hf it (by simp)
    exact wpAny_pyNext_range_end (I.ok.hd hc) st (by have:n <= i:=hg; omega) fun h' eb => ⟨rfl,I.turned (t':=s.toks) (fun b o hb e => eb b o hb e) f0 f1 f3 f4 f5⟩
  self:=fun A i s Q E st h => wpAny_pyIter_rangeiter st h
def RgC (i j c:Int) (n:Nat):Prop:=c ≠ 0 /\ c.natAbs < 1073741824 /\ Builtin.Range.small i j c = true /\ Builtin.Range.rangeSize i j c = n
def iRng3 (ta:TA):TI:=fun σ H R => ta σ H fun vs H1 => ∃ (i j c:Int) (n:Nat),vs = [.int i,.int j,.int c] /\ RgC i j c n /\ R (Itc i c n) H1
section
variable {X:Cx} {tg:Expr}
theorem pi_range3 {a b c : Expr} {ta : TA} {p pos : Pos} (hg : Gl X "range") (hm : X.mg "range" = none) (ha : PA X [a, b, c] ta)
    (hs:starEach [a,b,c] X.env = (false,eval a X.env) :: starEach [b,c] X.env:=by rfl) (hpl:(backTo pos (starEach [b,c] X.env)).any (·.1) = false:=by rfl) :
    PI X tg (.Call (.Name "range" p) [a,b,c] [] pos) (iRng3 ta):=by
  intro pins s σ H R I h
  refine Call_ (ld_blt I hg hm boot_range (PyProof.Rows.callWith_type1 (thn (ha pos pins s σ H _ I h) fun us s1 ⟨vs,H1,I1,r1,q1⟩ => ?_) hs hpl))
  obtain ⟨i,j,k,n,e,⟨c0,c1,c2,c3⟩,q⟩:=q1
  subst e
  cases r1 with
  | cons r rr =>
    cases rr with
    | cons r' rr =>
      cases rr with
      | cons r'' rr =>
        cases rr
        obtain ⟨t,rfl⟩:=r
        obtain ⟨t',rfl⟩:=r'
        obtain ⟨t'',rfl⟩:=r''
        refine call_range_3 c0 ?_ (.inl (PyProof.noPylong_small c1))
        refine wpAny_pyIter_range (IsRange.new ..) c2 ?_
        have I2:Inv X pins σ H1 { s1 with heap:=s1.heap.push { cls:=.type "range",data:=.fields #[.int i t,.int j t',.int k t''] } }:=I1.kept (t':=s1.toks) fun b o e => Heap.get?_push_of_some _ e
        refine pi_one (tk:=s1.toks) I2 _ (turn_rangeC _ i k n) ?_ q
        have e1:i + ((0:Nat):Int) * k = i:=by simp
        have e2:(n:Int) - ((0:Nat):Int) = Builtin.Range.rangeSize i j k:=by rw [c3]; simp
        show IsRangeIter _ _ (i + ((0:Nat):Int) * k) ((n:Int) - ((0:Nat):Int)) k
        rw [e1,e2]
        exact Heap.get?_push_size _ rfl
end
theorem for_rangeC {lo c:Int} {n:Nat} {g:TG} {tb:TS} {D:Ends} {σ:St} {H:Hp} (Pv:Nat -> St -> Hp -> Prop) (h0:Pv 0 σ H)
    (hs:∀ i σ H,i < n -> Pv i σ H -> g (.int (lo + (i:Nat) * c)) σ H fun σ2 H2 => tb { D with nx:=Pv (i + 1),ct:=Pv (i + 1),bk:=D.nx } σ2 H2) (hd:∀ σ H,Pv n σ H -> D.nx σ H) :
    ∃ W:Nat -> Nat -> St -> Hp -> Prop,(∃ m,W 0 m σ H) /\ ∀ i m σ H,W i m σ H ->
      ((Itc lo c n).stop i H /\ D.nx σ H) \/ ((Itc lo c n).go i H /\ ∃ N:St -> Hp -> Prop,(∀ σ' H',N σ' H' -> ∃ m',m' < m /\ W (i + 1) m' σ' H') /\ ∀ x H',(Itc lo c n).yld i H x H' -> g x σ H' fun σ2 H2 => tb { D with nx:=N,ct:=N,bk:=D.nx } σ2 H2):=by
  refine ⟨fun i m σ H => m = n - i /\ i <= n /\ Pv i σ H,⟨n,by simp,Nat.zero_le _,h0⟩,?_⟩
  rintro i m σ H ⟨rfl,hi,p⟩
  by_cases hlt:i < n
  . refine .inr ⟨hlt,Pv (i + 1),fun σ' H' p' => ⟨n - (i + 1),by omega,rfl,hlt,p'⟩,fun x H' y => ?_⟩
    obtain ⟨e,y⟩:=y
    subst e y
    exact hs i σ _ hlt p
  . have e:i = n:=by omega
    subst e
    exact .inl ⟨Nat.le_refl _,hd σ H p⟩
section
variable {X:Cx} {tg:Expr}
end
section
variable {prog:Program} {w:World} {A:Around} {E:Value -> Shared -> Prop} {s:Shared}
end
theorem kv_get {κ:Type} {kvs:List (κ × V)} {vs:List (κ × Value)} (h:KV kvs vs):∀ {i:Nat} {k:κ} {v:V},kvs[i]? = some (k,v) -> ∃ u,vs[i]? = some (k,u) /\ RelV v u:=by
  unfold KV at h
  induction h with
  | nil => intro i k v e; simp at e
  | @cons a b l₁ l₂ r t ih =>
    intro i k v e
    cases i with
    | zero =>
      simp only [List.getElem?_cons_zero,Option.some.injEq] at e
      subst e
      refine ⟨b.2,?_,r.2⟩
      simp only [List.getElem?_cons_zero]
      exact congrArg some (Prod.ext r.1.symm rfl)
    | succ j =>
      simp only [List.getElem?_cons_succ] at e |-
      exact ih e
theorem relV_key {k:Key} {u:Value} (h:keyIs k u = true):RelV (kV k) u:=by
  rcases keyIs_shape h with ⟨i,t,rfl,rfl⟩ | ⟨x,t,rfl,rfl⟩
  . exact ⟨t,rfl⟩
  . exact ⟨t,rfl⟩
section
variable {X:Cx} {pins:List (Addr × Obj)} {σ:St} {H:Hp} {s:Shared} {d:Addr} {o:Obj}
theorem Inv.frzK {kvs:List (Key × V)} (I:Inv X pins σ H s) (h:H d = some (.frz o (.dK kvs))) :
    (d == sysModules) = false /\ s.heap.get? d = some o /\ o.ExactDict /\ ∃ (es:Array DictEntry) (ep:Nat) (vs:List (Key × Value)),o.data = .dict es ep /\ es.size = kvs.length /\ KV kvs vs /\ s.heap.DictAt (mixKind X.prog X.w) d vs ep:=by
  obtain ⟨hd,z,hs,vs,kv,o',es,ep,ho,hx,hdt,r⟩:=I.hok d _ h
  rw [hd] at ho
  cases ho
  refine ⟨hs,hd,hx,es,ep,vs,hdt,?_,kv,o,es,hd,hx,hdt,r⟩
  have l1:=r.2.1.length
  have l2:kvs.length = vs.length:=Paired.length kv
  rw [Array.length_toList] at l1
  omega
end
def Iti (d:Addr) (o:Obj) (kvs:List (Key × V)):It :=
  ⟨fun i H => H d = some (.frz o (.dK kvs)) /\ i < kvs.length,fun i H x H' => ∃ T k v,kvs[i]? = some (k,v) /\ x = .ref T /\ H T = none /\ H' = upd H T (.tup [kV k,v]),fun i H => H d = some (.frz o (.dK kvs)) /\ kvs.length <= i⟩
theorem dict_ep {o:Obj} {es es':Array DictEntry} {ep ep':Nat} (h:o.data = .dict es ep) (h':o.data = .dict es' ep'):es' = es /\ ep' = ep:=by
  rw [h] at h'
  cases h'
  exact ⟨rfl,rfl⟩
section
variable {P:Program} {w:World} {K:PySem.W.Frag} {tg:Expr} {d:Addr} {o:Obj} {es:Array DictEntry} {ep:Nat}
theorem turn_items {kvs:List (Key × V)} {elts:List Expr} {kk:Nat} {tpos:Pos} (it:Addr) (hod:o.data = .dict es ep) :
    Turn P w K (.Tuple elts kk tpos) (Iti d o kvs) [it] it (fun i h => ∃ ok ov,IsItemIter h it d i kvs.length ep ok ov) where
  mem:=by simp
  obj:=fun i h st b hb => by
    have e:b = it:=by simpa using hb
    subst e
    obtain ⟨ok,ov,e⟩:=st
    exact ⟨_,e,fun v z => nomatch z⟩
  keep:=fun i h h' st k => let ⟨ok,ov,e⟩:=st; ⟨ok,ov,k it (by simp) _ e⟩
  item:=by
    intro X hP hw hK hc i pins s σ H E I hf st hg
    subst hP hw hK
    obtain ⟨hd,hi⟩:=hg
    obtain ⟨hs,hgd,hx,es',ep',vs,hdt,hsz,kv,hm⟩:=I.frzK hd
    obtain ⟨rfl,rfl⟩:=dict_ep hod hdt
    obtain ⟨⟨k,v⟩,hkv⟩:∃ p,kvs[i]? = some p:=⟨kvs[i],List.getElem?_eq_getElem hi⟩
    obtain ⟨u,hu,ru⟩:=kv_get kv hkv
    have hl:kvs.length = vs.length:=Paired.length kv
    obtain ⟨ok,ov,he⟩:=st
    rw [hl] at he
    have hlt:it < s.heap.objs.size:=Heap.lt_size he
    refine wpAny_pyNext_items_item he hm hu fun key h' hkey ho hT hz hk => ?_
    refine ⟨_,rfl,wpAny_letOwnedTupleGo_items (s:={ s with heap:=h' }) ho fun h'' he' sb => ?_⟩
    have hT2:h''.get? s.heap.objs.size = some { cls:=.type "tuple",data:=.seq #[key,u] }:=(sb.2 _ (Nat.ne_of_gt hlt)).trans hT
    have new:ObjOk X.prog X.w (upd H s.heap.objs.size (.tup [kV k,v])) h'' s.heap.objs.size (.tup [kV k,v]) :=
      ⟨by show 2 <= sizeLine; decide,[key,u],.cons (relV_key (show keyIs k key = true from hkey)) (.cons ru .nil),⟨_,hT2,rfl,_,rfl⟩⟩
    have I1:Inv X pins σ (upd H s.heap.objs.size (.tup [kV k,v])) { s with heap:=h'' } :=
      I.turnedNew (t':=s.toks) (ch:=[it]) (fun b ob hb e => (sb.2 b (by simpa using hb)).trans (hk b ob (by simpa using hb) e)) hf (Nat.le_refl _) new
    refine ⟨.ref s.heap.objs.size,_,I1,rfl,⟨_,k,v,hkv,rfl,I.hok.fresh (Nat.le_refl _),rfl⟩,⟨key,u,?_⟩,fun b hb => ?_⟩
    . rw [hl]; exact he'
    . have e:b = it:=by simpa using hb
      rw [e,upd_ne (Nat.ne_of_lt hlt)]
      exact (hf it (by simp)).1
  done:=by
    intro X hP hw hK hc i pins s σ H E I hf st hg
    subst hP hw hK
    obtain ⟨hd,hi⟩:=hg
    obtain ⟨f0,f1,f2,f3,f4,f5⟩:=hf it (by simp)
    obtain ⟨hs,hgd,hx,es',ep',vs,hdt,hsz,kv,hm⟩:=I.frzK hd
    obtain ⟨rfl,rfl⟩:=dict_ep hod hdt
    have hl:kvs.length = vs.length:=Paired.length kv
    obtain ⟨ok,ov,he⟩:=st
    rw [hl] at he
    exact wpAny_pyNext_items_end (I.ok.hd hc) he hm (List.getElem?_eq_none (by omega)) fun h' eb => ⟨rfl,I.turned (t':=s.toks) (fun b ob hb e => eb b ob hb e) f0 f1 f3 f4 f5⟩
  self:=fun A i s Q E st h => let ⟨_,_,e⟩:=st; PySem.W.kcp_self e h
end
def iItems (td:TE):TI:=fun σ H R => td σ H fun x H1 => ∃ d o kvs,x = .ref d /\ H1 d = some (.frz o (.dK kvs)) /\ R (Iti d o kvs) H1
section
variable {X:Cx} {tg e:Expr} {td:TE} {apos cpos:Pos}
theorem pi_items {elts:List Expr} {kk:Nat} {tpos:Pos} (he:PE X e td) (hbase:attributeBase e "items" X.env (eval e X.env) = eval e X.env:=by rfl) (hline:(apos.endLine == cpos.line) = true:=by rfl) :
    PI X (.Tuple elts kk tpos) (.Call (.Attribute e "items" apos) [] [] cpos) (iItems td):=by
  intro pins s σ H R I h
  refine wpAny_Call_method (T := "dict") (id := "dict.items") hbase rfl hline F.plainAttrs_dict F.slot_dict_items F.type_dict_items (thn (he pins s σ H _ I h) fun u s1 ⟨x, H1, I1, rx, d, o, kvs, ex, hd, q⟩ => ?_)
  subst ex
  obtain rfl:u = Value.ref d:=rx
  obtain ⟨hs,hgd,hx,es,ep,vs,hdt,hsz,kv,hm⟩:=I1.frzK hd
  have hl:kvs.length = vs.length:=Paired.length kv
  refine ⟨hm.dictOf.typeIs,hm.dictOf.mapOf.noDict,?_⟩
  have I2:Inv X pins σ H1 { s1 with heap:=s1.heap.push { cls:=.type "dict_items",data:=.fields #[.ref d] } }:=I1.kept (t':=s1.toks) fun b ob q => Heap.get?_push_of_some _ q
  have fin:wpAny (model X.prog X.w) X.A (pyIter (.ref s1.heap.objs.size)) (PIE X pins σ (.Tuple elts kk tpos) R) X.xe { s1 with heap:=s1.heap.push { cls:=.type "dict_items",data:=.fields #[.ref d] } }:=by
    refine wpAny_pyIter_items (d:=d) (knd:=mixKind X.prog X.w) ⟨_,Heap.get?_push_size _ rfl,rfl,rfl⟩ (hm.push _) (pi_one (tk:=s1.toks) I2 _ (turn_items _ hdt) ⟨.none,.none,?_⟩ q)
    rw [hl]
    exact Heap.get?_push_size _ rfl
  show wpAny _ _ (callWith cpos (.builtin "dict.items") [.ref d] [] []) _ X.xe s1
  exact method_meetsIn F.slot_dict_items F.entry_dict_items rfl (PySem.evalArgs_none ⟨rfl,hm.dictOf.typeIs,F.args_dict_items_1 _,_,meets_dict_items (mixKind X.prog X.w) d hs,⟨vs,hm.dictOf⟩,fin⟩)
end
def Ite (K:PySem.W.Frag) (a:Addr):It :=
  ⟨fun i H => ∃ (xs:List V) (x:V),SqL K H a xs /\ xs[i]? = some x,fun i H v H' => ∃ T x,v = .ref T /\ H T = none /\ H' = upd H T (.tup [.int (i:Nat),x]) /\ ∀ xs,SqL K H a xs -> xs[i]? = some x,fun i H => ∃ xs:List V,SqL K H a xs /\ xs.length <= i⟩
theorem turn_enum {P:Program} {w:World} {K:PySem.W.Frag} {elts:List Expr} {kk:Nat} {tpos:Pos} (a e it:Addr) :
    Turn P w K (.Tuple elts kk tpos) (Ite K a) [e,it] e (fun i h => (∃ old,IsEnum h e it ((i:Nat):Int) old) /\ h.IsListIter it a i /\ e ≠ it) where
  mem:=by simp
  obj:=fun i h st b hb => by
    obtain ⟨⟨old,he⟩,⟨o,ho,hc,hd⟩,_⟩:=st
    have e':b = e \/ b = it:=by simpa using hb
    rcases e' with z | z
    . rw [z]; exact ⟨_,he,fun v q => nomatch q⟩
    . rw [z]; exact ⟨o,ho,fun v q => by rw [hd] at q; cases q⟩
  keep:=fun i h h' st k => let ⟨⟨old,he⟩,hi,hne⟩:=st; ⟨⟨old,k e (by simp) _ he⟩,hi.at fun o q => k it (by simp) o q,hne⟩
  item:=by
    intro X hP hw hK hc i pins s σ H E I hf st hg
    subst hP hw hK
    obtain ⟨⟨old,he⟩,hit,hne⟩:=st
    obtain ⟨xs,x,hq,hx⟩:=hg
    obtain ⟨its,rv,p,hz⟩:=I.list hq
    obtain ⟨u,hu,ru⟩:=rv.get hx
    have hel:e < s.heap.objs.size:=Heap.lt_size he
    have hil:it < s.heap.objs.size:=by obtain ⟨_,q,_⟩:=hit; exact Heap.lt_size q
    refine wpAny_pyNext_enum_item he hit p.isList (x:=u) (by simpa using hu) hne fun h' ho hit' hT hsz hk => ?_
    refine ⟨_,rfl,wpAny_letOwnedTupleGo_enum (s:={ s with heap:=h',toks:=s.toks + 1 }) ho fun h'' he' sb => ?_⟩
    have hT2:h''.get? s.heap.objs.size = some { cls:=.type "tuple",data:=.seq #[.int i s.toks,u] }:=(sb.2 _ (Nat.ne_of_gt hel)).trans hT
    have new:ObjOk X.prog X.w (upd H s.heap.objs.size (.tup [.int (i:Nat),x])) h'' s.heap.objs.size (.tup [.int (i:Nat),x]) :=
      ⟨by show 2 <= sizeLine; decide,[.int i s.toks,u],.cons ⟨_,rfl⟩ (.cons ru .nil),⟨_,hT2,rfl,_,rfl⟩⟩
    have I1:Inv X pins σ (upd H s.heap.objs.size (.tup [.int (i:Nat),x])) { s with heap:=h'',toks:=s.toks + 1 } :=
      I.turnedNew (ch:=[e,it]) (fun b ob hb q => (sb.2 b (fun z => hb (by simp [z]))).trans (hk b ob (fun z => hb (by simp [z])) (fun z => hb (by simp [z])) q)) hf (Nat.le_refl _) new
    refine ⟨.ref s.heap.objs.size,_,I1,rfl,⟨_,x,rfl,I.hok.fresh (Nat.le_refl _),rfl,fun ys hy => by rw [I.list_inj hy hq]; exact hx⟩,⟨⟨u,?_⟩,hit'.at fun o q => (sb.2 it (Ne.symm hne)).trans q,hne⟩,fun b hb => ?_⟩
    . have e1:((i + 1:Nat):Int) = (i:Int) + 1:=by omega
      rw [e1]; exact he'
    . have hb':b < s.heap.objs.size:=by
        have e':b = e \/ b = it:=by simpa using hb
        rcases e' with z | z
        . rw [z]; exact hel
        . rw [z]; exact hil
      rw [upd_ne (Nat.ne_of_lt hb')]
      exact (hf b hb).1
  done:=by
    intro X hP hw hK hc i pins s σ H E I hf st hg
    subst hP hw hK
    obtain ⟨⟨old,he⟩,hit,hne⟩:=st
    obtain ⟨xs,hq,hx⟩:=hg
    obtain ⟨its,rv,p,hz⟩:=I.list hq
    obtain ⟨f0,f1,f2,f3,f4,f5⟩:=hf it (by simp)
    have hl:=rv.length
    exact wpAny_pyNext_enum_end (I.ok.hd hc) he hit p.isList (by simp; omega) fun h' eb => ⟨rfl,I.turned (t':=s.toks) (fun b o hb q => eb b o hb q) f0 f1 f3 f4 f5⟩
  self:=fun A i s Q E st h => let ⟨⟨_,he⟩,_⟩:=st; wpAny_pyIter_enum he h
def iEnum (K:PySem.W.Frag) (ta:TA):TI:=fun σ H R => ta σ H fun vs H1 => ∃ a xs,vs = [.ref a] /\ SqL K H1 a xs /\ R (Ite K a) H1
theorem pi_enum {X : Cx} {e : Expr} {ta : TA} {p pos tpos : Pos} {elts : List Expr} {kk : Nat} (hg : Gl X "enumerate") (hm : X.mg "enumerate" = none) (ha : PA X [e] ta) (hs : starEach [e] X.env = [(false, eval e X.env)] := by rfl) :
    PI X (.Tuple elts kk tpos) (.Call (.Name "enumerate" p) [e] [] pos) (iEnum X.K ta):=by
  intro pins s σ H R I h
  refine Call_ (ld_blt I hg hm boot_enumerate (PyProof.Rows.callWith_type1 (thn (ha pos pins s σ H _ I h) fun us s1 ⟨vs,H1,I1,r1,q1⟩ => ?_) hs rfl))
  obtain ⟨a,xs,ex,hq,q⟩:=q1
  subst ex
  cases r1 with
  | cons r rr =>
    cases rr
    cases r
    obtain ⟨its,rv,p',hz⟩:=I1.list hq
    refine call_enumerate_list p'.isList fun h' he hit hsz hk => wpAny_pyIter_enum he ?_
    have I2:Inv X pins σ H1 { s1 with heap:=h' }:=I1.kept (t':=s1.toks) hk
    refine ⟨s1.heap.objs.size + 1,[s1.heap.objs.size + 1,s1.heap.objs.size],_,_,H1,rfl,I2,turn_enum a (s1.heap.objs.size + 1) s1.heap.objs.size,⟨⟨.none,he⟩,hit,Nat.succ_ne_self _⟩,fun b hb => ?_,q⟩
    have e':b = s1.heap.objs.size + 1 \/ b = s1.heap.objs.size:=by simpa using hb
    have hle:s1.heap.objs.size <= b:=by
      rcases e' with z | z
      . rw [z]; exact Nat.le_add_right _ _
      . rw [z]; exact Nat.le_refl _
    exact I1.fpOk hle (I1.hok.fresh hle)
end L2
section
namespace Bits
open PySem PyProof.Rows
end Bits
end
section
namespace TL
open PySem PySem.Builtin PySem.Builtin.Str PySem.StrLaws
end TL
end
namespace L2
open PySem PySem.Spec PyProof.Rows
section
variable {X:Cx} {pins:List (Addr × Obj)} {σ:St} {H:Hp} {s:Shared} {Q:VK}
end
section
variable {X:Cx}
end
section
variable {X:Cx} {o e:Expr} {to te:TE}
end
end L2
namespace L2
open PySem PySem.Spec PyProof.Rows
section
variable {X:Cx}
end
end L2
namespace Att
open PySem PySem.W PySem.Calls PyProof.Rows
section
variable {prog:Program} {w:World} {A:Around} {E:Value -> Shared -> Prop} {s:Shared} {K:Frag}
end
end Att
namespace L2
open PySem PySem.Spec PyProof.Rows
end L2
namespace L2
open PySem PySem.Spec PyProof.Rows
abbrev KOf {K:PySem.W.Frag} {h:Heap} (_:K.In h):PySem.W.Frag:=K
end L2
/- THE LAST THEOREM (shape; LID,My.* are yours):
   My.Adr: a structure of the addresses that your layer names (classes,functions); My.Txt K t: a structure (Prop) of the equations over K;
   My.txt_mk : {K} {implicit addresses ..} (e1 : nsIn K mainGlobals "law" = some (some (.ref f))) (e2 : K.lookup f = some ⟨oc, od, .func (fnOf "law" "law" params body scope dV kV doc pm an cdv ct), sl⟩) (e3 : codeIn K cdv "law" = true) .. : ∃ t, My.Txt K t
set_option maxRecDepth 100000 in
set_option maxHeartbeats 0 in
theorem PySem.Challenge.cw_LID_holds : PySem.Challenge.rw_LID.Holds := by
  w_on; o_law; k_head; (case hw => w_witness2)
  k_fill
  refine L2.walk_of (l:=PySem.Challenge.rw_LID) (n:=63) (k:=40) (x:="script") (CX:=fun w => ..) (sp:=fun _ => My.sp_law) rfl (by decide) rfl ⟨rfl,by decide,by decide⟩ (fun w h Y => PySem.W.kIn_of Y) ?F ?S ?C
  case F =>
    intro w mg fa h KX G hmg
    have T:∃ t,My.Txt (L2.KOf KX) t:=by
      dsimp only [L2.KOf]                          -- K must stand as «<heap const> w.params» for k_is
      refine' My.txt_mk ?e1 ?e2 ?e3 ..
      (case e1 => PySem.W.k_is)                    -- in the order: a name -> its address -> its object -> its parts
      (case e2 => PySem.W.k_is)
      ..
    obtain ⟨t,T⟩:=T
    have e0:=hmg.symm.trans (PySem.W.mg_of KX G T.law)
    cases e0                                       -- fa is the law's own address
    exact ⟨_,fun s u => .of_eq rfl,fun base kb nb => My.law_fn T kb nb⟩     -- if «.of_eq rfl» comes too early: refine' ⟨_,?b,fun base kb nb => My.law_fn T kb nb⟩; exact fun s u => .of_eq rfl
  case S => exact fun w H a ns hl hO hS => ..
  case C => exact ..
(the tactic k_is has no namespace: write k_is) -/
namespace L2
open PySem PySem.Spec PyProof.Rows
def inClass (s:Stmt) (j:Nat):Stmt:=match s with
  | .ClassDef _ _ _ body _ _ _ _ _ _ _ => body.getD j (.Pass ⟨0,0,0,0⟩)
  | _ => .Pass ⟨0,0,0,0⟩
def defArgs (s:Stmt):Arguments:=match s with
  | .FunctionDef _ a _ _ _ _ _ _ _ _ => a
  | _ => { posonlyargs:=[],args:=[],vararg:=none,kwonlyargs:=[],kw_defaults:=[],kwarg:=none,defaults:=[] }
def defBody (s:Stmt):List Stmt:=match s with
  | .FunctionDef _ _ b _ _ _ _ _ _ _ => b
  | _ => []
def defScope (s:Stmt):Scope:=match s with
  | .FunctionDef _ _ _ _ _ _ sc _ _ _ => sc
  | _ => { kind:=.function,names:=[],isGenerator:=false,isCoroutine:=false }
abbrev CX0:CXT:=fun _ _ _ _ _ _ => False
abbrev E0:XK:=fun _ _ _ => False
theorem pass0 {X:Cx}:Passes CX0 X E0:=fun _ _ _ _ _ _ _ h => h.elim
structure Fun (K:PySem.W.Frag) (x qual:Str) (st:Stmt) (f:Addr) (fd:FuncData):Prop where
  ex:∃ (oc:Value) (od:Option Addr) (kV doc pm:Value) (an:Option Addr) (cdv ct:Value) (osl:Array (Option Value)),
    fd = PySem.W.fnOf x qual (defArgs st) (defBody st) (defScope st) .none kV doc pm an cdv ct /\ K.lookup f = some ⟨oc,od,.func fd,osl⟩ /\ PySem.W.codeIn K cdv qual = true
  kp:PySem.W.keepIn K (.ref f) = true
section
variable {P:Program} {w:World} {K:PySem.W.Frag} {mg:Str -> Option Value} {base:Heap}
theorem Fun.ok {x qual:Str} {st:Stmt} {f:Addr} {fd:FuncData} {N ps:List Str} {k:Nat} {sp:Sp} (F:Fun K x qual st f fd) (S:FnScope N ps (defScope st)) (len:∀ vs H Q E,sp vs H Q E -> vs.length = ps.length)
    (hbody:∀ (cdv:Value) (A:Around) (outer:List Env) (s:Shared) (H:Hp) (vs:List V) (Q:VK) (E:XK),Room k (A.deeper (envOfC qual (defScope st) s.heap.objs.size f cdv)) -> sp vs H Q E ->
      ∃ t,PSs (cxOf CX0 P w K mg base N qual (defScope st) f cdv A outer s H E).nox (defBody st) t /\ t { nx:=fun _ H' => Q .non H',rt:=Q } (start N vs) H):FnOk P w K mg base CX0 (k + 1) f fd ps sp:=by
  obtain ⟨oc,od,kV,doc,pm,an,cdv,ct,osl,rfl,lk,hcd⟩:=F.ex
  refine fn_of lk hcd S len fun A outer s H vs Q E hr hsp => ?_
  obtain ⟨t,h,q⟩:=hbody cdv A outer s H vs Q E hr hsp
  exact ⟨t,h.nox,q⟩
theorem fun_mk {x qual:Str} {st:Stmt} {f:Addr} {oc:Value} {od an:Option Addr} {osl:Array (Option Value)} {kV doc pm cdv ct:Value} (l:K.lookup f = some ⟨oc,od,.func (PySem.W.fnOf x qual (defArgs st) (defBody st) (defScope st) .none kV doc pm an cdv ct),osl⟩)
    (c:PySem.W.codeIn K cdv qual = true) (k:PySem.W.keepIn K (.ref f) = true):Fun K x qual st f (PySem.W.fnOf x qual (defArgs st) (defBody st) (defScope st) .none kV doc pm an cdv ct):=⟨⟨oc,od,kV,doc,pm,an,cdv,ct,osl,rfl,l,c⟩,k⟩
end
theorem hu_of {A:Around} {k:Nat} (hr:Room k A):A.units + 1 < cLine:=Nat.lt_of_le_of_lt (Nat.add_le_add_left (by decide:1 <= 64) _) hr.units
section
variable {X:Cx}
theorem pv (i:Nat) {x:Str} {pos:Pos} (hN:X.N[i]? = some x:=by rfl) (hv:Vis X.env.scope x:=by first | exact Or.inl rfl | exact Or.inr (Or.inl rfl) | exact Or.inr (Or.inr rfl)) (hd:(x == ("__debug__":Str)) = false:=by decide)
    (hcd:(x == ("__classdict__":Str)) = false:=by decide):PE X (.Name x pos) (tVar i):=pe_var hN hv hd hcd
theorem call_lenD:CallR X (.builtin "len") (fun xs H Q => ∃ a kvs,xs = [V.ref a] /\ H a = some (.dK kvs) /\ Q (.int kvs.length) H):=by
  intro pins s σ H xs us Q I r h
  obtain ⟨a,kvs,rfl,ha,q⟩:=h
  obtain ⟨u,rfl,ru⟩:=vals1 r
  cases ru
  exact d_len I (.inl ha) fun t s' I' => ⟨.int kvs.length,H,I',⟨t,rfl⟩,q⟩
end
theorem iteF {A B:Prop} (h:B):if false = true then A else B:=by
  rw [if_neg Bool.false_ne_true]
  exact h
theorem iteT {A B:Prop} (h:A):if true = true then A else B:=by
  rw [if_pos rfl]
  exact h
theorem ite2 {c A B:Prop} [Decidable c] (h1:c -> A) (h2:¬ c -> B):if c then A else B:=by
  by_cases h:c
  . rw [if_pos h]
    exact h1 h
  . rw [if_neg h]
    exact h2 h
def Same (H H':Hp):Prop:=∀ b o,H b = some o -> H' b = some o
theorem Same.refl (H:Hp):Same H H:=fun _ _ h => h
theorem Same.trans {H H1 H2:Hp} (a:Same H H1) (b:Same H1 H2):Same H H2:=fun c o h => b c o (a c o h)
theorem Same.free {H H':Hp} (e:Same H H') {l:Addr} (h:H' l = Option.none):H l = Option.none:=by
  cases q:H l with
  | none => rfl
  | some o =>
    rw [e l o q] at h
    cases h
theorem Same.seq {K:PySem.W.Frag} {H H':Hp} {a:Addr} {xs:List V} (e:Same H H') (h:SqL K H a xs):SqL K H' a xs:=by
  rcases h with (h | ⟨o,h⟩) | h
  . exact .inl (.inl (e _ _ h))
  . exact .inl (.inr ⟨o,e _ _ h⟩)
  . exact .inr h
section
variable {κ:Type} [DecidableEq κ]
theorem valV_not {kvs:List (κ × V)} {k:κ} (h:valV kvs k = none):¬ k ∈ kvs.map (·.1):=by
  intro m
  obtain ⟨p,hp,e⟩:=List.mem_map.mp m
  have q:(kvs.any fun kv => decide (kv.1 = k)) = true:=List.any_eq_true.mpr ⟨p,hp,decide_eq_true e⟩
  rw [valV_any,h] at q
  exact absurd q (by simp)
theorem valV_in {kvs:List (κ × V)} {k:κ} {v:V} (h:valV kvs k = some v):k ∈ kvs.map (·.1):=by
  have q:(kvs.any fun kv => decide (kv.1 = k)) = true:=by
    rw [valV_any,h]
    all_goals rfl
  obtain ⟨p,hp,e⟩:=List.any_eq_true.mp q
  exact List.mem_map.mpr ⟨p,hp,of_decide_eq_true e⟩
end
end L2
end
section
set_option Elab.async false
set_option linter.all false
set_option maxRecDepth 100000
set_option maxHeartbeats 2000000
namespace L2
open PySem PySem.Spec PyProof.Rows
open PySem.W (WData Codec OpenSpec Well WellAll ReadsW ReadsAllW)
mutual
inductive Dw (K:PySem.W.Frag) (H:Hp):V -> WData -> Prop
  | non:Dw K H .non .none
  | bl (b:Bool):Dw K H (.bl b) (.bool b)
  | int (i:Int):Dw K H (.int i) (.int i)
  | str (x:Str):Dw K H (.str x) (.str x)
  | byt (b:Array UInt8):Dw K H (.byt b) (.bytes b.toList)
  | lst {a:Addr} {xs:List V} {ds:List WData}:SqL K H a xs -> DwAll K H xs ds -> Dw K H (.ref a) (.list ds)
  | tup {a:Addr} {xs:List V} {ds:List WData}:SqT K H a xs -> DwAll K H xs ds -> Dw K H (.ref a) (.tuple ds)
inductive DwAll (K:PySem.W.Frag) (H:Hp):List V -> List WData -> Prop
  | nil:DwAll K H [] []
  | cons {v:V} {vs:List V} {d:WData} {ds:List WData}:Dw K H v d -> DwAll K H vs ds -> DwAll K H (v :: vs) (d :: ds)
end
theorem dw_ints {K:PySem.W.Frag} {H:Hp}:∀ ns:List Int,DwAll K H (ns.map V.int) (ns.map WData.int)
  | [] => .nil
  | n :: r => .cons (.int n) (dw_ints r)
theorem ints_dw {K:PySem.W.Frag} {H:Hp}:∀ (ns:List Int) (xs:List V),DwAll K H xs (ns.map WData.int) -> xs = ns.map V.int
  | [],xs,h => by
    cases h
    rfl
  | n :: r,xs,h => by
    cases h with
    | cons h1 h2 =>
      cases h1
      rw [ints_dw r _ h2] <;> rfl
section
variable {P:Program} {w:World} {K:PySem.W.Frag} {H:Hp} {h:Heap} {R:PySem.W.WRecords} {cl:Str -> Option Addr}
theorem sqL_at {a:Addr} {xs:List V} (hok:HOk P w H h) (KX:K.In h) (q:SqL K H a xs):∃ (its:List Value) (o:Obj) (n:Nat),Vals xs its /\ h.get? a = some o /\ o.cls = .type "list" /\ o.data = .seq its.toArray n:=by
  rcases q with q | ⟨o,its,n,e,hc,_,hd,_,hv⟩
  . obtain ⟨_,its,n,hv,e⟩:=(show ObjOk P w H h a (.lst xs) from q.ok hok)
    exact ⟨its,_,n,hv,e,rfl,rfl⟩
  . exact ⟨its.toList,o,n,hv,KX _ _ e,hc,by simp [hd]⟩
theorem sqT_at {a:Addr} {xs:List V} (hok:HOk P w H h) (KX:K.In h) (q:SqT K H a xs):∃ (its:List Value) (o:Obj) (n:Nat),Vals xs its /\ h.get? a = some o /\ o.cls = .type "tuple" /\ o.data = .seq its.toArray n:=by
  rcases q with q | ⟨o,its,n,e,hc,hd,_,hv⟩
  . obtain ⟨_,its,hv,o,e,hc,n,hd⟩:=(show ObjOk P w H h a (.tup xs) from q.ok hok)
    exact ⟨its,o,n,hv,e,hc,hd⟩
  . exact ⟨its.toList,o,n,hv,KX _ _ e,hc,by simp [hd]⟩
mutual
theorem Dw.reads (hok:HOk P w H h) (KX:K.In h):∀ (d:WData) (v:V) (u:Value),Dw K H v d -> RelV v u -> ∃ as,ReadsW R cl h u d as
  | .none,_,_,x,r => by
    cases x
    cases r
    exact ⟨_,ReadsW.none⟩
  | .bool b,_,_,x,r => by
    cases x
    cases r
    exact ⟨_,ReadsW.bool b⟩
  | .int i,_,_,x,r => by
    cases x
    obtain ⟨t,rfl⟩:=r
    exact ⟨_,ReadsW.int i t⟩
  | .str s,_,_,x,r => by
    cases x
    obtain ⟨t,rfl⟩:=r
    exact ⟨_,ReadsW.str s t⟩
  | .bytes b,_,_,x,r => by
    cases x
    obtain ⟨t,rfl⟩:=r
    exact ⟨_,ReadsW.bytes _ t⟩
  | .list ds,_,_,x,r => by
    cases x with
    | lst hs ha =>
      cases r
      obtain ⟨its,o,n,rv,ho,hc,hd⟩:=sqL_at hok KX hs
      obtain ⟨as,hr⟩:=Dw.readsAll hok KX ds _ its ha rv
      exact ⟨_,ReadsW.list ho hc hd hr⟩
  | .tuple ds,_,_,x,r => by
    cases x with
    | tup hs ha =>
      cases r
      obtain ⟨its,o,n,rv,ho,hc,hd⟩:=sqT_at hok KX hs
      obtain ⟨as,hr⟩:=Dw.readsAll hok KX ds _ its ha rv
      exact ⟨_,ReadsW.tuple ho hc hd hr⟩
  | .float _,_,_,x,_ => by cases x
  | .dict _,_,_,x,_ => by cases x
  | .bytearray _,_,_,x,_ => by cases x
  | .set _,_,_,x,_ => by cases x
  | .frozenset _,_,_,x,_ => by cases x
  | .obj _ _,_,_,x,_ => by cases x
theorem Dw.readsAll (hok:HOk P w H h) (KX:K.In h):∀ (ds:List WData) (vs:List V) (us:List Value),DwAll K H vs ds -> Vals vs us -> ∃ as,ReadsAllW R cl h us ds as
  | [],_,_,x,r => by
    cases x
    cases r
    exact ⟨_,ReadsAllW.nil⟩
  | d :: ds,_,_,x,r => by
    cases x with
    | cons h1 h2 =>
      cases r with
      | cons r1 r2 =>
        obtain ⟨as,q1⟩:=Dw.reads hok KX d _ _ h1 r1
        obtain ⟨bs,q2⟩:=Dw.readsAll hok KX ds _ _ h2 r2
        exact ⟨_,ReadsAllW.cons q1 q2⟩
end
end
mutual
def plW:WData -> Bool
  | .none => true
  | .bool _ => true
  | .int _ => true
  | .str _ => true
  | .bytes _ => true
  | .list xs => plWs xs
  | .tuple xs => plWs xs
  | _ => false
def plWs:List WData -> Bool
  | [] => true
  | x :: r => plW x && plWs r
end
theorem plWs_map {α:Type} {f:α -> WData} (h:∀ a,plW (f a) = true):∀ l:List α,plWs (l.map f) = true
  | [] => rfl
  | x :: r => by
    show (plW (f x) && plWs (r.map f)) = true
    rw [h x,plWs_map h r] <;> rfl
theorem pl_enc:∀ (c:Codec) (a:c.denote),plW (c.enc a) = true
  | .unit,_ => rfl
  | .bool,_ => rfl
  | .int _ _,_ => rfl
  | .nat _ _,_ => rfl
  | .u8,_ => rfl
  | .bytes _ _,_ => rfl
  | .text _ _ _ _,_ => rfl
  | .list _ _ c,a => plWs_map (fun x => pl_enc c x) a
  | .pair c d,a => by
    show (plW (c.enc a.1) && (plW (d.enc a.2) && true)) = true
    rw [pl_enc c a.1,pl_enc d a.2] <;> rfl
  | .triple c d e,a => by
    show (plW (c.enc a.1) && (plW (d.enc a.2.1) && (plW (e.enc a.2.2) && true))) = true
    rw [pl_enc c a.1,pl_enc d a.2.1,pl_enc e a.2.2] <;> rfl
  | .option c,none => rfl
  | .option c,some x => pl_enc c x
theorem pl_encAll:∀ (cs:List Codec) (a:Codec.denoteAll cs),plWs (Codec.encAll cs a) = true
  | [],_ => rfl
  | c :: cs,a => by
    show (plW (c.enc a.1) && plWs (Codec.encAll cs a.2)) = true
    rw [pl_enc c a.1,pl_encAll cs a.2] <;> rfl
theorem weight_mem:∀ {xs:List WData} {d:WData},d ∈ xs -> d.weight <= WData.weightAll xs
  | [],d,h => absurd h (by simp)
  | x :: r,d,h => by
    show d.weight <= x.weight + 1 + WData.weightAll r
    rcases List.mem_cons.mp h with e | m
    . rw [e]
      omega
    . have z:=weight_mem m
      omega
def toV:Value -> V
  | .none => .non
  | .bool b => .bl b
  | .int i _ => .int i
  | .str x _ => .str x
  | .bytes b _ => .byt b
  | .ref a => .ref a
  | _ => .non
def OkU (A:List Addr):Value -> Prop
  | .none => True
  | .bool _ => True
  | .int _ _ => True
  | .str _ _ => True
  | .bytes _ _ => True
  | .ref a => a ∈ A
  | _ => False
theorem OkU.mono {A B:List Addr} (h:∀ a ∈ A,a ∈ B):∀ {u:Value},OkU A u -> OkU B u:=fun {u} x => by
  cases u with
  | ref a => exact h a x
  | none => trivial
  | bool b => trivial
  | int i t => trivial
  | str s t => trivial
  | bytes b t => trivial
  | _ => exact False.elim x
theorem relV_toV {A:List Addr} {u:Value} (x:OkU A u):RelV (toV u) u:=by
  cases u with
  | ref a => rfl
  | none => rfl
  | bool b => rfl
  | int i t => exact ⟨t,rfl⟩
  | str s t => exact ⟨t,rfl⟩
  | bytes b t => exact ⟨t,rfl⟩
  | _ => exact False.elim x
theorem vals_toV {A:List Addr}:∀ {vs:List Value},(∀ u ∈ vs,OkU A u) -> Vals (vs.map toV) vs
  | [],_ => .nil
  | u :: r,h => .cons (relV_toV (h u (List.mem_cons_self ..))) (vals_toV fun x hx => h x (List.mem_cons_of_mem _ hx))
def ArgOb (h:Heap) (A:List Addr) (a:Addr):Prop:=∃ vs:List Value,vs.length <= sizeLine /\ (∀ u ∈ vs,OkU A u) /\
  (h.get? a = some { cls := .type "list", data := .seq vs.toArray } \/ h.get? a = some { cls := .type "tuple", data := .seq vs.toArray })
theorem ArgOb.mono {h:Heap} {A B:List Addr} {a:Addr} (k:∀ a ∈ A,a ∈ B) (x:ArgOb h A a):ArgOb h B a:=by
  obtain ⟨vs,h1,h2,h3⟩:=x
  exact ⟨vs,h1,fun u hu => (h2 u hu).mono k,h3⟩
theorem wellAll_len {P:Params} {h:Heap}:∀ {vs:List Value} {ds:List WData},WellAll P h vs ds -> vs.length = ds.length
  | _,_,.nil => rfl
  | _,_,.cons _ b => by
    show _ + 1 = _ + 1
    rw [wellAll_len b]
theorem well_list {P:Params} {h:Heap} {v:Value} {ds:List WData} (x:Well P h v (.list ds)):∃ (a:Addr) (vs:List Value),v = .ref a /\ h.get? a = some { cls:=.type "list",data:=.seq vs.toArray } /\ WellAll P h vs ds:=by
  cases x with
  | list ho hall => exact ⟨_,_,rfl,ho,hall⟩
theorem well_tuple {P:Params} {h:Heap} {v:Value} {ds:List WData} (x:Well P h v (.tuple ds)):∃ (a:Addr) (vs:List Value),v = .ref a /\ h.get? a = some { cls:=.type "tuple",data:=.seq vs.toArray } /\ WellAll P h vs ds:=by
  cases x with
  | tuple ho hall => exact ⟨_,_,rfl,ho,hall⟩
theorem well_cons {P:Params} {h:Heap} {us:List Value} {d:WData} {ds:List WData} (x:WellAll P h us (d :: ds)):∃ (v:Value) (vs:List Value),us = v :: vs /\ Well P h v d /\ WellAll P h vs ds:=by
  cases x with
  | cons a b => exact ⟨_,_,rfl,a,b⟩
theorem line_of {n:Nat} (h:n <= 1048576):n <= sizeLine:=Nat.le_trans h (by decide)
section
variable {P:Params} {h:Heap}
mutual
theorem area_one:∀ (d:WData) (v:Value),Well P h v d -> plW d = true -> d.weight <= 1048576 -> ∃ A:List Addr,OkU A v /\ ∀ a ∈ A,ArgOb h A a
  | .none,_,x,_,_ => by
    cases x
    exact ⟨[],trivial,fun a m => absurd m (by simp)⟩
  | .bool b,_,x,_,_ => by
    cases x
    exact ⟨[],trivial,fun a m => absurd m (by simp)⟩
  | .int i,_,x,_,_ => by
    cases x
    exact ⟨[],trivial,fun a m => absurd m (by simp)⟩
  | .str s,_,x,_,_ => by
    cases x
    exact ⟨[],trivial,fun a m => absurd m (by simp)⟩
  | .bytes b,_,x,_,_ => by
    cases x
    exact ⟨[],trivial,fun a m => absurd m (by simp)⟩
  | .list ds,_,x,p,z => by
    obtain ⟨a,vs,rfl,ho,hall⟩:=well_list x
    have z2:WData.weightAll ds <= 1048576:=z
    obtain ⟨A,h1,h2⟩:=area_all ds _ hall p fun d hd => Nat.le_trans (weight_mem hd) z2
    have k:∀ b ∈ A,b ∈ a :: A:=fun b hb => List.mem_cons_of_mem _ hb
    refine ⟨a :: A,List.mem_cons_self ..,fun b hb => ?_⟩
    rcases List.mem_cons.mp hb with e | m
    . rw [e]
      exact ⟨vs,line_of (by rw [wellAll_len hall]; exact Nat.le_trans (PySem.W.length_le_weightAllW ds) z2),fun u hu => (h1 u hu).mono k,.inl ho⟩
    . exact (h2 b m).mono k
  | .tuple ds,_,x,p,z => by
    obtain ⟨a,vs,rfl,ho,hall⟩:=well_tuple x
    have z2:WData.weightAll ds <= 1048576:=z
    obtain ⟨A,h1,h2⟩:=area_all ds _ hall p fun d hd => Nat.le_trans (weight_mem hd) z2
    have k:∀ b ∈ A,b ∈ a :: A:=fun b hb => List.mem_cons_of_mem _ hb
    refine ⟨a :: A,List.mem_cons_self ..,fun b hb => ?_⟩
    rcases List.mem_cons.mp hb with e | m
    . rw [e]
      exact ⟨vs,line_of (by rw [wellAll_len hall]; exact Nat.le_trans (PySem.W.length_le_weightAllW ds) z2),fun u hu => (h1 u hu).mono k,.inr ho⟩
    . exact (h2 b m).mono k
  | .float _,_,_,p,_ => Bool.noConfusion (show false = true from p)
  | .dict _,_,_,p,_ => Bool.noConfusion (show false = true from p)
  | .bytearray _,_,_,p,_ => Bool.noConfusion (show false = true from p)
  | .set _,_,_,p,_ => Bool.noConfusion (show false = true from p)
  | .frozenset _,_,_,p,_ => Bool.noConfusion (show false = true from p)
  | .obj _ _,_,_,p,_ => Bool.noConfusion (show false = true from p)
theorem area_all:∀ (ds:List WData) (vs:List Value),WellAll P h vs ds -> plWs ds = true -> (∀ d ∈ ds,d.weight <= 1048576) -> ∃ A:List Addr,(∀ u ∈ vs,OkU A u) /\ ∀ a ∈ A,ArgOb h A a
  | [],_,x,_,_ => by
    cases x
    exact ⟨[],fun u m => absurd m (by simp),fun a m => absurd m (by simp)⟩
  | d :: ds,_,x,p,z => by
    obtain ⟨v,vs,rfl,x1,x2⟩:=well_cons x
    have q:plW d = true /\ plWs ds = true:=Bool.and_eq_true_iff.mp p
    obtain ⟨A,a1,a2⟩:=area_one d v x1 q.1 (z d (List.mem_cons_self ..))
    obtain ⟨B,b1,b2⟩:=area_all ds vs x2 q.2 fun e he => z e (List.mem_cons_of_mem _ he)
    have kA:∀ b ∈ A,b ∈ A ++ B:=fun b hb => List.mem_append.mpr (.inl hb)
    have kB:∀ b ∈ B,b ∈ A ++ B:=fun b hb => List.mem_append.mpr (.inr hb)
    refine ⟨A ++ B,fun u hu => ?_,fun b hb => ?_⟩
    . rcases List.mem_cons.mp hu with e | m
      . rw [e]
        exact a1.mono kA
      . exact (b1 u m).mono kB
    . rcases List.mem_append.mp hb with m | m
      . exact (a2 b m).mono kA
      . exact (b2 b m).mono kB
end
end
def hoOf (o:Obj):Option HO:=match o.data with
  | .seq vs _ => if (o.cls == Value.type "list") = true then some (.frz o (.lst (vs.toList.map toV))) else some (.frz o (.tup (vs.toList.map toV)))
  | _ => none
def argH (K:PySem.W.Frag) (h:Heap) (A:List Addr):Hp:=fun b => if b ∈ A then (if (K.lookup b).isNone = true then (h.get? b).bind hoOf else none) else none
def OnlyF (H:Hp):Prop:=∀ b,H b = none \/ ∃ o u,H b = some (.frz o u)
theorem hoOf_lst (vs : List Value) : hoOf { cls := .type "list", data := .seq vs.toArray } = some (.frz { cls := .type "list", data := .seq vs.toArray } (.lst (vs.map toV))) := by
  show (if (Value.type "list" == Value.type "list") = true then some (HO.frz { cls := .type "list", data := .seq vs.toArray } (.lst (vs.toArray.toList.map toV))) else some (HO.frz { cls := .type "list", data := .seq vs.toArray } (.tup (vs.toArray.toList.map toV)))) = _
  rw [if_pos (beq_self_eq_true _)]
theorem hoOf_tup (vs : List Value) : hoOf { cls := .type "tuple", data := .seq vs.toArray } = some (.frz { cls := .type "tuple", data := .seq vs.toArray } (.tup (vs.map toV))) := by
  show (if (Value.type "tuple" == Value.type "list") = true then some (HO.frz { cls := .type "tuple", data := .seq vs.toArray } (.lst (vs.toArray.toList.map toV))) else some (HO.frz { cls := .type "tuple", data := .seq vs.toArray } (.tup (vs.toArray.toList.map toV)))) = _
  rw [if_neg (by decide)]
section
variable {P:Program} {w:World} {K:PySem.W.Frag} {h:Heap} {A:List Addr}
theorem argH_at {b:Addr} {o:Obj} (hb:b ∈ A) (hk:K.lookup b = none) (e:h.get? b = some o):argH K h A b = hoOf o:=by
  unfold argH
  rw [if_pos hb,hk,if_pos (show (none:Option Obj).isNone = true from rfl),e] <;> rfl
theorem of_argH {b:Addr} {u:HO} (q:argH K h A b = some u):b ∈ A /\ K.lookup b = none:=by
  unfold argH at q
  by_cases hb:b ∈ A
  . rw [if_pos hb] at q
    cases hk:K.lookup b with
    | none => exact ⟨hb,rfl⟩
    | some o =>
      rw [hk,if_neg (by simp)] at q
      cases q
  . rw [if_neg hb] at q
    cases q
theorem argH_is (ar:∀ a ∈ A,ArgOb h A a) {b:Addr} {u:HO} (q:argH K h A b = some u):K.lookup b = none /\ ∃ vs:List Value,vs.length <= sizeLine /\ (∀ u ∈ vs,OkU A u) /\
    ((h.get? b = some { cls := .type "list", data := .seq vs.toArray } /\ u = .frz { cls := .type "list", data := .seq vs.toArray } (.lst (vs.map toV))) \/
     (h.get? b = some { cls := .type "tuple", data := .seq vs.toArray } /\ u = .frz { cls := .type "tuple", data := .seq vs.toArray } (.tup (vs.map toV)))) := by
  obtain ⟨hb,hk⟩:=of_argH q
  obtain ⟨vs,h1,h2,h3⟩:=ar b hb
  refine ⟨hk,vs,h1,h2,?_⟩
  rcases h3 with e | e
  . rw [argH_at hb hk e,hoOf_lst] at q
    exact .inl ⟨e,(Option.some.inj q).symm⟩
  . rw [argH_at hb hk e,hoOf_tup] at q
    exact .inr ⟨e,(Option.some.inj q).symm⟩
theorem argH_only (ar:∀ a ∈ A,ArgOb h A a):OnlyF (argH K h A):=fun b => by
  cases q:argH K h A b with
  | none => exact .inl rfl
  | some u =>
    obtain ⟨_,vs,_,_,⟨_,e⟩ | ⟨_,e⟩⟩:=argH_is ar q
    . exact .inr ⟨_,_,by rw [e]⟩
    . exact .inr ⟨_,_,by rw [e]⟩
theorem argH_ok (ar:∀ a ∈ A,ArgOb h A a):HOk P w (argH K h A) h:=fun b u q => by
  obtain ⟨_,vs,h1,h2,⟨e,rfl⟩ | ⟨e,rfl⟩⟩:=argH_is ar q
  . exact ⟨e,by rw [List.length_map]; exact h1,vs,_,vals_toV h2,e⟩
  . exact ⟨e,by rw [List.length_map]; exact h1,vs,vals_toV h2,_,e,rfl,_,rfl⟩
theorem seq_inj {c c':Value} {vs us:List Value} (e:(some { cls:=c,data:=.seq vs.toArray }:Option Obj) = some { cls:=c',data:=.seq us.toArray }):c = c' /\ vs = us:=by
  have e1:=Option.some.inj e
  have e2:c = c':=congrArg Obj.cls e1
  have e3:Data.seq vs.toArray = Data.seq us.toArray:=congrArg Obj.data e1
  injection e3 with e4
  refine ⟨e2,?_⟩
  have e5:=congrArg Array.toList e4
  simpa using e5
theorem argL (KX:K.In h) (ar:∀ a ∈ A,ArgOb h A a) {a:Addr} {vs:List Value} (ha:a ∈ A) (e:h.get? a = some { cls:=.type "list",data:=.seq vs.toArray }):(∀ u ∈ vs,OkU A u) /\ SqL K (argH K h A) a (vs.map toV):=by
  obtain ⟨us,h1,h2,h3⟩:=ar a ha
  have hu:us = vs:=by
    rcases h3 with q | q
    . rw [e] at q
      exact (seq_inj q).2.symm
    . rw [e] at q
      exact absurd (Value.type.inj (seq_inj q).1) (by decide)
  subst hu
  refine ⟨h2,?_⟩
  cases hk:K.lookup a with
  | none => exact .inl (.inr ⟨_,by rw [argH_at ha hk e,hoOf_lst]⟩)
  | some o =>
    have e2:=KX a o hk
    rw [e] at e2
    obtain rfl:=Option.some.inj e2
    exact .inr ⟨_,us.toArray,_,hk,rfl,rfl,rfl,by rw [List.size_toArray]; exact h1,by simpa using vals_toV h2⟩
theorem argT (KX:K.In h) (ar:∀ a ∈ A,ArgOb h A a) {a:Addr} {vs:List Value} (ha:a ∈ A) (e:h.get? a = some { cls:=.type "tuple",data:=.seq vs.toArray }):(∀ u ∈ vs,OkU A u) /\ SqT K (argH K h A) a (vs.map toV):=by
  obtain ⟨us,h1,h2,h3⟩:=ar a ha
  have hu:us = vs:=by
    rcases h3 with q | q
    . rw [e] at q
      exact absurd (Value.type.inj (seq_inj q).1) (by decide)
    . rw [e] at q
      exact (seq_inj q).2.symm
  subst hu
  refine ⟨h2,?_⟩
  cases hk:K.lookup a with
  | none => exact .inl (.inr ⟨_,by rw [argH_at ha hk e,hoOf_tup]⟩)
  | some o =>
    have e2:=KX a o hk
    rw [e] at e2
    obtain rfl:=Option.some.inj e2
    exact .inr ⟨_,us.toArray,_,hk,rfl,rfl,by rw [List.size_toArray]; exact h1,by simpa using vals_toV h2⟩
mutual
theorem dw_one {Pm:Params} (KX:K.In h) (ar:∀ a ∈ A,ArgOb h A a):∀ (d:WData) (v:Value),Well Pm h v d -> plW d = true -> OkU A v -> Dw K (argH K h A) (toV v) d
  | .none,_,x,_,_ => by
    cases x
    exact .non
  | .bool b,_,x,_,_ => by
    cases x
    exact .bl b
  | .int i,_,x,_,_ => by
    cases x
    exact .int i
  | .str s,_,x,_,_ => by
    cases x
    exact .str s
  | .bytes b,_,x,_,_ => by
    cases x
    have z:=Dw.byt (K:=K) (H:=argH K h A) b.toArray
    exact z
  | .list ds,_,x,p,hu => by
    obtain ⟨a,vs,rfl,ho,hall⟩:=well_list x
    obtain ⟨h2,hs⟩:=argL KX ar hu ho
    exact .lst hs (dw_all KX ar ds _ hall p h2)
  | .tuple ds,_,x,p,hu => by
    obtain ⟨a,vs,rfl,ho,hall⟩:=well_tuple x
    obtain ⟨h2,hs⟩:=argT KX ar hu ho
    exact .tup hs (dw_all KX ar ds _ hall p h2)
  | .float _,_,_,p,_ => Bool.noConfusion (show false = true from p)
  | .dict _,_,_,p,_ => Bool.noConfusion (show false = true from p)
  | .bytearray _,_,_,p,_ => Bool.noConfusion (show false = true from p)
  | .set _,_,_,p,_ => Bool.noConfusion (show false = true from p)
  | .frozenset _,_,_,p,_ => Bool.noConfusion (show false = true from p)
  | .obj _ _,_,_,p,_ => Bool.noConfusion (show false = true from p)
theorem dw_all {Pm:Params} (KX:K.In h) (ar:∀ a ∈ A,ArgOb h A a):∀ (ds:List WData) (vs:List Value),WellAll Pm h vs ds -> plWs ds = true -> (∀ u ∈ vs,OkU A u) -> DwAll K (argH K h A) (vs.map toV) ds
  | [],_,x,_,_ => by
    cases x
    exact .nil
  | d :: ds,_,x,p,hu => by
    obtain ⟨v,vs,rfl,x1,x2⟩:=well_cons x
    have q:plW d = true /\ plWs ds = true:=Bool.and_eq_true_iff.mp p
    exact .cons (dw_one KX ar d v x1 q.1 (hu _ (List.mem_cons_self ..))) (dw_all KX ar ds vs x2 q.2 fun u m => hu u (List.mem_cons_of_mem _ m))
end
end
theorem spec_call {P:Program} {w:World} {K:PySem.W.Frag} {mg mb:Str -> Option Value} {CX:CXT} {k:Nat} {fa:Addr} {fd:FuncData} {ps:List Str} {sp:Sp} {s₁:Shared} {vals:List Value} {ds:List WData} {R:PySem.W.WRecords} {cl:Str -> Option Addr} {d0:WData}
    (KX:K.In s₁.heap) (hns:s₁.heap.Ns mainGlobals mg) (hb:s₁.heap.Ns builtinsNs mb) (hbb:∀ x:Str,x ≠ "__name__" -> mb x = bootBuiltins x) (hlim:s₁.heap.NoLimit) (hg:s₁.gens = #[])
    (hwl:WellAll w.params s₁.heap vals ds) (hpl:plWs ds = true) (hwt:∀ d ∈ ds,d.weight <= 1048576) (hr:Room k callerA)
    (F:∀ base:Heap,K.In base -> base.Ns mainGlobals mg -> FnOk P w K mg base CX k fa fd ps sp) (hbind:∀ (s:Shared) (us:List Value),us.length = ps.length -> BindsTo s fd ⟨us,[]⟩ (ps.zip us)) (hlen:ds.length = ps.length)
    (hsp:∀ (H:Hp) (xs:List V),OnlyF H -> DwAll K H xs ds -> sp xs H (fun v H' => Dw K H' v d0) fun _ _ _ => False)
    (hCX:∀ H e s',CX [] H s₁ (fun _ _ _ => False) e s' -> False) :
    codeAny (model P w) callerA (.call (.ref fa) ⟨vals,[]⟩) (fun r s' => ∃ u as,r = .ok (.ret u) /\ ReadsW R cl s'.heap u d0 as /\ OldK s₁.heap s'.heap /\ s'.os = s₁.os /\ AllBare s'.gens) s₁:=by
  obtain ⟨A,ho,ar⟩:=area_all ds vals hwl hpl hwt
  have hO:OnlyF (argH K s₁.heap A):=argH_only ar
  have hok:HOk P w (argH K s₁.heap A) s₁.heap:=argH_ok ar
  have hS:=dw_all KX ar ds vals hwl hpl ho
  have hV:=vals_toV ho
  have hK:∀ b u,argH K s₁.heap A b = some u -> K.lookup b = none:=fun b u q => (argH_is ar q).1
  have noA:∀ {b:Addr} {o:Obj} {es:Array DictEntry} {ep:Nat},s₁.heap.get? b = some o -> o.data = .dict es ep -> argH K s₁.heap A b = none:=fun {b o es ep} e d => by
    cases q:argH K s₁.heap A b with
    | none => rfl
    | some u =>
      obtain ⟨_,vs,_,_,⟨e2,_⟩ | ⟨e2,_⟩⟩:=argH_is ar q
      . rw [e2] at e
        cases e
        have d':Data.seq vs.toArray _ = Data.dict es ep:=d
        cases d'
      . rw [e2] at e
        cases e
        have d':Data.seq vs.toArray _ = Data.dict es ep:=d
        cases d'
  generalize argH K s₁.heap A = H at hO hok hS hK noA
  have base_of:∀ {b:Addr} {o:Obj},s₁.heap.get? b = some o -> H b = none -> (hidT s₁.heap H).get? b = some o:=fun e n => hidT_get e n
  have nsK:∀ {b:Addr} {m:Str -> Option Value},s₁.heap.Ns b m -> (hidT s₁.heap H).Ns b m:=fun {b m} ⟨o,es,ep,e,d,r⟩ => ⟨o,es,ep,base_of e (noA e d),d,r⟩
  have nK:∀ b o,K.lookup b = some o -> H b = none:=fun b o e => by
    cases q:H b with
    | none => rfl
    | some u =>
      rw [hK b u q] at e
      cases e
  have hKb:K.In (hidT s₁.heap H):=fun b o e => base_of (KX b o e) (nK b o e)
  have hM:Mod K mg (hidT s₁.heap H):=⟨hKb,nsK hns,⟨mb,nsK hb,hbb⟩,let ⟨mc,h1,h2⟩:=hlim; ⟨mc,nsK h1,h2⟩⟩
  have e0:Env0 P w K mg (hidT s₁.heap H) callerA [] s₁ H:=⟨rfl,hM,fun b o e => of_hidT e,Nat.le_of_eq (hidT_size _ _),trivial,fun b hb => absurd (show b ∈ ([]:List Addr) from hb) (by simp),hok,.of_eq hg⟩
  have hl:vals.length = ps.length:=by rw [wellAll_len hwl]; exact hlen
  refine codeAny_mono ((F _ hKb (nsK hns)).run callerA [] s₁ H ⟨vals,[]⟩ vals (vals.map toV) _ _ hr e0 (hbind s₁ vals hl) hV (hsp H _ hO hS)) fun r s' x => ?_
  cases r with
  | error e => exact (hCX H e s' x).elim
  | ok fl =>
    cases fl with
    | next => exact False.elim x
    | brk => exact False.elim x
    | cont => exact False.elim x
    | ret u =>
      obtain ⟨v,H',os,bare,un,hok',r',q⟩:=x
      have kept:∀ b o,s₁.heap.get? b = some o -> s'.heap.get? b = some o:=fun b o e => by
        cases q2:H b with
        | none => exact un.keep b o e q2 (by intro z; exact absurd (show b ∈ ([]:List Addr) from z) (by simp)) (by simp)
        | some u2 =>
          rcases hO b with z | ⟨ob,u3,z⟩
          . rw [q2] at z
            cases z
          . have z2:=un.frzs b ob _ z
            obtain ⟨e1,_⟩:=hok b _ z
            obtain ⟨e2,_⟩:=hok' b _ z2
            rw [e] at e1
            cases e1
            exact e2
      have KX':K.In s'.heap:=fun b o e => kept b o (KX b o e)
      obtain ⟨as,hrd⟩:=Dw.reads (R:=R) (cl:=cl) hok' KX' d0 v u q r'
      exact ⟨u,as,rfl,hrd,OldK.of_keep kept,os,bare⟩
theorem layable_weight {ds:List WData} (h:WData.layableAll ds = true):∀ d ∈ ds,d.weight <= 1048576:=fun d hd =>
  (PySem.W.layableW_iff.mp (List.all_eq_true.mp h d hd)).2.2
theorem encAll_len:∀ (cs:List Codec) (a:Codec.denoteAll cs),(Codec.encAll cs a).length = cs.length
  | [],_ => rfl
  | c :: cs,a => by
    show (Codec.encAll cs a.2).length + 1 = cs.length + 1
    rw [encAll_len cs a.2]
theorem walk_spec {r:OpenSpec} {k:Nat} {q:Program} {loose:List Str} {XP:(Str -> Option Value) -> Heap -> Prop} {YP:World -> Heap -> Prop} {d:DefRec} {K:Params -> PySem.W.Frag} {CX:World -> CXT} {ps:List Str} {sp:World -> Sp}
    (hwell:r.wellSaid = true) (hdf:d.params.defaults = []) (hlen:r.args.length = ps.length) (hr:Room k callerA)
    (hY:∀ (w:World) (h:Heap),YP w h -> (K w.params).In h)
    (F:∀ (w:World) (mg:Str -> Option Value) (fa:Addr) (h:Heap),YP w h -> (K w.params).In h -> h.Ns mainGlobals mg -> mg d.name = some (.ref fa) ->
      ∃ fd:FuncData,(∀ (s:Shared) (us:List Value),us.length = ps.length -> BindsTo s fd ⟨us,[]⟩ (ps.zip us)) /\
        ∀ base:Heap,(K w.params).In base -> base.Ns mainGlobals mg -> FnOk r.prog w (K w.params) mg base (CX w) k fa fd ps (sp w))
    (hsp:∀ (w:World) (H:Hp) (xs:List V) (a:Codec.denoteAll r.args),OnlyF H -> Codec.withinAll r.args a = true -> Codec.app r.args r.asked a = true -> DwAll (K w.params) H xs (Codec.encAll r.args a) ->
      sp w xs H (fun v H' => Dw (K w.params) H' v (r.ret.enc (Codec.app r.args r.f a))) fun _ _ _ => False)
    (hCX:∀ (w:World) (H:Hp) (s:Shared) (e:Value) (s':Shared),CX w [] H s (fun _ _ _ => False) e s' -> False) :
    PySem.W.WalkOS q loose XP YP r d [] (fun f vs => PySem.call f vs):=by
  intro w s_0 s₁ mg mb G Y fa o pm cd doc dV kV ho hd hcd hD hmg hg args vals as hpre hlay hrd hwl hlo
  obtain ⟨a,e1,e2⟩:=PySem.W.os_pre_some hpre
  obtain ⟨e3,hwi⟩:=Codec.encAll_of_decAll r.args args a e1
  subst e3
  have KX:=hY w _ Y
  obtain ⟨fd,hb,hF⟩:=F w mg fa _ Y KX G.T.g hmg
  refine PySem.W.enter_call (codeAny_mono (spec_call (R:=[]) (cl:=classAt s_0.heap) (d0:=r.ret.enc (Codec.app r.args r.f a)) KX G.T.g G.T.b G.T.builtins G.T.nolimit hg hwl (pl_encAll _ _) (layable_weight hlay) hr hF hb (by rw [encAll_len]; exact hlen)
    (fun H xs hO hS => hsp w H xs a hO hwi e2 hS) fun H e s' => hCX w H s₁ e s') fun r' s' hq => ?_)
  obtain ⟨u,as',rfl,h1,h2,h3,h4⟩:=hq
  exact ⟨.inl ⟨u,_,as',rfl,fun _ => rfl,h1,(OpenSpec.post_iff hwell hwi _ _).mpr rfl,fun z => Bool.noConfusion (show false = true from z)⟩,h2,h3,h4⟩
theorem walk_specK {r:OpenSpec} {k:Nat} {q:Program} {loose:List Str} {XP:(Str -> Option Value) -> Heap -> Prop} {YP:World -> Heap -> Prop} {d:DefRec} {K:Params -> PySem.W.Frag} {CX:CXT} {ps:List Str} {sp:PySem.W.Frag -> Sp}
    (hwell:r.wellSaid = true) (hdf:d.params.defaults = []) (hlen:r.args.length = ps.length) (hr:Room k callerA)
    (hY:∀ (w:World) (h:Heap),YP w h -> (K w.params).In h)
    (F:∀ (w:World) (mg:Str -> Option Value) (fa:Addr) (h:Heap),YP w h -> (K w.params).In h -> h.Ns mainGlobals mg -> mg d.name = some (.ref fa) ->
      ∃ fd:FuncData,(∀ (s:Shared) (us:List Value),us.length = ps.length -> BindsTo s fd ⟨us,[]⟩ (ps.zip us)) /\
        ∀ base:Heap,(K w.params).In base -> base.Ns mainGlobals mg -> FnOk r.prog w (K w.params) mg base CX k fa fd ps (sp (K w.params)))
    (hsp:∀ (K:PySem.W.Frag) (H:Hp) (xs:List V) (a:Codec.denoteAll r.args),OnlyF H -> Codec.withinAll r.args a = true -> Codec.app r.args r.asked a = true -> DwAll K H xs (Codec.encAll r.args a) ->
      sp K xs H (fun v H' => Dw K H' v (r.ret.enc (Codec.app r.args r.f a))) fun _ _ _ => False)
    (hCX:∀ (H:Hp) (s:Shared) (e:Value) (s':Shared),CX [] H s (fun _ _ _ => False) e s' -> False) :
    PySem.W.WalkOS q loose XP YP r d [] (fun f vs => PySem.call f vs) :=
  walk_spec (K:=K) (CX:=fun _ => CX) (sp:=fun w => sp (K w.params)) hwell hdf hlen hr hY F (fun w H xs a h1 h2 h3 h4 => hsp (K w.params) H xs a h1 h2 h3 h4) fun _ H s e s' => hCX H s e s'
end L2
end
set_option Elab.async false
namespace Bm
def at0 (ns:List Int) (i:Nat):Int:=ns.getD i 0
def stepB (s n k:Int):Bool:=if n = 0 then (decide (s = 0) && decide (k = 0)) else (decide (s <= 31) && (decide (n <= 15) && decide (k <= 15)))
def stepAt (ns:List Int) (j:Nat):Bool:=stepB (at0 ns (3 + 3 * j)) (at0 ns (3 + 3 * j + 1)) (at0 ns (3 + 3 * j + 2))
def stepsB (ns:List Int):Bool:=(List.range ((ns.length - 3) / 3)).all (stepAt ns)
def headB (ns:List Int):Bool:=decide (at0 ns 0 <= 1) && (decide (at0 ns 1 <= 19) && decide (at0 ns 2 <= 19))
def lenB (n:Nat):Bool:=(decide (3 <= n) && decide (n <= 33)) && decide (n % 3 = 0)
def rowB (ns:List Int):Bool:=lenB ns.length && (headB ns && stepsB ns)
theorem nats_getD (ns:List Int) (i:Nat):(BkNeutral.nats ns).getD i 0 = (at0 ns i).toNat:=by
  unfold BkNeutral.nats at0
  rw [List.getD_eq_getElem?_getD,List.getD_eq_getElem?_getD,List.getElem?_map]
  cases ns[i]? <;> rfl
theorem nats_len (ns:List Int):(BkNeutral.nats ns).length = ns.length:=by
  unfold BkNeutral.nats
  rw [List.length_map]
theorem at0_nn {ns:List Int} (h:∀ x ∈ ns,0 <= x) (i:Nat):0 <= at0 ns i:=by
  unfold at0
  rw [List.getD_eq_getElem?_getD]
  cases e:ns[i]? with
  | none => exact Int.le_refl 0
  | some x => exact h x (List.mem_of_getElem? e)
theorem by_take {k:Nat} (hk:0 < k):∀ (n:Nat) (l:List Nat),l.length < n -> l.length % k = 0 ->
    Na.by_ k n l = (List.range (l.length / k)).map fun j => (l.drop (k * j)).take k
  | 0,l,h,_ => by omega
  | n + 1,l,h,h0 => by
    unfold Na.by_
    by_cases e:l = []
    . subst e
      simp
    . rw [if_neg e]
      have hp:0 < l.length:=List.length_pos_iff.mpr e
      have hkl:k <= l.length:=by
        rcases Nat.lt_or_ge l.length k with q | q
        . rw [Nat.mod_eq_of_lt q] at h0; omega
        . exact q
      have hd:(l.drop k).length = l.length - k:=List.length_drop ..
      have hm:(l.drop k).length % k = 0:=by
        rw [hd]
        have:=Nat.sub_mul_mod (x:=l.length) (k:=1) (n:=k) (by omega)
        rw [Nat.mul_one] at this
        omega
      rw [by_take hk n (l.drop k) (by omega) hm,hd]
      have hq:l.length / k = (l.length - k) / k + 1:=by
        rw [Nat.div_eq_sub_div hk hkl]
      rw [hq,List.range_succ_eq_map,List.map_cons,List.map_map]
      congr 1
      refine List.map_congr_left fun j _ => ?_
      show ((l.drop k).drop (k * j)).take k = (l.drop (k * (j + 1))).take k
      rw [List.drop_drop,Nat.mul_add,Nat.mul_one,Nat.add_comm]
theorem groups_eq {k:Nat} (hk:0 < k) {l:List Nat} (h0:l.length % k = 0):Na.groups k l = (List.range (l.length / k)).map fun j => (l.drop (k * j)).take k :=
  by_take hk _ l (Nat.lt_succ_self _) h0
theorem getD_drop {l:List Nat} {a i:Nat}:(l.drop a).getD i 0 = l.getD (a + i) 0:=by
  rw [List.getD_eq_getElem?_getD,List.getD_eq_getElem?_getD,List.getElem?_drop]
def keyOf (ns:List Int):List Int:=[at0 ns 0,at0 ns 1,at0 ns 2]
def bad:Nat -> List (List Int) -> List (List Int) -> Option Nat
  | _,_,[] => none
  | i,ks,ns :: r => if rowB ns = false \/ keyOf ns ∈ ks then some i else bad (i + 1) (ks ++ [keyOf ns]) r
end Bm
set_option Elab.async false
namespace Sm
open Na
def Fits:List Deck -> Push -> Prop
  | [],[] => True
  | d :: ds,k :: p => k <= d.beads /\ Fits ds p
  | _,_ => False
theorem mem_pushes:∀ {ds:List Deck} {p:Push},p ∈ pushes ds ↔ Fits ds p
  | [],[] => by simp [pushes,Fits]
  | [],k :: p => by simp [pushes,Fits]
  | d :: ds,[] => by simp [pushes,Fits]
  | d :: ds,k :: p => by
    simp only [pushes,Fits,List.mem_flatMap,List.mem_range,List.mem_map]
    constructor
    . rintro ⟨a,ha,q,hq,e⟩
      cases e
      exact ⟨by omega,mem_pushes.mp hq⟩
    . rintro ⟨h1,h2⟩
      exact ⟨k,by omega,p,mem_pushes.mpr h2,rfl⟩
theorem Fits.len:∀ {ds:List Deck} {p:Push},Fits ds p -> p.length = ds.length
  | [],[],_ => rfl
  | d :: ds,k :: p,h => by rw [List.length_cons,List.length_cons,Fits.len h.2]
  | [],_ :: _,h => h.elim
  | _ :: _,[],h => h.elim
theorem Fits.at_:∀ {ds:List Deck} {p:Push} {i:Nat} {d:Deck} {k:Nat},Fits ds p -> ds[i]? = some d -> p[i]? = some k -> k <= d.beads
  | [],[],i,d,k,_,e,_ => by simp at e
  | d' :: ds,k' :: p,0,d,k,h,e1,e2 => by
    have e1:d' = d:=Option.some.inj e1
    have e2:k' = k:=Option.some.inj e2
    rw [<- e1,<- e2]
    exact h.1
  | d' :: ds,k' :: p,i + 1,d,k,h,e1,e2 => Fits.at_ (i:=i) h.2 e1 e2
  | [],_ :: _,_,_,_,h,_,_ => h.elim
  | _ :: _,[],_,_,_,h,_,_ => h.elim
theorem Fits.set:∀ {ds:List Deck} {p:Push} {i:Nat} {d:Deck} {k:Nat},Fits ds p -> ds[i]? = some d -> k <= d.beads -> Fits ds (p.set i k)
  | [],[],i,d,k,h,_,_ => h
  | d' :: ds,k' :: p,0,d,k,h,e1,hk => by
    have e1:d' = d:=Option.some.inj e1
    subst e1
    exact ⟨hk,h.2⟩
  | d' :: ds,k' :: p,i + 1,d,k,h,e1,hk => ⟨h.1,Fits.set (i:=i) h.2 e1 hk⟩
  | [],_ :: _,_,_,_,h,_,_ => h.elim
  | _ :: _,[],_,_,_,h,_,_ => h.elim
theorem pushed_fits {ds:List Deck} {p q:Push} {x:Reach} {n:Nat} (h:Fits ds p) (e:pushed ds p x n = some q):Fits ds q:=by
  unfold pushed at e
  by_cases c:n < 1 \/ x.most < n
  . rw [if_pos c] at e
    cases e
  . rw [if_neg c] at e
    cases ed:ds[x.deck]? with
    | none =>
      rw [ed] at e
      cases e
    | some d =>
      cases ep:p[x.deck]? with
      | none =>
        rw [ed,ep] at e
        cases e
      | some a =>
        rw [ed,ep] at e
        have ha:=h.at_ ed ep
        dsimp only at e
        by_cases t:x.to_ = true
        . rw [if_pos t] at e
          by_cases z:a + n <= d.beads
          . rw [if_pos z] at e
            rw [<- Option.some.inj e]
            exact h.set ed z
          . rw [if_neg z] at e
            cases e
        . rw [if_neg t] at e
          by_cases z:n <= a
          . rw [if_pos z] at e
            rw [<- Option.some.inj e]
            exact h.set ed (by omega)
          . rw [if_neg z] at e
            cases e
theorem stroke_fits {ds:List Deck} {p q:Push} {s:Stroke} {n k:Nat} (h:Fits ds p) (e:strokeOn ds s n k p = some q):Fits ds q:=by
  unfold strokeOn at e
  cases e1:pushed ds p s.first n with
  | none =>
    rw [e1] at e
    cases e
  | some q1 =>
    rw [e1] at e
    have h1:=pushed_fits h e1
    have e:(match s.second with | none => if k = 0 then some q1 else none | some y => pushed ds q1 y k) = some q:=e
    cases s2:s.second with
    | none =>
      rw [s2] at e
      dsimp only at e
      by_cases z:k = 0
      . rw [if_pos z] at e
        rw [<- Option.some.inj e]
        exact h1
      . rw [if_neg z] at e
        cases e
    | some y =>
      rw [s2] at e
      exact pushed_fits h1 e
theorem below_irr:∀ l:List Nat,below l l = false
  | [] => rfl
  | x :: l => by
    show (decide (x < x) || (x == x && below l l)) = false
    rw [below_irr l]
    simp
theorem below_trans:∀ {a b c:List Nat},below a b = true -> below b c = true -> below a c = true
  | [],_,_,h,_ => by simp [below] at h
  | _ :: _,[],_,h,_ => by simp [below] at h
  | _ :: _,_ :: _,[],_,h => by simp [below] at h
  | x :: a,y :: b,z :: c,h1,h2 => by
    simp only [below,Bool.or_eq_true,Bool.and_eq_true,decide_eq_true_eq,beq_iff_eq] at h1 h2 |-
    rcases h1 with h1 | ⟨rfl,h1⟩
    . rcases h2 with h2 | ⟨rfl,h2⟩
      . exact .inl (by omega)
      . exact .inl h1
    . rcases h2 with h2 | ⟨rfl,h2⟩
      . exact .inl h2
      . exact .inr ⟨rfl,below_trans h1 h2⟩
theorem below_tot:∀ {a b:List Nat},a.length = b.length -> a ≠ b -> below a b = true \/ below b a = true
  | [],[],_,h => absurd rfl h
  | [],_ :: _,h,_ => by simp at h
  | _ :: _,[],h,_ => by simp at h
  | x :: a,y :: b,hl,h => by
    simp only [below,Bool.or_eq_true,Bool.and_eq_true,decide_eq_true_eq,beq_iff_eq]
    rcases Nat.lt_trichotomy x y with c | c | c
    . exact .inl (.inl c)
    . subst c
      have h':a ≠ b:=fun z => h (by rw [z])
      rcases below_tot (by simpa using hl) h' with q | q
      . exact .inl (.inr ⟨rfl,q⟩)
      . exact .inr (.inr ⟨rfl,q⟩)
    . exact .inr (.inl c)
theorem nicer_iff {p q:Push}:nicer p q = true ↔ total p < total q \/ (total p = total q /\ below q p = true):=by
  unfold nicer
  simp only [Bool.or_eq_true,Bool.and_eq_true,decide_eq_true_eq,beq_iff_eq]
theorem nicer_irr (p:Push):nicer p p = false:=by
  unfold nicer
  rw [below_irr p]
  simp
theorem nicer_trans {a b c:Push} (h1:nicer a b = true) (h2:nicer b c = true):nicer a c = true:=by
  rw [nicer_iff] at h1 h2 |-
  rcases h1 with h1 | ⟨e1,h1⟩
  . rcases h2 with h2 | ⟨e2,h2⟩
    . exact .inl (by omega)
    . exact .inl (by omega)
  . rcases h2 with h2 | ⟨e2,h2⟩
    . exact .inl (by omega)
    . exact .inr ⟨e1.trans e2,below_trans h2 h1⟩
theorem nicer_tot {a b:Push} (hl:a.length = b.length) (h:a ≠ b):nicer a b = true \/ nicer b a = true:=by
  rw [nicer_iff,nicer_iff]
  rcases Nat.lt_trichotomy (total a) (total b) with c | c | c
  . exact .inl (.inl c)
  . rcases below_tot hl h with q | q
    . exact .inr (.inr ⟨c.symm,q⟩)
    . exact .inl (.inr ⟨c,q⟩)
  . exact .inr (.inl c)
theorem nicest_from:∀ (l:List Push) (q:Push),(∀ x ∈ l,x.length = q.length) -> ∃ p,l.foldl (fun (a:Option Push) (p:Push) => match a with
    | none => some p
    | some q => if nicer p q = true then some p else some q) (some q) = some p /\ (p = q \/ p ∈ l) /\ nicer q p = false /\ ∀ x ∈ l,nicer x p = false
  | [],q,_ => ⟨q,rfl,.inl rfl,nicer_irr q,fun x h => by simp at h⟩
  | y :: l,q,hl => by
    have hy:=hl y (List.mem_cons_self ..)
    rw [List.foldl_cons]
    dsimp only
    by_cases c:nicer y q = true
    . rw [if_pos c]
      obtain ⟨p,e,hp,h1,h2⟩:=nicest_from l y fun x hx => (hl x (List.mem_cons_of_mem _ hx)).trans hy.symm
      refine ⟨p,e,?_,?_,fun x hx => ?_⟩
      . rcases hp with hp | hp
        . exact .inr (by rw [hp]; exact List.mem_cons_self ..)
        . exact .inr (List.mem_cons_of_mem _ hp)
      . refine Bool.eq_false_iff.mpr fun z => ?_
        rw [nicer_trans c z] at h1
        cases h1
      . rcases List.mem_cons.mp hx with hx | hx
        . rw [hx]
          exact h1
        . exact h2 x hx
    . rw [if_neg c]
      obtain ⟨p,e,hp,h1,h2⟩:=nicest_from l q fun x hx => hl x (List.mem_cons_of_mem _ hx)
      refine ⟨p,e,?_,h1,fun x hx => ?_⟩
      . rcases hp with hp | hp
        . exact .inl hp
        . exact .inr (List.mem_cons_of_mem _ hp)
      . rcases List.mem_cons.mp hx with hx | hx
        . rw [hx]
          refine Bool.eq_false_iff.mpr fun z => ?_
          by_cases e:y = q
          . rw [e,h1] at z
            cases z
          . rcases nicer_tot hy e with k | k
            . exact c k
            . rw [nicer_trans k z] at h1
              cases h1
        . exact h2 x hx
theorem nicest_some {l:List Push} {n:Nat} (hl:∀ x ∈ l,x.length = n) (hn:l ≠ []):∃ p,nicest l = some p /\ p ∈ l /\ ∀ x ∈ l,nicer x p = false:=by
  cases l with
  | nil => exact absurd rfl hn
  | cons q l =>
    obtain ⟨p,e,hp,h1,h2⟩:=nicest_from l q fun x hx => (hl x (List.mem_cons_of_mem _ hx)).trans (hl q (List.mem_cons_self ..)).symm
    refine ⟨p,e,List.mem_cons.mpr hp,fun x hx => ?_⟩
    rcases List.mem_cons.mp hx with hx | hx
    . rw [hx]
      exact h1
    . exact h2 x hx
theorem nicest_is {l:List Push} {n:Nat} {p:Push} (hl:∀ x ∈ l,x.length = n) (hp:p ∈ l) (h:∀ x ∈ l,nicer x p = false):nicest l = some p:=by
  obtain ⟨q,e,hq,h2⟩:=nicest_some hl (List.ne_nil_of_mem hp)
  rw [e]
  congr 1
  refine Classical.byContradiction fun c => ?_
  rcases nicer_tot ((hl q hq).trans (hl p hp).symm) c with k | k
  . rw [h q hq] at k
    cases k
  . rw [h2 p hp] at k
    cases k
theorem form_is {r:Rod} {d:Nat} (h:∃ p,Fits r.decks p /\ worthOf r.decks p = d):Fits r.decks (formOf r d) /\ worthOf r.decks (formOf r d) = d /\ ∀ x,Fits r.decks x -> worthOf r.decks x = d -> nicer x (formOf r d) = false:=by
  obtain ⟨p,h1,h2⟩:=h
  have hm:p ∈ (pushes r.decks).filter fun (p:Push) => worthOf r.decks p == d:=List.mem_filter.mpr ⟨mem_pushes.mpr h1,by simpa using h2⟩
  obtain ⟨q,e,hq,hn⟩:=nicest_some (n:=r.decks.length) (fun x hx => (mem_pushes.mp (List.mem_filter.mp hx).1).len) (List.ne_nil_of_mem hm)
  have ef:formOf r d = q:=by
    unfold formOf
    rw [e]
    rfl
  obtain ⟨q1,q2⟩:=List.mem_filter.mp hq
  rw [ef]
  exact ⟨mem_pushes.mp q1,by simpa using q2,fun x hx hw => hn x (List.mem_filter.mpr ⟨mem_pushes.mpr hx,by simpa using hw⟩)⟩
theorem whole_iff {r:Rod}:r.whole = true ↔ ∀ d,d < r.ratio -> ∃ p,Fits r.decks p /\ worthOf r.decks p = d:=by
  unfold Rod.whole
  rw [List.all_eq_true]
  constructor
  . intro h d hd
    obtain ⟨p,hp,e⟩:=List.any_eq_true.mp (h d (List.mem_range.mpr hd))
    exact ⟨p,mem_pushes.mp hp,by simpa using e⟩
  . intro h d hd
    obtain ⟨p,hp,e⟩:=h d (List.mem_range.mp hd)
    exact List.any_eq_true.mpr ⟨p,mem_pushes.mpr hp,by simpa using e⟩
section
variable {m:Make} {h:Hand} {b:Book} {op:Nat} {u:Under} {i d:Nat} {ms:List Move} {r:List Todo} {s n k:Nat}
end
end Sm
set_option Elab.async false
namespace Mm
open Na Sm
theorem find_none {α:Type} {p:α -> Bool} {l:List α} (h:∀ (i:Nat) (x:α),l[i]? = some x -> p x = false):l.findIdx? p = none:=by
  rw [List.findIdx?_eq_none_iff]
  intro x hx
  obtain ⟨i,hi⟩:=List.getElem?_of_mem hx
  exact h i x hi
theorem find_some {α:Type} {p:α -> Bool} {l:List α} {i:Nat} {x:α} (hi:l[i]? = some x) (hx:p x = true) (hb:∀ (j:Nat) (y:α),j < i -> l[j]? = some y -> p y = false):l.findIdx? p = some i:=by
  obtain ⟨hl,e⟩:=List.getElem?_eq_some_iff.mp hi
  rw [List.findIdx?_eq_some_iff_getElem]
  refine ⟨hl,by rw [e]; exact hx,fun j hj => ?_⟩
  rw [hb j _ hj (List.getElem?_eq_getElem (by omega))]
  simp
def grp (k:Nat) (l:List Nat) (j:Nat):List Nat:=(l.drop (k * j)).take k
theorem groups_is {k:Nat} (hk:0 < k) {l:List Nat} (h0:l.length % k = 0):groups k l = (List.range (l.length / k)).map (grp k l):=Bm.groups_eq hk h0
theorem groups_at {k:Nat} (hk:0 < k) {l:List Nat} (h0:l.length % k = 0) {j:Nat} {g:List Nat}:(groups k l)[j]? = some g ↔ j < l.length / k /\ g = grp k l j:=by
  rw [groups_is hk h0,List.getElem?_map]
  by_cases c:j < l.length / k
  . rw [List.getElem?_range c]
    exact ⟨fun e => ⟨c,(Option.some.inj e).symm⟩,fun e => by rw [e.2]; rfl⟩
  . rw [List.getElem?_eq_none (by simpa using c)]
    exact ⟨fun e => (by cases e),fun e => absurd e.1 c⟩
def MakeLen (l:List Nat):Prop:=l.length % 7 = 0 /\ l.length ≠ 0 /\ l.length <= 448
theorem make_len {l:List Nat} (h:¬ MakeLen l):makeOf l = .error ⟨1,0⟩:=by
  unfold makeOf
  rw [if_pos]
  unfold MakeLen at h
  have:RODS = 64:=rfl
  omega
theorem make_if {l:List Nat} (h:MakeLen l):makeOf l = match (groups 7 l).findIdx? fun (g:List Nat) => rodWrong g != 0 with
    | some i => .error ⟨rodWrong ((groups 7 l).getD i []),i⟩
    | none => .ok ((groups 7 l).map rodOf):=by
  unfold makeOf
  rw [if_neg]
  . rfl
  . obtain ⟨h1,h2,h3⟩:=h
    have:RODS = 64:=rfl
    omega
theorem make_bad {l:List Nat} {j:Nat} (h:MakeLen l) (hj:j < l.length / 7) (hb:rodWrong (grp 7 l j) ≠ 0) (hg:∀ i,i < j -> rodWrong (grp 7 l i) = 0):makeOf l = .error ⟨rodWrong (grp 7 l j),j⟩:=by
  have e:=(groups_at (by decide) h.1).mpr ⟨hj,rfl⟩
  rw [make_if h,find_some e (by simpa using hb) fun i y hi ey => by
    rw [((groups_at (by decide) h.1).mp ey).2,hg i hi]
    rfl]
  show Except.error (⟨rodWrong ((groups 7 l).getD j []),j⟩:Fault) = _
  rw [List.getD_eq_getElem?_getD,e]
  rfl
theorem make_ok {l:List Nat} (h:MakeLen l) (hg:∀ i,i < l.length / 7 -> rodWrong (grp 7 l i) = 0):makeOf l = .ok ((List.range (l.length / 7)).map fun j => rodOf (grp 7 l j)):=by
  rw [make_if h,find_none fun i y ey => by
    obtain ⟨hi,e⟩:=(groups_at (by decide) h.1).mp ey
    rw [e,hg i hi]
    rfl]
  show Except.ok ((groups 7 l).map rodOf) = _
  rw [groups_is (by decide) h.1,List.map_map]
  rfl
def DeckIn (b w:Nat):Prop:=1 <= b /\ b <= 15 /\ 1 <= w /\ w <= 63
def RodIn (q b0 w0 b1 w1 b2 w2:Nat):Prop:=(2 <= q /\ q <= 20) /\ DeckIn b0 w0 /\ ((b1 = 0 /\ w1 = 0 /\ b2 = 0 /\ w2 = 0) \/ (DeckIn b1 w1 /\ ((b2 = 0 /\ w2 = 0) \/ DeckIn b2 w2)))
def decks3 (b0 w0 b1 w1 b2 w2:Nat):List Deck:=if b1 = 0 then [⟨b0,w0⟩] else if b2 = 0 then [⟨b0,w0⟩,⟨b1,w1⟩] else [⟨b0,w0⟩,⟨b1,w1⟩,⟨b2,w2⟩]
theorem deck_good {b w:Nat}:(⟨b,w⟩:Deck).good = true ↔ DeckIn b w:=by
  unfold Deck.good DeckIn
  simp only [Bool.and_eq_true,decide_eq_true_eq]
theorem rodOf_eq {l:List Nat} (h0:l.getD 1 0 ≠ 0) (h1:l.getD 3 0 ≠ 0 \/ l.getD 5 0 = 0):rodOf l = ⟨l.getD 0 0,decks3 (l.getD 1 0) (l.getD 2 0) (l.getD 3 0) (l.getD 4 0) (l.getD 5 0) (l.getD 6 0)⟩:=by
  unfold rodOf decks3
  congr 1
  rw [show List.range 3 = [0,1,2] by decide]
  have c0:(l.getD (1 + 2 * 0) 0 != 0) = true:=by simpa using h0
  by_cases c1:l.getD 3 0 = 0
  . have c2:l.getD 5 0 = 0:=by omega
    rw [List.filter_cons,if_pos c0,List.filter_cons,if_neg (by simpa using c1),List.filter_cons,if_neg (by simpa using c2),List.filter_nil,if_pos c1]
    rfl
  . by_cases c2:l.getD 5 0 = 0
    . rw [List.filter_cons,if_pos c0,List.filter_cons,if_pos (by simpa using c1),List.filter_cons,if_neg (by simpa using c2),List.filter_nil,if_neg c1,if_pos c2]
      rfl
    . rw [List.filter_cons,if_pos c0,List.filter_cons,if_pos (by simpa using c1),List.filter_cons,if_pos (by simpa using c2),List.filter_nil,if_neg c1,if_neg c2]
      rfl
theorem rodGood_iff {l:List Nat}:rodGood l = true ↔ RodIn (l.getD 0 0) (l.getD 1 0) (l.getD 2 0) (l.getD 3 0) (l.getD 4 0) (l.getD 5 0) (l.getD 6 0):=by
  have start:rodGood l = true ↔ (l.getD 1 0 ≠ 0 /\ ((l.getD 1 0 = 0 ↔ l.getD 2 0 = 0) /\ (l.getD 3 0 = 0 ↔ l.getD 4 0 = 0) /\ (l.getD 5 0 = 0 ↔ l.getD 6 0 = 0))) /\ (l.getD 3 0 ≠ 0 \/ l.getD 5 0 = 0) /\ (rodOf l).formed_ = true:=by
    unfold rodGood
    rw [show List.range 3 = [0,1,2] by decide]
    simp only [List.all_cons,List.all_nil,Bool.and_true,Bool.and_eq_true,Bool.or_eq_true,bne_iff_ne,beq_iff_eq]
    simp only [Nat.mul_zero,Nat.add_zero,Nat.mul_one,show 1 + 2 * 2 = 5 from rfl,show 2 + 2 * 2 = 6 from rfl,show 1 + 2 = 3 from rfl,show 2 + 2 = 4 from rfl]
    have b:∀ x y:Nat,((x == 0) = (y == 0)) ↔ (x = 0 ↔ y = 0):=fun x y => by
      rw [Bool.eq_iff_iff,beq_iff_eq,beq_iff_eq]
    rw [b,b,b]
  rw [start]
  generalize e0:l.getD 0 0 = q at *
  generalize e1:l.getD 1 0 = b0 at *
  generalize e2:l.getD 2 0 = w0 at *
  generalize e3:l.getD 3 0 = b1 at *
  generalize e4:l.getD 4 0 = w1 at *
  generalize e5:l.getD 5 0 = b2 at *
  generalize e6:l.getD 6 0 = w2 at *
  by_cases h0:b0 = 0
  . constructor
    . intro h
      exact absurd h0 h.1.1
    . intro h
      have:=h.2.1.1
      omega
  . by_cases h1:b1 ≠ 0 \/ b2 = 0
    . have er:rodOf l = ⟨q,decks3 b0 w0 b1 w1 b2 w2⟩:=by
        rw [rodOf_eq (by rw [e1]; exact h0) (by rw [e3,e5]; exact h1),e0,e1,e2,e3,e4,e5,e6]
      have ef:(rodOf l).formed_ = true ↔ (2 <= q /\ q <= 20) /\ ∀ d ∈ decks3 b0 w0 b1 w1 b2 w2,d.good = true:=by
        rw [er]
        unfold Rod.formed_
        simp only [Bool.and_eq_true,decide_eq_true_eq,List.all_eq_true]
        have hl:1 <= (decks3 b0 w0 b1 w1 b2 w2).length /\ (decks3 b0 w0 b1 w1 b2 w2).length <= 3:=by
          unfold decks3
          by_cases c1:b1 = 0
          . rw [if_pos c1]
            simp
          . by_cases c2:b2 = 0
            . rw [if_neg c1,if_pos c2]
              simp
            . rw [if_neg c1,if_neg c2]
              simp
        constructor
        . rintro ⟨a,b,_,_,c⟩
          exact ⟨⟨a,b⟩,c⟩
        . rintro ⟨⟨a,b⟩,c⟩
          exact ⟨a,b,hl.1,hl.2,c⟩
      rw [ef]
      unfold RodIn decks3
      by_cases c1:b1 = 0
      . have c2:b2 = 0:=by omega
        rw [if_pos c1]
        simp only [List.mem_singleton,forall_eq,deck_good]
        constructor
        . rintro ⟨⟨_,h3⟩,_,h4,h5⟩
          exact ⟨h4,h5,.inl ⟨c1,by omega,c2,by omega⟩⟩
        . rintro ⟨h4,h5,h6 | ⟨h6,_⟩⟩
          . exact ⟨⟨h0,⟨by unfold DeckIn at h5; omega,by omega,by omega⟩⟩,h1,h4,h5⟩
          . unfold DeckIn at h6
            omega
      . by_cases c2:b2 = 0
        . rw [if_neg c1,if_pos c2]
          simp only [List.mem_cons,List.not_mem_nil,or_false,forall_eq_or_imp,forall_eq,deck_good]
          constructor
          . rintro ⟨⟨_,h3⟩,_,h4,h5,h6⟩
            exact ⟨h4,h5,.inr ⟨h6,.inl ⟨c2,by omega⟩⟩⟩
          . rintro ⟨h4,h5,h6 | ⟨h6,h7⟩⟩
            . omega
            . refine ⟨⟨h0,⟨by unfold DeckIn at h5; omega,by unfold DeckIn at h6; omega,?_⟩⟩,h1,h4,h5,h6⟩
              rcases h7 with h7 | h7
              . omega
              . unfold DeckIn at h7
                omega
        . rw [if_neg c1,if_neg c2]
          simp only [List.mem_cons,List.not_mem_nil,or_false,forall_eq_or_imp,forall_eq,deck_good]
          constructor
          . rintro ⟨⟨_,h3⟩,_,h4,h5,h6,h7⟩
            exact ⟨h4,h5,.inr ⟨h6,.inr h7⟩⟩
          . rintro ⟨h4,h5,h6 | ⟨h6,h7⟩⟩
            . omega
            . rcases h7 with h7 | h7
              . omega
              . exact ⟨⟨h0,⟨by unfold DeckIn at h5; omega,by unfold DeckIn at h6; omega,by unfold DeckIn at h7; omega⟩⟩,h1,h4,h5,h6,h7⟩
    . constructor
      . intro h
        exact absurd h.2.1 h1
      . rintro ⟨_,_,h | ⟨h,_⟩⟩
        . omega
        . unfold DeckIn at h
          omega
theorem rod_is {l:List Nat} (h:rodGood l = true):rodOf l = ⟨l.getD 0 0,decks3 (l.getD 1 0) (l.getD 2 0) (l.getD 3 0) (l.getD 4 0) (l.getD 5 0) (l.getD 6 0)⟩:=by
  obtain ⟨_,h1,h2⟩:=rodGood_iff.mp h
  unfold DeckIn at h1 h2
  exact rodOf_eq (by omega) (by omega)
theorem most3 {q b0 w0 b1 w1 b2 w2:Nat} (h:RodIn q b0 w0 b1 w1 b2 w2):(⟨q,decks3 b0 w0 b1 w1 b2 w2⟩:Rod).most = b0 * w0 + b1 * w1 + b2 * w2:=by
  unfold Rod.most decks3 total
  dsimp only
  by_cases c1:b1 = 0
  . have c2:b2 = 0:=by
      obtain ⟨_,_,h | h⟩:=h
      . exact h.2.2.1
      . have:=h.1.1
        omega
    rw [if_pos c1,c1,c2]
    simp
  . by_cases c2:b2 = 0
    . rw [if_neg c1,if_pos c2,c2]
      simp
    . rw [if_neg c1,if_neg c2]
      simp [Nat.add_assoc]
def HandLen (l:List Nat):Prop:=l ≠ [] /\ l.getD 0 0 <= 255 /\ (l.length - 1) % 7 = 0 /\ l.length - 1 <= 224
theorem hand_len {l:List Nat} (h:¬ HandLen l):handOf l = .error ⟨6,0⟩:=by
  cases l with
  | nil => rfl
  | cons o r =>
    unfold handOf
    dsimp only
    rw [if_pos]
    have:STROKES = 32:=rfl
    have e:¬ (o <= 255 /\ r.length % 7 = 0 /\ r.length <= 224):=fun z => h ⟨by simp,z.1,z.2.1,z.2.2⟩
    omega
theorem hand_if {l:List Nat} (h:HandLen l):handOf l = match (groups 7 (l.drop 1)).findIdx? fun (g:List Nat) => !strokeGood g with
    | some i => .error ⟨7,i⟩
    | none => .ok ⟨l.getD 0 0,(groups 7 (l.drop 1)).map strokeOf⟩:=by
  cases l with
  | nil => exact absurd rfl h.1
  | cons o r =>
    obtain ⟨_,h1,h2,h3⟩:=h
    have h1:o <= 255:=h1
    have h2:r.length % 7 = 0:=h2
    have h3:r.length <= 224:=h3
    unfold handOf
    dsimp only
    rw [if_neg]
    . rfl
    . have:STROKES = 32:=rfl
      omega
theorem hand_mod {l:List Nat} (h:HandLen l):(l.drop 1).length % 7 = 0:=by
  rw [List.length_drop]
  exact h.2.2.1
theorem hand_bad {l:List Nat} {j:Nat} (h:HandLen l) (hj:j < (l.length - 1) / 7) (hb:strokeGood (grp 7 (l.drop 1) j) = false) (hg:∀ i,i < j -> strokeGood (grp 7 (l.drop 1) i) = true):handOf l = .error ⟨7,j⟩:=by
  have e:=(groups_at (k:=7) (by decide) (hand_mod h)).mpr ⟨by rw [List.length_drop]; exact hj,rfl⟩
  rw [hand_if h,find_some e (by rw [hb]; rfl) fun i y hi ey => by
    rw [((groups_at (by decide) (hand_mod h)).mp ey).2,hg i hi]
    rfl]
theorem hand_ok {l:List Nat} (h:HandLen l) (hg:∀ i,i < (l.length - 1) / 7 -> strokeGood (grp 7 (l.drop 1) i) = true):handOf l = .ok ⟨l.getD 0 0,(List.range ((l.length - 1) / 7)).map fun j => strokeOf (grp 7 (l.drop 1) j)⟩:=by
  rw [hand_if h,find_none fun i y ey => by
    obtain ⟨hi,e⟩:=(groups_at (by decide) (hand_mod h)).mp ey
    rw [List.length_drop] at hi
    rw [e,hg i hi]
    rfl]
  show Except.ok (⟨l.getD 0 0,(groups 7 (l.drop 1)).map strokeOf⟩:Hand) = _
  rw [groups_is (by decide) (hand_mod h),List.map_map,List.length_drop]
  rfl
def StrokeIn (a t m a2 t2 m2 c:Nat):Prop:=a <= 2 /\ (1 <= t /\ t <= 2) /\ (1 <= m /\ m <= 15) /\ ((a2 = 0 /\ t2 = 0 /\ m2 = 0) \/ (a2 <= 2 /\ (1 <= t2 /\ t2 <= 2) /\ (1 <= m2 /\ m2 <= 15) /\ a2 ≠ a)) /\ 1 <= c /\ c <= 255
theorem strokeGood_iff {l:List Nat}:strokeGood l = true ↔ StrokeIn (l.getD 0 0) (l.getD 1 0) (l.getD 2 0) (l.getD 3 0) (l.getD 4 0) (l.getD 5 0) (l.getD 6 0):=by
  unfold strokeGood strokeOf Stroke.good Reach.good reachOf StrokeIn
  dsimp only
  rw [Bm.getD_drop,Bm.getD_drop,Bm.getD_drop]
  generalize l.getD 0 0 = a
  generalize l.getD 1 0 = t
  generalize l.getD 2 0 = m
  simp only [show 3 + 0 = 3 from rfl,show 3 + 1 = 4 from rfl,show 3 + 2 = 5 from rfl]
  generalize l.getD 3 0 = a2
  generalize l.getD 4 0 = t2
  generalize l.getD 5 0 = m2
  generalize l.getD 6 0 = c
  by_cases z:t2 = 0
  . rw [if_pos z]
    simp only [Bool.and_eq_true,Bool.or_eq_true,decide_eq_true_eq,bne_iff_ne,beq_iff_eq,and_true]
    omega
  . rw [if_neg z]
    simp only [Bool.and_eq_true,Bool.or_eq_true,decide_eq_true_eq,bne_iff_ne,beq_iff_eq]
    omega
theorem filter_range {n:Nat}:(List.range n).filter (fun (d:Nat) => d != 0) = List.range' 1 (n - 1):=by
  cases n with
  | zero => rfl
  | succ n =>
    rw [List.range_eq_range',List.range'_succ,List.filter_cons,if_neg (by simp)]
    rw [List.filter_eq_self.mpr]
    . rfl
    . intro x hx
      have:=List.mem_range'_1.mp hx
      simp
      omega
end Mm
set_option Elab.async false
namespace Rm
open Na Sm Mm
def pad (p:Push):List Nat:=[p.getD 0 0,p.getD 1 0,p.getD 2 0]
def Fit3 (b0 b1 b2:Nat) (t:List Nat):Prop:=∃ x y z,t = [x,y,z] /\ x <= b0 /\ y <= b1 /\ z <= b2
def w3 (w0 w1 w2:Nat) (t:List Nat):Nat:=t.getD 0 0 * w0 + t.getD 1 0 * w1 + t.getD 2 0 * w2
theorem fits1 {d:Deck} {p:Push}:Fits [d] p ↔ ∃ x,p = [x] /\ x <= d.beads:=by
  constructor
  . intro h
    match p,h with
    | [x],h => exact ⟨x,rfl,h.1⟩
  . rintro ⟨x,rfl,h⟩
    exact ⟨h,trivial⟩
theorem fits2 {d e:Deck} {p:Push}:Fits [d,e] p ↔ ∃ x y,p = [x,y] /\ x <= d.beads /\ y <= e.beads:=by
  constructor
  . intro h
    match p,h with
    | [x,y],h => exact ⟨x,y,rfl,h.1,h.2.1⟩
  . rintro ⟨x,y,rfl,h1,h2⟩
    exact ⟨h1,h2,trivial⟩
theorem fits3 {d e f:Deck} {p:Push}:Fits [d,e,f] p ↔ ∃ x y z,p = [x,y,z] /\ x <= d.beads /\ y <= e.beads /\ z <= f.beads:=by
  constructor
  . intro h
    match p,h with
    | [x,y,z],h => exact ⟨x,y,z,rfl,h.1,h.2.1,h.2.2.1⟩
  . rintro ⟨x,y,z,rfl,h1,h2,h3⟩
    exact ⟨h1,h2,h3,trivial⟩
section
variable {q b0 w0 b1 w1 b2 w2:Nat}
theorem decks_cases (h:RodIn q b0 w0 b1 w1 b2 w2):(b1 = 0 /\ w1 = 0 /\ b2 = 0 /\ w2 = 0 /\ decks3 b0 w0 b1 w1 b2 w2 = [⟨b0,w0⟩]) \/ (b1 ≠ 0 /\ b2 = 0 /\ w2 = 0 /\ decks3 b0 w0 b1 w1 b2 w2 = [⟨b0,w0⟩,⟨b1,w1⟩]) \/
    (b1 ≠ 0 /\ b2 ≠ 0 /\ decks3 b0 w0 b1 w1 b2 w2 = [⟨b0,w0⟩,⟨b1,w1⟩,⟨b2,w2⟩]):=by
  obtain ⟨_,_,h | ⟨h1,h2⟩⟩:=h
  . obtain ⟨e1,e2,e3,e4⟩:=h
    exact .inl ⟨e1,e2,e3,e4,by unfold decks3; rw [if_pos e1]⟩
  . have n1:b1 ≠ 0:=by have:=h1.1; omega
    rcases h2 with ⟨e1,e2⟩ | h2
    . exact .inr (.inl ⟨n1,e1,e2,by unfold decks3; rw [if_neg n1,if_pos e1]⟩)
    . have n2:b2 ≠ 0:=by have:=h2.1; omega
      exact .inr (.inr ⟨n1,n2,by unfold decks3; rw [if_neg n1,if_neg n2]⟩)
theorem fits_pad (h:RodIn q b0 w0 b1 w1 b2 w2) {p:Push} (hp:Fits (decks3 b0 w0 b1 w1 b2 w2) p):Fit3 b0 b1 b2 (pad p):=by
  rcases decks_cases h with ⟨_,_,_,_,e⟩ | ⟨_,_,_,e⟩ | ⟨_,_,e⟩ <;> rw [e] at hp
  . obtain ⟨x,rfl,hx⟩:=fits1.mp hp
    exact ⟨x,0,0,rfl,hx,Nat.zero_le _,Nat.zero_le _⟩
  . obtain ⟨x,y,rfl,hx,hy⟩:=fits2.mp hp
    exact ⟨x,y,0,rfl,hx,hy,Nat.zero_le _⟩
  . obtain ⟨x,y,z,rfl,hx,hy,hz⟩:=fits3.mp hp
    exact ⟨x,y,z,rfl,hx,hy,hz⟩
theorem fits_of (h:RodIn q b0 w0 b1 w1 b2 w2) {t:List Nat} (ht:Fit3 b0 b1 b2 t):∃ p,Fits (decks3 b0 w0 b1 w1 b2 w2) p /\ pad p = t:=by
  obtain ⟨x,y,z,rfl,hx,hy,hz⟩:=ht
  rcases decks_cases h with ⟨e1,_,e2,_,e⟩ | ⟨_,e2,_,e⟩ | ⟨_,_,e⟩ <;> rw [e]
  . have:y = 0:=by omega
    have:z = 0:=by omega
    subst y z
    exact ⟨[x],fits1.mpr ⟨x,rfl,hx⟩,rfl⟩
  . have:z = 0:=by omega
    subst z
    exact ⟨[x,y],fits2.mpr ⟨x,y,rfl,hx,hy⟩,rfl⟩
  . exact ⟨[x,y,z],fits3.mpr ⟨x,y,z,rfl,hx,hy,hz⟩,rfl⟩
theorem worth_pad (h:RodIn q b0 w0 b1 w1 b2 w2) {p:Push} (hp:Fits (decks3 b0 w0 b1 w1 b2 w2) p):worthOf (decks3 b0 w0 b1 w1 b2 w2) p = w3 w0 w1 w2 (pad p):=by
  rcases decks_cases h with ⟨_,_,_,_,e⟩ | ⟨_,_,_,e⟩ | ⟨_,_,e⟩ <;> rw [e] at hp |-
  . obtain ⟨x,rfl,hx⟩:=fits1.mp hp
    simp [worthOf,total,w3,pad]
  . obtain ⟨x,y,rfl,hx,hy⟩:=fits2.mp hp
    simp [worthOf,total,w3,pad]
  . obtain ⟨x,y,z,rfl,hx,hy,hz⟩:=fits3.mp hp
    simp [worthOf,total,w3,pad,Nat.add_assoc]
theorem pad_inj (h:RodIn q b0 w0 b1 w1 b2 w2) {p p':Push} (hp:Fits (decks3 b0 w0 b1 w1 b2 w2) p) (hp':Fits (decks3 b0 w0 b1 w1 b2 w2) p') (e:pad p = pad p'):p = p':=by
  rcases decks_cases h with ⟨_,_,_,_,e1⟩ | ⟨_,_,_,e1⟩ | ⟨_,_,e1⟩ <;> rw [e1] at hp hp'
  . obtain ⟨x,rfl,hx⟩:=fits1.mp hp
    obtain ⟨x',rfl,hx⟩:=fits1.mp hp'
    simp [pad] at e
    simp [e]
  . obtain ⟨x,y,rfl,hx⟩:=fits2.mp hp
    obtain ⟨x',y',rfl,hx⟩:=fits2.mp hp'
    simp [pad] at e
    simp [e]
  . obtain ⟨x,y,z,rfl,hx⟩:=fits3.mp hp
    obtain ⟨x',y',z',rfl,hx⟩:=fits3.mp hp'
    simp [pad] at e
    simp [e]
theorem nicer_pad (h:RodIn q b0 w0 b1 w1 b2 w2) {p p':Push} (hp:Fits (decks3 b0 w0 b1 w1 b2 w2) p) (hp':Fits (decks3 b0 w0 b1 w1 b2 w2) p'):nicer (pad p) (pad p') = nicer p p':=by
  rcases decks_cases h with ⟨_,_,_,_,e1⟩ | ⟨_,_,_,e1⟩ | ⟨_,_,e1⟩ <;> rw [e1] at hp hp'
  . obtain ⟨x,rfl,hx⟩:=fits1.mp hp
    obtain ⟨x',rfl,hx⟩:=fits1.mp hp'
    simp [pad,nicer,total,below]
    rfl
  . obtain ⟨x,y,rfl,hx⟩:=fits2.mp hp
    obtain ⟨x',y',rfl,hx⟩:=fits2.mp hp'
    simp [pad,nicer,total,below]
    rfl
  . obtain ⟨x,y,z,rfl,hx⟩:=fits3.mp hp
    obtain ⟨x',y',z',rfl,hx⟩:=fits3.mp hp'
    simp [pad,nicer,total,below]
    rfl
end
def push3 (bs:List Nat) (t:List Nat) (j:Nat) (to_:Bool) (most n:Nat):Option (List Nat) :=
  if (1 <= n /\ n <= most) /\ n <= (if to_ = true then bs.getD j 0 - t.getD j 0 else t.getD j 0) then some (t.set j (if to_ = true then t.getD j 0 + n else t.getD j 0 - n)) else none
theorem push_eq (l:List Deck) (p:Push) (x:Reach) (n:Nat) {d:Deck} {a:Nat} (e1:l[x.deck]? = some d) (e2:p[x.deck]? = some a) :
    pushed l p x n = if (1 <= n /\ n <= x.most) /\ (if x.to_ = true then a + n <= d.beads else n <= a) then some (p.set x.deck (if x.to_ = true then a + n else a - n)) else none:=by
  unfold pushed
  rw [e1,e2]
  by_cases c:n < 1 \/ x.most < n
  . rw [if_pos c,if_neg (fun z => by have:=z.1; omega)]
  . have c':1 <= n /\ n <= x.most:=by omega
    rw [if_neg c]
    dsimp only
    cases x.to_ with
    | true =>
      simp only [if_true]
      by_cases k:a + n <= d.beads
      . rw [if_pos k,if_pos ⟨c',k⟩]
      . rw [if_neg k,if_neg (fun z => k z.2)]
    | false =>
      simp only [Bool.false_eq_true,if_false]
      by_cases k:n <= a
      . rw [if_pos k,if_pos ⟨c',k⟩]
      . rw [if_neg k,if_neg (fun z => k z.2)]
theorem push_none (l:List Deck) (p:Push) (x:Reach) (n:Nat) (e1:l[x.deck]? = none):pushed l p x n = none:=by
  unfold pushed
  rw [e1]
  by_cases c:n < 1 \/ x.most < n
  . rw [if_pos c]
  . rw [if_neg c]
theorem push_one {l:List Deck} {p:Push} {x:Reach} {n:Nat} {d:Deck} {a:Nat} {bs t:List Nat} (e1:l[x.deck]? = some d) (e2:p[x.deck]? = some a) (hb:bs.getD x.deck 0 = d.beads) (ha:t.getD x.deck 0 = a) (hle:a <= d.beads)
    (hs:∀ v,pad (p.set x.deck v) = t.set x.deck v):push3 bs t x.deck x.to_ x.most n = (pushed l p x n).map pad:=by
  rw [push_eq l p x n e1 e2]
  unfold push3
  rw [hb,ha]
  cases x.to_ with
  | true =>
    simp only [if_true]
    by_cases k:(1 <= n /\ n <= x.most) /\ a + n <= d.beads
    . rw [if_pos k,if_pos ⟨k.1,by have:=k.2; omega⟩]
      simp only [Option.map_some,hs]
    . rw [if_neg k,if_neg (fun z => k ⟨z.1,by have:=z.2; have:=z.1.1; omega⟩)]
      rfl
  | false =>
    simp only [Bool.false_eq_true,if_false]
    by_cases k:(1 <= n /\ n <= x.most) /\ n <= a
    . rw [if_pos k,if_pos k]
      simp only [Option.map_some,hs]
    . rw [if_neg k,if_neg k]
      rfl
theorem push_out {l:List Deck} {p:Push} {x:Reach} {n:Nat} {bs t:List Nat} (e1:l[x.deck]? = none) (hb:bs.getD x.deck 0 = 0) (ha:t.getD x.deck 0 = 0):push3 bs t x.deck x.to_ x.most n = (pushed l p x n).map pad:=by
  rw [push_none l p x n e1]
  unfold push3
  rw [hb,ha,if_neg]
  . rfl
  . rintro ⟨⟨h1,_⟩,h2⟩
    cases x.to_ <;> simp at h2 <;> omega
theorem push_pad {q b0 w0 b1 w1 b2 w2:Nat} (h:RodIn q b0 w0 b1 w1 b2 w2) {p:Push} (hp:Fits (decks3 b0 w0 b1 w1 b2 w2) p) {x:Reach} (hx:x.deck <= 2) (n:Nat) :
    push3 [b0,b1,b2] (pad p) x.deck x.to_ x.most n = (pushed (decks3 b0 w0 b1 w1 b2 w2) p x n).map pad:=by
  have hx:x.deck = 0 \/ x.deck = 1 \/ x.deck = 2:=by omega
  rcases decks_cases h with ⟨e1,_,e2,_,e⟩ | ⟨_,e2,_,e⟩ | ⟨_,_,e⟩ <;> rw [e] at hp |-
  . obtain ⟨a,rfl,ha⟩:=fits1.mp hp
    rcases hx with c | c | c
    . exact push_one (d:=⟨b0,w0⟩) (a:=a) (by rw [c]; rfl) (by rw [c]; rfl) (by rw [c]; rfl) (by rw [c]; rfl) ha (fun v => by rw [c]; rfl)
    . exact push_out (by rw [c]; rfl) (by rw [c]; exact e1) (by rw [c]; rfl)
    . exact push_out (by rw [c]; rfl) (by rw [c]; exact e2) (by rw [c]; rfl)
  . obtain ⟨a,b,rfl,ha,hb⟩:=fits2.mp hp
    rcases hx with c | c | c
    . exact push_one (d:=⟨b0,w0⟩) (a:=a) (by rw [c]; rfl) (by rw [c]; rfl) (by rw [c]; rfl) (by rw [c]; rfl) ha (fun v => by rw [c]; rfl)
    . exact push_one (d:=⟨b1,w1⟩) (a:=b) (by rw [c]; rfl) (by rw [c]; rfl) (by rw [c]; rfl) (by rw [c]; rfl) hb (fun v => by rw [c]; rfl)
    . exact push_out (by rw [c]; rfl) (by rw [c]; exact e2) (by rw [c]; rfl)
  . obtain ⟨a,b,d,rfl,ha,hb,hd⟩:=fits3.mp hp
    rcases hx with c | c | c
    . exact push_one (d:=⟨b0,w0⟩) (a:=a) (by rw [c]; rfl) (by rw [c]; rfl) (by rw [c]; rfl) (by rw [c]; rfl) ha (fun v => by rw [c]; rfl)
    . exact push_one (d:=⟨b1,w1⟩) (a:=b) (by rw [c]; rfl) (by rw [c]; rfl) (by rw [c]; rfl) (by rw [c]; rfl) hb (fun v => by rw [c]; rfl)
    . exact push_one (d:=⟨b2,w2⟩) (a:=d) (by rw [c]; rfl) (by rw [c]; rfl) (by rw [c]; rfl) (by rw [c]; rfl) hd (fun v => by rw [c]; rfl)
theorem push_len {bs t u:List Nat} {j:Nat} {to_:Bool} {most n:Nat} (e:push3 bs t j to_ most n = some u):u.length = t.length:=by
  unfold push3 at e
  generalize (if to_ = true then t.getD j 0 + n else t.getD j 0 - n) = v at e
  by_cases c:(1 <= n /\ n <= most) /\ n <= (if to_ = true then bs.getD j 0 - t.getD j 0 else t.getD j 0)
  . rw [if_pos c] at e
    rw [<- Option.some.inj e]
    simp
  . rw [if_neg c] at e
    cases e
def SIn (s:List Nat):Prop:=s.length = 7 /\ StrokeIn (s.getD 0 0) (s.getD 1 0) (s.getD 2 0) (s.getD 3 0) (s.getD 4 0) (s.getD 5 0) (s.getD 6 0)
def stroke3 (bs:List Nat) (t:List Nat) (s:List Nat) (n k:Nat):Option (List Nat):=(push3 bs t (s.getD 0 0) (s.getD 1 0 == 1) (s.getD 2 0) n).bind fun u =>
  if (s.getD 3 0 = 0 /\ s.getD 4 0 = 0 /\ s.getD 5 0 = 0) then (if k = 0 then some u else none) else push3 bs u (s.getD 3 0) (s.getD 4 0 == 1) (s.getD 5 0) k
theorem stroke_pad {q b0 w0 b1 w1 b2 w2:Nat} (h:RodIn q b0 w0 b1 w1 b2 w2) {p:Push} (hp:Fits (decks3 b0 w0 b1 w1 b2 w2) p) {s:List Nat} (hs:SIn s) (n k:Nat) :
    stroke3 [b0,b1,b2] (pad p) s n k = (strokeOn (decks3 b0 w0 b1 w1 b2 w2) (strokeOf s) n k p).map pad:=by
  obtain ⟨_,s1,s2,s3,s4,s5⟩:=hs
  unfold stroke3 strokeOn
  have e1:=push_pad h hp (x:=(strokeOf s).first) (show s.getD 0 0 <= 2 from s1) n
  have e1:push3 [b0,b1,b2] (pad p) (s.getD 0 0) (s.getD 1 0 == 1) (s.getD 2 0) n = (pushed (decks3 b0 w0 b1 w1 b2 w2) p (strokeOf s).first n).map pad:=e1
  rw [e1]
  cases e2:pushed (decks3 b0 w0 b1 w1 b2 w2) p (strokeOf s).first n with
  | none => rfl
  | some u =>
    have hu:=pushed_fits hp e2
    rw [Option.map_some,Option.bind_some,Option.bind_some]
    by_cases c:s.getD 4 0 = 0
    . have es:(strokeOf s).second = none:=by
        unfold strokeOf
        dsimp only
        rw [if_pos c]
      rw [if_pos (by omega),es]
      dsimp only
      by_cases k0:k = 0
      . rw [if_pos k0,if_pos k0]
        rfl
      . rw [if_neg k0,if_neg k0]
        rfl
    . have es:(strokeOf s).second = some (reachOf (s.drop 3)):=by
        unfold strokeOf
        dsimp only
        rw [if_neg c]
      rw [if_neg (by omega),es]
      dsimp only
      have g0:(reachOf (s.drop 3)).deck = s.getD 3 0:=Bm.getD_drop
      have g1:(reachOf (s.drop 3)).to_ = (s.getD 4 0 == 1):=by
        show ((s.drop 3).getD 1 0 == 1) = _
        rw [Bm.getD_drop]
      have g2:(reachOf (s.drop 3)).most = s.getD 5 0:=Bm.getD_drop
      have e3:=push_pad h hu (x:=reachOf (s.drop 3)) (by rw [g0]; omega) k
      rw [g0,g1,g2] at e3
      exact e3
abbrev Step:=Nat × Nat × Nat
def mv (s:Step):Move:=if s.2.1 = 0 then .carry else .act s.1 s.2.1 s.2.2
def isC (s:Step):Bool:=s.1 == 0 && (s.2.1 == 0 && s.2.2 == 0)
def StepIn (s:Step):Prop:=s.2.1 = 0 -> s.1 = 0 /\ s.2.2 = 0
def done3 (bs:List Nat) (ss:List (List Nat)):List Step -> List Nat -> Option (List Nat)
  | [],t => some t
  | s :: l,t => if isC s = true then done3 bs ss l t else match ss[s.1]? with
    | none => none
    | some g => (stroke3 bs t g s.2.1 s.2.2).bind (done3 bs ss l)
abbrev Ways:=List (Nat × List Nat)
def wrow (q b w:Nat) (cp:Nat × List Nat):Ways:=(List.range (b + 1)).filterMap fun m => if cp.1 + m * w < q then some (cp.1 + m * w,cp.2 ++ [m]) else none
def wstep (q b w:Nat) (ws:Ways):Ways:=ws.flatMap (wrow q b w)
theorem mem_wstep {q b w c:Nat} {t:List Nat} {ws:Ways}:(c,t) ∈ wstep q b w ws ↔ ∃ c0 t0 m,(c0,t0) ∈ ws /\ m <= b /\ c = c0 + m * w /\ t = t0 ++ [m] /\ c < q:=by
  unfold wstep wrow
  simp only [List.mem_flatMap,List.mem_filterMap,List.mem_range]
  constructor
  . rintro ⟨⟨c0,t0⟩,h1,m,hm,e⟩
    by_cases z:c0 + m * w < q
    . rw [if_pos z] at e
      cases e
      exact ⟨c0,t0,m,h1,by omega,rfl,rfl,z⟩
    . rw [if_neg z] at e
      cases e
  . rintro ⟨c0,t0,m,h1,hm,rfl,rfl,z⟩
    exact ⟨(c0,t0),h1,m,by omega,by rw [if_pos z]⟩
def wayN (q:Nat) (b w:Nat -> Nat):Nat -> Ways
  | 0 => [(0,[])]
  | j + 1 => wstep q (b j) (w j) (wayN q b w j)
theorem mem_way3 {q:Nat} {b w:Nat -> Nat} {c:Nat} {t:List Nat} (_:0 < q):(c,t) ∈ wayN q b w 3 ↔ Fit3 (b 0) (b 1) (b 2) t /\ c = w3 (w 0) (w 1) (w 2) t /\ c < q:=by
  show (c,t) ∈ wstep q (b 2) (w 2) (wstep q (b 1) (w 1) (wstep q (b 0) (w 0) [(0,[])])) ↔ _
  rw [mem_wstep]
  constructor
  . rintro ⟨c2,t2,z,h2,hz,rfl,rfl,hc⟩
    obtain ⟨c1,t1,y,h1,hy,rfl,rfl,_⟩:=mem_wstep.mp h2
    obtain ⟨c0,t0,x,h0,hx,rfl,rfl,_⟩:=mem_wstep.mp h1
    rw [List.mem_singleton] at h0
    cases h0
    exact ⟨⟨x,y,z,rfl,hx,hy,hz⟩,by simp [w3],hc⟩
  . rintro ⟨⟨x,y,z,rfl,hx,hy,hz⟩,rfl,hc⟩
    have e:w3 (w 0) (w 1) (w 2) [x,y,z] = x * w 0 + y * w 1 + z * w 2:=rfl
    rw [e] at hc |-
    refine ⟨x * w 0 + y * w 1,[x,y],z,mem_wstep.mpr ⟨x * w 0,[x],y,mem_wstep.mpr ⟨0,[],x,List.mem_singleton.mpr rfl,hx,by simp,rfl,by omega⟩,hy,rfl,rfl,by omega⟩,hz,rfl,rfl,hc⟩
def formIn (ws:Ways) (d:Nat):Option (List Nat):=nicest ((ws.filter fun (x:Nat × List Nat) => x.1 == d).map fun (x:Nat × List Nat) => x.2)
theorem nicest_snoc (l:List Push) (p:Push):nicest (l ++ [p]) = match nicest l with
    | none => some p
    | some q => if nicer p q = true then some p else some q:=by
  unfold nicest
  rw [List.foldl_append]
  rfl
theorem formIn_snoc (ws:Ways) (c:Nat) (p:List Nat) (d:Nat):formIn (ws ++ [(c,p)]) d = if c = d then (match formIn ws d with
    | none => some p
    | some q => if nicer p q = true then some p else some q) else formIn ws d:=by
  unfold formIn
  rw [List.filter_append,List.map_append]
  by_cases e:c = d
  . rw [if_pos e]
    refine Eq.trans (congrArg nicest ?_) (nicest_snoc _ _)
    rw [List.filter_cons,if_pos (by simpa using e)]
    rfl
  . rw [if_neg e,List.filter_cons,if_neg (by simpa using e)]
    simp
section
variable {q b0 w0 b1 w1 b2 w2:Nat} {b w:Nat -> Nat}
theorem form_some (h:RodIn q b0 w0 b1 w1 b2 w2) (hb:b 0 = b0 /\ b 1 = b1 /\ b 2 = b2) (hw:w 0 = w0 /\ w 1 = w1 /\ w 2 = w2) {d:Nat} (hd:d < q) (he:∃ p,Fits (decks3 b0 w0 b1 w1 b2 w2) p /\ worthOf (decks3 b0 w0 b1 w1 b2 w2) p = d) :
    formIn (wayN q b w 3) d = some (pad (formOf ⟨q,decks3 b0 w0 b1 w1 b2 w2⟩ d)):=by
  obtain ⟨f1,f2,f3⟩:=form_is (r:=⟨q,decks3 b0 w0 b1 w1 b2 w2⟩) he
  unfold formIn
  have hm:∀ t:List Nat,t ∈ ((wayN q b w 3).filter fun (x:Nat × List Nat) => x.1 == d).map (fun (x:Nat × List Nat) => x.2) ↔ Fit3 b0 b1 b2 t /\ w3 w0 w1 w2 t = d:=by
    intro t
    rw [List.mem_map]
    constructor
    . rintro ⟨⟨c,u⟩,hx,rfl⟩
      obtain ⟨h1,h2⟩:=List.mem_filter.mp hx
      obtain ⟨k1,k2,k3⟩:=(mem_way3 (by omega)).mp h1
      rw [hb.1,hb.2.1,hb.2.2] at k1
      rw [hw.1,hw.2.1,hw.2.2] at k2
      exact ⟨k1,by rw [<- k2]; simpa using h2⟩
    . rintro ⟨h1,h2⟩
      refine ⟨(d,t),List.mem_filter.mpr ⟨(mem_way3 (by omega)).mpr ⟨?_,?_,hd⟩,by simp⟩,rfl⟩
      . rw [hb.1,hb.2.1,hb.2.2]
        exact h1
      . rw [hw.1,hw.2.1,hw.2.2]
        exact h2.symm
  refine nicest_is (n:=3) (fun x hx => ?_) ((hm _).mpr ⟨fits_pad h f1,?_⟩) fun x hx => ?_
  . obtain ⟨⟨_,_,_,e,_⟩,_⟩:=(hm x).mp hx
    rw [e]
    rfl
  . rw [<- worth_pad h f1]
    exact f2
  . obtain ⟨h1,h2⟩:=(hm x).mp hx
    obtain ⟨p,hp,rfl⟩:=fits_of h h1
    have e:=nicer_pad h hp f1
    exact e.trans (f3 p hp (by rw [<- h2]; exact worth_pad h hp))
theorem form_none (h:RodIn q b0 w0 b1 w1 b2 w2) (hb:b 0 = b0 /\ b 1 = b1 /\ b 2 = b2) (hw:w 0 = w0 /\ w 1 = w1 /\ w 2 = w2) {d:Nat} (he:¬ (d < q /\ ∃ p,Fits (decks3 b0 w0 b1 w1 b2 w2) p /\ worthOf (decks3 b0 w0 b1 w1 b2 w2) p = d)) :
    formIn (wayN q b w 3) d = none:=by
  unfold formIn
  have e:(wayN q b w 3).filter (fun (x:Nat × List Nat) => x.1 == d) = []:=by
    rw [List.filter_eq_nil_iff]
    rintro ⟨c,t⟩ hx z
    have z:c = d:=by simpa using z
    have hq:0 < q:=by have:=h.1.1; omega
    obtain ⟨k1,k2,k3⟩:=(mem_way3 hq).mp hx
    rw [hb.1,hb.2.1,hb.2.2] at k1
    rw [hw.1,hw.2.1,hw.2.2] at k2
    obtain ⟨p,hp,e⟩:=fits_of h k1
    exact he ⟨by omega,p,hp,by rw [worth_pad h hp,e,<- k2,z]⟩
  rw [e]
  rfl
end
theorem pigeon:∀ {n:Nat} {l:List Nat},l.Nodup -> (∀ x ∈ l,x < n) -> l.length <= n
  | 0,[],_,_ => Nat.le_refl _
  | 0,x :: l,_,h => absurd (h x (List.mem_cons_self ..)) (by omega)
  | n + 1,l,hn,h => by
    have h1:(l.filter fun x => decide (x ≠ n)).length <= n:=pigeon (hn.filter _) fun x hx => by
      obtain ⟨a,b⟩:=List.mem_filter.mp hx
      have:=h x a
      have:=of_decide_eq_true b
      omega
    by_cases c:n ∈ l
    . have:=hn.length_le_of_subset (l₂:=n :: l.filter fun x => decide (x ≠ n)) (fun x hx => by
        by_cases e:x = n
        . exact List.mem_cons.mpr (.inl e)
        . exact List.mem_cons.mpr (.inr (List.mem_filter.mpr ⟨hx,decide_eq_true e⟩)))
      rw [List.length_cons] at this
      omega
    . have e:l.filter (fun x => decide (x ≠ n)) = l:=List.filter_eq_self.mpr fun x hx => decide_eq_true fun z => c (by rw [<- z]; exact hx)
      rw [e] at h1
      omega
def DeckOk (b w:Nat):Prop:=(b = 0 /\ w = 0) \/ DeckIn b w
theorem rodIn_iff {q b0 w0 b1 w1 b2 w2:Nat}:RodIn q b0 w0 b1 w1 b2 w2 ↔ (2 <= q /\ q <= 20) /\ (DeckOk b0 w0 /\ DeckOk b1 w1 /\ DeckOk b2 w2) /\ b0 ≠ 0 /\ (b2 = 0 \/ 0 < b1):=by
  unfold RodIn DeckOk DeckIn
  omega
def RIn (g:List Nat):Prop:=RodIn (g.getD 0 0) (g.getD 1 0) (g.getD 2 0) (g.getD 3 0) (g.getD 4 0) (g.getD 5 0) (g.getD 6 0)
def bsOf (g:List Nat):List Nat:=[g.getD 1 0,g.getD 3 0,g.getD 5 0]
def mostOf (g:List Nat):Nat:=g.getD 1 0 * g.getD 2 0 + g.getD 3 0 * g.getD 4 0 + g.getD 5 0 * g.getD 6 0
def beOf (g:List Nat) (j:Nat):Nat:=g.getD (1 + 2 * j) 0
def woOf (g:List Nat) (j:Nat):Nat:=g.getD (2 + 2 * j) 0
def waysOf (g:List Nat) (j:Nat):Ways:=wayN (g.getD 0 0) (beOf g) (woOf g) j
def Whole (g:List Nat):Prop:=∀ d,d < g.getD 0 0 -> formIn (waysOf g 3) d ≠ none
def formR (g:List Nat) (d:Nat):List Nat:=pad (formOf (rodOf g) d)
theorem rod_eq {g:List Nat} (h:RIn g):rodOf g = ⟨g.getD 0 0,decks3 (g.getD 1 0) (g.getD 2 0) (g.getD 3 0) (g.getD 4 0) (g.getD 5 0) (g.getD 6 0)⟩:=rod_is (rodGood_iff.mpr h)
theorem whole_is {g:List Nat} (h:RIn g):(rodOf g).whole = true ↔ Whole g:=by
  rw [rod_eq h,whole_iff]
  unfold Whole
  constructor
  . intro z d hd
    have e:=form_some (b:=beOf g) (w:=woOf g) h ⟨rfl,rfl,rfl⟩ ⟨rfl,rfl,rfl⟩ hd (z d hd)
    intro k
    have k:formIn (wayN (g.getD 0 0) (beOf g) (woOf g) 3) d = none:=k
    rw [e] at k
    cases k
  . intro z d hd
    refine Classical.byContradiction fun c => ?_
    exact z d hd (form_none (b:=beOf g) (w:=woOf g) h ⟨rfl,rfl,rfl⟩ ⟨rfl,rfl,rfl⟩ fun k => c k.2)
theorem form_at {g:List Nat} (h:RIn g) (hw:Whole g) {d:Nat} (hd:d < g.getD 0 0):formIn (waysOf g 3) d = some (formR g d):=by
  have hz:=(whole_is h).mpr hw
  rw [rod_eq h,whole_iff] at hz
  unfold formR
  rw [rod_eq h]
  exact form_some (b:=beOf g) (w:=woOf g) h ⟨rfl,rfl,rfl⟩ ⟨rfl,rfl,rfl⟩ hd (hz d hd)
theorem form_fits {g:List Nat} (h:RIn g) (hw:Whole g) {d:Nat} (hd:d < g.getD 0 0):Fits (decks3 (g.getD 1 0) (g.getD 2 0) (g.getD 3 0) (g.getD 4 0) (g.getD 5 0) (g.getD 6 0)) (formOf (rodOf g) d):=by
  have hz:=(whole_is h).mpr hw
  rw [rod_eq h,whole_iff] at hz
  have:=(form_is (r:=⟨g.getD 0 0,decks3 (g.getD 1 0) (g.getD 2 0) (g.getD 3 0) (g.getD 4 0) (g.getD 5 0) (g.getD 6 0)⟩) (hz d hd)).1
  rw [rod_eq h]
  exact this
theorem wrong2 {g:List Nat} (h:¬ RIn g):rodWrong g = 2:=by
  unfold rodWrong
  rw [if_pos]
  exact Bool.eq_false_iff.mpr fun z => h (rodGood_iff.mp z)
theorem most_is {g:List Nat} (h:RIn g):(rodOf g).most = mostOf g:=by
  rw [rod_eq h]
  exact most3 h
theorem wrong3 {g:List Nat} (h:RIn g) (hm:255 < mostOf g):rodWrong g = 3:=by
  unfold rodWrong
  rw [if_neg (by rw [rodGood_iff.mpr h]; simp),if_pos (by rw [most_is h]; exact hm)]
theorem wrong4 {g:List Nat} (h:RIn g) (hm:¬ 255 < mostOf g) (hw:¬ Whole g):rodWrong g = 4:=by
  unfold rodWrong
  rw [if_neg (by rw [rodGood_iff.mpr h]; simp),if_neg (by rw [most_is h]; exact hm),if_pos]
  exact Bool.eq_false_iff.mpr fun z => hw ((whole_is h).mp z)
theorem wrong0 {g:List Nat} (h:RIn g) (hm:¬ 255 < mostOf g) (hw:Whole g):rodWrong g = 0:=by
  unfold rodWrong
  rw [if_neg (by rw [rodGood_iff.mpr h]; simp),if_neg (by rw [most_is h]; exact hm),if_neg]
  rw [(whole_is h).mpr hw]
  simp
theorem right0 {g:List Nat} (h:rodWrong g = 0):RIn g /\ Whole g:=by
  by_cases c:RIn g
  . by_cases m:255 < mostOf g
    . rw [wrong3 c m] at h
      cases h
    . by_cases w:Whole g
      . exact ⟨c,w⟩
      . rw [wrong4 c m w] at h
        cases h
  . rw [wrong2 c] at h
    cases h
def why3 (g:List Nat) (ss:List (List Nat)) (op d x:Nat) (l:List Step):Option Nat:=match done3 (bsOf g) ss l (formR g x) with
  | none => some 1
  | some t => if t ≠ formR g (after op (g.getD 0 0) d x) then some 2 else if l.countP isC ≠ (if over op (g.getD 0 0) d x = true then 1 else 0) then some 3 else none
theorem after_lt {op q d x:Nat} (h:0 < q):after op q d x < q:=by
  unfold after
  by_cases e:op = 0
  . rw [if_pos e]
    exact Nat.mod_lt _ h
  . rw [if_neg e]
    exact Nat.mod_lt _ h
def stepsOf (l:List Nat):List Step:=(List.range ((l.length - 3) / 3)).map fun j => (l.getD (3 + 3 * j) 0,l.getD (3 + 3 * j + 1) 0,l.getD (3 + 3 * j + 2) 0)
def key3 (l:List Nat):List Nat:=[l.getD 0 0,l.getD 1 0,l.getD 2 0]
def rowFor (rows:List (List Nat)) (op d x:Nat):Option (List Nat):=rows.find? fun l => key3 l == [op,d,x]
def stepsFor (rows:List (List Nat)) (op d x:Nat):List Step:=((rowFor rows op d x).map stepsOf).getD []
theorem nats_ints (l:List Nat):BkNeutral.nats (BkNeutral.ints l) = l:=by
  unfold BkNeutral.nats BkNeutral.ints
  rw [List.map_map]
  exact List.map_id'' (fun _ => rfl) l
theorem ints_nats {l:List Int} (h:∀ x ∈ l,0 <= x):BkNeutral.ints (BkNeutral.nats l) = l:=by
  unfold BkNeutral.nats BkNeutral.ints
  rw [List.map_map]
  refine (List.map_congr_left fun x hx => ?_).trans (List.map_id l)
  exact Int.toNat_of_nonneg (h x hx)
theorem ints_nn (l:List Nat):∀ x ∈ BkNeutral.ints l,0 <= x:=by
  intro x hx
  obtain ⟨n,_,rfl⟩:=List.mem_map.mp hx
  exact Int.natCast_nonneg n
theorem at_ints (l:List Nat) (i:Nat):Bm.at0 (BkNeutral.ints l) i = ((l.getD i 0:Nat):Int):=by
  have q:=Bm.nats_getD (BkNeutral.ints l) i
  rw [nats_ints] at q
  have:=Bm.at0_nn (ints_nn l) i
  omega
def onRod (g:List Nat) (ss rows:List (List Nat)):Option (List Nat):=[0,1].findSome? fun op => (List.range' 1 (g.getD 0 0 - 1)).findSome? fun d => (List.range (g.getD 0 0)).findSome? fun x => (why3 g ss op d x (stepsFor rows op d x)).map fun w => [op,d,x,w]
def onMake (gs ss rows:List (List Nat)):Option (List Nat):=gs.zipIdx.findSome? fun y => (onRod y.1 ss rows).map fun l => y.2 :: l
def tellF (r p:Nat):List Int:=[-5,(r:Int),(p:Int)]
end Rm
namespace Fo
open Na Sm Rm
theorem total_snoc:∀ (l:List Nat) (m:Nat),total (l ++ [m]) = total l + m
  | [],m => by simp [total]
  | a :: l,m => by
    have:=total_snoc l m
    show a + total (l ++ [m]) = a + total l + m
    omega
theorem below_snoc:∀ (a b:List Nat) (m:Nat),a.length = b.length -> below (a ++ [m]) (b ++ [m]) = below a b
  | [],[],m,_ => by simp [below]
  | x :: a,y :: b,m,h => by
    have:=below_snoc a b m (by simpa using h)
    show (decide (x < y) || (x == y && below (a ++ [m]) (b ++ [m]))) = (decide (x < y) || (x == y && below a b))
    rw [this]
  | [],_ :: _,_,h => by simp at h
  | _ :: _,[],_,h => by simp at h
theorem nicer_snoc {a b:List Nat} (m:Nat) (h:a.length = b.length):nicer (a ++ [m]) (b ++ [m]) = nicer a b:=by
  unfold nicer
  rw [total_snoc,total_snoc,below_snoc b a m h.symm]
  congr 1
  . exact decide_eq_decide.mpr (by omega)
  . congr 1
    rw [Bool.eq_iff_iff]
    simp
def at_ (ws:Ways) (d:Nat):List Push:=(ws.filter fun (x:Nat × List Nat) => x.1 == d).map fun (x:Nat × List Nat) => x.2
theorem mem_at {ws:Ways} {d:Nat} {p:Push}:p ∈ at_ ws d ↔ (d,p) ∈ ws:=by
  unfold at_
  rw [List.mem_map]
  constructor
  . rintro ⟨⟨c,q⟩,h,rfl⟩
    obtain ⟨h1,h2⟩:=List.mem_filter.mp h
    have e:c = d:=by simpa using h2
    rw [<- e]
    exact h1
  . intro h
    exact ⟨(d,p),List.mem_filter.mpr ⟨h,by simp⟩,rfl⟩
theorem form_none {ws:Ways} {d:Nat}:formIn ws d = none ↔ ∀ p,(d,p) ∉ ws:=by
  constructor
  . intro h p hp
    have hm:=mem_at.mpr hp
    have e:formIn ws d = nicest (at_ ws d):=rfl
    rw [e] at h
    unfold nicest at h
    obtain ⟨l1,l2,el⟩:=List.append_of_mem hm
    have:∀ (l:List Push) (a:Option Push),a ≠ none -> l.foldl (fun (a:Option Push) (p:Push) => match a with
      | none => some p
      | some q => if nicer p q = true then some p else some q) a ≠ none:=by
      intro l
      induction l with
      | nil => intro a ha; exact ha
      | cons x l ih =>
        intro a ha
        rw [List.foldl_cons]
        refine ih _ ?_
        cases a with
        | none => simp
        | some q => dsimp only; split <;> simp
    rw [el,List.foldl_append,List.foldl_cons] at h
    refine this _ _ ?_ h
    split <;> (try split) <;> simp
  . intro h
    have e:at_ ws d = []:=by
      cases q:at_ ws d with
      | nil => rfl
      | cons p l => exact absurd (mem_at.mp (by rw [q]; exact List.mem_cons_self)) (h p)
    show nicest (at_ ws d) = none
    rw [e]
    rfl
theorem form_some {ws:Ways} {d n:Nat} {p:Push} (hl:∀ x ∈ ws,x.2.length = n):formIn ws d = some p ↔ (d,p) ∈ ws /\ ∀ x,(d,x) ∈ ws -> nicer x p = false:=by
  have hl':∀ x ∈ at_ ws d,x.length = n:=fun x hx => hl _ (mem_at.mp hx)
  constructor
  . intro h
    have hne:at_ ws d ≠ []:=fun z => by
      have e:formIn ws d = nicest (at_ ws d):=rfl
      rw [e,z] at h
      cases h
    obtain ⟨q,h1,h2,h3⟩:=nicest_some hl' hne
    have e:formIn ws d = nicest (at_ ws d):=rfl
    rw [e,h1] at h
    cases h
    exact ⟨mem_at.mp h2,fun x hx => h3 x (mem_at.mpr hx)⟩
  . rintro ⟨h1,h2⟩
    exact nicest_is hl' (mem_at.mpr h1) fun x hx => h2 x (mem_at.mp hx)
structure Best (n:Nat) (fl ws:Ways):Prop where
  len:∀ x ∈ ws,x.2.length = n
  sub:∀ x ∈ fl,formIn ws x.1 = some x.2
  all:∀ d p,formIn ws d = some p -> (d,p) ∈ fl
theorem Best.mem {n:Nat} {fl ws:Ways} (h:Best n fl ws) {x:Nat × List Nat} (hx:x ∈ fl):x ∈ ws:=((form_some h.len).mp (h.sub x hx)).1
theorem step_len {n q b w:Nat} {ws:Ways} (h:∀ x ∈ ws,x.2.length = n):∀ x ∈ wstep q b w ws,x.2.length = n + 1:=fun ⟨c,p⟩ hx => by
  obtain ⟨c0,t0,m,h0,_,_,rfl,_⟩:=mem_wstep.mp hx
  have:=h _ h0
  show (t0 ++ [m]).length = n + 1
  rw [List.length_append]
  have e:t0.length = n:=this
  rw [e]
  rfl
theorem form_step {n q b w:Nat} {fl ws:Ways} (h:Best n fl ws) (d:Nat):formIn (wstep q b w fl) d = formIn (wstep q b w ws) d:=by
  have hsub:∀ c p,(c,p) ∈ wstep q b w fl -> (c,p) ∈ wstep q b w ws:=fun c p hx => by
    obtain ⟨c0,t0,m,h0,r⟩:=mem_wstep.mp hx
    exact mem_wstep.mpr ⟨c0,t0,m,h.mem h0,r⟩
  have l2:=step_len (q:=q) (b:=b) (w:=w) h.len
  have l1:∀ x ∈ wstep q b w fl,x.2.length = n + 1:=fun ⟨c,p⟩ hx => l2 _ (hsub c p hx)
  cases e:formIn (wstep q b w ws) d with
  | none => exact form_none.mpr fun p hp => form_none.mp e p (hsub d p hp)
  | some P =>
    obtain ⟨h1,h2⟩:=(form_some l2).mp e
    refine (form_some l1).mpr ⟨?_,fun x hx => h2 x (hsub d x hx)⟩
    obtain ⟨c,p,m,h0,hm,rfl,rfl,hq⟩:=mem_wstep.mp h1
    cases e2:formIn ws c with
    | none => exact absurd h0 (form_none.mp e2 p)
    | some p' =>
      obtain ⟨k1,k2⟩:=(form_some h.len).mp e2
      by_cases z:p = p'
      . rw [z]
        exact mem_wstep.mpr ⟨c,p',m,h.all c p' e2,hm,rfl,rfl,hq⟩
      . exfalso
        have hlen:p.length = p'.length:=(h.len _ h0).trans (h.len _ k1).symm
        rcases nicer_tot hlen z with t | t
        . rw [k2 p h0] at t
          cases t
        . have:=h2 (p' ++ [m]) (mem_wstep.mpr ⟨c,p',m,k1,hm,rfl,rfl,hq⟩)
          rw [nicer_snoc m hlen.symm,t] at this
          cases this
end Fo
set_option Elab.async false
namespace Su
open Na Sm Mm Rm
abbrev dk (g:List Nat):List Deck:=decks3 (g.getD 1 0) (g.getD 2 0) (g.getD 3 0) (g.getD 4 0) (g.getD 5 0) (g.getD 6 0)
theorem rod_dk {g:List Nat} (h:RIn g):(rodOf g).decks = dk g:=by rw [rod_eq h]
structure Std (gs:List (List Nat)) (s:Standing) (ts:List (List Nat)):Prop where
  len:s.length = gs.length
  len3:ts.length = gs.length
  at_:∀ (i:Nat) (g:List Nat) (p:Push) (t:List Nat),gs[i]? = some g -> s[i]? = some p -> ts[i]? = some t -> Fits (dk g) p /\ pad p = t
end Su
set_option Elab.async false
namespace An
open Na Sm Mm Rm Su
section
variable {op order h v:Nat} {m hd st:List Nat} {rows:List (List Nat)}
end
section
variable {i w:Nat} {m hd:List Nat}
abbrev bestI (i w:Nat) (m hd:List Nat):List Int:=PyYqacca.best i w (BkNeutral.ints m) (BkNeutral.ints hd)
theorem best_is:bestI i w m hd = BkNeutral.told (Bk.answer (.best i w m hd)):=by
  show BkNeutral.told (Bk.answer (.best ((i:Int).toNat) ((w:Int).toNat) (BkNeutral.nats (BkNeutral.ints m)) (BkNeutral.nats (BkNeutral.ints hd)))) = _
  rw [nats_ints,nats_ints,Int.toNat_natCast,Int.toNat_natCast]
theorem best_make {e:Fault} (h1:makeOf m = .error e):bestI i w m hd = tellF e.rule e.place:=by
  rw [best_is]
  unfold Bk.answer Bk.both
  dsimp only
  rw [h1]
  rfl
theorem best_hand {x:Make} {e:Fault} (h1:makeOf m = .ok x) (h2:handOf hd = .error e):bestI i w m hd = tellF e.rule e.place:=by
  rw [best_is]
  unfold Bk.answer Bk.both
  dsimp only
  rw [h1,h2]
  rfl
theorem best_no1 {x:Make} {y:Hand} (h1:makeOf m = .ok x) (h2:handOf hd = .ok y) (h3:x.length <= i \/ 1 < w):bestI i w m hd = [-1]:=by
  rw [best_is]
  unfold Bk.answer Bk.both
  dsimp only
  rw [h1,h2]
  dsimp only
  cases e:x[i]? with
  | none => rfl
  | some r =>
    have:=(List.getElem?_eq_some_iff.mp e).1
    dsimp only
    rw [if_pos (by omega)]
    rfl
def ruleNums (u:Rule):List Nat:=[u.op,u.d,u.x,u.moves.length] ++ u.moves.flatMap moveNumbers
def tellB:Except (List Nat × Bool) Book -> List Int
  | .error e => (if e.2 = true then -2 else -8) :: BkNeutral.ints e.1
  | .ok b => 0 :: BkNeutral.ints (b.flatMap ruleNums)
theorem best_ok {x:Make} {y:Hand} {r:Rod} (h1:makeOf m = .ok x) (h2:handOf hd = .ok y) (h3:x[i]? = some r) (h4:¬ 1 < w):bestI i w m hd = tellB (bestBook r y w):=by
  rw [best_is]
  unfold Bk.answer Bk.both
  dsimp only
  rw [h1,h2]
  dsimp only
  rw [h3]
  dsimp only
  rw [if_neg h4]
  cases bestBook r y w with
  | error e =>
    obtain ⟨l,k⟩:=e
    cases k <;> rfl
  | ok b => rfl
end
end An
set_option Elab.async false
namespace Fm
open Na Sm
section
variable (r:Rod) (h:Hand)
def Edge (p u:Push) (w:Nat):Prop:=∃ x ∈ strokesOf h,∃ s,h.strokes[x.1]? = some s /\ strokeOn r.decks s x.2.1 x.2.2 p = some u /\ w = s.cost
inductive WL (q:Push):List Push -> Nat -> Prop
  | here:WL q [q] 0
  | step {p u:Push} {l:List Push} {w c:Nat}:Edge r h p u w -> WL q (u :: l) c -> WL q (p :: u :: l) (w + c)
def Way (q p:Push) (c:Nat):Prop:=∃ l,WL r h q (p :: l) c
end
section
variable {r:Rod} {h:Hand} {q:Push}
theorem WL.ne {l:List Push} {c:Nat} (x:WL r h q l c):l ≠ []:=by
  cases x <;> simp
theorem WL.drop:∀ {a b:List Push} {p:Push} {c:Nat},WL r h q (a ++ p :: b) c -> ∃ c',c' <= c /\ WL r h q (p :: b) c'
  | [],b,p,c,x => ⟨c,Nat.le_refl _,x⟩
  | y :: a,b,p,c,x => by
    have x:WL r h q (y :: (a ++ p :: b)) c:=x
    generalize e:a ++ p :: b = l at x
    cases x with
    | here => simp at e
    | step ed x2 =>
      rw [<- e] at x2
      obtain ⟨c',h1,h2⟩:=WL.drop x2
      exact ⟨c',by omega,h2⟩
theorem nodup_drop {a b:List Push} (x:(a ++ b).Nodup):b.Nodup:=by
  rw [List.nodup_append] at x
  exact x.2.1
theorem WL.short:∀ {l:List Push} {c:Nat},WL r h q l c -> ∃ l' c',c' <= c /\ l'.head? = l.head? /\ l'.Nodup /\ WL r h q l' c':=by
  intro l c x
  induction x with
  | here => exact ⟨[q],0,Nat.le_refl _,rfl,by simp,.here⟩
  | @step p u l w c ed x ih =>
    obtain ⟨l',c',hc,hh,nd,x'⟩:=ih
    by_cases m:p ∈ l'
    . obtain ⟨a,b,e⟩:=List.append_of_mem m
      rw [e] at x' nd
      obtain ⟨c2,h2,x2⟩:=WL.drop x'
      exact ⟨p :: b,c2,by omega,rfl,nodup_drop nd,x2⟩
    . cases l' with
      | nil => exact absurd rfl (WL.ne x')
      | cons u' l' =>
        have e:u' = u:=Option.some.inj hh
        subst e
        exact ⟨p :: u' :: l',w + c',by omega,rfl,List.nodup_cons.mpr ⟨m,nd⟩,.step ed x'⟩
theorem Edge.fits {p u:Push} {w:Nat} (e:Edge r h p u w) (hp:Fits r.decks p):Fits r.decks u:=by
  obtain ⟨x,_,s,_,e,_⟩:=e
  exact stroke_fits hp e
theorem WL.fits:∀ {l:List Push} {c:Nat},WL r h q l c -> (∀ p,l.head? = some p -> Fits r.decks p) -> ∀ p ∈ l,Fits r.decks p:=by
  intro l c x
  induction x with
  | here =>
    intro hp p m
    rw [List.mem_singleton.mp m]
    exact hp q rfl
  | @step p u l w c ed x ih =>
    intro hp y m
    rcases List.mem_cons.mp m with e | m
    . rw [e]
      exact hp p rfl
    . exact ih (fun z e => by rw [<- Option.some.inj e]; exact ed.fits (hp p rfl)) y m
theorem len_le:∀ {l m:List Push},l.Nodup -> (∀ x ∈ l,x ∈ m) -> l.length <= m.length
  | [],_,_,_ => Nat.zero_le _
  | a :: l,m,nd,hs => by
    obtain ⟨h1,h2⟩:=List.nodup_cons.mp nd
    have ha:=hs a (List.mem_cons_self ..)
    have:=len_le (l:=l) (m:=m.erase a) h2 fun x hx => (List.mem_erase_of_ne (fun e => h1 (by rw [<- e]; exact hx))).mpr (hs x (List.mem_cons_of_mem _ hx))
    rw [List.length_erase_of_mem ha] at this
    have:0 < m.length:=List.length_pos_of_mem ha
    rw [List.length_cons]
    omega
theorem Way.few {p:Push} {c:Nat} (hp:Fits r.decks p) (x:Way r h q p c):∃ l c',c' <= c /\ l.length + 1 <= (pushes r.decks).length /\ WL r h q (p :: l) c':=by
  obtain ⟨l,x⟩:=x
  obtain ⟨l',c',hc,hh,nd,x'⟩:=x.short
  cases l' with
  | nil => exact absurd rfl (WL.ne x')
  | cons p' l' =>
    have e:p' = p:=Option.some.inj hh
    subst e
    refine ⟨l',c',hc,?_,x'⟩
    exact len_le nd fun y hy => mem_pushes.mpr (x'.fits (fun z e => by rw [<- Option.some.inj e]; exact hp) y hy)
def cand (r:Rod) (h:Hand) (l:Far) (p:Push) (x:Nat × (Nat × Nat)):Option Nat:=match h.strokes[x.1]? with
  | none => none
  | some s => match strokeOn r.decks s x.2.1 x.2.2 p with
    | none => none
    | some q => (farOf l q).map fun (d:Nat) => d + s.cost
def best (r:Rod) (h:Hand) (l:Far) (p:Push):Option Nat:=(strokesOf h).foldl (fun a x => lesser a (cand r h l p x)) (farOf l p)
theorem lesser_none (a:Option Nat):lesser a none = a:=by
  cases a <;> rfl
theorem round_eq (l:Far):oneRound r h l = (pushes r.decks).filterMap fun p => (best r h l p).map fun d => (p,d):=by
  unfold oneRound best
  congr 1
  funext p
  congr 1
  congr 1
  funext a x
  unfold cand
  cases h.strokes[x.1]? with
  | none => exact (lesser_none a).symm
  | some s =>
    dsimp only
    cases strokeOn r.decks s x.2.1 x.2.2 p with
    | none => exact (lesser_none a).symm
    | some u => rfl
theorem far_map {g:Push -> Option Nat}:∀ {l:List Push} {p:Push},farOf (l.filterMap fun p => (g p).map fun d => (p,d)) p = if p ∈ l then g p else none
  | [],p => rfl
  | y :: l,p => by
    rw [List.filterMap_cons]
    cases e:g y with
    | none =>
      show farOf (l.filterMap _) p = _
      rw [far_map]
      by_cases c:p = y
      . subst c
        rw [if_pos (List.mem_cons_self ..),e]
        by_cases m:p ∈ l
        . rw [if_pos m]
        . rw [if_neg m]
      . by_cases m:p ∈ l
        . rw [if_pos m,if_pos (List.mem_cons_of_mem _ m)]
        . rw [if_neg m,if_neg fun z => (List.mem_cons.mp z).elim c m]
    | some d =>
      show farOf ((y,d) :: l.filterMap _) p = _
      unfold farOf
      rw [List.find?_cons]
      by_cases c:y = p
      . subst c
        rw [show (((y,d):Push × Nat).1 == y) = true by simp]
        rw [if_pos (List.mem_cons_self ..),e]
        rfl
      . rw [show (((y,d):Push × Nat).1 == p) = false by simpa using c]
        have ih:=far_map (g:=g) (l:=l) (p:=p)
        unfold farOf at ih
        rw [ih]
        by_cases m:p ∈ l
        . rw [if_pos m,if_pos (List.mem_cons_of_mem _ m)]
        . rw [if_neg m,if_neg fun z => (List.mem_cons.mp z).elim (fun w => c w.symm) m]
theorem far_round (l:Far) {p:Push} (hp:Fits r.decks p):farOf (oneRound r h l) p = best r h l p:=by
  rw [round_eq,far_map,if_pos (mem_pushes.mpr hp)]
theorem far_round_no (l:Far) {p:Push} (hp:¬ Fits r.decks p):farOf (oneRound r h l) p = none:=by
  rw [round_eq,far_map,if_neg (fun z => hp (mem_pushes.mp z))]
theorem fold_is {α:Type} {f:α -> Option Nat}:∀ {l:List α} {a:Option Nat} {c:Nat},l.foldl (fun a x => lesser a (f x)) a = some c -> a = some c \/ ∃ x ∈ l,f x = some c
  | [],a,c,e => .inl e
  | y :: l,a,c,e => by
    rw [List.foldl_cons] at e
    rcases fold_is e with q | ⟨x,hx,q⟩
    . cases a with
      | none => exact .inr ⟨y,List.mem_cons_self ..,q⟩
      | some b =>
        cases ey:f y with
        | none =>
          rw [ey] at q
          exact .inl q
        | some d =>
          rw [ey] at q
          have q:min b d = c:=Option.some.inj q
          rcases Nat.le_total b d with z | z
          . rw [Nat.min_eq_left z] at q
            exact .inl (by rw [q])
          . rw [Nat.min_eq_right z] at q
            exact .inr ⟨y,List.mem_cons_self ..,by rw [ey,q]⟩
    . exact .inr ⟨x,List.mem_cons_of_mem _ hx,q⟩
theorem fold_le {α:Type} {f:α -> Option Nat}:∀ {l:List α} {a:Option Nat} {d:Nat},(a = some d \/ ∃ x ∈ l,f x = some d) -> ∃ c,l.foldl (fun a x => lesser a (f x)) a = some c /\ c <= d
  | [],a,d,e => by
    rcases e with e | ⟨x,hx,_⟩
    . exact ⟨d,e,Nat.le_refl _⟩
    . simp at hx
  | y :: l,a,d,e => by
    rw [List.foldl_cons]
    have key:∀ d',lesser a (f y) = some d' -> d' <= d -> ∃ c,l.foldl (fun a x => lesser a (f x)) (lesser a (f y)) = some c /\ c <= d:=fun d' e1 e2 => by
      obtain ⟨c,h1,h2⟩:=fold_le (f:=f) (l:=l) (a:=lesser a (f y)) (d:=d') (.inl e1)
      exact ⟨c,h1,by omega⟩
    rcases e with e | ⟨x,hx,e⟩
    . subst e
      cases ey:f y with
      | none =>
        rw [ey] at key
        exact key d rfl (Nat.le_refl _)
      | some b =>
        rw [ey] at key
        exact key (min d b) rfl (Nat.min_le_left _ _)
    . rcases List.mem_cons.mp hx with z | z
      . subst z
        rw [e] at key |-
        cases a with
        | none => exact key d rfl (Nat.le_refl _)
        | some b => exact key (min b d) rfl (Nat.min_le_right _ _)
      . exact fold_le (.inr ⟨x,z,e⟩)
theorem cand_is {l:Far} {p:Push} {x:Nat × (Nat × Nat)} {c:Nat} (hx:x ∈ strokesOf h) (e:cand r h l p x = some c):∃ u w d,Edge r h p u w /\ farOf l u = some d /\ c = w + d:=by
  unfold cand at e
  cases es:h.strokes[x.1]? with
  | none =>
    rw [es] at e
    cases e
  | some s =>
    rw [es] at e
    dsimp only at e
    cases eu:strokeOn r.decks s x.2.1 x.2.2 p with
    | none =>
      rw [eu] at e
      cases e
    | some u =>
      rw [eu] at e
      dsimp only at e
      cases ef:farOf l u with
      | none =>
        rw [ef] at e
        cases e
      | some d =>
        rw [ef] at e
        have e:d + s.cost = c:=Option.some.inj e
        exact ⟨u,s.cost,d,⟨x,hx,s,es,eu,rfl⟩,ef,by omega⟩
theorem cand_of {l:Far} {p u:Push} {w d:Nat} (e:Edge r h p u w) (ef:farOf l u = some d):∃ x ∈ strokesOf h,cand r h l p x = some (w + d):=by
  obtain ⟨x,hx,s,es,eu,rfl⟩:=e
  refine ⟨x,hx,?_⟩
  unfold cand
  rw [es]
  dsimp only
  rw [eu]
  dsimp only
  rw [ef]
  show some (d + s.cost) = _
  rw [Nat.add_comm]
def Sound (r:Rod) (h:Hand) (q:Push) (l:Far):Prop:=∀ p c,farOf l p = some c -> Way r h q p c
def Comp (r:Rod) (h:Hand) (q:Push) (n:Nat) (l:Far):Prop:=∀ p m c,Fits r.decks p -> WL r h q (p :: m) c -> m.length <= n -> ∃ c',c' <= c /\ farOf l p = some c'
theorem sound0:Sound r h q [(q,0)]:=fun p c e => by
  unfold farOf at e
  rw [List.find?_cons] at e
  by_cases k:q = p
  . subst k
    rw [show (((q,0):Push × Nat).1 == q) = true by simp] at e
    have e:0 = c:=Option.some.inj e
    subst e
    exact ⟨[],.here⟩
  . rw [show (((q,0):Push × Nat).1 == p) = false by simpa using k] at e
    cases e
theorem comp0:Comp r h q 0 [(q,0)]:=by
  intro p m c _ x hm
  have e:m = []:=List.eq_nil_of_length_eq_zero (by omega)
  subst e
  cases x
  refine ⟨0,Nat.le_refl _,?_⟩
  unfold farOf
  rw [List.find?_cons,show (((q,0):Push × Nat).1 == q) = true by simp]
  rfl
theorem sound_round {l:Far} (s:Sound r h q l):Sound r h q (oneRound r h l):=fun p c e => by
  by_cases hp:Fits r.decks p
  . rw [far_round l hp] at e
    rcases fold_is e with e | ⟨x,hx,e⟩
    . exact s p c e
    . obtain ⟨u,w,d,ed,ef,rfl⟩:=cand_is hx e
      obtain ⟨m,x⟩:=s u d ef
      exact ⟨u :: m,.step ed x⟩
  . rw [far_round_no l hp] at e
    cases e
theorem comp_round {l:Far} {n:Nat} (s:Comp r h q n l):Comp r h q (n + 1) (oneRound r h l):=by
  intro p m c hp x hm
  rw [far_round l hp]
  have low:∀ d,(farOf l p = some d \/ ∃ x ∈ strokesOf h,cand r h l p x = some d) -> d <= c -> ∃ c',c' <= c /\ best r h l p = some c':=fun d k kd => by
    obtain ⟨c',h1,h2⟩:=fold_le k
    exact ⟨c',by omega,h1⟩
  cases x with
  | here =>
    obtain ⟨c',h1,h2⟩:=s _ [] 0 hp .here (Nat.zero_le _)
    exact low c' (.inl h2) h1
  | @step _ u m w c ed x =>
    obtain ⟨c',h1,h2⟩:=s u m c (ed.fits hp) x (by rw [List.length_cons] at hm; omega)
    exact low (w + c') (.inr (cand_of ed h2)) (by omega)
theorem comp_mono {l:Far} {n k:Nat} (s:Comp r h q n l) (hk:k <= n):Comp r h q k l:=fun p m c hp x hm => s p m c hp x (by omega)
theorem comp_fix {l:Far} (s:Comp r h q 0 l) (e:oneRound r h l = l):∀ n,Comp r h q n l
  | 0 => s
  | n + 1 => by
    have:=comp_round (comp_fix s e n)
    rw [e] at this
    exact this
theorem rounds_are:∀ (f n:Nat) (l:Far),Sound r h q l -> Comp r h q n l -> Sound r h q (roundsOf r h f l) /\ Comp r h q (n + f) (roundsOf r h f l)
  | 0,n,l,s,c => ⟨s,c⟩
  | f + 1,n,l,s,c => by
    unfold roundsOf
    dsimp only
    by_cases e:oneRound r h l = l
    . rw [if_pos e]
      exact ⟨s,comp_fix (comp_mono c (Nat.zero_le _)) e _⟩
    . rw [if_neg e]
      have:=rounds_are f (n + 1) (oneRound r h l) (sound_round s) (comp_round c)
      rw [show n + (f + 1) = n + 1 + f by omega]
      exact this
theorem far_some {p:Push} {c:Nat} (hp:Fits r.decks p):farOf (farTo r h q) p = some c ↔ Way r h q p c /\ ∀ c',Way r h q p c' -> c <= c':=by
  obtain ⟨s,k⟩:=rounds_are (q:=q) ((pushes r.decks).length + 1) 0 [(q,0)] sound0 comp0
  have k:Comp r h q (0 + ((pushes r.decks).length + 1)) (farTo r h q):=k
  have s:Sound r h q (farTo r h q):=s
  have low:∀ c',Way r h q p c' -> ∃ d,d <= c' /\ farOf (farTo r h q) p = some d:=fun c' x => by
    obtain ⟨m,c2,h1,h2,x⟩:=x.few hp
    obtain ⟨d,h3,h4⟩:=k p m c2 hp x (by omega)
    exact ⟨d,by omega,h4⟩
  constructor
  . intro e
    refine ⟨s p c e,fun c' x => ?_⟩
    obtain ⟨d,h1,h2⟩:=low c' x
    rw [e] at h2
    rw [Option.some.inj h2]
    exact h1
  . rintro ⟨x,hm⟩
    obtain ⟨d,h1,h2⟩:=low c x
    have:=hm d (s p d h2)
    rw [h2,show d = c by omega]
theorem far_none {p:Push} (hp:Fits r.decks p):farOf (farTo r h q) p = none ↔ ∀ c,¬ Way r h q p c:=by
  constructor
  . intro e c x
    obtain ⟨s,k⟩:=rounds_are (q:=q) ((pushes r.decks).length + 1) 0 [(q,0)] sound0 comp0
    have k:Comp r h q (0 + ((pushes r.decks).length + 1)) (farTo r h q):=k
    obtain ⟨m,c2,h1,h2,x⟩:=x.few hp
    obtain ⟨d,h3,h4⟩:=k p m c2 hp x (by omega)
    rw [e] at h4
    cases h4
  . intro hn
    cases e:farOf (farTo r h q) p with
    | none => rfl
    | some c => exact absurd ((far_some hp).mp e).1 (hn c)
end
end Fm
set_option Elab.async false
namespace Fm
open Na Sm
def goes (r:Rod) (h:Hand) (f:Far) (p:Push) (c:Nat):List (Nat × (Nat × Nat)) -> Option ((Nat × (Nat × Nat)) × Push × Nat)
  | [] => none
  | x :: l => match h.strokes[x.1]? with
    | none => goes r h f p c l
    | some s => match strokeOn r.decks s x.2.1 x.2.2 p with
      | none => goes r h f p c l
      | some u => if s.cost <= c /\ farOf f u = some (c - s.cost) then some (x,u,c - s.cost) else goes r h f p c l
def first (r:Rod) (h:Hand) (f:Far):Nat -> Push -> Nat -> List (Nat × (Nat × Nat))
  | 0,_,_ => []
  | n + 1,p,c => if c = 0 then [] else match goes r h f p c (strokesOf h) with
    | none => []
    | some (x,u,d) => x :: first r h f n u d
def actOf (x:Nat × (Nat × Nat)):Act:=⟨0,x.1,x.2.1,x.2.2⟩
section
variable {r:Rod} {h:Hand} {p q:Push} {f:Far}
theorem left_one:leftBy h [f] 0 [p] [q] = farOf f p:=by
  have e:wayPast 0 (differ [p] [q]) = 0:=by
    unfold differ
    show wayPast 0 ((List.range 1).filter _) = 0
    rw [show List.range 1 = [0] by decide,List.filter_cons,List.filter_nil]
    split <;> rfl
  unfold leftBy
  rw [e]
  show (([(f,p)].mapM fun (x:Far × Push) => farOf x.1 x.2).map fun (l:List Nat) => total l + h.over * 0) = farOf f p
  rw [List.mapM_cons,List.mapM_nil]
  cases farOf f p with
  | none => rfl
  | some d =>
    show some (d + 0 + h.over * 0) = some d
    rw [Nat.mul_zero]
    rfl
theorem cost_one {x:Nat × (Nat × Nat)} {s:Stroke} (e:h.strokes[x.1]? = some s):costOf h 0 (actOf x) = s.cost:=by
  unfold costOf actOf apartBy
  dsimp only
  rw [e]
  show s.cost + h.over * (0 - 0 + (0 - 0)) = s.cost
  rw [Nat.sub_self,Nat.add_zero,Nat.mul_zero,Nat.add_zero]
theorem goes_one {c:Nat}:∀ (l:List (Nat × (Nat × Nat))),goesOn [r] h [f] [q] 0 [p] c (l.map actOf) = (goes r h f p c l).map fun y => (actOf y.1,[y.2.1])
  | [] => rfl
  | x :: l => by
    rw [List.map_cons]
    unfold goesOn goes
    have ea:acted [r] h [p] (actOf x) = match h.strokes[x.1]? with
      | none => none
      | some s => (strokeOn r.decks s x.2.1 x.2.2 p).map fun u => [u]:=by
      unfold acted actOf
      dsimp only
      show (match some r,some p,h.strokes[x.1]? with
        | some r,some p,some x_1 => Option.map (fun q => [p].set 0 q) (strokeOn r.decks x_1 x.2.1 x.2.2 p)
        | _,_,_ => none) = _
      cases h.strokes[x.1]? <;> rfl
    rw [ea]
    cases es:h.strokes[x.1]? with
    | none => exact goes_one l
    | some s =>
      dsimp only
      cases eu:strokeOn r.decks s x.2.1 x.2.2 p with
      | none => exact goes_one l
      | some u =>
        dsimp only [Option.map_some]
        rw [cost_one es,show (actOf x).rod = 0 from rfl,left_one]
        by_cases k:s.cost <= c /\ farOf f u = some (c - s.cost)
        . rw [if_pos k,if_pos k]
          rfl
        . rw [if_neg k,if_neg k]
          exact goes_one l
theorem goes_is {c d:Nat} {u:Push} {x:Nat × (Nat × Nat)}:∀ {l:List (Nat × (Nat × Nat))},goes r h f p c l = some (x,u,d) -> ∃ s,x ∈ l /\ h.strokes[x.1]? = some s /\ strokeOn r.decks s x.2.1 x.2.2 p = some u /\ s.cost <= c /\ d = c - s.cost /\ farOf f u = some d
  | [],e => by cases e
  | y :: l,e => by
    unfold goes at e
    have up:goes r h f p c l = some (x,u,d) -> ∃ s,x ∈ y :: l /\ h.strokes[x.1]? = some s /\ strokeOn r.decks s x.2.1 x.2.2 p = some u /\ s.cost <= c /\ d = c - s.cost /\ farOf f u = some d:=fun e => by
      obtain ⟨s,h1,h2⟩:=goes_is e
      exact ⟨s,List.mem_cons_of_mem _ h1,h2⟩
    cases es:h.strokes[y.1]? with
    | none =>
      rw [es] at e
      exact up e
    | some s =>
      rw [es] at e
      dsimp only at e
      cases eu:strokeOn r.decks s y.2.1 y.2.2 p with
      | none =>
        rw [eu] at e
        exact up e
      | some v =>
        rw [eu] at e
        dsimp only at e
        by_cases k:s.cost <= c /\ farOf f v = some (c - s.cost)
        . rw [if_pos k] at e
          have e:=Option.some.inj e
          injection e with e1 e2
          injection e2 with e2 e3
          subst e1 e2 e3
          exact ⟨s,List.mem_cons_self ..,es,eu,k.1,rfl,k.2⟩
        . rw [if_neg k] at e
          exact up e
theorem acts_one:actsOf [r] h = (strokesOf h).map actOf:=by
  unfold actsOf
  show (List.range 1).flatMap _ = _
  rw [show List.range 1 = [0] by decide,List.flatMap_cons,List.flatMap_nil,List.append_nil]
  rfl
theorem first_one:∀ (n:Nat) (p:Push) (c:Nat),firstFrom [r] h [f] [q] n 0 [p] c = (first r h f n p c).map actOf
  | 0,p,c => rfl
  | n + 1,p,c => by
    unfold firstFrom first
    by_cases c0:c = 0
    . rw [if_pos c0,if_pos c0]
      rfl
    . rw [if_neg c0,if_neg c0,acts_one,goes_one]
      cases e:goes r h f p c (strokesOf h) with
      | none => rfl
      | some y =>
        obtain ⟨x,u,d⟩:=y
        obtain ⟨s,_,es,_,_,ed,_⟩:=goes_is e
        show actOf x :: firstFrom [r] h [f] [q] n (actOf x).rod [u] (c - costOf h 0 (actOf x)) = (x :: first r h f n u d).map actOf
        rw [cost_one es,<- ed,show (actOf x).rod = 0 from rfl,first_one n u d,List.map_cons]
theorem tour_one:firstTour [r] h 0 [p] [q] = (farOf (farTo r h q) p).map fun c => (first r h (farTo r h q) c p c).map actOf:=by
  unfold firstTour
  show (leftBy h [farTo r h q] 0 [p] [q]).map (fun c => firstFrom [r] h [farTo r h q] [q] c 0 [p] c) = _
  rw [left_one]
  congr 1
  funext c
  exact first_one c p c
theorem rule_one {w op d x:Nat}:bestRule r h w op d x = (farOf (farTo r h (formOf r (after op r.ratio d x))) (formOf r x)).map fun c =>
    let n:=(first r h (farTo r h (formOf r (after op r.ratio d x))) c (formOf r x) c).map fun y => Move.act y.1 y.2.1 y.2.2
    if over op r.ratio d x = true then (if w = 0 then .carry :: n else n ++ [.carry]) else n:=by
  unfold bestRule
  rw [tour_one,Option.map_map]
  congr 1
  funext c
  have e:((first r h (farTo r h (formOf r (after op r.ratio d x))) c (formOf r x) c).map actOf).map (fun (a:Act) => Move.act a.stroke a.n a.k) = (first r h (farTo r h (formOf r (after op r.ratio d x))) c (formOf r x) c).map fun y => Move.act y.1 y.2.1 y.2.2:=by
    rw [List.map_map]
    rfl
  dsimp only [Function.comp]
  rw [e]
end
end Fm
set_option Elab.async false
namespace Pd
open Na Sm Mm Rm Su Fm
def actsFrom:Nat -> List (List Nat) -> List Step
  | _,[] => []
  | i,st :: ss => ((List.range (st.getD 2 0)).flatMap fun n => if st.getD 4 0 = 0 then [(i,n + 1,0)] else (List.range (st.getD 5 0)).map fun k => (i,n + 1,k + 1)) ++ actsFrom (i + 1) ss
def acts3 (ss:List (List Nat)):List Step:=actsFrom 0 ss
theorem acts_from:∀ (ss:List (List Nat)) (i:Nat),(((ss.map strokeOf).zipIdx i).flatMap fun (x:Stroke × Nat) => (List.range x.1.first.most).flatMap fun (n:Nat) => match x.1.second with
    | none => [(x.2,n + 1,0)]
    | some y => (List.range y.most).map fun (k:Nat) => (x.2,n + 1,k + 1)) = actsFrom i ss
  | [],_ => rfl
  | st :: ss,i => by
    rw [List.map_cons,List.zipIdx_cons,List.flatMap_cons,acts_from ss (i + 1),actsFrom]
    congr 1
    show (List.range (st.getD 2 0)).flatMap _ = _
    congr 1
    funext n
    by_cases c:st.getD 4 0 = 0
    . have es:(strokeOf st).second = none:=by
        unfold strokeOf
        dsimp only
        rw [if_pos c]
      rw [if_pos c]
      dsimp only
      rw [es]
    . have es:(strokeOf st).second = some (reachOf (st.drop 3)):=by
        unfold strokeOf
        dsimp only
        rw [if_neg c]
      rw [if_neg c]
      dsimp only
      rw [es]
      have g2:(reachOf (st.drop 3)).most = st.getD 5 0:=Bm.getD_drop
      dsimp only
      rw [g2]
theorem acts_eq (o:Nat) (ss:List (List Nat)):strokesOf ⟨o,ss.map strokeOf⟩ = acts3 ss:=acts_from ss 0
def E3 (g:List Nat) (ss:List (List Nat)) (t u:List Nat) (w:Nat):Prop:=∃ x ∈ acts3 ss,∃ st,ss[x.1]? = some st /\ stroke3 (bsOf g) t st x.2.1 x.2.2 = some u /\ w = st.getD 6 0
inductive Way3 (g:List Nat) (ss:List (List Nat)) (q:List Nat):List Nat -> Nat -> Prop
  | here:Way3 g ss q q 0
  | step {t u:List Nat} {w c:Nat}:E3 g ss t u w -> Way3 g ss q u c -> Way3 g ss q t (w + c)
def Far3 (g:List Nat) (ss:List (List Nat)) (q t:List Nat) (c:Nat):Prop:=Way3 g ss q t c /\ ∀ c',Way3 g ss q t c' -> c <= c'
section
variable {g:List Nat} {ss:List (List Nat)} {o:Nat} {q p u:Push} {c w:Nat}
theorem edge_to (hR:RIn g) (hs:∀ s ∈ ss,SIn s) (hp:Fits (dk g) p) (e:Edge (rodOf g) ⟨o,ss.map strokeOf⟩ p u w):Fits (dk g) u /\ E3 g ss (pad p) (pad u) w:=by
  obtain ⟨x,hx,s,es,eu,rfl⟩:=e
  rw [acts_eq] at hx
  dsimp only at es
  rw [List.getElem?_map] at es
  cases e1:ss[x.1]? with
  | none =>
    rw [e1] at es
    cases es
  | some st =>
    rw [e1] at es
    have es:strokeOf st = s:=Option.some.inj es
    subst es
    rw [rod_dk hR] at eu
    refine ⟨stroke_fits hp eu,x,hx,st,e1,?_,rfl⟩
    have k:=stroke_pad hR hp (hs st (List.mem_of_getElem? e1)) x.2.1 x.2.2
    rw [show strokeOn (decks3 (g.getD 1 0) (g.getD 2 0) (g.getD 3 0) (g.getD 4 0) (g.getD 5 0) (g.getD 6 0)) (strokeOf st) x.2.1 x.2.2 p = some u from eu] at k
    exact k
theorem edge_of (hR:RIn g) (hs:∀ s ∈ ss,SIn s) (hp:Fits (dk g) p) {t:List Nat} (e:E3 g ss (pad p) t w):∃ u,pad u = t /\ Fits (dk g) u /\ Edge (rodOf g) ⟨o,ss.map strokeOf⟩ p u w:=by
  obtain ⟨x,hx,st,e1,eu,rfl⟩:=e
  have k:=stroke_pad hR hp (hs st (List.mem_of_getElem? e1)) x.2.1 x.2.2
  have k:stroke3 (bsOf g) (pad p) st x.2.1 x.2.2 = (strokeOn (dk g) (strokeOf st) x.2.1 x.2.2 p).map pad:=k
  rw [eu] at k
  cases e2:strokeOn (dk g) (strokeOf st) x.2.1 x.2.2 p with
  | none =>
    rw [e2] at k
    cases k
  | some u =>
    rw [e2] at k
    have k:t = pad u:=Option.some.inj k
    refine ⟨u,k.symm,stroke_fits hp e2,x,by rw [acts_eq]; exact hx,strokeOf st,?_,?_,rfl⟩
    . dsimp only
      rw [List.getElem?_map,e1]
      rfl
    . rw [rod_dk hR]
      exact e2
theorem wl_to (hR:RIn g) (hs:∀ s ∈ ss,SIn s):∀ {l:List Push} {c:Nat},WL (rodOf g) ⟨o,ss.map strokeOf⟩ q l c -> ∀ p,l.head? = some p -> Fits (dk g) p -> Way3 g ss (pad q) (pad p) c:=by
  intro l c x
  induction x with
  | here =>
    intro p e _
    cases e
    exact .here
  | @step p' u l w c ed x ih =>
    intro p e hp
    cases e
    obtain ⟨h1,h2⟩:=edge_to hR hs hp ed
    exact .step h2 (ih u rfl h1)
theorem wl_of (hR:RIn g) (hs:∀ s ∈ ss,SIn s) (hq:Fits (dk g) q) {t:List Nat} {c:Nat} (x:Way3 g ss (pad q) t c):∀ p,pad p = t -> Fits (dk g) p -> Way (rodOf g) ⟨o,ss.map strokeOf⟩ q p c:=by
  generalize hz:pad q = z at x
  induction x with
  | here =>
    intro p e hp
    have:p = q:=pad_inj hR hp hq (by rw [e,hz])
    subst this
    exact ⟨[],.here⟩
  | @step t u w c ed x ih =>
    intro p e hp
    rw [<- e] at ed
    obtain ⟨u',e1,h1,h2⟩:=edge_of (o:=o) hR hs hp ed
    obtain ⟨l,xl⟩:=ih u' e1 h1
    exact ⟨u' :: l,.step h2 xl⟩
theorem way_iff (hR:RIn g) (hs:∀ s ∈ ss,SIn s) (hp:Fits (dk g) p) (hq:Fits (dk g) q):Way (rodOf g) ⟨o,ss.map strokeOf⟩ q p c ↔ Way3 g ss (pad q) (pad p) c:=by
  constructor
  . rintro ⟨l,x⟩
    exact wl_to hR hs x p rfl hp
  . intro x
    exact wl_of hR hs hq x p rfl hp
theorem far_iff (hR:RIn g) (hs:∀ s ∈ ss,SIn s) (hp:Fits (dk g) p) (hq:Fits (dk g) q):farOf (farTo (rodOf g) ⟨o,ss.map strokeOf⟩ q) p = some c ↔ Far3 g ss (pad q) (pad p) c:=by
  rw [far_some (by rw [rod_dk hR]; exact hp)]
  unfold Far3
  constructor
  . rintro ⟨h1,h2⟩
    exact ⟨(way_iff hR hs hp hq).mp h1,fun c' x => h2 c' ((way_iff hR hs hp hq).mpr x)⟩
  . rintro ⟨h1,h2⟩
    exact ⟨(way_iff hR hs hp hq).mpr h1,fun c' x => h2 c' ((way_iff hR hs hp hq).mp x)⟩
theorem far_no (hR:RIn g) (hs:∀ s ∈ ss,SIn s) (hp:Fits (dk g) p) (hq:Fits (dk g) q) (h:∀ c,¬ Way3 g ss (pad q) (pad p) c):farOf (farTo (rodOf g) ⟨o,ss.map strokeOf⟩ q) p = none:=by
  rw [far_none (by rw [rod_dk hR]; exact hp)]
  exact fun c x => h c ((way_iff hR hs hp hq).mp x)
end
def Hit (g:List Nat) (ss:List (List Nat)) (q t:List Nat) (c:Nat) (x:Step) (u:List Nat) (d:Nat):Prop:=∃ st,ss[x.1]? = some st /\ stroke3 (bsOf g) t st x.2.1 x.2.2 = some u /\ c = st.getD 6 0 + d /\ Far3 g ss q u d
inductive First3 (g:List Nat) (ss:List (List Nat)) (q:List Nat):List Nat -> Nat -> List Step -> Prop
  | done {t:List Nat}:First3 g ss q t 0 []
  | more {t u:List Nat} {c d j:Nat} {x:Step} {l:List Step}:c ≠ 0 -> (acts3 ss)[j]? = some x -> Hit g ss q t c x u d -> (∀ i y,i < j -> (acts3 ss)[i]? = some y -> ∀ v e,¬ Hit g ss q t c y v e) -> First3 g ss q u d l -> First3 g ss q t c (x :: l)
section
variable {g:List Nat} {ss:List (List Nat)} {o:Nat} {q:Push}
theorem goes_skip (hR:RIn g) (hs:∀ s ∈ ss,SIn s) (hq:Fits (dk g) q) {p:Push} (hp:Fits (dk g) p) {c:Nat} {y:Step} {l:List Step} (h:∀ v e,¬ Hit g ss (pad q) (pad p) c y v e) :
    goes (rodOf g) ⟨o,ss.map strokeOf⟩ (farTo (rodOf g) ⟨o,ss.map strokeOf⟩ q) p c (y :: l) = goes (rodOf g) ⟨o,ss.map strokeOf⟩ (farTo (rodOf g) ⟨o,ss.map strokeOf⟩ q) p c l:=by
  rw [goes]
  dsimp only
  rw [List.getElem?_map,rod_dk hR]
  cases e1:ss[y.1]? with
  | none => rfl
  | some st =>
    dsimp only [Option.map_some]
    have k:=stroke_pad hR hp (hs st (List.mem_of_getElem? e1)) y.2.1 y.2.2
    have k:stroke3 (bsOf g) (pad p) st y.2.1 y.2.2 = (strokeOn (dk g) (strokeOf st) y.2.1 y.2.2 p).map pad:=k
    cases e2:strokeOn (dk g) (strokeOf st) y.2.1 y.2.2 p with
    | none => rfl
    | some u =>
      dsimp only
      rw [e2] at k
      rw [if_neg]
      rintro ⟨z1,z2⟩
      have z1:st.getD 6 0 <= c:=z1
      have z2:=(far_iff hR hs (stroke_fits hp e2) hq).mp z2
      exact h (pad u) (c - st.getD 6 0) ⟨st,e1,k,by omega,z2⟩
theorem goes_hit (hR:RIn g) (hs:∀ s ∈ ss,SIn s) (hq:Fits (dk g) q) {p:Push} (hp:Fits (dk g) p) {c d:Nat} {x:Step} {t:List Nat} {l:List Step} (h:Hit g ss (pad q) (pad p) c x t d) :
    ∃ u,Fits (dk g) u /\ pad u = t /\ goes (rodOf g) ⟨o,ss.map strokeOf⟩ (farTo (rodOf g) ⟨o,ss.map strokeOf⟩ q) p c (x :: l) = some (x,u,d):=by
  obtain ⟨st,e1,et,ec,ef⟩:=h
  have k:=stroke_pad hR hp (hs st (List.mem_of_getElem? e1)) x.2.1 x.2.2
  have k:stroke3 (bsOf g) (pad p) st x.2.1 x.2.2 = (strokeOn (dk g) (strokeOf st) x.2.1 x.2.2 p).map pad:=k
  rw [et] at k
  cases e2:strokeOn (dk g) (strokeOf st) x.2.1 x.2.2 p with
  | none =>
    rw [e2] at k
    cases k
  | some u =>
    rw [e2] at k
    have k:t = pad u:=Option.some.inj k
    have hu:=stroke_fits hp e2
    refine ⟨u,hu,k.symm,?_⟩
    rw [goes]
    dsimp only
    rw [List.getElem?_map,e1,rod_dk hR]
    dsimp only [Option.map_some]
    rw [e2]
    dsimp only
    rw [k] at ef
    have ef2:=(far_iff (o:=o) hR hs hu hq).mpr ef
    have e3:(strokeOf st).cost = st.getD 6 0:=rfl
    rw [e3,show c - st.getD 6 0 = d by omega,if_pos ⟨by omega,ef2⟩]
theorem goes_at (hR:RIn g) (hs:∀ s ∈ ss,SIn s) (hq:Fits (dk g) q) {p:Push} (hp:Fits (dk g) p) {c d:Nat} {x:Step} {t:List Nat} (h:Hit g ss (pad q) (pad p) c x t d):∀ (l:List Step) (j:Nat),l[j]? = some x -> (∀ i y,i < j -> l[i]? = some y -> ∀ v e,¬ Hit g ss (pad q) (pad p) c y v e) ->
    ∃ u,Fits (dk g) u /\ pad u = t /\ goes (rodOf g) ⟨o,ss.map strokeOf⟩ (farTo (rodOf g) ⟨o,ss.map strokeOf⟩ q) p c l = some (x,u,d)
  | [],j,e,_ => by simp at e
  | y :: l,0,e,_ => by
    cases e
    exact goes_hit hR hs hq hp h
  | y :: l,j + 1,e,hn => by
    rw [goes_skip hR hs hq hp (hn 0 y (by omega) rfl)]
    exact goes_at hR hs hq hp h l j e fun i z hi ez => hn (i + 1) z (by omega) ez
theorem first_pad (hR:RIn g) (hs:∀ s ∈ ss,SIn s) (hq:Fits (dk g) q) {t:List Nat} {c:Nat} {l:List Step} (x:First3 g ss (pad q) t c l):∀ p,pad p = t -> Fits (dk g) p -> ∀ n,c <= n -> first (rodOf g) ⟨o,ss.map strokeOf⟩ (farTo (rodOf g) ⟨o,ss.map strokeOf⟩ q) n p c = l:=by
  induction x with
  | done =>
    intro p _ _ n _
    cases n with
    | zero => rfl
    | succ n => rw [first,if_pos rfl]
  | @more t u c d j x l c0 ej hh hn _ ih =>
    intro p e hp n hc
    subst e
    obtain ⟨v,hv,ev,eg⟩:=goes_at (o:=o) hR hs hq hp hh _ j ej hn
    obtain ⟨st,e1,_,ec,_⟩:=hh
    have h1:1 <= st.getD 6 0:=(hs st (List.mem_of_getElem? e1)).2.2.2.2.2.1
    cases n with
    | zero => omega
    | succ n =>
      rw [first,if_neg c0,acts_eq,eg]
      dsimp only
      rw [ih v ev hv n (by omega)]
end
def placed (w:Nat) (o:Bool) (l:List Step):List Step:=if o = true then (if w = 0 then (0,0,0) :: l else l ++ [(0,0,0)]) else l
section
variable {g:List Nat} {ss:List (List Nat)} {o:Nat} {w op d x:Nat}
theorem acts_pos:∀ {ss:List (List Nat)} {i:Nat} {s:Step},s ∈ actsFrom i ss -> s.2.1 ≠ 0
  | [],_,_,h => by simp [actsFrom] at h
  | st :: ss,i,s,h => by
    rw [actsFrom] at h
    rcases List.mem_append.mp h with h | h
    . obtain ⟨n,_,h⟩:=List.mem_flatMap.mp h
      by_cases c:st.getD 4 0 = 0
      . rw [if_pos c,List.mem_singleton] at h
        rw [h]
        simp
      . rw [if_neg c] at h
        obtain ⟨k,_,rfl⟩:=List.mem_map.mp h
        simp
    . exact acts_pos h
theorem first_acts {q t:List Nat} {c:Nat} {l:List Step} (h:First3 g ss q t c l):∀ s ∈ l,s.2.1 ≠ 0:=by
  induction h with
  | done =>
    intro s hs
    simp at hs
  | more _ ej _ _ _ ih =>
    intro s hs
    rcases List.mem_cons.mp hs with rfl | hs
    . exact acts_pos (List.mem_of_getElem? ej)
    . exact ih s hs
theorem rule_no (hR:RIn g) (hW:Whole g) (hs:∀ s ∈ ss,SIn s) (hx:x < g.getD 0 0) (h:∀ c,¬ Way3 g ss (formR g (after op (g.getD 0 0) d x)) (formR g x) c):bestRule (rodOf g) ⟨o,ss.map strokeOf⟩ w op d x = none:=by
  rw [rule_one]
  have f1:=form_fits hR hW hx
  have f2:=form_fits hR hW (after_lt (op:=op) (q:=g.getD 0 0) (d:=d) (x:=x) (by omega))
  rw [show (rodOf g).ratio = g.getD 0 0 from rfl,far_no hR hs f1 f2 h]
  rfl
theorem rule_yes (hR:RIn g) (hW:Whole g) (hs:∀ s ∈ ss,SIn s) (hx:x < g.getD 0 0) {c:Nat} {l:List Step} (h1:Far3 g ss (formR g (after op (g.getD 0 0) d x)) (formR g x) c) (h2:First3 g ss (formR g (after op (g.getD 0 0) d x)) (formR g x) c l) :
    bestRule (rodOf g) ⟨o,ss.map strokeOf⟩ w op d x = some ((placed w (over op (g.getD 0 0) d x) l).map mv):=by
  rw [rule_one]
  have f1:=form_fits hR hW hx
  have f2:=form_fits hR hW (after_lt (op:=op) (q:=g.getD 0 0) (d:=d) (x:=x) (by omega))
  rw [show (rodOf g).ratio = g.getD 0 0 from rfl,(far_iff hR hs f1 f2).mpr h1,Option.map_some]
  dsimp only
  rw [first_pad hR hs f2 h2 _ rfl f1 c (Nat.le_refl c)]
  have e:(l.map fun y => Move.act y.1 y.2.1 y.2.2) = l.map mv:=List.map_congr_left fun s hs => (if_neg (first_acts h2 s hs)).symm
  rw [e]
  unfold placed
  congr 1
  by_cases z:over op (g.getD 0 0) d x = true
  . rw [if_pos z,if_pos z]
    by_cases k:w = 0
    . rw [if_pos k,if_pos k]
      rfl
    . rw [if_neg k,if_neg k,List.map_append]
      rfl
  . rw [if_neg z,if_neg z]
theorem far_exists {q t:List Nat} {c:Nat} (h:Way3 g ss q t c):∃ c',Far3 g ss q t c':=by
  induction c using Nat.strongRecOn with
  | _ c ih =>
    by_cases z:∃ c',c' < c /\ Way3 g ss q t c'
    . obtain ⟨c',hc,hw⟩:=z
      exact ih c' hc hw
    . exact ⟨c,h,fun c' hw => Nat.le_of_not_lt fun k => z ⟨c',k,hw⟩⟩
theorem far_one {q t:List Nat} {c c':Nat} (h:Far3 g ss q t c) (h':Far3 g ss q t c'):c = c':=Nat.le_antisymm (h.2 c' h'.1) (h'.2 c h.1)
end
def tellFrom (r:Rod) (h:Hand) (w:Nat) (acc:List Nat) (L:List (Nat × (Nat × Nat))):List Int:=match bestFrom r h w L with
  | .error e => (if e.2 = true then -2 else -8) :: BkNeutral.ints e.1
  | .ok b => 0 :: BkNeutral.ints (acc ++ b.flatMap An.ruleNums)
section
variable {r:Rod} {h:Hand} {w:Nat} {acc:List Nat} {L:List (Nat × (Nat × Nat))} {op d x:Nat} {n:List Move}
theorem tell_start:An.tellB (bestBook r h w) = tellFrom r h w [] (Na.cases r):=by
  unfold tellFrom bestBook
  cases bestFrom r h w (Na.cases r) <;> rfl
theorem tell_end:tellFrom r h w acc [] = 0 :: BkNeutral.ints acc:=by
  show 0 :: BkNeutral.ints (acc ++ []) = _
  rw [List.append_nil]
theorem tell_none (e:bestRule r h w op d x = none):tellFrom r h w acc ((op,d,x) :: L) = -2 :: BkNeutral.ints [op,d,x]:=by
  unfold tellFrom
  rw [bestFrom]
  dsimp only
  rw [e]
  rfl
theorem tell_long (e:bestRule r h w op d x = some n) (hn:10 < n.length):tellFrom r h w acc ((op,d,x) :: L) = -8 :: BkNeutral.ints [op,d,x]:=by
  unfold tellFrom
  rw [bestFrom]
  dsimp only
  rw [e]
  dsimp only
  rw [if_pos (show MOVES < n.length from hn)]
  rfl
theorem tell_more (e:bestRule r h w op d x = some n) (hn:¬ 10 < n.length):tellFrom r h w acc ((op,d,x) :: L) = tellFrom r h w (acc ++ An.ruleNums ⟨op,d,x,n⟩) L:=by
  unfold tellFrom
  rw [bestFrom]
  dsimp only
  rw [e]
  dsimp only
  rw [if_neg (show ¬ MOVES < n.length from hn)]
  cases bestFrom r h w L with
  | error e => rfl
  | ok b =>
    show 0 :: BkNeutral.ints (acc ++ (An.ruleNums ⟨op,d,x,n⟩ ++ b.flatMap An.ruleNums)) = _
    rw [<- List.append_assoc]
end
def row3 (op d x:Nat) (l:List Step):List Nat:=[op,d,x,l.length] ++ l.flatMap fun s => [s.1,s.2.1,s.2.2]
theorem moves3:∀ {l:List Step},(∀ s ∈ l,StepIn s) -> (l.map mv).flatMap moveNumbers = l.flatMap fun s => [s.1,s.2.1,s.2.2]
  | [],_ => rfl
  | s :: l,h => by
    have hs:=h s (List.mem_cons_self ..)
    rw [List.map_cons,List.flatMap_cons,List.flatMap_cons,moves3 fun s k => h s (List.mem_cons_of_mem _ k)]
    congr 1
    unfold mv
    by_cases c:s.2.1 = 0
    . obtain ⟨h1,h2⟩:=hs c
      rw [if_pos c,h1,c,h2]
      rfl
    . rw [if_neg c]
      rfl
theorem placed_in {g:List Nat} {ss:List (List Nat)} {q t:List Nat} {c:Nat} {l:List Step} (h:First3 g ss q t c l) (w:Nat) (o:Bool):∀ s ∈ placed w o l,StepIn s:=by
  have hl:∀ s ∈ l,StepIn s:=fun s hs z => absurd z (first_acts h s hs)
  have h0:StepIn (0,0,0):=fun _ => ⟨rfl,rfl⟩
  intro s hs
  unfold placed at hs
  by_cases z:o = true
  . rw [if_pos z] at hs
    by_cases k:w = 0
    . rw [if_pos k] at hs
      rcases List.mem_cons.mp hs with rfl | hs
      . exact h0
      . exact hl s hs
    . rw [if_neg k] at hs
      rcases List.mem_append.mp hs with hs | hs
      . exact hl s hs
      . rw [List.mem_singleton.mp hs]
        exact h0
  . rw [if_neg z] at hs
    exact hl s hs
theorem nums3 {op d x:Nat} {l:List Step} (h:∀ s ∈ l,StepIn s):An.ruleNums ⟨op,d,x,l.map mv⟩ = row3 op d x l:=by
  unfold An.ruleNums row3
  dsimp only
  rw [moves3 h,List.length_map]
theorem cases_eq (g:List Nat):Na.cases (rodOf g) = [0,1].flatMap fun op => (List.range' 1 (g.getD 0 0 - 1)).flatMap fun d => (List.range (g.getD 0 0)).map fun x => (op,d,x):=by
  unfold Na.cases
  rw [filter_range]
  rfl
end Pd
set_option Elab.async false
namespace Gd
open Na Rm
def pl3 (A B x y z:Nat):Nat:=x + A * (y + B * z)
theorem pl_mod {A B x y z:Nat} (hx:x < A):pl3 A B x y z % A = x:=by
  unfold pl3
  rw [Nat.add_mul_mod_self_left,Nat.mod_eq_of_lt hx]
theorem pl_div {A B x y z:Nat} (hx:x < A):pl3 A B x y z / A = y + B * z:=by
  unfold pl3
  rw [Nat.add_mul_div_left _ _ (by omega),Nat.div_eq_of_lt hx,Nat.zero_add]
theorem pl_modB {A B x y z:Nat} (hx:x < A) (hy:y < B):pl3 A B x y z % (A * B) = x + A * y:=by
  unfold pl3
  have e:x + A * (y + B * z) = (x + A * y) + (A * B) * z:=by
    rw [Nat.mul_add,Nat.mul_assoc]
    omega
  rw [e,Nat.add_mul_mod_self_left,Nat.mod_eq_of_lt]
  have:A * y + A <= A * B:=by
    have:=Nat.mul_le_mul_left A (show y + 1 <= B by omega)
    rwa [Nat.mul_add,Nat.mul_one] at this
  omega
theorem pl_lt {A B C x y z:Nat} (hx:x < A) (hy:y < B) (hz:z < C):pl3 A B x y z < A * B * C:=by
  unfold pl3
  have h1:y + B * z < B * C:=by
    have:=Nat.mul_le_mul_left B (show z + 1 <= C by omega)
    rw [Nat.mul_add,Nat.mul_one] at this
    omega
  have h2:=Nat.mul_le_mul_left A (show y + B * z + 1 <= B * C by omega)
  rw [Nat.mul_add,Nat.mul_one,<- Nat.mul_assoc] at h2
  omega
theorem pl_inj {A B x y z x' y' z':Nat} (hx:x < A) (hx':x' < A) (hy:y < B) (hy':y' < B) (h:pl3 A B x y z = pl3 A B x' y' z'):x = x' /\ y = y' /\ z = z':=by
  have e1:x = x':=by
    have:=congrArg (· % A) h
    rwa [pl_mod hx,pl_mod hx'] at this
  have e2:y + B * z = y' + B * z':=by
    have:=congrArg (· / A) h
    rwa [pl_div hx,pl_div hx'] at this
  have e3:y = y':=by
    have:=congrArg (· % B) e2
    rwa [Nat.add_mul_mod_self_left,Nat.add_mul_mod_self_left,Nat.mod_eq_of_lt hy,Nat.mod_eq_of_lt hy'] at this
  refine ⟨e1,e3,?_⟩
  rw [e3] at e2
  have hB:0 < B:=by omega
  exact Nat.eq_of_mul_eq_mul_left hB (by omega)
theorem pl_of {A B C n:Nat} (h:n < A * B * C):∃ x y z,x < A /\ y < B /\ z < C /\ n = pl3 A B x y z:=by
  have hA:0 < A:=by
    rcases Nat.eq_zero_or_pos A with z | z
    . rw [z,Nat.zero_mul,Nat.zero_mul] at h
      omega
    . exact z
  have hB:0 < B:=by
    rcases Nat.eq_zero_or_pos B with z | z
    . rw [z,Nat.mul_zero,Nat.zero_mul] at h
      omega
    . exact z
  refine ⟨n % A,n / A % B,n / A / B,Nat.mod_lt _ hA,Nat.mod_lt _ hB,?_,?_⟩
  . rw [Nat.div_div_eq_div_mul]
    exact Nat.div_lt_of_lt_mul h
  . unfold pl3
    rw [Nat.mod_add_div,Nat.mod_add_div]
def ones (B:Nat):Nat -> Nat
  | 0 => 0
  | m + 1 => ones B m ||| (1 <<< (m * B))
def rep (B c:Nat):Nat -> Nat
  | 0 => 0
  | m + 1 => 2 ^ (m * B) * c + rep B c m
theorem rep_lt {B c:Nat} (hc:c < 2 ^ B):∀ m,rep B c m < 2 ^ (m * B)
  | 0 => by
    show 0 < 2 ^ (0 * B)
    exact Nat.two_pow_pos _
  | m + 1 => by
    have ih:=rep_lt hc m
    show 2 ^ (m * B) * c + rep B c m < 2 ^ ((m + 1) * B)
    rw [Nat.add_mul,Nat.one_mul,Nat.pow_add]
    have:=Nat.mul_le_mul_left (2 ^ (m * B)) (show c + 1 <= 2 ^ B by omega)
    rw [Nat.mul_add,Nat.mul_one] at this
    omega
theorem ones_rep {B:Nat} (hB:0 < B):∀ m,ones B m = rep B 1 m
  | 0 => rfl
  | m + 1 => by
    have h1:(1:Nat) < 2 ^ B:=Nat.one_lt_two_pow (by omega)
    have hl:=rep_lt h1 m
    show ones B m ||| (1 <<< (m * B)) = 2 ^ (m * B) * 1 + rep B 1 m
    rw [ones_rep hB m,Nat.two_pow_add_eq_or_of_lt hl,Nat.mul_one,Nat.shiftLeft_eq,Nat.one_mul,Nat.or_comm]
theorem rep_mul (B c:Nat):∀ m,rep B 1 m * c = rep B c m
  | 0 => by simp [rep]
  | m + 1 => by
    show (2 ^ (m * B) * 1 + rep B 1 m) * c = 2 ^ (m * B) * c + rep B c m
    rw [Nat.add_mul,rep_mul B c m,Nat.mul_one]
theorem rep_bit {B c:Nat} (hB:0 < B) (hc:c < 2 ^ B):∀ (m n:Nat),(rep B c m).testBit n = (decide (n / B < m) && c.testBit (n % B))
  | 0,n => by simp [rep]
  | m + 1,n => by
    show (2 ^ (m * B) * c + rep B c m).testBit n = _
    rw [Nat.testBit_two_pow_mul_add _ (rep_lt hc m)]
    by_cases h:n < m * B
    . rw [if_pos h,rep_bit hB hc m n]
      have h1:n / B < m:=Nat.div_lt_of_lt_mul (by rw [Nat.mul_comm]; exact h)
      rw [decide_eq_true h1,decide_eq_true (show n / B < m + 1 by omega)]
    . rw [if_neg h]
      have h1:m <= n / B:=(Nat.le_div_iff_mul_le hB).mpr (by omega)
      by_cases h2:n / B = m
      . rw [decide_eq_true (show n / B < m + 1 by omega),Bool.true_and]
        congr 1
        have:=Nat.div_add_mod n B
        rw [h2,Nat.mul_comm] at this
        omega
      . rw [decide_eq_false (show ¬ n / B < m + 1 by omega),Bool.false_and]
        refine Nat.testBit_lt_two_pow (Nat.lt_of_lt_of_le hc (Nat.pow_le_pow_right (by decide) ?_))
        have h3:(m + 1) * B <= n:=(Nat.le_div_iff_mul_le hB).mp (by omega)
        rw [Nat.add_mul,Nat.one_mul] at h3
        omega
theorem room_bit {B w m n:Nat} (hB:0 < B) (hw:w <= B):(ones B m * (2 ^ w - 1)).testBit n = (decide (n / B < m) && decide (n % B < w)):=by
  have hc:2 ^ w - 1 < 2 ^ B:=by
    have:=Nat.pow_le_pow_right (n:=2) (by decide) hw
    have:=Nat.two_pow_pos w
    omega
  rw [ones_rep hB,rep_mul,rep_bit hB hc,Nat.testBit_two_pow_sub_one]
def str (g:List Nat):Nat -> Nat
  | 0 => 1
  | d + 1 => str g d * (beOf g d + 1)
def all (g:List Nat):Nat:=(beOf g 0 + 1) * (beOf g 1 + 1) * (beOf g 2 + 1)
theorem str1 (g:List Nat):str g 1 = beOf g 0 + 1:=by simp [str]
theorem str2 (g:List Nat):str g 2 = (beOf g 0 + 1) * (beOf g 1 + 1):=by simp [str]
theorem str3 (g:List Nat):str g 3 = all g:=by simp [str,all]
def pl (g p:List Nat):Nat:=pl3 (beOf g 0 + 1) (beOf g 1 + 1) (p.getD 0 0) (p.getD 1 0) (p.getD 2 0)
def Fit (g p:List Nat):Prop:=p.length = 3 /\ ∀ d,d < 3 -> p.getD d 0 <= beOf g d
theorem fit_of {g:List Nat} {x y z:Nat} (hx:x <= beOf g 0) (hy:y <= beOf g 1) (hz:z <= beOf g 2):Fit g [x,y,z]:=⟨rfl,fun d hd => by
  match d,hd with
  | 0,_ => exact hx
  | 1,_ => exact hy
  | 2,_ => exact hz⟩
theorem Fit.eq {g p:List Nat} (h:Fit g p):p = [p.getD 0 0,p.getD 1 0,p.getD 2 0]:=by
  match p,h.1 with
  | [_,_,_],_ => rfl
theorem Fit.lt {g p:List Nat} (h:Fit g p):pl g p < all g:=by
  have h0:=h.2 0 (by decide)
  have h1:=h.2 1 (by decide)
  have h2:=h.2 2 (by decide)
  exact pl_lt (by omega) (by omega) (by omega)
theorem Fit.inj {g p q:List Nat} (h:Fit g p) (h':Fit g q) (e:pl g p = pl g q):p = q:=by
  have h0:=h.2 0 (by decide)
  have h1:=h.2 1 (by decide)
  have h0':=h'.2 0 (by decide)
  have h1':=h'.2 1 (by decide)
  obtain ⟨e0,e1,e2⟩:=pl_inj (by omega) (by omega) (by omega) (by omega) e
  rw [h.eq,h'.eq,e0,e1,e2]
theorem pl_fit {g:List Nat} {n:Nat} (h:n < all g):∃ p,Fit g p /\ n = pl g p:=by
  obtain ⟨x,y,z,hx,hy,hz,e⟩:=pl_of h
  exact ⟨[x,y,z],fit_of (by omega) (by omega) (by omega),e⟩
theorem Fit.set {g p:List Nat} (h:Fit g p) {d v:Nat} (hd:d < 3) (hv:v <= beOf g d):Fit g (p.set d v):=by
  refine ⟨by rw [List.length_set]; exact h.1,fun e he => ?_⟩
  rw [List.getD_eq_getElem?_getD,List.getElem?_set]
  by_cases z:d = e
  . rw [if_pos z,if_pos (by rw [h.1]; exact hd)]
    rw [<- z]
    exact hv
  . rw [if_neg z,<- List.getD_eq_getElem?_getD]
    exact h.2 e he
theorem pl_up {g p:List Nat} {d k:Nat} (hl:p.length = 3) (hd:d < 3):pl g (p.set d (p.getD d 0 + k)) = pl g p + k * str g d:=by
  match p,hl with
  | [x,y,z],_ =>
    have e:d = 0 \/ d = 1 \/ d = 2:=by omega
    rcases e with rfl | rfl | rfl
    . show (x + k) + (beOf g 0 + 1) * (y + (beOf g 1 + 1) * z) = x + (beOf g 0 + 1) * (y + (beOf g 1 + 1) * z) + k * 1
      omega
    . show x + (beOf g 0 + 1) * ((y + k) + (beOf g 1 + 1) * z) = x + (beOf g 0 + 1) * (y + (beOf g 1 + 1) * z) + k * str g 1
      rw [str1,show (y + k) + (beOf g 1 + 1) * z = (y + (beOf g 1 + 1) * z) + k by omega,Nat.mul_add,Nat.mul_comm k]
      omega
    . show x + (beOf g 0 + 1) * (y + (beOf g 1 + 1) * (z + k)) = x + (beOf g 0 + 1) * (y + (beOf g 1 + 1) * z) + k * str g 2
      rw [str2,Nat.mul_add (beOf g 1 + 1),<- Nat.add_assoc,Nat.mul_add (beOf g 0 + 1) (y + _),Nat.mul_comm k,Nat.mul_assoc]
      omega
theorem set_self {p:List Nat} {d:Nat} (hl:p.length = 3) (hd:d < 3):p.set d (p.getD d 0) = p:=by
  match p,hl with
  | [x,y,z],_ =>
    have e:d = 0 \/ d = 1 \/ d = 2:=by omega
    rcases e with rfl | rfl | rfl <;> rfl
theorem get_set {p:List Nat} {d v:Nat} (hl:p.length = 3) (hd:d < 3):(p.set d v).getD d 0 = v:=by
  rw [List.getD_eq_getElem?_getD,List.getElem?_set_self (by omega)]
  rfl
theorem pl_down {g p:List Nat} {d k:Nat} (hl:p.length = 3) (hd:d < 3) (hk:k <= p.getD d 0):pl g (p.set d (p.getD d 0 - k)) + k * str g d = pl g p:=by
  have h:=pl_up (g:=g) (p:=p.set d (p.getD d 0 - k)) (d:=d) (k:=k) (by rw [List.length_set]; exact hl) hd
  rw [get_set hl hd,List.set_set,Nat.sub_add_cancel hk,set_self hl hd] at h
  exact h.symm
def room (g:List Nat) (d k:Nat):Nat:=ones (str g (d + 1)) (all g / str g (d + 1)) * (2 ^ ((beOf g d + 1 - k) * str g d) - 1)
theorem str_pos (g:List Nat):∀ d,0 < str g d
  | 0 => Nat.one_pos
  | d + 1 => Nat.mul_pos (str_pos g d) (Nat.succ_pos _)
theorem all_div {g:List Nat} {d n:Nat} (hd:d < 3) (hn:n < all g):n / str g (d + 1) < all g / str g (d + 1):=by
  have hdv:str g (d + 1) ∣ all g:=by
    have e:d = 0 \/ d = 1 \/ d = 2:=by omega
    rcases e with rfl | rfl | rfl
    . rw [str1]
      exact ⟨(beOf g 1 + 1) * (beOf g 2 + 1),by unfold all; rw [Nat.mul_assoc]⟩
    . rw [str2]
      exact ⟨beOf g 2 + 1,rfl⟩
    . rw [str3]
      exact Nat.dvd_refl _
  rw [Nat.div_lt_iff_lt_mul (str_pos g _),Nat.div_mul_cancel hdv]
  exact hn
theorem room_at {g p:List Nat} {d k:Nat} (hd:d < 3) (h:Fit g p):(room g d k).testBit (pl g p) = decide (p.getD d 0 + k <= beOf g d):=by
  have hB:=str_pos g (d + 1)
  have hw:(beOf g d + 1 - k) * str g d <= str g (d + 1):=by
    show _ <= str g d * (beOf g d + 1)
    rw [Nat.mul_comm (str g d)]
    exact Nat.mul_le_mul_right _ (by omega)
  unfold room
  rw [room_bit hB hw,decide_eq_true (all_div hd h.lt),Bool.true_and]
  have h0:=h.2 0 (by decide)
  have h1:=h.2 1 (by decide)
  have h2:=h.2 2 (by decide)
  have key:pl g p % str g (d + 1) < (beOf g d + 1 - k) * str g d ↔ p.getD d 0 + k <= beOf g d:=by
    have lem:∀ (x A y w:Nat),x < A -> (x + A * y < w * A ↔ y < w):=fun x A y w hx => by
      constructor
      . intro z
        refine Classical.byContradiction fun c => ?_
        have:=Nat.mul_le_mul_left A (show w <= y by omega)
        rw [Nat.mul_comm w] at z
        omega
      . intro z
        have:=Nat.mul_le_mul_left A (show y + 1 <= w by omega)
        rw [Nat.mul_add,Nat.mul_one,Nat.mul_comm A w] at this
        omega
    have e:d = 0 \/ d = 1 \/ d = 2:=by omega
    rcases e with rfl | rfl | rfl
    . rw [str1]
      unfold pl
      rw [pl_mod (by omega)]
      show _ < _ * 1 ↔ _
      omega
    . rw [str2,str1]
      unfold pl
      rw [pl_modB (by omega) (by omega),lem _ _ _ _ (by omega)]
      omega
    . rw [str3,Nat.mod_eq_of_lt h.lt,str2]
      have e2:pl g p = (p.getD 0 0 + (beOf g 0 + 1) * p.getD 1 0) + ((beOf g 0 + 1) * (beOf g 1 + 1)) * p.getD 2 0:=by
        unfold pl pl3
        rw [Nat.mul_add,<- Nat.mul_assoc]
        omega
      rw [e2,lem]
      . omega
      . have:=Nat.mul_le_mul_left (beOf g 0 + 1) (show p.getD 1 0 + 1 <= beOf g 1 + 1 by omega)
        rw [Nat.mul_add,Nat.mul_one] at this
        omega
  rw [Bool.eq_iff_iff,decide_eq_true_iff,decide_eq_true_iff]
  exact key
def Is (g:List Nat) (N:Nat) (S:List Nat -> Prop):Prop:=(∀ n,all g <= n -> N.testBit n = false) /\ ∀ p,Fit g p -> (N.testBit (pl g p) = true ↔ S p)
theorem Is.lt {g:List Nat} {N:Nat} {S:List Nat -> Prop} (h:Is g N S):N < 2 ^ all g:=Nat.lt_pow_two_of_testBit N fun i hi => h.1 i hi
theorem Is.mono {g:List Nat} {N:Nat} {S S':List Nat -> Prop} (h:Is g N S) (e:∀ p,Fit g p -> (S p ↔ S' p)):Is g N S':=⟨h.1,fun p hp => (h.2 p hp).trans (e p hp)⟩
theorem Is.zero {g:List Nat}:Is g 0 fun _ => False:=⟨fun n _ => Nat.zero_testBit n,fun p _ => by simp⟩
theorem Is.none {g:List Nat} {N:Nat} {S:List Nat -> Prop} (h:Is g N S):N = 0 ↔ ∀ p,Fit g p -> ¬ S p:=by
  constructor
  . intro z p hp hs
    have:=(h.2 p hp).mpr hs
    rw [z] at this
    simp at this
  . intro z
    refine Nat.eq_of_testBit_eq fun n => ?_
    rw [Nat.zero_testBit]
    by_cases c:n < all g
    . obtain ⟨p,hp,rfl⟩:=pl_fit c
      refine Bool.eq_false_iff.mpr fun y => z p hp ((h.2 p hp).mp y)
    . exact h.1 n (by omega)
theorem Is.only {g q:List Nat} (hq:Fit g q):Is g (1 <<< pl g q) fun p => p = q:=by
  have e:∀ n,(1 <<< pl g q).testBit n = decide (pl g q = n):=fun n => by
    rw [Nat.shiftLeft_eq,Nat.one_mul,Nat.testBit_two_pow]
  refine ⟨fun n hn => ?_,fun p hp => ?_⟩
  . rw [e]
    exact decide_eq_false (by have:=hq.lt; omega)
  . rw [e,decide_eq_true_iff]
    constructor
    . intro z
      exact (hq.inj hp z).symm
    . intro z
      rw [z]
theorem Is.or {g:List Nat} {N M:Nat} {S R:List Nat -> Prop} (h:Is g N S) (h':Is g M R):Is g (N ||| M) fun p => S p \/ R p:=by
  refine ⟨fun n hn => ?_,fun p hp => ?_⟩
  . rw [Nat.testBit_or,h.1 n hn,h'.1 n hn]
    rfl
  . rw [Nat.testBit_or,Bool.or_eq_true,h.2 p hp,h'.2 p hp]
theorem Is.and {g:List Nat} {N M:Nat} {S R:List Nat -> Prop} (h:Is g N S) (h':Is g M R):Is g (N &&& M) fun p => S p /\ R p:=by
  refine ⟨fun n hn => ?_,fun p hp => ?_⟩
  . rw [Nat.testBit_and,h.1 n hn]
    rfl
  . rw [Nat.testBit_and,Bool.and_eq_true,h.2 p hp,h'.2 p hp]
theorem Is.up {g:List Nat} {N d k:Nat} {S:List Nat -> Prop} (hd:d < 3) (h:Is g N S):Is g ((N >>> (k * str g d)) &&& room g d k) fun p => p.getD d 0 + k <= beOf g d /\ S (p.set d (p.getD d 0 + k)):=by
  refine ⟨fun n hn => ?_,fun p hp => ?_⟩
  . rw [Nat.testBit_and,Nat.testBit_shiftRight,h.1 _ (by omega)]
    rfl
  . rw [Nat.testBit_and,Nat.testBit_shiftRight,room_at hd hp,Bool.and_eq_true,decide_eq_true_iff,Nat.add_comm (k * str g d),<- pl_up hp.1 hd]
    constructor
    . rintro ⟨h1,h2⟩
      exact ⟨h2,(h.2 _ (hp.set hd h2)).mp h1⟩
    . rintro ⟨h1,h2⟩
      exact ⟨(h.2 _ (hp.set hd h1)).mpr h2,h1⟩
theorem Is.down {g:List Nat} {N d k:Nat} {S:List Nat -> Prop} (hd:d < 3) (h:Is g N S):Is g ((N &&& room g d k) <<< (k * str g d)) fun p => k <= p.getD d 0 /\ S (p.set d (p.getD d 0 - k)):=by
  have fwd:∀ n,((N &&& room g d k) <<< (k * str g d)).testBit n = true -> ∃ q,Fit g q /\ S q /\ q.getD d 0 + k <= beOf g d /\ n = pl g (q.set d (q.getD d 0 + k)):=fun n z => by
    rw [Nat.testBit_shiftLeft,Bool.and_eq_true,decide_eq_true_iff,Nat.testBit_and,Bool.and_eq_true] at z
    obtain ⟨z1,z2,z3⟩:=z
    have hlt:n - k * str g d < all g:=by
      refine Classical.byContradiction fun c => ?_
      rw [h.1 _ (by omega)] at z2
      cases z2
    obtain ⟨q,hq,e⟩:=pl_fit hlt
    rw [e] at z2 z3
    rw [room_at hd hq,decide_eq_true_iff] at z3
    refine ⟨q,hq,(h.2 q hq).mp z2,z3,?_⟩
    rw [pl_up hq.1 hd,<- e]
    omega
  refine ⟨fun n hn => Bool.eq_false_iff.mpr fun z => ?_,fun p hp => ?_⟩
  . obtain ⟨q,hq,_,h2,e⟩:=fwd n z
    have:=(hq.set hd h2).lt
    omega
  . constructor
    . intro z
      obtain ⟨q,hq,h1,h2,e⟩:=fwd _ z
      have e2:=hp.inj (hq.set hd h2) e
      rw [e2,get_set hq.1 hd,List.set_set,Nat.add_sub_cancel,set_self hq.1 hd]
      exact ⟨by omega,h1⟩
    . rintro ⟨h1,h2⟩
      have hb:=hp.2 d hd
      have hq:Fit g (p.set d (p.getD d 0 - k)):=hp.set hd (by omega)
      have hp1:=pl_down (g:=g) hp.1 hd h1
      rw [Nat.testBit_shiftLeft,Bool.and_eq_true,decide_eq_true_iff,Nat.testBit_and,Bool.and_eq_true]
      have e:pl g p - k * str g d = pl g (p.set d (p.getD d 0 - k)):=by omega
      rw [e,room_at hd hq,get_set hp.1 hd]
      exact ⟨by omega,(h.2 _ hq).mpr h2,decide_eq_true (by omega)⟩
def mv (g:List Nat) (d:Nat) (to_:Bool) (k:Nat) (S:List Nat -> Prop) (p:List Nat):Prop:=if to_ = true then p.getD d 0 + k <= beOf g d /\ S (p.set d (p.getD d 0 + k)) else k <= p.getD d 0 /\ S (p.set d (p.getD d 0 - k))
def mvN (g:List Nat) (d:Nat) (to_:Bool) (k N:Nat):Nat:=if to_ = true then (N >>> (k * str g d)) &&& room g d k else (N &&& room g d k) <<< (k * str g d)
theorem Is.mv {g:List Nat} {N d k:Nat} {to_:Bool} {S:List Nat -> Prop} (hd:d < 3) (h:Is g N S):Is g (mvN g d to_ k N) (mv g d to_ k S):=by
  unfold mvN Gd.mv
  cases to_ with
  | true => exact h.up hd
  | false => exact h.down hd
theorem mv_mv {g p:List Nat} {d a b:Nat} {to_:Bool} {S:List Nat -> Prop} (hl:p.length = 3) (hd:d < 3):mv g d to_ a (mv g d to_ b S) p ↔ mv g d to_ (a + b) S p:=by
  unfold mv
  cases to_ with
  | true =>
    simp only [if_true]
    rw [get_set hl hd,List.set_set,Nat.add_assoc]
    constructor
    . rintro ⟨_,h2,h3⟩
      exact ⟨h2,h3⟩
    . rintro ⟨h2,h3⟩
      exact ⟨by omega,h2,h3⟩
  | false =>
    simp only [Bool.false_eq_true,if_false]
    rw [get_set hl hd,List.set_set,Nat.sub_sub]
    constructor
    . rintro ⟨h1,h2,h3⟩
      exact ⟨by omega,h3⟩
    . rintro ⟨h2,h3⟩
      exact ⟨by omega,by omega,h3⟩
def Pre (g:List Nat) (d:Nat) (to_:Bool) (m:Nat) (S:List Nat -> Prop) (p:List Nat):Prop:=∃ k,(1 <= k /\ k <= m) /\ mv g d to_ k S p
theorem Is.pre1 {g:List Nat} {N d:Nat} {to_:Bool} {S:List Nat -> Prop} (hd:d < 3) (h:Is g N S):Is g (mvN g d to_ 1 N) (Pre g d to_ 1 S):=(h.mv hd).mono fun p _ => by
  constructor
  . intro z
    exact ⟨1,⟨by omega,by omega⟩,z⟩
  . rintro ⟨k,hk,z⟩
    have:k = 1:=by omega
    rw [<- this]
    exact z
theorem Is.preS {g:List Nat} {R d c more:Nat} {to_:Bool} {S:List Nat -> Prop} (hd:d < 3) (hm:more <= c) (h:Is g R (Pre g d to_ c S)):Is g (R ||| mvN g d to_ more R) (Pre g d to_ (c + more) S):=(h.or (h.mv (to_:=to_) (k:=more) hd)).mono fun p hp => by
  have key:Gd.mv g d to_ more (Pre g d to_ c S) p ↔ ∃ k,(1 <= k /\ k <= c) /\ Gd.mv g d to_ (more + k) S p:=by
    constructor
    . intro z
      have z2:∃ k,(1 <= k /\ k <= c) /\ Gd.mv g d to_ more (Gd.mv g d to_ k S) p:=by
        unfold Gd.mv at z
        cases to_ with
        | true =>
          simp only [if_true] at z
          obtain ⟨z1,k,hk,z2⟩:=z
          refine ⟨k,hk,?_⟩
          unfold Gd.mv
          simp only [if_true]
          exact ⟨z1,by unfold Gd.mv at z2; simpa using z2⟩
        | false =>
          simp only [Bool.false_eq_true,if_false] at z
          obtain ⟨z1,k,hk,z2⟩:=z
          refine ⟨k,hk,?_⟩
          unfold Gd.mv
          simp only [Bool.false_eq_true,if_false]
          exact ⟨z1,by unfold Gd.mv at z2; simpa using z2⟩
      obtain ⟨k,hk,z3⟩:=z2
      exact ⟨k,hk,(mv_mv hp.1 hd).mp z3⟩
    . rintro ⟨k,hk,z⟩
      have z:=(mv_mv hp.1 hd).mpr z
      unfold Gd.mv at z |-
      cases to_ with
      | true =>
        simp only [if_true] at z |-
        exact ⟨z.1,k,hk,by unfold Gd.mv; simpa using z.2⟩
      | false =>
        simp only [Bool.false_eq_true,if_false] at z |-
        exact ⟨z.1,k,hk,by unfold Gd.mv; simpa using z.2⟩
  rw [key]
  constructor
  . rintro (⟨k,hk,z⟩ | ⟨k,hk,z⟩)
    . exact ⟨k,⟨hk.1,by omega⟩,z⟩
    . exact ⟨more + k,⟨by omega,by omega⟩,z⟩
  . rintro ⟨k,hk,z⟩
    by_cases c1:k <= c
    . exact .inl ⟨k,⟨hk.1,c1⟩,z⟩
    . exact .inr ⟨k - more,⟨by omega,by omega⟩,by rw [show more + (k - more) = k by omega]; exact z⟩
theorem bs_at {g:List Nat} {d:Nat} (hd:d < 3):(bsOf g).getD d 0 = beOf g d:=by
  have e:d = 0 \/ d = 1 \/ d = 2:=by omega
  rcases e with rfl | rfl | rfl <;> rfl
theorem push_iff {g p u:List Nat} {d most k:Nat} {to_:Bool} (hp:Fit g p) (hd:d < 3):push3 (bsOf g) p d to_ most k = some u ↔ (1 <= k /\ k <= most) /\ mv g d to_ k (fun q => q = u) p:=by
  have hb:=hp.2 d hd
  unfold push3 mv
  rw [bs_at hd]
  cases to_ with
  | true =>
    simp only [if_true]
    by_cases c:(1 <= k /\ k <= most) /\ k <= beOf g d - p.getD d 0
    . rw [if_pos c]
      constructor
      . intro z
        exact ⟨c.1,by omega,Option.some.inj z⟩
      . rintro ⟨_,_,z⟩
        rw [z]
    . rw [if_neg c]
      constructor
      . intro z
        cases z
      . rintro ⟨h1,h2,_⟩
        exact absurd ⟨h1,by omega⟩ c
  | false =>
    simp only [Bool.false_eq_true,if_false]
    by_cases c:(1 <= k /\ k <= most) /\ k <= p.getD d 0
    . rw [if_pos c]
      constructor
      . intro z
        exact ⟨c.1,c.2,Option.some.inj z⟩
      . rintro ⟨_,_,z⟩
        rw [z]
    . rw [if_neg c]
      constructor
      . intro z
        cases z
      . rintro ⟨h1,h2,_⟩
        exact absurd ⟨h1,h2⟩ c
theorem pre_iff {g p:List Nat} {d most:Nat} {to_:Bool} {S:List Nat -> Prop} (hp:Fit g p) (hd:d < 3):Pre g d to_ most S p ↔ ∃ k u,push3 (bsOf g) p d to_ most k = some u /\ S u:=by
  constructor
  . rintro ⟨k,hk,z⟩
    unfold mv at z
    cases to_ with
    | true =>
      simp only [if_true] at z
      refine ⟨k,p.set d (p.getD d 0 + k),(push_iff hp hd).mpr ⟨hk,?_⟩,z.2⟩
      unfold mv
      simp only [if_true]
      exact ⟨z.1,trivial⟩
    | false =>
      simp only [Bool.false_eq_true,if_false] at z
      refine ⟨k,p.set d (p.getD d 0 - k),(push_iff hp hd).mpr ⟨hk,?_⟩,z.2⟩
      unfold mv
      simp only [Bool.false_eq_true,if_false]
      exact ⟨z.1,trivial⟩
  . rintro ⟨k,u,h1,h2⟩
    obtain ⟨hk,z⟩:=(push_iff hp hd).mp h1
    refine ⟨k,hk,?_⟩
    unfold mv at z |-
    cases to_ with
    | true =>
      simp only [if_true] at z |-
      exact ⟨z.1,by rw [z.2]; exact h2⟩
    | false =>
      simp only [Bool.false_eq_true,if_false] at z |-
      exact ⟨z.1,by rw [z.2]; exact h2⟩
theorem push_fit {g p u:List Nat} {d most k:Nat} {to_:Bool} (hp:Fit g p) (hd:d < 3) (h:push3 (bsOf g) p d to_ most k = some u):Fit g u:=by
  obtain ⟨hk,z⟩:=(push_iff hp hd).mp h
  have hb:=hp.2 d hd
  unfold mv at z
  cases to_ with
  | true =>
    simp only [if_true] at z
    rw [<- z.2]
    exact hp.set hd z.1
  | false =>
    simp only [Bool.false_eq_true,if_false] at z
    rw [<- z.2]
    exact hp.set hd (by omega)
def val (b a:Nat) (to_:Bool) (most n:Nat):Option Nat:=if (1 <= n /\ n <= most) /\ n <= (if to_ = true then b - a else a) then some (if to_ = true then a + n else a - n) else none
theorem push_val (bs p:List Nat) (d:Nat) (to_:Bool) (most n:Nat):push3 bs p d to_ most n = (val (bs.getD d 0) (p.getD d 0) to_ most n).map fun v => p.set d v:=by
  unfold push3 val
  by_cases c:(1 <= n /\ n <= most) /\ n <= (if to_ = true then bs.getD d 0 - p.getD d 0 else p.getD d 0)
  . rw [if_pos c,if_pos c]
    rfl
  . rw [if_neg c,if_neg c]
    rfl
theorem get_ne {p:List Nat} {d e v:Nat} (h:d ≠ e):(p.set d v).getD e 0 = p.getD e 0:=by
  rw [List.getD_eq_getElem?_getD,List.getElem?_set_ne h,<- List.getD_eq_getElem?_getD]
theorem push_comm {bs p u:List Nat} {d e m m' n k:Nat} {t t':Bool} (h:d ≠ e):(∃ v,push3 bs p d t m n = some v /\ push3 bs v e t' m' k = some u) ↔ ∃ v,push3 bs p e t' m' k = some v /\ push3 bs v d t m n = some u:=by
  constructor
  . rintro ⟨v,h1,h2⟩
    rw [push_val] at h1 h2
    obtain ⟨a,ha,rfl⟩:=Option.map_eq_some_iff.mp h1
    obtain ⟨b,hb,rfl⟩:=Option.map_eq_some_iff.mp h2
    rw [get_ne h] at hb
    refine ⟨p.set e b,by rw [push_val,hb]; rfl,?_⟩
    rw [push_val,get_ne (Ne.symm h),ha]
    show some ((p.set e b).set d a) = _
    rw [List.set_comm _ _ h]
  . rintro ⟨v,h1,h2⟩
    rw [push_val] at h1 h2
    obtain ⟨b,hb,rfl⟩:=Option.map_eq_some_iff.mp h1
    obtain ⟨a,ha,rfl⟩:=Option.map_eq_some_iff.mp h2
    rw [get_ne (Ne.symm h)] at ha
    refine ⟨p.set d a,by rw [push_val,ha]; rfl,?_⟩
    rw [push_val,get_ne h,hb]
    show some ((p.set d a).set e b) = _
    rw [List.set_comm _ _ (Ne.symm h)]
def Str (g s:List Nat) (S:List Nat -> Prop) (p:List Nat):Prop:=∃ n k u,stroke3 (bsOf g) p s n k = some u /\ S u
def two (s:List Nat):Prop:=¬ (s.getD 3 0 = 0 /\ s.getD 4 0 = 0 /\ s.getD 5 0 = 0)
theorem str_one {g s p:List Nat} {S:List Nat -> Prop} (hs:SIn s) (hp:Fit g p) (h:¬ two s):Str g s S p ↔ Pre g (s.getD 0 0) (s.getD 1 0 == 1) (s.getD 2 0) S p:=by
  have hz:s.getD 3 0 = 0 /\ s.getD 4 0 = 0 /\ s.getD 5 0 = 0:=Classical.byContradiction fun z => h z
  rw [pre_iff hp (by have:=hs.2.1; omega)]
  constructor
  . rintro ⟨n,k,u,h1,h2⟩
    unfold stroke3 at h1
    obtain ⟨v,e1,e2⟩:=Option.bind_eq_some_iff.mp h1
    rw [if_pos hz] at e2
    by_cases c:k = 0
    . rw [if_pos c] at e2
      cases e2
      exact ⟨n,_,e1,h2⟩
    . rw [if_neg c] at e2
      cases e2
  . rintro ⟨n,u,h1,h2⟩
    refine ⟨n,0,u,?_,h2⟩
    unfold stroke3
    rw [h1,Option.bind_some,if_pos hz,if_pos rfl]
theorem str_two {g s p:List Nat} {S:List Nat -> Prop} (hs:SIn s) (hp:Fit g p) (h:two s):Str g s S p ↔ Pre g (s.getD 3 0) (s.getD 4 0 == 1) (s.getD 5 0) (Pre g (s.getD 0 0) (s.getD 1 0 == 1) (s.getD 2 0) S) p:=by
  obtain ⟨a1,a2,a3,a4,a5⟩:=hs.2
  have a4:s.getD 3 0 <= 2 /\ (1 <= s.getD 4 0 /\ s.getD 4 0 <= 2) /\ (1 <= s.getD 5 0 /\ s.getD 5 0 <= 15) /\ s.getD 3 0 ≠ s.getD 0 0:=by
    rcases a4 with z | z
    . exact absurd z h
    . exact z
  rw [pre_iff hp (by omega)]
  constructor
  . rintro ⟨n,k,u,h1,h2⟩
    unfold stroke3 at h1
    obtain ⟨v,e1,e2⟩:=Option.bind_eq_some_iff.mp h1
    rw [if_neg h] at e2
    obtain ⟨v',f1,f2⟩:=(push_comm (Ne.symm a4.2.2.2)).mp ⟨v,e1,e2⟩
    exact ⟨k,v',f1,(pre_iff (push_fit hp (by omega) f1) (by omega)).mpr ⟨n,u,f2,h2⟩⟩
  . rintro ⟨k,v',f1,h2⟩
    obtain ⟨n,u,f2,h3⟩:=(pre_iff (push_fit hp (by omega) f1) (by omega)).mp h2
    obtain ⟨v,e1,e2⟩:=(push_comm (Ne.symm a4.2.2.2)).mpr ⟨v',f1,f2⟩
    refine ⟨n,k,u,?_,h3⟩
    unfold stroke3
    rw [e1,Option.bind_some,if_neg h]
    exact e2
theorem stroke_fit {g s p u:List Nat} {n k:Nat} (hs:SIn s) (hp:Fit g p) (h:stroke3 (bsOf g) p s n k = some u):Fit g u:=by
  obtain ⟨a1,a2,a3,a4,a5⟩:=hs.2
  unfold stroke3 at h
  obtain ⟨v,e1,e2⟩:=Option.bind_eq_some_iff.mp h
  have hv:=push_fit hp (by omega) e1
  by_cases c:s.getD 3 0 = 0 /\ s.getD 4 0 = 0 /\ s.getD 5 0 = 0
  . rw [if_pos c] at e2
    by_cases c2:k = 0
    . rw [if_pos c2] at e2
      cases e2
      exact hv
    . rw [if_neg c2] at e2
      cases e2
  . rw [if_neg c] at e2
    refine push_fit hv ?_ e2
    rcases a4 with z | z
    . exact absurd z c
    . omega
theorem mem_acts:∀ {ss:List (List Nat)} {i j n k:Nat} {s:List Nat},ss[j]? = some s -> (1 <= n /\ n <= s.getD 2 0) -> (if s.getD 4 0 = 0 then k = 0 else 1 <= k /\ k <= s.getD 5 0) -> (i + j,n,k) ∈ Pd.actsFrom i ss
  | [],i,j,n,k,s,h,_,_ => by simp at h
  | st :: ss,i,0,n,k,s,h,hn,hk => by
    have h:st = s:=Option.some.inj h
    subst h
    refine List.mem_append_left _ (List.mem_flatMap.mpr ⟨n - 1,List.mem_range.mpr (by omega),?_⟩)
    rw [show n - 1 + 1 = n by omega]
    by_cases c:st.getD 4 0 = 0
    . rw [if_pos c] at hk |-
      rw [hk]
      exact List.mem_singleton.mpr rfl
    . rw [if_neg c] at hk |-
      exact List.mem_map.mpr ⟨k - 1,List.mem_range.mpr (by omega),by rw [show k - 1 + 1 = k by omega]; rfl⟩
  | st :: ss,i,j + 1,n,k,s,h,hn,hk => by
    have:=mem_acts (i:=i + 1) (ss:=ss) (j:=j) (n:=n) (k:=k) (s:=s) h hn hk
    rw [show i + 1 + j = i + (j + 1) by omega] at this
    exact List.mem_append_right _ this
theorem stroke_in {g s p u:List Nat} {n k:Nat} (hs:SIn s) (h:stroke3 (bsOf g) p s n k = some u):(1 <= n /\ n <= s.getD 2 0) /\ (if s.getD 4 0 = 0 then k = 0 else 1 <= k /\ k <= s.getD 5 0):=by
  obtain ⟨a1,a2,a3,a4,a5⟩:=hs.2
  unfold stroke3 at h
  obtain ⟨v,e1,e2⟩:=Option.bind_eq_some_iff.mp h
  have lem:∀ {bs p u:List Nat} {d m n:Nat} {t:Bool},push3 bs p d t m n = some u -> 1 <= n /\ n <= m:=fun {bs p u d m n t} z => by
    rw [push_val] at z
    obtain ⟨a,ha,_⟩:=Option.map_eq_some_iff.mp z
    unfold val at ha
    by_cases c:(1 <= n /\ n <= m) /\ n <= (if t = true then bs.getD d 0 - p.getD d 0 else p.getD d 0)
    . exact c.1
    . rw [if_neg c] at ha
      cases ha
  refine ⟨lem e1,?_⟩
  by_cases c:s.getD 3 0 = 0 /\ s.getD 4 0 = 0 /\ s.getD 5 0 = 0
  . rw [if_pos c] at e2
    rw [if_pos c.2.1]
    by_cases c2:k = 0
    . exact c2
    . rw [if_neg c2] at e2
      cases e2
  . rw [if_neg c] at e2
    rw [if_neg (by
      rcases a4 with z | z
      . exact absurd z c
      . omega)]
    exact lem e2
theorem edge_iff {g p u:List Nat} {ss:List (List Nat)} {w:Nat} (hs:∀ s ∈ ss,SIn s):Pd.E3 g ss p u w ↔ ∃ s ∈ ss,∃ n k,stroke3 (bsOf g) p s n k = some u /\ w = s.getD 6 0:=by
  constructor
  . rintro ⟨x,_,st,h1,h2,h3⟩
    exact ⟨st,List.mem_of_getElem? h1,_,_,h2,h3⟩
  . rintro ⟨s,h1,n,k,h2,h3⟩
    obtain ⟨j,hj⟩:=List.getElem?_of_mem h1
    obtain ⟨q1,q2⟩:=stroke_in (hs s h1) h2
    have:=mem_acts (i:=0) hj q1 q2
    rw [Nat.zero_add] at this
    exact ⟨(j,n,k),this,s,hj,h2,h3⟩
end Gd
set_option Elab.async false
namespace Gd
open Na Rm Pd
section
variable {g:List Nat} {ss:List (List Nat)} {q:List Nat}
theorem edge_pos (hs:∀ s ∈ ss,SIn s) {p u:List Nat} {w:Nat} (h:E3 g ss p u w):1 <= w:=by
  obtain ⟨s,h1,n,k,_,rfl⟩:=(edge_iff hs).mp h
  obtain ⟨_,_,_,_,a5⟩:=(hs s h1).2
  omega
theorem way_zero (hs:∀ s ∈ ss,SIn s) {p:List Nat} {c:Nat} (h:Way3 g ss q p c) (hc:c = 0):p = q:=by
  cases h with
  | here => rfl
  | step e _ =>
    have:=edge_pos hs e
    omega
theorem far_step (hs:∀ s ∈ ss,SIn s) {p:List Nat} {c:Nat} (h:Far3 g ss q p c) (hc:c ≠ 0):∃ u w d,E3 g ss p u w /\ Far3 g ss q u d /\ c = w + d /\ 1 <= w:=by
  cases h.1 with
  | here => exact absurd rfl hc
  | step e x =>
    rename_i u w c'
    obtain ⟨d,hd⟩:=far_exists x
    have h1:=hd.2 _ x
    have h2:=h.2 _ (.step e hd.1)
    exact ⟨u,w,d,e,hd,by omega,edge_pos hs e⟩
structure Known (g:List Nat) (ss:List (List Nat)) (q:List Nat) (e:Nat) (Fd:Nat -> List Nat -> Prop):Prop where
  way:∀ c p,Fit g p -> Fd c p -> Way3 g ss q p c
  goal:e = 0 -> Fd 0 q
  next:∀ p u w d,Fit g p -> E3 g ss p u w -> Far3 g ss q u d -> d < e -> e <= w + d -> Far3 g ss q p (w + d) -> Fd (w + d) p
theorem known_start:Known g ss q 0 fun c p => c = 0 /\ p = q:=by
  refine ⟨fun c p _ h => ?_,fun _ => ⟨rfl,rfl⟩,fun p u w d _ _ _ h => absurd h (Nat.not_lt_zero _)⟩
  rw [h.1,h.2]
  exact .here
theorem known_fresh (hs:∀ s ∈ ss,SIn s) {e:Nat} {Fd:Nat -> List Nat -> Prop} (h:Known g ss q e Fd) {p:List Nat} (hp:Fit g p):(Fd e p /\ ¬ ∃ c,c < e /\ Far3 g ss q p c) ↔ Far3 g ss q p e:=by
  constructor
  . rintro ⟨h1,h2⟩
    obtain ⟨c,hc⟩:=far_exists (h.way e p hp h1)
    have:=hc.2 _ (h.way e p hp h1)
    have e1:c = e:=Classical.byContradiction fun z => h2 ⟨c,by omega,hc⟩
    rw [<- e1]
    exact hc
  . intro z
    refine ⟨?_,fun ⟨c,h1,h2⟩ => by have:=far_one z h2; omega⟩
    by_cases c0:e = 0
    . have:=way_zero hs z.1 c0
      rw [this,c0]
      exact h.goal c0
    . obtain ⟨u,w,d,h1,h2,h3,h4⟩:=far_step hs z c0
      rw [h3] at z |-
      exact h.next p u w d hp h1 h2 (by omega) (by omega) z
theorem known_step (hs:∀ s ∈ ss,SIn s) {e:Nat} {Fd Fd':Nat -> List Nat -> Prop} (h:Known g ss q e Fd) (hk:∀ c p,Fit g p -> (Fd' c p ↔ (c ≠ e /\ Fd c p) \/ ∃ s ∈ ss,c = e + s.getD 6 0 /\ Str g s (fun u => Far3 g ss q u e) p)):Known g ss q (e + 1) Fd':=by
  refine ⟨fun c p hp z => ?_,fun z => absurd z (Nat.succ_ne_zero _),fun p u w d hp h1 h2 h3 h4 h5 => ?_⟩
  . rcases (hk c p hp).mp z with z | ⟨s,h1,rfl,n,k,u,h2,h3⟩
    . exact h.way c p hp z.2
    . rw [Nat.add_comm]
      exact .step ((edge_iff hs).mpr ⟨s,h1,n,k,h2,rfl⟩) h3.1
  . rw [hk _ p hp]
    by_cases z:d < e
    . exact .inl ⟨by omega,h.next p u w d hp h1 h2 z (by omega) h5⟩
    . have ed:d = e:=by omega
      obtain ⟨s,k1,n,k,k2,k3⟩:=(edge_iff hs).mp h1
      exact .inr ⟨s,k1,by rw [k3,ed,Nat.add_comm],n,k,u,k2,by rw [<- ed]; exact h2⟩
theorem known_end (hs:∀ s ∈ ss,SIn s) {e:Nat} {Fd:Nat -> List Nat -> Prop} (h:Known g ss q e Fd) (hq:Fit g q) (hn:∀ c p,Fit g p -> ¬ Fd c p):∀ (c:Nat) (p:List Nat),Fit g p -> Far3 g ss q p c -> c < e:=by
  intro c
  induction c using Nat.strongRecOn with
  | _ c ih =>
    intro p hp z
    refine Classical.byContradiction fun y => ?_
    by_cases c0:c = 0
    . exact hn 0 q hq (h.goal (by omega))
    . obtain ⟨u,w,d,h1,h2,h3,h4⟩:=far_step hs z c0
      have hu:Fit g u:=by
        obtain ⟨s,k1,n,k,k2,_⟩:=(edge_iff hs).mp h1
        exact stroke_fit (hs s k1) hp k2
      have:=ih d (by omega) u hu h2
      rw [h3] at z
      exact hn _ p hp (h.next p u w d hp h1 h2 this (by omega) z)
end
def lexLt (a b:Step):Prop:=a.1 < b.1 \/ (a.1 = b.1 /\ (a.2.1 < b.2.1 \/ (a.2.1 = b.2.1 /\ a.2.2 < b.2.2)))
theorem acts_ge:∀ {ss:List (List Nat)} {i:Nat} {x:Step},x ∈ actsFrom i ss -> i <= x.1
  | [],i,x,h => by simp [actsFrom] at h
  | st :: ss,i,x,h => by
    rcases List.mem_append.mp h with h | h
    . obtain ⟨n,_,hx⟩:=List.mem_flatMap.mp h
      by_cases c:st.getD 4 0 = 0
      . rw [if_pos c,List.mem_singleton] at hx
        rw [hx]
        exact Nat.le_refl _
      . rw [if_neg c] at hx
        obtain ⟨k,_,rfl⟩:=List.mem_map.mp hx
        exact Nat.le_refl _
    . have:=acts_ge h
      omega
theorem row_sorted (i m:Nat) (st:List Nat):∀ n,((List.range n).flatMap fun n => if st.getD 4 0 = 0 then [(i,n + 1,0)] else (List.range m).map fun k => ((i,n + 1,k + 1):Step)).Pairwise lexLt /\ ∀ x ∈ ((List.range n).flatMap fun n => if st.getD 4 0 = 0 then [(i,n + 1,0)] else (List.range m).map fun k => ((i,n + 1,k + 1):Step)),x.1 = i /\ x.2.1 <= n
  | 0 => ⟨by simp,fun x h => by simp at h⟩
  | n + 1 => by
    obtain ⟨h1,h2⟩:=row_sorted i m st n
    rw [List.range_succ,List.flatMap_append]
    have hrow:∀ x ∈ ([n].flatMap fun n => if st.getD 4 0 = 0 then [(i,n + 1,0)] else (List.range m).map fun k => ((i,n + 1,k + 1):Step)),x.1 = i /\ x.2.1 = n + 1:=fun x hx => by
      rw [List.flatMap_singleton] at hx
      by_cases c:st.getD 4 0 = 0
      . rw [if_pos c,List.mem_singleton] at hx
        rw [hx]
        exact ⟨rfl,rfl⟩
      . rw [if_neg c] at hx
        obtain ⟨k,_,rfl⟩:=List.mem_map.mp hx
        exact ⟨rfl,rfl⟩
    refine ⟨List.pairwise_append.mpr ⟨h1,?_,fun a ha b hb => ?_⟩,fun x hx => ?_⟩
    . rw [List.flatMap_singleton]
      by_cases c:st.getD 4 0 = 0
      . rw [if_pos c]
        exact List.pairwise_singleton _ _
      . rw [if_neg c]
        refine List.Pairwise.map _ (fun a b hab => ?_) List.pairwise_lt_range
        exact .inr ⟨rfl,.inr ⟨rfl,by show a + 1 < b + 1; omega⟩⟩
    . have ha2:=h2 a ha
      have hb2:=hrow b hb
      exact .inr ⟨by rw [ha2.1,hb2.1],.inl (by omega)⟩
    . rcases List.mem_append.mp hx with h | h
      . have:=h2 x h
        exact ⟨this.1,by omega⟩
      . have:=hrow x h
        exact ⟨this.1,by omega⟩
theorem acts_sorted:∀ (ss:List (List Nat)) (i:Nat),(actsFrom i ss).Pairwise lexLt
  | [],i => List.Pairwise.nil
  | st :: ss,i => by
    obtain ⟨h1,h2⟩:=row_sorted i (st.getD 5 0) st (st.getD 2 0)
    refine List.pairwise_append.mpr ⟨h1,acts_sorted ss (i + 1),fun a ha b hb => ?_⟩
    have:=(h2 a ha).1
    have:=acts_ge hb
    exact .inl (by omega)
theorem first_at {g:List Nat} {ss:List (List Nat)} {q t u:List Nat} {c d j n k:Nat} {s:List Nat} (hs:∀ s ∈ ss,SIn s) (hj:ss[j]? = some s) (hu:stroke3 (bsOf g) t s n k = some u) (hc:c = s.getD 6 0 + d) (hd:Far3 g ss q u d)
    (hno:∀ x:Step,lexLt x (j,n,k) -> ∀ v e,¬ Hit g ss q t c x v e):∃ i:Nat,(acts3 ss)[i]? = some (j,n,k) /\ Hit g ss q t c (j,n,k) u d /\ ∀ (i':Nat) (y:Step),i' < i -> (acts3 ss)[i']? = some y -> ∀ v e,¬ Hit g ss q t c y v e:=by
  obtain ⟨q1,q2⟩:=stroke_in (hs s (List.mem_of_getElem? hj)) hu
  have hm:=mem_acts (i:=0) hj q1 q2
  rw [Nat.zero_add] at hm
  obtain ⟨i,hi⟩:=List.getElem?_of_mem hm
  refine ⟨i,hi,⟨s,hj,hu,hc,hd⟩,fun i' y hlt hy => hno y ?_⟩
  obtain ⟨b1,e1⟩:=List.getElem?_eq_some_iff.mp hi
  obtain ⟨b2,e2⟩:=List.getElem?_eq_some_iff.mp (show (actsFrom 0 ss)[i']? = some y from hy)
  have:=List.pairwise_iff_getElem.mp (acts_sorted ss 0) i' i b2 b1 hlt
  rw [e1,e2] at this
  exact this
end Gd
set_option Elab.async false
namespace Gd
open Na Rm Pd
theorem and_odd (a b:Nat):(a &&& b) % 2 = 1 ↔ a % 2 = 1 /\ b % 2 = 1:=by
  have h2:(a &&& b).testBit 0 = (a.testBit 0 && b.testBit 0):=Nat.testBit_and ..
  rw [Nat.testBit_zero,Nat.testBit_zero,Nat.testBit_zero,Bool.eq_iff_iff,Bool.and_eq_true,decide_eq_true_iff,decide_eq_true_iff,decide_eq_true_iff] at h2
  exact h2
theorem andnot_bit:∀ (n a b:Nat),(a - (a &&& b)).testBit n = (a.testBit n && !b.testBit n)
  | 0,a,b => by
    have h1:(a &&& b) <= a:=Nat.and_le_left
    have h2:=and_odd a b
    rw [Nat.testBit_zero,Nat.testBit_zero,Nat.testBit_zero,Bool.eq_iff_iff,Bool.and_eq_true,Bool.not_eq_true',decide_eq_true_iff,decide_eq_true_iff,decide_eq_false_iff_not]
    generalize (a &&& b) = c at h1 h2
    omega
  | n + 1,a,b => by
    have h1:(a &&& b) <= a:=Nat.and_le_left
    have h2:=and_odd a b
    have h3:(a &&& b) / 2 = (a / 2 &&& b / 2):=Nat.and_div_two
    have e:(a - (a &&& b)) / 2 = a / 2 - (a / 2 &&& b / 2):=by
      rw [<- h3]
      generalize (a &&& b) = c at h1 h2
      omega
    rw [Nat.testBit_succ,e,andnot_bit n,Nat.testBit_succ,Nat.testBit_succ]
theorem Is.diff {g:List Nat} {N M:Nat} {S R:List Nat -> Prop} (h:Is g N S) (h':Is g M R):Is g (N - (N &&& M)) fun p => S p /\ ¬ R p:=by
  refine ⟨fun n hn => ?_,fun p hp => ?_⟩
  . rw [andnot_bit,h.1 n hn]
    rfl
  . have h1:=h.2 p hp
    have h2:=h'.2 p hp
    rw [andnot_bit,Bool.and_eq_true,h1,Bool.not_eq_true',Bool.eq_false_iff,Ne,h2]
def cnt (g:List Nat) (N:Nat):Nat:=(List.range (all g)).countP fun n => N.testBit n
theorem cnt_le (g:List Nat) (N:Nat):cnt g N <= all g:=by
  unfold cnt
  have:=List.countP_le_length (p:=fun n => N.testBit n) (l:=List.range (all g))
  rwa [List.length_range] at this
theorem count_lt {α:Type} {p q:α -> Bool}:∀ {l:List α},(∀ x ∈ l,p x = true -> q x = true) -> (∃ x ∈ l,q x = true /\ p x = false) -> l.countP p < l.countP q
  | [],_,⟨x,hx,_⟩ => by simp at hx
  | y :: l,h,⟨x,hx,h1,h2⟩ => by
    have hl:∀ x ∈ l,p x = true -> q x = true:=fun x k => h x (List.mem_cons_of_mem _ k)
    rw [List.countP_cons,List.countP_cons]
    rcases List.mem_cons.mp hx with rfl | hx
    . have:=List.countP_mono_left (l:=l) (p:=p) (q:=q) hl
      rw [h1,h2]
      simp
      omega
    . have ih:=count_lt hl ⟨x,hx,h1,h2⟩
      have:=h y (List.mem_cons_self ..)
      cases e1:p y with
      | true => rw [this e1]; simp; omega
      | false => cases q y <;> simp <;> omega
theorem cnt_grow {g:List Nat} {N F:Nat} {S R:List Nat -> Prop} (h:Is g N S) (h':Is g F R) (hd:∀ p,Fit g p -> R p -> ¬ S p) (h0:F ≠ 0):cnt g N < cnt g (N ||| F):=by
  unfold cnt
  refine count_lt (fun n _ z => ?_) ?_
  . rw [Nat.testBit_or,z]
    rfl
  . have:¬ ∀ p,Fit g p -> ¬ R p:=fun z => h0 (h'.none.mpr z)
    obtain ⟨p,hp⟩:=Classical.not_forall.mp this
    obtain ⟨hp,z⟩:=Classical.not_imp.mp hp
    have hr:R p:=Classical.byContradiction z
    refine ⟨pl g p,List.mem_range.mpr hp.lt,?_,?_⟩
    . rw [Nat.testBit_or,(h'.2 p hp).mpr hr,Bool.or_true]
    . exact Bool.eq_false_iff.mpr fun k => hd p hp hr ((h.2 p hp).mp k)
theorem Is.meets {g:List Nat} {N:Nat} {S:List Nat -> Prop} {q:List Nat} (h:Is g N S) (hq:Fit g q):(N &&& (1 <<< pl g q)) ≠ 0 ↔ S q:=by
  have h2:=h.and (Is.only hq)
  rw [Ne,h2.none]
  constructor
  . intro z
    refine Classical.byContradiction fun k => z fun p hp ⟨k1,k2⟩ => k (k2 ▸ k1)
  . intro z k
    exact k q hq ⟨z,rfl⟩
theorem Is.meets' {g:List Nat} {N:Nat} {S:List Nat -> Prop} {q:List Nat} (h:Is g N S) (hq:Fit g q):((1 <<< pl g q) &&& N) ≠ 0 ↔ S q:=by
  rw [Nat.and_comm]
  exact h.meets hq
theorem all_le {g:List Nat} (h:∀ d,d < 3 -> beOf g d <= 15):all g <= 4096:=by
  unfold all
  have h0:=h 0 (by decide)
  have h1:=h 1 (by decide)
  have h2:=h 2 (by decide)
  have a1:(beOf g 0 + 1) * (beOf g 1 + 1) <= 16 * 16:=Nat.mul_le_mul (by omega) (by omega)
  have a2:(beOf g 0 + 1) * (beOf g 1 + 1) * (beOf g 2 + 1) <= 16 * 16 * 16:=Nat.mul_le_mul a1 (by omega)
  exact a2
theorem str_le {g:List Nat} (h:∀ d,d < 3 -> beOf g d <= 15) {d:Nat} (hd:d <= 3):str g d <= 4096:=by
  have h0:=h 0 (by decide)
  have h1:=h 1 (by decide)
  have h2:=h 2 (by decide)
  have a1:(beOf g 0 + 1) * (beOf g 1 + 1) <= 16 * 16:=Nat.mul_le_mul (by omega) (by omega)
  have a2:(beOf g 0 + 1) * (beOf g 1 + 1) * (beOf g 2 + 1) <= 16 * 16 * 16:=Nat.mul_le_mul a1 (by omega)
  have e:d = 0 \/ d = 1 \/ d = 2 \/ d = 3:=by omega
  rcases e with rfl | rfl | rfl | rfl
  . show 1 <= 4096
    decide
  . rw [str1]
    omega
  . rw [str2]
    omega
  . rw [str3]
    exact a2
theorem str_dvd {g:List Nat} {d:Nat} (hd:d <= 3):str g d ∣ all g:=by
  have e:d = 0 \/ d = 1 \/ d = 2 \/ d = 3:=by omega
  rcases e with rfl | rfl | rfl | rfl
  . exact Nat.one_dvd _
  . rw [str1]
    unfold all
    rw [Nat.mul_assoc]
    exact Nat.dvd_mul_right ..
  . rw [str2]
    exact Nat.dvd_mul_right ..
  . rw [str3]
    exact Nat.dvd_refl _
theorem pl_sum (g p:List Nat):pl g p = p.getD 0 0 * str g 0 + p.getD 1 0 * str g 1 + p.getD 2 0 * str g 2:=by
  rw [str1,str2]
  unfold pl pl3
  show _ = p.getD 0 0 * 1 + _ + _
  rw [Nat.mul_one,Nat.mul_add,<- Nat.mul_assoc,Nat.mul_comm (p.getD 1 0),Nat.mul_comm (p.getD 2 0),Nat.add_assoc]
theorem least {P:Nat -> Prop}:∀ {n:Nat},P n -> ∃ m,P m /\ ∀ k,k < m -> ¬ P k:=by
  intro n
  induction n using Nat.strongRecOn with
  | _ n ih =>
    intro h
    by_cases c:∃ k,k < n /\ P k
    . obtain ⟨k,hk,hp⟩:=c
      exact ih k hk hp
    . exact ⟨n,h,fun k hk hp => c ⟨k,hk,hp⟩⟩
theorem first_exists {g:List Nat} {ss:List (List Nat)} {q:List Nat} (hs:∀ s ∈ ss,SIn s):∀ (c:Nat) (t:List Nat),Fit g t -> Far3 g ss q t c -> ∃ l,First3 g ss q t c l:=by
  intro c
  induction c using Nat.strongRecOn with
  | _ c ih =>
    intro t ht h
    by_cases c0:c = 0
    . subst c0
      exact ⟨[],.done⟩
    . obtain ⟨u,w,d,h1,h2,h3,h4⟩:=far_step hs h c0
      obtain ⟨x,hx,st,e1,e2,e3⟩:=h1
      obtain ⟨i,hi⟩:=List.getElem?_of_mem hx
      have hP:∃ y v e,(acts3 ss)[i]? = some y /\ Hit g ss q t c y v e:=⟨x,u,d,hi,st,e1,e2,by rw [<- e3]; exact h3,h2⟩
      obtain ⟨j,⟨y,v,e,hy,hh⟩,hno⟩:=least (P:=fun i => ∃ y v e,(acts3 ss)[i]? = some y /\ Hit g ss q t c y v e) hP
      obtain ⟨s,k1,k2,k3,k4⟩:=id hh
      have hs1:=hs s (List.mem_of_getElem? k1)
      have hv:=stroke_fit hs1 ht k2
      have hc:1 <= s.getD 6 0:=hs1.2.2.2.2.2.1
      obtain ⟨l,hl⟩:=ih e (by omega) v hv k4
      exact ⟨y :: l,.more c0 hy hh (fun i' y' hi' hy' v' e' z => hno i' hi' ⟨y',v',e',hy',z⟩) hl⟩
theorem fit_pad {g:List Nat} (hR:RIn g) {p:Push} (h:Sm.Fits (Mm.decks3 (g.getD 1 0) (g.getD 2 0) (g.getD 3 0) (g.getD 4 0) (g.getD 5 0) (g.getD 6 0)) p):Fit g (pad p):=by
  obtain ⟨x,y,z,e,h1,h2,h3⟩:=fits_pad hR h
  rw [e]
  exact fit_of h1 h2 h3
end Gd
set_option Elab.async false
set_option maxRecDepth 100000
set_option maxHeartbeats 2000000
namespace Com
open PySem PySem.Spec PyProof.Rows L2
open PySem.W (WData)
theorem bt_len:bootBuiltins "len" = some (.builtin "len"):=by decide +kernel
theorem bt_min:bootBuiltins "min" = some (.builtin "min"):=by decide +kernel
theorem bt_max:bootBuiltins "max" = some (.builtin "max"):=by decide +kernel
theorem bt_sum:bootBuiltins "sum" = some (.builtin "sum"):=by decide +kernel
theorem bt_list:bootBuiltins "list" = some (.type "list"):=by decide +kernel
abbrev IntG (mg:Str -> Option Value) (x:Str) (i:Int):Prop:=∃ t,mg x = some (.int i t)
theorem pe_gi {X:Cx} {x:Str} {i:Int} {pos:Pos} (hg:Gl X x) (h:IntG X.mg x i) (hd:(x == ("__debug__":Str)) = false:=by decide):PE X (.Name x pos) (tC (.int i)):=by
  obtain ⟨t,ht⟩:=h
  exact pe_glob hg ht ⟨t,rfl⟩ hd
abbrev TupG (K:PySem.W.Frag) (mg:Str -> Option Value) (x:Str) (vs:List V):Prop:=∃ a,mg x = some (.ref a) /\ ∀ H:Hp,SqT K H a vs
theorem pe_gt {X:Cx} {x:Str} {vs:List V} {pos:Pos} (hg:Gl X x) (h:TupG X.K X.mg x vs) (hd:(x == ("__debug__":Str)) = false:=by decide):PE X (.Name x pos) (fun _ H Q => ∀ a,SqT X.K H a vs -> Q (.ref a) H):=by
  obtain ⟨a,ha,hs⟩:=h
  intro pins s σ H Q I q
  exact pe_glob (v:=.ref a) hg ha rfl hd pins s σ H Q I (q a (hs H))
theorem get_list {X:Cx}:PGet X (rIxL X.K):=by
  intro pins s σ H x y v u Q I rx ry h
  obtain ⟨p,xs,i,z,rfl,rfl,hq,he,q⟩:=h
  cases rx
  obtain ⟨t,rfl⟩:=ry
  obtain ⟨its,r,pl,hz⟩:=I.list hq
  obtain ⟨j,h1,h2,h3,h4,h5⟩:=atI_get he
  obtain ⟨w,ew,rw'⟩:=r.get h2
  have hl:=r.length
  have hn:=line63
  have fin:EP X pins σ Q w s:=⟨z,H,I,rw',q⟩
  by_cases h0:0 <= i
  . have hj:i.toNat = j:=by
      rw [seqIndex_of h0 h5] at h1
      exact Option.some.inj h1
    exact wpAny_getItem_list pl.isList h0 (by omega) (by rw [hj]; simpa using ew) fin
  . have hj:(i + (its.toArray.size:Int)).toNat = j:=by
      rw [seqIndex_neg (by omega) h4] at h1
      rw [List.size_toArray,<- hl]
      exact Option.some.inj h1
    exact wpAny_getItem_list_neg pl.isList (by omega) (by rw [List.size_toArray] <;> omega) (by omega) (by rw [hj]; simpa using ew) fin
section
variable {X:Cx} (K:PySem.W.Frag)
def rLen:List V -> Hp -> VK -> Prop:=fun xs H Q => ∃ p ys,xs = [.ref p] /\ (SqL K H p ys \/ SqT K H p ys) /\ Q (.int ys.length) H
def rListOf:List V -> Hp -> VK -> Prop:=fun xs H Q => ∃ p ys,xs = [.ref p] /\ (SqL K H p ys \/ SqT K H p ys) /\ ∀ l,H l = none -> Q (.ref l) (upd H l (.lst ys))
theorem ix_l (e:X.K = K:=by rfl):IxR X (rIxL K):=by subst e; exact ix_list
theorem ix_t (e:X.K = K:=by rfl):IxR X (rIxT K):=by subst e; exact ix_tup
theorem sl_l (e:X.K = K:=by rfl):SlR X (rSlL K):=by subst e; exact sl_list
theorem len_s (e:X.K = K:=by rfl):CallR X (.builtin "len") (rLen K):=by subst e; exact call_len_seq
theorem list_o (e:X.K = K:=by rfl):CallR X (.type "list") (rListOf K):=by subst e; exact call_list_of
theorem sum_l (hc:X.calm = true) (e:X.K = K:=by rfl):CallR X (.builtin "sum") (rSum K):=by subst e; exact cr_sum hc
theorem eq_d (hu:X.A.units + 64 < cLine) (e:X.K = K:=by rfl):OpR X (compareOp .Eq) (rEqD K):=by subst e; exact op_eqD hu
end
structure DefAt (K:PySem.W.Frag) (mg:Str -> Option Value) (x:Str) (st:Stmt) (ps:List Str) (f:Addr) (fd:FuncData):Prop where
  fn:Fun K x x st f fd
  mg:mg x = some (.ref f)
  ba:∀ us:List Value,us.length = ps.length -> bindArgs fd ⟨us,[]⟩ = pure (ps.zip us)
theorem DefAt.bd {K:PySem.W.Frag} {mg:Str -> Option Value} {x:Str} {st:Stmt} {ps:List Str} {f:Addr} {fd:FuncData} (D:DefAt K mg x st ps f fd):Binds K fd ps []:=.all D.ba
theorem DefAt.mk' {K:PySem.W.Frag} {mg:Str -> Option Value} {h:Heap} {x:Str} {st:Stmt} {ps:List Str} {f:Addr} {oc:Value} {od an:Option Addr} {osl:Array (Option Value)} {kV doc pm cdv ct:Value} (X:K.In h) (G:h.Ns mainGlobals mg)
    (a:PySem.W.nsIn K mainGlobals x = some (some (.ref f))) (l:K.lookup f = some ⟨oc,od,.func (PySem.W.fnOf x x (defArgs st) (defBody st) (defScope st) .none kV doc pm an cdv ct),osl⟩) (c:PySem.W.codeIn K cdv x = true) (k:PySem.W.keepIn K (.ref f) = true)
    (b:∀ (kV doc pm:Value) (an:Option Addr) (cdv ct:Value) (us:List Value),us.length = ps.length -> bindArgs (PySem.W.fnOf x x (defArgs st) (defBody st) (defScope st) .none kV doc pm an cdv ct) ⟨us,[]⟩ = pure (ps.zip us)) :
    ∃ f fd,DefAt K mg x st ps f fd:=by
  have F:=fun_mk (st:=st) l c k
  exact ⟨f,_,F,PySem.W.mg_of X G a,b kV doc pm an cdv ct⟩
structure Callee (P:Program) (w:World) (K:PySem.W.Frag) (mg:Str -> Option Value) (base:Heap) (k:Nat) (x:Str) (ps:List Str) (sp:Sp):Prop where
  ex:∃ (f:Addr) (fd:FuncData),FnOk P w K mg base CX0 k f fd ps sp /\ mg x = some (.ref f) /\ PySem.W.keepIn K (.ref f) = true /\ Binds K fd ps []
theorem Callee.of {P:Program} {w:World} {K:PySem.W.Frag} {mg:Str -> Option Value} {base:Heap} {k:Nat} {x:Str} {st:Stmt} {ps:List Str} {sp:Sp} (D:∃ f fd,DefAt K mg x st ps f fd) (h:∀ f fd,DefAt K mg x st ps f fd -> FnOk P w K mg base CX0 k f fd ps sp):Callee P w K mg base k x ps sp:=by
  obtain ⟨f,fd,D⟩:=D
  exact ⟨f,fd,h f fd D,D.mg,D.fn.kp,D.bd⟩
theorem pe_c {X:Cx} {k j:Nat} {x:Str} {ps:List Str} {sp:Sp} {p pos:Pos} {e:Expr} {es:List Expr} {t:TA} (C:Callee X.prog X.w X.K X.mg X.base k x ps sp) (hr:Room j X.A) (hk:k <= j) (hg:Gl X x) (ha:PA X (e :: es) t)
    (hdb:(x == ("__debug__":Str)) = false:=by decide) (he:starEach (e :: es) X.env = (false,eval e X.env) :: starEach es X.env:=by rfl) (hpl:(backTo pos (starEach es X.env)).any (·.1) = false:=by rfl) :
    PE X (.Call (.Name x p) (e :: es) [] pos) (tCall sp [] E0 t):=by
  obtain ⟨f,fd,F,hm,kp,b⟩:=C.ex
  exact pe_call F (hr.mono hk) hg hm kp b .nil pass0 ha hdb he hpl
def at0 (ns:List Int) (i:Nat):Int:=ns.getD i 0
theorem ints_get {ns:List Int} {j:Nat} (h:j < ns.length):(ns.map V.int)[j]? = some (.int (at0 ns j)):=by
  rw [List.getElem?_map,List.getElem?_eq_getElem h]
  unfold at0
  rw [List.getD_eq_getElem?_getD,List.getElem?_eq_getElem h]
  rfl
theorem ints_at {ns:List Int} {j:Nat} {z:Int} (h:j < ns.length) (e:z = (j:Int):=by omega):atI (ns.map V.int) z = some (.int (at0 ns j)):=by
  subst e
  exact atI_nat (ints_get h)
theorem map_at {α:Type} {g:α -> V} {l:List α} {i:Nat} {y:V} (h:(l.map g)[i]? = some y):∃ c,l[i]? = some c /\ y = g c:=by
  rw [List.getElem?_map] at h
  cases e:l[i]? with
  | none =>
    rw [e] at h
    cases h
  | some c =>
    rw [e] at h
    exact ⟨c,rfl,(Option.some.inj h).symm⟩
theorem take_snoc {α:Type} {l:List α} {i:Nat} {x:α} (h:l[i]? = some x):l.take (i + 1) = l.take i ++ [x]:=by
  obtain ⟨hi,e⟩:=List.getElem?_eq_some_iff.mp h
  rw [List.take_add_one,h]
  rfl
theorem Same.new {H H':Hp} {p:Addr} {o:HO} (s:Same H H') (n:H' p = none):Same H (upd H' p o):=fun b u e => by
  rw [upd_ne (ne_of_none (s b u e) n)]
  exact s b u e
theorem Same.put {H H':Hp} {p:Addr} {o:HO} (s:Same H H') (n:H p = none):Same H (upd H' p o):=fun b u e => by
  rw [upd_ne (ne_of_none e n)]
  exact s b u e
theorem Same.seqT {K:PySem.W.Frag} {H H':Hp} {a:Addr} {xs:List V} (e:Same H H') (h:SqT K H a xs):SqT K H' a xs:=by
  rcases h with (h | ⟨o,h⟩) | h
  . exact .inl (.inl (e _ _ h))
  . exact .inl (.inr ⟨o,e _ _ h⟩)
  . exact .inr h
theorem for_enum {K:PySem.W.Frag} {a:Addr} {xs:List V} {g:TG} {tb:TS} {D:Ends} {σ:L2.St} {H:Hp} (Pv:Nat -> L2.St -> Hp -> Prop) (h0:Pv 0 σ H) (hl:∀ i σ H,i <= xs.length -> Pv i σ H -> SqL K H a xs)
    (hs:∀ i x T σ H,xs[i]? = some x -> H T = none -> Pv i σ H -> g (.ref T) σ (upd H T (.tup [.int (i:Nat),x])) fun σ2 H2 => tb { D with nx:=Pv (i + 1),ct:=Pv (i + 1),bk:=D.nx } σ2 H2) (hd:∀ σ H,Pv xs.length σ H -> D.nx σ H) :
    ∃ W:Nat -> Nat -> L2.St -> Hp -> Prop,(∃ m,W 0 m σ H) /\ ∀ i m σ H,W i m σ H ->
      ((Ite K a).stop i H /\ D.nx σ H) \/ ((Ite K a).go i H /\ ∃ N:L2.St -> Hp -> Prop,(∀ σ' H',N σ' H' -> ∃ m',m' < m /\ W (i + 1) m' σ' H') /\ ∀ x H',(Ite K a).yld i H x H' -> g x σ H' fun σ2 H2 => tb { D with nx:=N,ct:=N,bk:=D.nx } σ2 H2):=by
  refine ⟨fun i m σ H => m = xs.length - i /\ i <= xs.length /\ Pv i σ H,⟨xs.length,by simp,Nat.zero_le _,h0⟩,?_⟩
  rintro i m σ H ⟨rfl,hi,p⟩
  have q:=hl i σ H hi p
  by_cases hlt:i < xs.length
  . refine .inr ⟨⟨xs,xs[i],q,by simp [hlt]⟩,Pv (i + 1),fun σ' H' p' => ⟨xs.length - (i + 1),by omega,rfl,hlt,p'⟩,fun x H' y => ?_⟩
    obtain ⟨T,y,rfl,hT,rfl,hy⟩:=y
    exact hs i y T σ _ (hy xs q) hT p
  . have e:i = xs.length:=by omega
    subst e
    exact .inl ⟨⟨xs,q,Nat.le_refl _⟩,hd σ H p⟩
theorem rgC {i j c:Int} {n:Nat} (hc:0 < c) (hc2:c < 1000000) (hi:-1000000 <= i) (hi2:i <= 1000000) (hj:-1000000 <= j) (hj2:j <= 1000000) (hn:(n:Int) = if i < j then (j - i - 1) / c + 1 else 0):RgC i j c n:=by
  have e:Builtin.Range.rangeSize i j c = (n:Int):=by
    unfold Builtin.Range.rangeSize
    rw [if_pos (by omega),hn]
  have b:(n:Int) <= 3000000:=by
    rw [hn]
    by_cases q:i < j
    . rw [if_pos q]
      have:=Int.ediv_le_self (a:=j - i - 1) c (by omega)
      omega
    . rw [if_neg q]
      decide
  have fit:∀ z:Int,-4000000 <= z -> z <= 4000000 -> Builtin.Range.rangeFitsLong z = true:=fun z h1 h2 => by
    unfold Builtin.Range.rangeFitsLong
    rw [Bool.and_eq_true,decide_eq_true_eq,decide_eq_true_eq]
    omega
  refine ⟨by omega,by omega,?_,e⟩
  unfold Builtin.Range.small
  rw [e,fit i (by omega) (by omega),fit j (by omega) (by omega),fit c (by omega) (by omega),fit n (by omega) (by omega),if_pos (show c > 0 from hc),fit (j + (c - 1)) (by omega) (by omega),Bool.or_true]
  rfl
end Com
set_option Elab.async false
set_option maxRecDepth 100000
set_option maxHeartbeats 2000000
namespace Com
open PySem PySem.Spec PyProof.Rows L2
open PySem.W (WData)
theorem ints_item:∀ {vs:List Value} {ns:List Int},IntsAre vs ns -> ∀ j,j < vs.length -> ∃ t,vs[j]? = some (.int (ns.getD j 0) t) /\ ns.drop j = ns.getD j 0 :: ns.drop (j + 1)
  | _,_,.nil,j,h => absurd h (Nat.not_lt_zero _)
  | _,_,.cons n t h,0,_ => ⟨t,rfl,rfl⟩
  | _,_,.cons n t h,j + 1,hj => by
    obtain ⟨u,e1,e2⟩:=ints_item h j (Nat.lt_of_succ_lt_succ hj)
    exact ⟨u,e1,e2⟩
theorem rcGt_int (A:Around) (s:Shared) (a:Int) (t:Tok) (c:Int) (u:Tok) (prog:Program) (w:World) (E:Value -> Shared -> Prop) (Q:Value -> Shared -> Prop) (h:Q (.bool (decide (c < a))) s) :
    wpAny (model prog w) A (richCompare .Gt (.int a t) (.int c u)) Q E s :=
  (PyProof.Rows.gt_int h:wpAny (model prog w) A (compareOp .Gt (.int a t) (.int c u)) Q E s)
section
open PySem.SeqAt
open PySem.AutoSeq1 (wpAny_loadPart')
open PySem.MeetsSeq PySem.MeetsSeq2 PySem.MeetsSeq3 PySem.SeqRoads2
theorem gt_loopAt (l b:Addr) (items items2:Array Value) (n n2:Nat) (dd dd2:Option Addr) (sl sl2:Array (Option Value)) (hsz:items.size = items2.size) (ns ms:List Int) (hi:IntsAre items.toList ns) (hj:IntsAre items2.toList ms) (k:Nat) :
    ∀ i:Nat,items.size - i = k -> Meets (Builtin.«list.__eq__.loop» ⟨[.ref l,.ref b,rawInt i,rawInt 4],[]⟩)
      (fun _ R s => s.heap.get? l = some { cls := .type "list", dict := dd, data := .seq items n, slots := sl } /\ s.heap.get? b = some { cls := .type "list", dict := dd2, data := .seq items2 n2, slots := sl2 } /\
        R (.ok (.ret (.bool (HT.lexLt (ms.drop i) (ns.drop i))))) s):=by
  have z1:items.size = ns.length:=by rw [<- hi.length]; simp
  have z2:items2.size = ms.length:=by rw [<- hj.length]; simp
  induction k with
  | zero =>
    intro i hk prog w A R s h
    obtain ⟨hp,g,d,tk,os⟩:=s; obtain ⟨hl,hb,h⟩:=h
    wp_walk using wpAny_loadPart' hl,wpAny_loadPart' hb
    have hi1:items[((i:Nat):Int).toNat]? = none:=by simp; omega
    have hi2:items2[((i:Nat):Int).toNat]? = none:=by simp; omega
    rw [List.drop_eq_nil_of_le (by omega),List.drop_eq_nil_of_le (by omega),HT.lexLt_nil_nil] at h
    rw [hi1,hi2]
    wp_walk using wpAny_loadPart' hl,wpAny_loadPart' hb
    show R (.ok (.ret (.bool (decide (items.size > items2.size))))) _
    rw [hsz]
    simpa using h
  | succ k ih =>
    intro i hk prog w A R s h
    obtain ⟨hp,g,d,tk,os⟩:=s; obtain ⟨hl,hb,h⟩:=h
    wp_walk using wpAny_loadPart' hl,wpAny_loadPart' hb
    obtain ⟨t,e1,d1⟩:=ints_item hi i (by simp; omega)
    obtain ⟨u,e2,d2⟩:=ints_item hj i (by simp; omega)
    have hi1:items[((i:Nat):Int).toNat]? = some (.int (ns.getD i 0) t):=by
      rw [Int.toNat_natCast,<- e1]
      simp
    have hi2:items2[((i:Nat):Int).toNat]? = some (.int (ms.getD i 0) u):=by
      rw [Int.toNat_natCast,<- e2]
      simp
    have hc:((i:Int) + 1) = ((i + 1:Nat):Int):=by push_cast; rfl
    rw [d1,d2,HT.lexLt_cons] at h
    rw [hi1,hi2]
    generalize ns.getD i 0 = a at *
    generalize ms.getD i 0 = c at *
    refine wpAny_bind (EqAt.int_int a t c u prog w _ _ ?_)
    cases hb':(a == c) with
    | true =>
      have e:c = a:=(eq_of_beq hb').symm
      rw [if_pos e] at h
      wp_walk
      rw [hc]
      exact ⟨plainId_quiet plain_eq_loop _,codeAny_builtin entry_eq_loop (by
        rw [Around.under_plainId plain_eq_loop _]
        exact ih (i + 1) (by omega) prog w A R _ ⟨hl,hb,h⟩)⟩
    | false =>
      have e:¬ c = a:=fun z => by rw [z] at hb'; simp at hb'
      rw [if_neg e] at h
      wp_walk using wpAny_loadPart' hl,wpAny_loadPart' hb
      rw [hi1,hi2]
      have hri:=rcGt_int A.in1 ⟨hp,g,d,tk,os⟩ a t c u prog w
      wp_walk using hri
      exact h
theorem list_gt_ints (l b:Addr) (items items2:Array Value) (n n2:Nat) (dd dd2:Option Addr) (sl sl2:Array (Option Value)) (hsz:items.size = items2.size) (ns ms:List Int) (hi:IntsAre items.toList ns) (hj:IntsAre items2.toList ms) :
    Meets (Builtin.«list.__gt__» ⟨[.ref l,.ref b],[]⟩)
      (fun _ R s => s.heap.get? l = some { cls := .type "list", dict := dd, data := .seq items n, slots := sl } /\ s.heap.get? b = some { cls := .type "list", dict := dd2, data := .seq items2 n2, slots := sl2 } /\
        R (.ok (.ret (.bool (HT.lexLt ms ns)))) s):=by
  intro prog w A R s h
  obtain ⟨hp,g,d,tk,os⟩:=s; obtain ⟨hl,hb,h⟩:=h
  have f3:=AutoSeq1.sub_list_list
  wp_walk using wpAny_loadPart' hl,wpAny_loadPart' hb
  exact ⟨plainId_quiet plain_eq_loop _,codeAny_builtin entry_eq_loop (by
    rw [Around.under_plainId plain_eq_loop _]
    exact gt_loopAt l b items items2 n n2 dd dd2 sl sl2 hsz ns ms hi hj _ 0 rfl prog w A R _ ⟨hl,hb,h⟩)⟩
end
def rGtL (K:PySem.W.Frag):R2:=fun x y H Q => ∃ a b ns ms,x = .ref a /\ y = .ref b /\ SqL K H a (ns.map V.int) /\ SqL K H b (ms.map V.int) /\ ns.length = ms.length /\ Q (.bl (HT.lexLt ms ns)) H
theorem op_gtL {X:Cx} (hu:X.A.units < cLine):OpR X (compareOp .Gt) (rGtL X.K):=by
  intro pins s σ H x y v u Q I rx ry h
  obtain ⟨a,b,ns,ms,rfl,rfl,ha,hb,hl,q⟩:=h
  cases rx
  cases ry
  obtain ⟨its,r1,⟨⟨cls,dd,data,sl⟩,n,ho,hc,_,hd⟩,_⟩:=I.list ha
  obtain ⟨its2,r2,⟨⟨cls2,dd2,data2,sl2⟩,n2,ho2,hc2,_,hd2⟩,_⟩:=I.list hb
  simp only at hc hd hc2 hd2
  subst hc hd hc2 hd2
  have i1:IntsAre its.toArray.toList ns:=intsAre_of r1
  have i2:IntsAre its2.toArray.toList ms:=intsAre_of r2
  have hsz:its.toArray.size = its2.toArray.size:=by
    have h1:=i1.length
    have h2:=i2.length
    simp only [List.size_toArray]
    simp only at h1 h2
    omega
  exact richCompare_meets_room (op:=.Gt) ⟨_,ho,rfl⟩ ⟨_,ho2,rfl⟩ PySem.F.slot_list_gt PySem.F.entry_list_gt (PySem.F.args_list_gt_2 _ _) (list_gt_ints a b its.toArray its2.toArray n n2 dd dd2 sl sl2 hsz ns ms i1 i2)
    ⟨ho,ho2,show Value.bool (HT.lexLt ms ns) ≠ Value.notImplemented /\ EP X pins σ Q (.bool (HT.lexLt ms ns)) s from ⟨(fun x => nomatch x),⟨.bl (HT.lexLt ms ns),H,I,rfl,q⟩⟩⟩ hu
theorem gt_l {X:Cx} (K:PySem.W.Frag) (hu:X.A.units < cLine) (e:X.K = K:=by rfl):OpR X (compareOp .Gt) (rGtL K):=by subst e; exact op_gtL hu
def isZ (H:Hp):Value -> Bool
  | .ref t => match H t with
    | some (.tup [.int a,.int b,.int c]) => a == 0 && (b == 0 && c == 0)
    | _ => false
  | _ => false
theorem lc_rangeC {lo c:Int} {n:Nat} {g:TG} {tt:TT} {te:TE} {vs:List Nat} {σ:L2.St} {H1:Hp} {D:Addr} {Qd:Hp -> Prop} (Pv:Nat -> Hp -> Prop) (h0:Pv 0 (upd H1 D (.lst [])))
    (hs:∀ i H,i < n -> Pv i H -> g (.int (lo + (i:Nat) * c)) (wipe σ vs) H fun σ2 H2 => wipe σ2 vs = wipe σ vs /\ tt σ2 H2 fun b H3 =>
      if b = true then te σ2 H3 fun y H4 => ∃ acc,H4 D = some (.lst acc) /\ acc.length < sizeLine /\ Pv (i + 1) (upd H4 D (.lst (acc ++ [y]))) else Pv (i + 1) H3) (hd:∀ H,Pv n H -> Qd H) :
    ∃ W:Nat -> Nat -> Hp -> Prop,(∃ m,W 0 m (upd H1 D (.lst []))) /\ ∀ i m H,W i m H ->
      ((Itc lo c n).stop i H /\ Qd H) \/ ((Itc lo c n).go i H /\ ∃ Nx:Hp -> Prop,(∀ H',Nx H' -> ∃ m',m' < m /\ W (i + 1) m' H') /\ ∀ x H',(Itc lo c n).yld i H x H' -> g x (wipe σ vs) H' fun σ2 H2 => wipe σ2 vs = wipe σ vs /\ tt σ2 H2 fun b H3 =>
        if b = true then te σ2 H3 fun y H4 => ∃ acc,H4 D = some (.lst acc) /\ acc.length < sizeLine /\ Nx (upd H4 D (.lst (acc ++ [y]))) else Nx H3):=by
  refine ⟨fun i m H => m = n - i /\ i <= n /\ Pv i H,⟨n,by simp,Nat.zero_le _,h0⟩,?_⟩
  rintro i m H ⟨rfl,hi,p⟩
  by_cases hlt:i < n
  . refine .inr ⟨hlt,Pv (i + 1),fun H' p' => ⟨n - (i + 1),by omega,rfl,hlt,p'⟩,fun x H' y => ?_⟩
    obtain ⟨e,y⟩:=y
    subst e y
    exact hs i _ hlt p
  . have e:i = n:=by omega
    subst e
    exact .inl ⟨Nat.le_refl _,hd H p⟩
end Com
set_option Elab.async false
set_option maxRecDepth 100000
namespace Com
open PySem PySem.Spec PyProof.Rows L2
section
variable {X:Cx}
end
theorem for_items {d:Addr} {od:Obj} {kvs:List (Key × V)} {g:TG} {tb:TS} {D:Ends} {σ:L2.St} {H:Hp} (Pv:Nat -> L2.St -> Hp -> Prop) (h0:Pv 0 σ H) (hl:∀ i σ H,i <= kvs.length -> Pv i σ H -> H d = some (.frz od (.dK kvs)))
    (hs:∀ i k v T σ H,kvs[i]? = some (k,v) -> H T = none -> Pv i σ H -> g (.ref T) σ (upd H T (.tup [kV k,v])) fun σ2 H2 => tb { D with nx:=Pv (i + 1),ct:=Pv (i + 1),bk:=D.nx } σ2 H2) (hd:∀ σ H,Pv kvs.length σ H -> D.nx σ H) :
    ∃ W:Nat -> Nat -> L2.St -> Hp -> Prop,(∃ m,W 0 m σ H) /\ ∀ i m σ H,W i m σ H ->
      ((Iti d od kvs).stop i H /\ D.nx σ H) \/ ((Iti d od kvs).go i H /\ ∃ N:L2.St -> Hp -> Prop,(∀ σ' H',N σ' H' -> ∃ m',m' < m /\ W (i + 1) m' σ' H') /\ ∀ x H',(Iti d od kvs).yld i H x H' -> g x σ H' fun σ2 H2 => tb { D with nx:=N,ct:=N,bk:=D.nx } σ2 H2):=by
  refine ⟨fun i m σ H => m = kvs.length - i /\ i <= kvs.length /\ Pv i σ H,⟨kvs.length,by simp,Nat.zero_le _,h0⟩,?_⟩
  rintro i m σ H ⟨rfl,hi,p⟩
  have q:=hl i σ H hi p
  by_cases hlt:i < kvs.length
  . refine .inr ⟨⟨q,hlt⟩,Pv (i + 1),fun σ' H' p' => ⟨kvs.length - (i + 1),by omega,rfl,hlt,p'⟩,fun x H' y => ?_⟩
    obtain ⟨T,k,v,hk,rfl,hT,rfl⟩:=y
    exact hs i k v T σ _ hk hT p
  . have e:i = kvs.length:=by omega
    subst e
    exact .inl ⟨⟨q,Nat.le_refl _⟩,hd σ H p⟩
end Com
set_option Elab.async false
set_option maxRecDepth 100000
namespace Ex
open PySem PySem.Spec PyProof.Rows L2
open PySem.W (hideAll hideAll_get of_hideAll hideAll_none funFrames_hide excIn exmOne)
def CX1 (P:Program) (w:World):CXT:=fun outer H s E e s' => ∃ (ea C:Addr) (H':Hp) (B:Heap) (a0:Value),
  e = .ref ea /\ Heap.FlyingW B outer ea (.ref C) a0 s'.heap /\ HOk P w H' B /\ s'.os = s.os /\ AllBare s'.gens /\ Un (frs outer) [] H H' s.heap s'.heap /\
  (∀ b o,s.heap.get? b = some o -> H b = none -> b ∉ frs outer -> B.get? b = some o) /\ (∀ b o,s.heap.get? b = some o -> b ∉ frs outer -> ∃ o',B.get? b = some o') /\ E (.ref C) none H'
structure Body (X:Cx) (E:XK):Prop where
  xe:X.xe = fun e s' => wpAny (model X.prog X.w) X.A (leaving X.env e) (fun _ s'' => CX1 X.prog X.w X.outer X.H_0 X.s_0 E e s'') (fun e' s'' => CX1 X.prog X.w X.outer X.H_0 X.s_0 E e' s'') s'
  stk:X.stack = X.env :: X.outer
  fr:X.env.frame = some X.env.locals
  ex:X.ex = []
section
variable {X:Cx} {pins:List (Addr × Obj)} {σ:L2.St} {H H':Hp} {s s':Shared} {E:XK}
theorem neLoc (I:Inv X pins σ H s) {b:Addr} {o:Obj} (e:X.s_0.heap.get? b = some o):b ≠ X.env.locals:=Nat.ne_of_lt (Nat.lt_of_lt_of_le (Heap.lt_size e) I.ok.above)
theorem noStk (I:Inv X pins σ H s) {b:Addr} {o:Obj} (e:X.s_0.heap.get? b = some o) (hb:b ∉ frs X.outer):b ∉ frs X.stack:=fun z =>
  (List.mem_cons.mp (I.stkSub b z)).elim (neLoc I e) hb
theorem frame_data (I:Inv X pins σ H s) {b:Addr} (hb:b ∈ frs X.outer) {o:Obj} (e:s.heap.get? b = some o):∀ vs,o.data ≠ .fields vs:=by
  obtain ⟨_,o',ho',hd⟩:=I.funs.mem hb
  rw [e] at ho'
  cases ho'
  exact hd
abbrev bmE : List Value := [.type "Exception", .type "BaseException", .type "object"]
structure ExcC (K:PySem.W.Frag) (mg:Str -> Option Value) (x:Str) (C:Addr):Prop where
  mg:mg x = some (.ref C)
  ok:excIn K C bmE "Exception.__new__" = true
end
section
variable {X:Cx} {pins pins':List (Addr × Obj)} {σ:L2.St} {H H':Hp} {s s':Shared} {Et:XK}
theorem ok_pn (ok:X.Ok) (p:List (Addr × Obj)):Cx.Ok { X with pn:=p }:=⟨ok.mod,ok.kind,ok.glob,ok.blt,ok.above,ok.inj,ok.has,ok.cab,ok.hd,ok.frames,ok.stk,ok.exf,ok.bs,ok.bsz,ok.noex,ok.exfs,ok.funs,ok.frf⟩
theorem ok_unpn {p:List (Addr × Obj)} (ok:Cx.Ok { X with pn:=p }):X.Ok:=⟨ok.mod,ok.kind,ok.glob,ok.blt,ok.above,ok.inj,ok.has,ok.cab,ok.hd,ok.frames,ok.stk,ok.exf,ok.bs,ok.bsz,ok.noex,ok.exfs,ok.funs,ok.frf⟩
theorem inv_pn (I:Inv X pins σ H s):Inv { X with pn:=X.pn ++ pins } [] σ H s:=⟨ok_pn I.ok _,I.os,I.bare,I.base,I.loc,I.cell,I.free,I.freeC,fun p hp => I.pin p (by rw [List.append_nil] at hp; exact hp),I.hok,I.len⟩
theorem inv_unpn (I:Inv { X with pn:=X.pn ++ pins } pins' σ H s):Inv X pins σ H s:=⟨ok_unpn I.ok,I.os,I.bare,I.base,I.loc,I.cell,I.free,I.freeC,fun p hp => I.pin p (List.mem_append_left _ hp),I.hok,I.len⟩
def Xm (X:Cx) (e:Value):Cx:={ X with A:=X.A.mark (some e),calm:=false,xe:=notedBy (model X.prog X.w) (X.A.mark (some e)) X.env (cameBackBy (model X.prog X.w) X.A X.env X.xe) }
theorem inv_xm (I:Inv X pins σ H s) {e:Value}:Inv (Xm X e) pins σ H s :=
  ⟨⟨I.ok.mod,I.ok.kind,I.ok.glob,I.ok.blt,I.ok.above,I.ok.inj,I.ok.has,I.ok.cab,(fun z => absurd z (by show ¬ (false = true); decide)),I.ok.frames,I.ok.stk,I.ok.exf,I.ok.bs,I.ok.bsz,I.ok.noex,I.ok.exfs,I.ok.funs,I.ok.frf⟩,I.os,I.bare,I.base,I.loc,I.cell,I.free,I.freeC,I.pin,I.hok,I.len⟩
end
end Ex
set_option Elab.async false
set_option maxRecDepth 100000
namespace Ex
open PySem PySem.Spec PyProof.Rows L2
section
variable {X:Cx}
end
end Ex
namespace Ex
open PySem PySem.Spec PyProof.Rows L2
theorem exm_of {K : PySem.W.Frag} {C D : Addr} {x : _} {b : Bool} (h1 : PySem.W.subIn K (.ref D) (.type "BaseException") = some true) (h2 : PySem.W.clsIn K D = some x) (h3 : PySem.W.typeIn K (.ref D) = some (.type "type")) (h4 : PySem.W.subIn K (.ref C) (.ref D) = some b) : PySem.W.exmOne K (.ref C) (.ref D) = some b := by
  unfold PySem.W.exmOne
  rw [if_pos (by rw [h1]; rfl)]
  unfold PySem.W.kitCls
  dsimp only
  rw [if_pos (by rw [h2,h3]; rfl)]
  exact h4
end Ex
namespace Com
open PySem PySem.Spec PyProof.Rows L2
section
variable {P:Program} {w:World} {K:PySem.W.Frag} {mg:Str -> Option Value} {base:Heap} {CX:CXT}
def NoAll (K:PySem.W.Frag) (C:Addr):List Str -> Prop
  | [] => True
  | a :: r => NoAttr K C a /\ NoAll K C r
structure ClsAt (K:PySem.W.Frag) (mg:Str -> Option Value) (x:Str) (C:Addr) (as:List Str):Prop where
  cl:Cls K C
  mg:mg x = some (.ref C)
  all:NoAll K C as
theorem noAll_at {C:Addr}:∀ {as:List Str} {i:Nat} {a:Str},NoAll K C as -> as[i]? = some a -> NoAttr K C a
  | [],i,a,_,h => by simp at h
  | b :: r,0,a,n,h => by
    cases h
    exact n.1
  | b :: r,i + 1,a,n,h => noAll_at n.2 h
theorem ClsAt.no {x:Str} {C:Addr} {as:List Str} (c:ClsAt K mg x C as) (i:Nat) {a:Str} (h:as[i]? = some a:=by rfl):NoAttr K C a:=noAll_at c.all h
structure MethAt (K:PySem.W.Frag) (C:Addr) (m qual:Str) (st:Stmt) (ps:List Str) (f:Addr) (fd:FuncData):Prop where
  fn:Fun K m qual st f fd
  me:Meth K C m f
  ba:∀ us:List Value,us.length = ps.length -> bindArgs fd ⟨us,[]⟩ = pure (ps.zip us)
theorem MethAt.mk' {C:Addr} {m qual:Str} {st:Stmt} {ps:List Str} {f:Addr} {oc:Value} {od an:Option Addr} {osl:Array (Option Value)} {kV doc pm cdv ct:Value}
    (a:PySem.W.findIn K (.ref C) m = some (some (.ref f))) (i:PySem.W.isFn K (.ref f) = true) (l:K.lookup f = some ⟨oc,od,.func (PySem.W.fnOf m qual (defArgs st) (defBody st) (defScope st) .none kV doc pm an cdv ct),osl⟩) (c:PySem.W.codeIn K cdv qual = true) (k:PySem.W.keepIn K (.ref f) = true)
    (b:∀ (kV doc pm:Value) (an:Option Addr) (cdv ct:Value) (us:List Value),us.length = ps.length -> bindArgs (PySem.W.fnOf m qual (defArgs st) (defBody st) (defScope st) .none kV doc pm an cdv ct) ⟨us,[]⟩ = pure (ps.zip us)) :
    ∃ f fd,MethAt K C m qual st ps f fd:=⟨f,_,fun_mk (st:=st) l c k,⟨a,i,k⟩,b kV doc pm an cdv ct⟩
structure InitAt (K:PySem.W.Frag) (mg:Str -> Option Value) (x:Str) (C:Addr) (qual:Str) (st:Stmt) (ps:List Str) (f:Addr) (fd:FuncData):Prop where
  fn:Fun K "__init__" qual st f fd
  makes:Mk K C f
  mg:mg x = some (.ref C)
  ba:∀ us:List Value,us.length = ps.length -> bindArgs fd ⟨us,[]⟩ = pure (ps.zip us)
theorem InitAt.mk' {h:Heap} {x:Str} {C:Addr} {qual:Str} {st:Stmt} {ps:List Str} {f:Addr} {oc:Value} {od an:Option Addr} {osl:Array (Option Value)} {kV doc pm cdv ct:Value} (X:K.In h) (G:h.Ns mainGlobals mg) (aC:PySem.W.nsIn K mainGlobals x = some (some (.ref C)))
    (mk:PySem.W.makesIn K C = true) (kc:PySem.W.keepIn K (.ref C) = true)
    (a : PySem.W.findIn K (.ref C) "__init__" = some (some (.ref f))) (i : PySem.W.isFn K (.ref f) = true) (l : K.lookup f = some ⟨oc, od, .func (PySem.W.fnOf "__init__" qual (defArgs st) (defBody st) (defScope st) .none kV doc pm an cdv ct), osl⟩) (c : PySem.W.codeIn K cdv qual = true) (k : PySem.W.keepIn K (.ref f) = true)
    (b:∀ (kV doc pm:Value) (an:Option Addr) (cdv ct:Value) (us:List Value),us.length = ps.length -> bindArgs (PySem.W.fnOf "__init__" qual (defArgs st) (defBody st) (defScope st) .none kV doc pm an cdv ct) ⟨us,[]⟩ = pure (ps.zip us)) :
    ∃ f fd,InitAt K mg x C qual st ps f fd:=⟨f,_,fun_mk (st:=st) l c k,⟨mk,a,i,kc⟩,PySem.W.mg_of X G aC,b kV doc pm an cdv ct⟩
structure CalleeM (P:Program) (w:World) (K:PySem.W.Frag) (mg:Str -> Option Value) (base:Heap) (CX:CXT) (k:Nat) (C:Addr) (m:Str) (ps:List Str) (sp:Sp):Prop where
  ex:∃ (f:Addr) (fd:FuncData),FnOk P w K mg base CX k f fd ps sp /\ Meth K C m f /\ Binds K fd ps []
theorem CalleeM.of {k:Nat} {C:Addr} {m qual:Str} {st:Stmt} {ps:List Str} {sp:Sp} (D:∃ f fd,MethAt K C m qual st ps f fd) (h:∀ f fd,MethAt K C m qual st ps f fd -> FnOk P w K mg base CX k f fd ps sp):CalleeM P w K mg base CX k C m ps sp:=by
  obtain ⟨f,fd,D⟩:=D
  exact ⟨f,fd,h f fd D,D.me,.all D.ba⟩
structure CalleeI (P:Program) (w:World) (K:PySem.W.Frag) (mg:Str -> Option Value) (base:Heap) (k:Nat) (x:Str) (C:Addr) (ps:List Str) (sp:Sp):Prop where
  ex:∃ (f:Addr) (fd:FuncData),FnOk P w K mg base CX0 k f fd ps sp /\ Mk K C f /\ mg x = some (.ref C) /\ Binds K fd ps []
theorem CalleeI.of {k:Nat} {x:Str} {C:Addr} {qual:Str} {st:Stmt} {ps:List Str} {sp:Sp} (D:∃ f fd,InitAt K mg x C qual st ps f fd) (h:∀ f fd,InitAt K mg x C qual st ps f fd -> FnOk P w K mg base CX0 k f fd ps sp):CalleeI P w K mg base k x C ps sp:=by
  obtain ⟨f,fd,D⟩:=D
  exact ⟨f,fd,h f fd D,D.makes,D.mg,.all D.ba⟩
structure CalleeX (P:Program) (w:World) (K:PySem.W.Frag) (mg:Str -> Option Value) (base:Heap) (k:Nat) (x:Str) (ps:List Str) (sp:Sp):Prop where
  ex:∃ (f:Addr) (fd:FuncData),FnOk P w K mg base (Ex.CX1 P w) k f fd ps sp /\ mg x = some (.ref f) /\ PySem.W.keepIn K (.ref f) = true /\ Binds K fd ps []
end
section
variable {X:Cx} {CX:CXT} {k j:Nat} {C:Addr} {x m:Str} {ps:List Str} {sp:Sp} {p pos apos:Pos} {e o:Expr} {es:List Expr} {ta:TE} {t:TA} {E:XK}
theorem pe_m {pl:Sem Bool} (c:Cls X.K C) (M:CalleeM X.prog X.w X.K X.mg X.base CX k C m ps sp) (hr:Room j X.A) (hk:k <= j) (hx:Passes CX X E) (he:PE X o ta) (ha:PA X (e :: es) t)
    (hst:starEach (e :: es) X.env = (false,eval e X.env) :: starEach es X.env:=by rfl) (hpl:(backTo pos (starEach es X.env)).any (·.1) = false:=by rfl)
    (ht:eval (.Call (.Attribute o m apos) (e :: es) [] pos) X.env = (do
      let ov <- eval o X.env
      standAt apos.atName
      let (f,first) <- holding [ov] (getMethod ov m pl)
      callWith pos f first (backTo pos (starEach (e :: es) X.env)) (backToKw pos (keywordEach [] X.env))):=by rfl) :
    PE X (.Call (.Attribute o m apos) (e :: es) [] pos) (tMeth C m sp [] E ta t):=by
  obtain ⟨f,fd,F,hm,b⟩:=M.ex
  exact pe_meth he c hm F (hr.mono hk) b .nil hx ha hst hpl ht
theorem pe_m0 {pl:Sem Bool} (c:Cls X.K C) (M:CalleeM X.prog X.w X.K X.mg X.base CX k C m ps sp) (hr:Room j X.A) (hk:k <= j) (hx:Passes CX X E) (he:PE X o ta)
    (ht:eval (.Call (.Attribute o m apos) [] [] pos) X.env = (do
      let ov <- eval o X.env
      standAt apos.atName
      let (f,first) <- holding [ov] (getMethod ov m pl)
      callWith pos f first (backTo pos (starEach [] X.env)) (backToKw pos (keywordEach [] X.env))):=by rfl) :
    PE X (.Call (.Attribute o m apos) [] [] pos) (tMeth C m sp [] E ta tNil):=by
  obtain ⟨f,fd,F,hm,b⟩:=M.ex
  exact pe_meth0 he c hm F (hr.mono hk) b .nil hx ht
theorem pe_mk (I:CalleeI X.prog X.w X.K X.mg X.base k x C ps sp) (hr:Room j X.A) (hk:k + 1 <= j) (hg:Gl X x) (ha:PA X (e :: es) t)
    (hdb:(x == ("__debug__":Str)) = false:=by decide) (he:starEach (e :: es) X.env = (false,eval e X.env) :: starEach es X.env:=by rfl) (hpl:(backTo pos (starEach es X.env)).any (·.1) = false:=by rfl) :
    PE X (.Call (.Name x p) (e :: es) [] pos) (tMake C sp [] E0 t):=by
  obtain ⟨f,fd,F,M,hm,b⟩:=I.ex
  exact pe_make M F (hr.mono hk) hg hm b .nil pass0 ha hdb he hpl
end
end Com
set_option Elab.async false
set_option maxRecDepth 100000
namespace Com
open PySem PySem.Spec PyProof.Rows L2
theorem and_nat (a b:Nat):Builtin.bitAnd (a:Int) (b:Int) = ((a &&& b:Nat):Int):=by
  rw [bitAnd_pp (Int.natCast_nonneg a) (Int.natCast_nonneg b),Int.toNat_natCast,Int.toNat_natCast]
theorem not_nat (b:Nat):¬ (0 <= Builtin.bitNot (b:Int)):=by
  unfold Builtin.bitNot
  omega
theorem not_not (x:Int):Builtin.bitNot (Builtin.bitNot x) = x:=by
  unfold Builtin.bitNot
  omega
theorem or_nat (a b:Nat):Builtin.bitOr (a:Int) (b:Int) = ((a ||| b:Nat):Int):=by
  unfold Builtin.bitOr
  have e:Builtin.bitAnd (Builtin.bitNot (a:Int)) (Builtin.bitNot (b:Int)) = Builtin.bitNot (((Builtin.bitNot (Builtin.bitNot (a:Int))).toNat ||| (Builtin.bitNot (Builtin.bitNot (b:Int))).toNat:Nat):Int):=by
    have h1:=not_nat a
    have h2:=not_nat b
    unfold Builtin.bitAnd
    rw [decide_eq_false h1,decide_eq_false h2]
  rw [e,not_not,not_not,not_not,Int.toNat_natCast,Int.toNat_natCast]
theorem andnot_nat (a b:Nat):Builtin.bitAnd (a:Int) (Builtin.bitNot (b:Int)) = ((a - (a &&& b):Nat):Int):=by
  rw [bitAnd_pn (Int.natCast_nonneg a) (not_nat b),not_not,Int.toNat_natCast,Int.toNat_natCast]
  have:=@Nat.and_le_left a b
  omega
def rN (c:Nat -> Nat -> Prop) (f:Nat -> Nat -> Nat):R2:=fun x y H Q => ∃ a b:Nat,x = .int (a:Int) /\ y = .int (b:Int) /\ c a b /\ Q (.int ((f a b:Nat):Int)) H
def rN0 (f:Nat -> Nat -> Nat):R2:=fun x y H Q => ∃ a b:Nat,x = .int (a:Int) /\ y = .int (b:Int) /\ Q (.int ((f a b:Nat):Int)) H
def rNot:R2:=fun x y H Q => ∃ a b:Nat,x = .int (a:Int) /\ y = .int (Builtin.bitNot (b:Int)) /\ Q (.int ((a - (a &&& b):Nat):Int)) H
def Big (a:Nat):Prop:=a < 2 ^ 100000
theorem big_bits {a:Nat} (h:Big a):Builtin.Int.intBits (a:Int) <= 100000:=intBits_le_iff.mpr (by
  rw [Int.natAbs_natCast]
  exact h)
def CShl (a b:Nat):Prop:=Big a /\ b <= 100000
def CBig (a b:Nat):Prop:=Big a /\ Big b
section
variable {X:Cx}
theorem opN {f:Value -> Value -> Sem Value} {C:Nat -> Nat -> Prop} {g:Nat -> Nat -> Nat}
    (rule:∀ (i j:Nat) (t u:Tok) (s:Shared) (Q:Value -> Shared -> Prop) (E:Value -> Shared -> Prop),C i j -> Q (.int ((g i j:Nat):Int) s.toks) { s with toks:=s.toks + 1 } -> wpAny (model X.prog X.w) X.A (f (.int (i:Int) t) (.int (j:Int) u)) Q E s) :
    OpR X f (rN C g):=by
  intro pins s σ H x y v u Q I rx ry h
  obtain ⟨i,j,rfl,rfl,hc,q⟩:=h
  obtain ⟨t,rfl⟩:=rx
  obtain ⟨t',rfl⟩:=ry
  exact rule i j t t' s _ _ hc ⟨.int _,H,I.tok _,⟨_,rfl⟩,q⟩
theorem opN0 {f:Value -> Value -> Sem Value} {g:Nat -> Nat -> Nat}
    (rule:∀ (i j:Nat) (t u:Tok) (s:Shared) (Q:Value -> Shared -> Prop) (E:Value -> Shared -> Prop),Q (.int ((g i j:Nat):Int) s.toks) { s with toks:=s.toks + 1 } -> wpAny (model X.prog X.w) X.A (f (.int (i:Int) t) (.int (j:Int) u)) Q E s) :
    OpR X f (rN0 g):=by
  intro pins s σ H x y v u Q I rx ry h
  obtain ⟨i,j,rfl,rfl,q⟩:=h
  obtain ⟨t,rfl⟩:=rx
  obtain ⟨t',rfl⟩:=ry
  exact rule i j t t' s _ _ ⟨.int _,H,I.tok _,⟨_,rfl⟩,q⟩
theorem op_andN:OpR X (binaryOp .BitAnd) (rN0 fun a b => a &&& b):=opN0 fun i j _ _ _ _ _ q => and_int (by rw [and_nat]; exact q)
theorem op_orN:OpR X (binaryOp .BitOr) (rN0 fun a b => a ||| b):=opN0 fun i j _ _ _ _ _ q => or_int (by rw [or_nat]; exact q)
theorem op_shlN:OpR X (binaryOp .LShift) (rN CShl fun a b => a <<< b):=opN fun i j _ _ _ _ _ hc q => by
  refine lshift_int (Int.natCast_nonneg _) ?_ ?_
  . have:=big_bits hc.1
    have:=hc.2
    omega
  . rw [Int.toNat_natCast]
    rw [Nat.shiftLeft_eq,Int.natCast_mul,Int.natCast_pow] at q
    exact q
theorem op_shrN:OpR X (binaryOp .RShift) (rN0 fun a b => a >>> b):=opN0 fun i j _ _ _ _ _ q => by
  refine rshift_int (Int.natCast_nonneg _) ?_
  rw [Int.fdiv_eq_ediv_of_nonneg _ (two_pow_nn _),Int.toNat_natCast]
  rw [Nat.shiftRight_eq_div_pow,Int.natCast_ediv,Int.natCast_pow] at q
  exact q
theorem op_mulN:OpR X (binaryOp .Mult) (rN CBig fun a b => a * b):=opN fun i j _ _ _ _ _ hc q => by
  refine mul_int ?_ (.of_le (big_bits hc.1) (big_bits hc.2) (by decide))
  rw [Int.natCast_mul] at q
  exact q
theorem op_andnot:OpR X (binaryOp .BitAnd) rNot:=by
  intro pins s σ H x y v u Q I rx ry h
  obtain ⟨i,j,rfl,rfl,q⟩:=h
  obtain ⟨t,rfl⟩:=rx
  obtain ⟨t',rfl⟩:=ry
  refine and_int ?_
  rw [andnot_nat]
  exact ⟨.int _,H,I.tok _,⟨_,rfl⟩,q⟩
def ipN0 (f:Nat -> Nat -> Nat):TIp:=fun x y H Q => ∃ a b:Nat,x = .int (a:Int) /\ y = .int (b:Int) /\ Q (.int ((f a b:Nat):Int)) H
theorem ip_orN:PIp X .BitOr (ipN0 fun a b => a ||| b):=by
  intro pins s σ H x y v u Q I r1 r2 h
  obtain ⟨i,j,e1,e2,q⟩:=h
  subst e1; subst e2
  obtain ⟨t,rfl⟩:=r1
  obtain ⟨t',rfl⟩:=r2
  refine ior_int ?_
  rw [or_nat]
  exact ⟨.int _,H,I.tok _,⟨_,rfl⟩,q⟩
end
end Com
set_option Elab.async false
set_option maxRecDepth 100000
namespace Ex
open PySem PySem.Spec PyProof.Rows L2
def TrD (h base:Heap) (e:Addr) (cls:Value) (dd:Option Addr) (fl:Value):Prop :=
  ∃ oe vs T oT ts,h.get? e = some oe /\ (oe.cls = cls /\ oe.dict = dd) /\ oe.data = .fields vs /\ vs[1]? = some (.ref T) /\ base.get? T = none /\ T ≠ e /\ h.get? T = some oT /\ oT.data = .fields ts /\ ts[3]? = some fl
def StD (base:Heap) (l:List Env) (e:Addr) (cls:Value) (dd:Option Addr) (fl:Value) (h:Heap):Prop :=
  base.StaysIn h /\ base.get? e = none /\ h.FunFrames base l /\ TrD h base e cls dd fl
abbrev FlyD (base:Heap) (l:List Env) (e:Addr) (cls:Value) (dd:Option Addr) (h:Heap):Prop:=StD base l e cls dd .none h
theorem StD.there {base h:Heap} {l:List Env} {e:Addr} {cls fl:Value} {dd:Option Addr} (x:StD base l e cls dd fl h):∃ ob,h.get? e = some ob /\ ob.cls = cls /\ ob.dict = dd:=by
  obtain ⟨_,_,_,oe,_,_,_,_,he,hc,_⟩:=x
  exact ⟨oe,he,hc.1,hc.2⟩
theorem dict_mapFields (f:Array Value -> Array Value) (o:Obj):(Obj.mapFields f o).dict = o.dict:=by
  unfold Obj.mapFields
  split <;> rfl
section
variable {M:Model} {A:Around} {E:Value -> Shared -> Prop} {s:Shared}
theorem entryD {base:Heap} {env:Env} {outer:List Env} {L e:Addr} {oe:Obj} {vs:Array Value} {head:Value} {hadNext:Bool} {Q:Unit -> Shared -> Prop}
    (hfr:A.frames = some (env :: outer)) (hl:s.heap.FunFrames base (env :: outer)) (hf:env.frame = some L)
    (he:s.heap.get? e = some oe) (hkb:base.StaysIn s.heap) (hen:base.get? e = none) (hd:oe.data = .fields vs) (hsz:1 < vs.size)
    (h:∀ h',StD base (env :: outer) e oe.cls oe.dict (rawInt L) h' -> s.heap.UpToSlots h' -> Q () { s with heap:=h' }) :
    wpAny M A (do let a <- frameOf env; let pl <- entryPlaceOf L hadNext; let b <- EntryCells.newEntry head a .none (rawInt L) .none pl; setField (.ref e) 1 b) Q E s:=by
  have hene:e ∉ (env :: outer).filterMap (·.frame):=fun hm => by
    obtain ⟨_,o,ho,hnf⟩:=hl.mem hm
    rw [he] at ho
    cases ho
    exact hnf vs hd
  refine wpAny_bind (wpAny_frameOf_fun hfr hl hf fun h₁ hs₁ => ?_)
  refine wpAny_bind (wpAny_entryPlaceOf fun pl hpl => ?_)
  unfold EntryCells.newEntry newFields
  refine wpAny_bind (wpAny_newObj_type ?_ (hpl.sizeOk5 _ _ _ _ _))
  have he₁:h₁.get? e = some oe:=(hs₁.2.1 e hene).trans he
  have kb₁:base.StaysIn h₁:=fun b o hbo => (hs₁.2.1 b fun hm => by rw [(hl.mem hm).1] at hbo; cases hbo).trans (hkb b o hbo)
  generalize hob:({ cls:=.type "traceback",dict:=none,data:=.fields ([head,.ref L,.none,rawInt L,.none] ++ (if pl.isEmpty then List.replicate 6 Value.none else pl)).toArray }:Obj) = ob
  have he₂:=Heap.get?_push_of_some (h:=h₁) ob he₁
  refine wpAny_setField he₂ hd hsz ?_
  have hTe:h₁.objs.size ≠ e:=Nat.ne_of_gt (Heap.lt_size he₁)
  have hd₃:=Obj.data_mapFields hd (·.setIfInBounds 1 (Value.ref h₁.objs.size))
  have he₃:=Heap.get?_update_self (Obj.mapFields (·.setIfInBounds 1 (Value.ref h₁.objs.size))) he₂ (Obj.isFreed_of_fields hd₃)
  have hT₃:((h₁.push ob).update e (Obj.mapFields (·.setIfInBounds 1 (Value.ref h₁.objs.size)))).get? h₁.objs.size = some ob :=
    (Heap.get?_update_other (h₁.push ob) (Obj.mapFields (·.setIfInBounds 1 (Value.ref h₁.objs.size))) (Ne.symm hTe)).trans (Heap.get?_push_size h₁ (by rw [<- hob]; rfl))
  have keep:∀ b o,b ≠ e -> h₁.get? b = some o -> ((h₁.push ob).update e (Obj.mapFields (·.setIfInBounds 1 (Value.ref h₁.objs.size)))).get? b = some o:=fun b o hbe hb => by
    rw [Heap.get?_update_other _ _ (Ne.symm hbe)]
    exact Heap.get?_push_of_some _ hb
  have noRec:∀ b o,s.heap.get? b = some o -> (∀ vs,o.data ≠ .fields vs) -> b ≠ e:=fun b o hb hnf q => by
    rw [q,he] at hb
    cases hb
    exact hnf vs hd
  refine h _ ⟨fun b o hbo => keep b o (fun q => by rw [q,hen] at hbo; cases hbo) (kb₁ b o hbo),hen,hl.of_keeps fun b o hb hnf => ?_,?_⟩ fun b o hb hnf => ?_
  . obtain ⟨sl,hs⟩:=hs₁.2.2 b o hb
    exact ⟨_,keep b _ (noRec b o hb hnf) hs,rfl⟩
  . refine ⟨_,_,h₁.objs.size,ob,([head,.ref L,.none,rawInt L,.none] ++ (if pl.isEmpty then List.replicate 6 Value.none else pl)).toArray,he₃,⟨Obj.cls_mapFields _ _,dict_mapFields _ _⟩,hd₃,by simp [hsz],kb₁.fresh,hTe,hT₃,by rw [<- hob],by first | (simp; done) | (rcases hpl with rfl | ⟨_,_,_,_,_,_,_,rfl⟩ <;> simp)⟩
  . obtain ⟨sl,hs⟩:=hs₁.2.2 b o hb
    exact ⟨sl,keep b _ (noRec b o hb hnf) hs⟩
theorem note_firstD {base:Heap} {env:Env} {outer:List Env} {L e:Addr} {oe:Obj} {vs:Array Value} {Q:Unit -> Shared -> Prop}
    (hfr:A.frames = some (env :: outer)) (hl:s.heap.FunFrames base (env :: outer)) (hf:env.frame = some L)
    (he:s.heap.get? e = some oe) (hkb:base.StaysIn s.heap) (hen:base.get? e = none) (hd:oe.data = .fields vs) (h1:vs[1]? = some .none)
    (h:∀ h',StD base (env :: outer) e oe.cls oe.dict (rawInt L) h' -> s.heap.UpToSlots h' -> Q () { s with heap:=h' }):wpAny M A (noteFrame (.ref e) env) Q E s:=by
  unfold noteFrame
  simp only [hf]
  refine wpAny_bind (wpAny_field he hd h1 ?_)
  rw [if_neg (by decide)]
  exact entryD hfr hl hf he hkb hen hd (Array.getElem?_eq_some_iff.mp h1).1 h
theorem note_onD {base:Heap} {env:Env} {outer:List Env} {L e:Addr} {cls:Value} {dd:Option Addr} {Q:Unit -> Shared -> Prop}
    (hfr:A.frames = some (env :: outer)) (hf:env.frame = some L) (hh:FlyD base (env :: outer) e cls dd s.heap)
    (h:∀ h',StD base (env :: outer) e cls dd (rawInt L) h' -> s.heap.UpToSlots h' -> Q () { s with heap:=h' }):wpAny M A (noteFrame (.ref e) env) Q E s:=by
  obtain ⟨hkb,hen,hl,oe,vs,T,oT,ts,he,⟨hcls,hdd⟩,hd,h1,hnT,hTe,hT,hdT,h3⟩:=hh
  subst hcls
  subst hdd
  unfold noteFrame
  simp only [hf]
  refine wpAny_bind (wpAny_field he hd h1 ?_)
  rw [if_pos (show (Value.ref T != Value.none) = true from by simp)]
  refine wpAny_bind (wpAny_field hT hdT h3 ?_)
  rw [if_neg (show ¬ ((Value.none == rawInt L) = true) from by simp [rawInt])]
  refine wpAny_bind (wpAny_setField hT hdT (Array.getElem?_eq_some_iff.mp h3).1 ?_)
  have other:∀ b,b ≠ T -> (s.heap.update T (Obj.mapFields (·.setIfInBounds 3 Value.none))).get? b = s.heap.get? b:=fun b hb => Heap.get?_update_other _ _ (Ne.symm hb)
  have noRec:∀ b o,s.heap.get? b = some o -> (∀ vs,o.data ≠ .fields vs) -> b ≠ T:=fun b o hb hnf q => by
    rw [q,hT] at hb
    cases hb
    exact hnf ts hdT
  refine entryD hfr (hl.of_keeps fun b o hb hnf => ⟨o,(other b (noRec b o hb hnf)).trans hb,rfl⟩) hf ((other e (Ne.symm hTe)).trans he)
    (fun b o hbo => (other b fun q => by rw [q,hnT] at hbo; cases hbo).trans (hkb b o hbo)) hen hd (Array.getElem?_eq_some_iff.mp h1).1
    fun h' x u => h h' x fun b o hb hnf => u b o ((other b (noRec b o hb hnf)).trans hb) hnf
theorem landsD {base:Heap} {l:List Env} {e:Addr} {cls fl:Value} {dd:Option Addr} {Q:Unit -> Shared -> Prop} (hh:StD base l e cls dd fl s.heap)
    (h:∀ h',FlyD base l e cls dd h' -> s.heap.UpToSlots h' -> Q () { s with heap:=h' }):wpAny M A (setFlight (.ref e) none) Q E s:=by
  obtain ⟨hkb,hen,hl,oe,vs,T,oT,ts,he,hc,hd,h1,hnT,hTe,hT,hdT,h3⟩:=hh
  have hsz3:3 < ts.size:=(Array.getElem?_eq_some_iff.mp h3).1
  have other:∀ b,b ≠ T -> (s.heap.update T (Obj.mapFields (·.setIfInBounds 3 ((none:Option Addr).elim Value.none fun f => rawInt f)))).get? b = s.heap.get? b :=
    fun b hb => Heap.get?_update_other _ _ (Ne.symm hb)
  have noRec:∀ b o,s.heap.get? b = some o -> (∀ vs,o.data ≠ .fields vs) -> b ≠ T:=fun b o hb hnf q => by
    rw [q,hT] at hb
    cases hb
    exact hnf ts hdT
  unfold setFlight
  refine wpAny_bind (wpAny_field he hd h1 ?_)
  rw [if_pos (show (Value.ref T != Value.none) = true from by simp)]
  refine wpAny_setField hT hdT hsz3 (h _ ⟨fun b o hbo => (other b fun q => by rw [q,hnT] at hbo; cases hbo).trans (hkb b o hbo),hen,
    hl.of_keeps fun b o hb hnf => ⟨o,(other b (noRec b o hb hnf)).trans hb,rfl⟩,?_⟩ fun b o hb hnf => ⟨o.slots,(other b (noRec b o hb hnf)).trans hb⟩)
  exact ⟨oe,vs,T,_,_,(other e (Ne.symm hTe)).trans he,hc,hd,h1,hnT,hTe,Heap.get?_update_self _ hT (Obj.isFreed_of_fields (Obj.data_mapFields hdT _)),Obj.data_mapFields hdT _,by simp [hsz3]⟩
theorem off_top {base h:Heap} {env:Env} {outer:List Env} {e:Addr} {cls fl:Value} {dd:Option Addr} (x:StD base (env :: outer) e cls dd fl h):StD base outer e cls dd fl h:=by
  obtain ⟨k1,k2,⟨_,_,k3⟩,k4⟩:=x
  exact ⟨k1,k2,k3,k4⟩
theorem leaves_madeD {base:Heap} {env:Env} {outer:List Env} {L e:Addr} {oe:Obj} {vs:Array Value} {Q:Unit -> Shared -> Prop}
    (hfr:A.frames = some (env :: outer)) (hl:s.heap.FunFrames base (env :: outer)) (hf:env.frame = some L)
    (he:s.heap.get? e = some oe) (hkb:base.StaysIn s.heap) (hen:base.get? e = none) (hd:oe.data = .fields vs) (h1:vs[1]? = some .none)
    (h:∀ h',FlyD base outer e oe.cls oe.dict h' -> s.heap.UpToSlots h' -> Q () { s with heap:=h' }):wpAny M A (leaving env (.ref e)) Q E s:=by
  unfold leaving
  refine wpAny_bind (note_firstD hfr hl hf he hkb hen hd h1 fun h1 x1 u1 => ?_)
  exact landsD (s:={ s with heap:=h1 }) x1 fun h2 x2 u2 => h h2 (off_top x2) (u1.trans u2)
theorem leaves_onD {base:Heap} {env:Env} {outer:List Env} {L e:Addr} {cls:Value} {dd:Option Addr} {Q:Unit -> Shared -> Prop}
    (hfr:A.frames = some (env :: outer)) (hf:env.frame = some L) (hh:FlyD base (env :: outer) e cls dd s.heap)
    (h:∀ h',FlyD base outer e cls dd h' -> s.heap.UpToSlots h' -> Q () { s with heap:=h' }):wpAny M A (leaving env (.ref e)) Q E s:=by
  unfold leaving
  refine wpAny_bind (note_onD hfr hf hh fun h1 x1 u1 => ?_)
  exact landsD (s:={ s with heap:=h1 }) x1 fun h2 x2 u2 => h h2 (off_top x2) (u1.trans u2)
end
end Ex
set_option Elab.async false
set_option maxRecDepth 100000
namespace Ex
open PySem PySem.Spec PyProof.Rows L2
open PySem.W (hideAll hideAll_get of_hideAll hideAll_none funFrames_hide exmOne)
def CX2 (P:Program) (w:World):CXT:=fun outer H s E e s' => ∃ (ea C:Addr) (dd:Option Addr) (H':Hp) (B:Heap),
  e = .ref ea /\ FlyD B outer ea (.ref C) dd s'.heap /\ HOk P w H' B /\ s'.os = s.os /\ AllBare s'.gens /\ Un (frs outer) [] H H' s.heap s'.heap /\
  (∀ b o,s.heap.get? b = some o -> H b = none -> b ∉ frs outer -> B.get? b = some o) /\ (∀ b o,s.heap.get? b = some o -> b ∉ frs outer -> ∃ o',B.get? b = some o') /\ E (.ref C) dd H'
structure Body2 (X:Cx) (E:XK):Prop where
  xe:X.xe = fun e s' => wpAny (model X.prog X.w) X.A (leaving X.env e) (fun _ s'' => CX2 X.prog X.w X.outer X.H_0 X.s_0 E e s'') (fun e' s'' => CX2 X.prog X.w X.outer X.H_0 X.s_0 E e' s'') s'
  stk:X.stack = X.env :: X.outer
  fr:X.env.frame = some X.env.locals
  ex:X.ex = []
theorem body_cx2 {P:Program} {w:World} {K:PySem.W.Frag} {mg:Str -> Option Value} {base:Heap} {N:List Str} {qual:Str} {scope:Scope} {f:Addr} {cd:Value} {A:Around} {outer:List Env} {s:Shared} {H:Hp} {E:XK} :
    Body2 (cxOf (CX2 P w) P w K mg base N qual scope f cd A outer s H E) E:=⟨rfl,rfl,rfl,rfl⟩
def exAt (C:Addr) (dd:Option Addr) (ea:Addr):HO:=.ext fun h => ∃ oe,h.get? ea = some oe /\ (oe.cls = .ref C /\ oe.dict = dd) /\ ∃ vs,oe.data = .fields vs
theorem exAt_ok {P:Program} {w:World} {H:Hp} {h:Heap} {C ea:Addr} {dd:Option Addr} {oe:Obj} {vs:Array Value} (e:h.get? ea = some oe) (c:oe.cls = .ref C /\ oe.dict = dd) (d:oe.data = .fields vs):ObjOk P w H h ea (exAt C dd ea) :=
  ⟨⟨oe,e,c,vs,d⟩,⟨oe,e⟩,fun h1 h2 ⟨o,e1,c1,d1⟩ k => ⟨o,k o e1,c1,d1⟩⟩
theorem obj_there {P:Program} {w:World} {H:Hp} {h:Heap} {a:Addr} {o:HO} (x:ObjOk P w H h a o):∃ ob,h.get? a = some ob:=by
  cases o with
  | lst xs => obtain ⟨_,_,_,_,e⟩:=x; exact ⟨_,e⟩
  | tup xs => obtain ⟨_,_,_,ob,e,_⟩:=x; exact ⟨_,e⟩
  | dK kvs => obtain ⟨_,_,_,_,ob,_,_,e,_⟩:=x; exact ⟨_,e⟩
  | dT kvs => obtain ⟨_,_,_,_,ob,_,_,e,_⟩:=x; exact ⟨_,e⟩
  | set S n => obtain ⟨ob,_,_,_,e,_⟩:=x; exact ⟨_,e⟩
  | ins C dx fs => obtain ⟨_,_,_,e,_⟩:=x; exact ⟨_,e⟩
  | own y => exact x
  | xd fs => obtain ⟨_,⟨_,_,_,e,_⟩,_⟩:=x; exact ⟨_,e⟩
  | rng lo hi => obtain ⟨_,_,_,e⟩:=x; exact ⟨_,e⟩
  | frz ob u => obtain ⟨e,_⟩:=x; exact ⟨_,e⟩
  | tbl ps => exact ⟨_,x⟩
  | met f y => exact ⟨_,x⟩
  | ext φ => obtain ⟨_,e,_⟩:=x; exact e
section
variable {X:Cx} {pins:List (Addr × Obj)} {σ:L2.St} {H H':Hp} {s s':Shared} {E:XK}
theorem pass2 (Bd:Body2 X E):Passes (CX2 X.prog X.w) X E:=by
  rintro pins σ H s e s' I ⟨ea,C,dd,H',B,rfl,fl,hokB,os,bare,un,bk,bt,hE⟩
  rw [Bd.stk] at fl
  rw [Bd.xe]
  have hex:∀ b:Addr,b ∉ X.ex:=fun b z => by rw [Bd.ex] at z; simp at z
  refine leaves_onD (by rw [I.ok.frames,Bd.stk]) Bd.fr fl fun h' x1 x2 => ?_
  have inS:∀ b ∈ frs X.outer,b ∈ frs X.stack:=fun b hb => by
    rw [Bd.stk]
    show b ∈ (X.env :: X.outer).filterMap (·.frame)
    rw [List.filterMap_cons,Bd.fr]
    exact List.mem_cons_of_mem _ hb
  have inB:∀ b o,X.s_0.heap.get? b = some o -> X.H_0 b = none -> b ∉ frs X.outer -> B.get? b = some o:=fun b o e n hb =>
    bk b o (I.base.keep b o e n hb (hex b)) (I.base.free b o e n (hex b)) (noStk I e hb)
  have slot:∀ b o,X.s_0.heap.get? b = some o -> X.H_0 b = none -> b ∈ frs X.outer -> ∃ sl,h'.get? b = some { o with slots:=sl }:=fun b o e n hb => by
    obtain ⟨sl,e1⟩:=I.base.slot b o e n hb (hex b)
    obtain ⟨sl2,e2⟩:=un.slot b _ e1 (I.base.free b o e n (hex b)) (inS b hb) (by simp)
    obtain ⟨sl3,e3⟩:=x2 b _ e2 (fun vs => frame_data I hb e1 vs)
    exact ⟨sl3,e3⟩
  have thB:∀ b o,X.s_0.heap.get? b = some o -> b ∉ frs X.outer -> ∃ o',B.get? b = some o':=fun b o e hb => by
    obtain ⟨o',e1⟩:=I.base.there b o e (hex b)
    exact bt b o' e1 (noStk I e hb)
  refine ⟨ea,C,dd,H',B,rfl,x1,hokB,os.trans I.os,bare,⟨fun b o e n hb _ => x1.1 b o (inB b o e n hb),fun b o e n hb _ => slot b o e n hb,fun b o e n _ => ?_,fun b o e _ => ?_,fun b xs q => un.tups b xs (I.base.tups b xs q),fun b o u q => un.frzs b o u (I.base.frzs b o u q),fun b ps q => ?_⟩,inB,thB,hE⟩
  . obtain ⟨o1,e1⟩:=I.base.there b o e (hex b)
    exact un.free b o1 e1 (I.base.free b o e n (hex b)) (by simp)
  . by_cases hb:b ∈ frs X.outer
    . obtain ⟨sl,q⟩:=slot b o e (I.ok.frf b hb) hb
      exact ⟨_,q⟩
    . obtain ⟨o',q⟩:=thB b o e hb
      exact ⟨o',x1.1 b o' q⟩
  . obtain ⟨m1,e1⟩:=I.base.tbls b ps q
    obtain ⟨m2,e2⟩:=un.tbls b _ e1
    exact ⟨m1 ++ m2,by rw [e2,Array.append_assoc]⟩
end
def Xb2 (X:Cx) (pins:List (Addr × Obj)) (Et:XK):Cx:={ X with pn:=X.pn ++ pins,xe:=fun e s' => ∃ (pins':List (Addr × Obj)) (σ:L2.St) (H:Hp) (s:Shared),Inv { X with pn:=X.pn ++ pins } pins' σ H s /\ CX2 X.prog X.w X.stack H s Et e s' }
section
variable {X:Cx} {pins pins':List (Addr × Obj)} {σ:L2.St} {H H':Hp} {s s':Shared} {Et:XK}
theorem inv_xb2 (I:Inv X pins σ H s):Inv (Xb2 X pins Et) [] σ H s:=(inv_pn I).wish _
theorem inv_unxb2 (I:Inv (Xb2 X pins Et) pins' σ H s):Inv X pins σ H s:=inv_unpn (I.unwish (X:={ X with pn:=X.pn ++ pins }))
theorem passT2:Passes (CX2 X.prog X.w) (Xb2 X pins Et) Et:=fun pins' σ H s e s' I h => ⟨pins',σ,H,s,I.unwish (X:={ X with pn:=X.pn ++ pins }),h⟩
theorem newE (I:Inv X pins σ H s) {ea:Addr} {cls:Value} {dd:Option Addr} {B h':Heap} (bt:∀ b o,s.heap.get? b = some o -> b ∉ frs X.stack -> ∃ o',B.get? b = some o') (hen:B.get? ea = none)
    (un:Un (frs X.stack) [] H H' s.heap s'.heap) (fl:FlyD B X.stack ea cls dd s'.heap):s.heap.get? ea = none:=by
  cases q:s.heap.get? ea with
  | none => rfl
  | some o =>
    by_cases hb:ea ∈ frs X.stack
    . obtain ⟨_,o',ho',hd⟩:=fl.2.2.1.mem hb
      obtain ⟨_,_,_,oe,vs,_,_,_,he,_,hv,_⟩:=fl
      rw [he] at ho'
      cases ho'
      exact absurd hv (hd vs)
    . obtain ⟨o',e⟩:=bt ea o q hb
      rw [hen] at e
      cases e
theorem landed2 (I:Inv X pins σ H s) {ea C:Addr} {B:Heap} {dd:Option Addr} (fl0:s'.os = s.os) (bare:AllBare s'.gens) (un:Un (frs X.stack) [] H H' s.heap s'.heap) (hokB:HOk X.prog X.w H' B)
    (bk:∀ b o,s.heap.get? b = some o -> H b = none -> b ∉ frs X.stack -> B.get? b = some o) (bt:∀ b o,s.heap.get? b = some o -> b ∉ frs X.stack -> ∃ o',B.get? b = some o')
    (new:s.heap.get? ea = none) {h':Heap} (fl:FlyD B X.stack ea (.ref C) dd h') (up:s'.heap.UpToSlots h'):Inv X pins σ (upd H' ea (exAt C dd ea)) { s' with heap:=h' }:=by
  have ne:∀ {b:Addr} {o:Obj},s.heap.get? b = some o -> b ≠ ea:=fun {b o} e z => by
    rw [z,new] at e
    cases e
  have neH:∀ {b:Addr} {o:HO},H b = some o -> b ≠ ea:=fun {b o} e => by
    obtain ⟨ob,q⟩:=obj_there (I.hok b o e)
    exact ne q
  have hH':H' ea = none:=by
    cases q:H' ea with
    | none => rfl
    | some u =>
      obtain ⟨ob,e⟩:=obj_there (hokB ea u q)
      rw [fl.2.1] at e
      cases e
  have slot:∀ b o,s.heap.get? b = some o -> H b = none -> b ∈ frs X.stack -> ∃ sl,h'.get? b = some { o with slots:=sl }:=fun b o e n hb => by
    obtain ⟨sl2,e2⟩:=un.slot b o e n hb (by simp)
    obtain ⟨_,o',ho',hd⟩:=I.stack.mem hb
    rw [e] at ho'
    cases ho'
    obtain ⟨sl3,e3⟩:=up b _ e2 (fun vs => hd vs)
    exact ⟨sl3,e3⟩
  have hok':HOk X.prog X.w (upd H' ea (exAt C dd ea)) h':=by
    intro b o q
    by_cases hb:b = ea
    . subst hb
      rw [upd_same] at q
      cases q
      obtain ⟨_,_,_,oe,vs,_,_,_,he,hc,hd,_⟩:=fl
      exact exAt_ok he hc hd
    . rw [upd_ne hb] at q
      refine (hokB b o q).stay (fun c u _ e => fl.1 c u e) (fun c e => ?_) fun c xs e => ?_
      . rw [upd_ne (fun z => by rw [z,hH'] at e; cases e)]
        exact e
      . rw [upd_ne (fun z => by rw [z,hH'] at e; cases e)]
        exact e
  refine I.call' (s':={ s' with heap:=h' }) (ch:=[]) fl0 ⟨fun b o e n hb _ => fl.1 b o (bk b o e n hb),fun b o e n hb _ => slot b o e n hb,fun b o e n x => ?_,fun b o e _ => ?_,fun b xs e => ?_,fun b o u e => ?_,fun b ps e => ?_⟩ hok' bare (fun b z => absurd z (by simp))
  . rw [upd_ne (ne e)]
    exact un.free b o e n x
  . by_cases hb:b ∈ frs X.stack
    . obtain ⟨sl,q⟩:=slot b o e (I.stkFree b hb) hb
      exact ⟨_,q⟩
    . obtain ⟨o',q⟩:=bt b o e hb
      exact ⟨o',fl.1 b o' q⟩
  . rw [upd_ne (neH e)]
    exact un.tups b xs e
  . rw [upd_ne (neH e)]
    exact un.frzs b o u e
  . rw [upd_ne (neH e)]
    exact un.tbls b ps e
end
end Ex
set_option Elab.async false
set_option maxRecDepth 100000
set_option linter.unusedVariables false
namespace Ex
open PySem PySem.Spec PyProof.Rows L2
open PySem.W (exmOne)
section
variable {X:Cx} {pins pins':List (Addr × Obj)} {σ:L2.St} {H H':Hp} {s s':Shared} {Et:XK}
theorem inv_goes (I:Inv X pins σ H s) {h':Heap} {t:Nat} {m:Str -> Option Value} (hn':h'.Ns X.env.locals m) (hs:Heap.SameBut X.env.locals s.heap h'):Inv X pins (List.replicate σ.length none) H { s with heap:=h',toks:=t }:=by
  obtain ⟨m0,hn,hl⟩:=id I.loc
  obtain ⟨oL,_,_,hoL,_⟩:=id hn
  refine ⟨I.ok,I.os,I.bare,⟨fun b o e n hb hx => ?_,fun b o e n hb hx => ?_,I.base.free,fun b o e hx => ?_,I.base.tups,I.base.frzs,I.base.tbls⟩,⟨_,hn',fun j y v' e1 e2 e3 => ?_⟩,fun y c e => ?_,I.free,I.freeC,fun p hp => ?_,fun b ob e => ?_,by rw [List.length_replicate]; exact I.len⟩
  . exact (hs.2 b (Nat.ne_of_lt (Nat.lt_of_lt_of_le (Heap.lt_size e) I.ok.above))).trans (I.base.keep b o e n hb hx)
  . obtain ⟨sl,e1⟩:=I.base.slot b o e n hb hx
    exact ⟨sl,(hs.2 b (Nat.ne_of_lt (Nat.lt_of_lt_of_le (Heap.lt_size e) I.ok.above))).trans e1⟩
  . obtain ⟨o',e1⟩:=I.base.there b o e hx
    exact ⟨o',(hs.2 b (Nat.ne_of_lt (Nat.lt_of_lt_of_le (Heap.lt_size e) I.ok.above))).trans e1⟩
  . rw [List.getElem?_replicate] at e2
    split at e2
    . cases e2
    . cases e2
  . obtain ⟨w',z⟩:=I.cell y c e
    exact ⟨w',z.sameBut hs (I.cne y c e)⟩
  . obtain ⟨e,n,ne,nf,d⟩:=I.pin p hp
    exact ⟨(hs.2 p.1 ne).trans e,n,ne,nf,d⟩
  . refine (I.hok b ob e).stay (fun c w' hc q => (hs.2 c ?_).trans q) (fun _ q => q) fun _ _ q => q
    rintro rfl
    rcases hc with rfl | hc
    . rw [I.free] at e; cases e
    . rw [I.free] at hc; cases hc
def Xa (X:Cx) (e:Value) (n:Str) (pos:Pos):Cx:={ X with A:=X.A.mark (some e),calm:=false,xe:=AsSuiteRaised (model X.prog X.w) (X.A.mark (some e)) X.env n pos (notedBy (model X.prog X.w) (X.A.mark (some e)) X.env (cameBackBy (model X.prog X.w) X.A X.env X.xe)) }
theorem inv_xa (I:Inv X pins σ H s) {e:Value} {n:Str} {pos:Pos}:Inv (Xa X e n pos) pins σ H s :=
  ⟨⟨I.ok.mod,I.ok.kind,I.ok.glob,I.ok.blt,I.ok.above,I.ok.inj,I.ok.has,I.ok.cab,(fun z => absurd z (by show ¬ (false = true); decide)),I.ok.frames,I.ok.stk,I.ok.exf,I.ok.bs,I.ok.bsz,I.ok.noex,I.ok.exfs,I.ok.funs,I.ok.frf⟩,I.os,I.bare,I.base,I.loc,I.cell,I.free,I.freeC,I.pin,I.hok,I.len⟩
theorem inv_unxa {e:Value} {n:Str} {pos:Pos} (ok:X.Ok) (I:Inv (Xa X e n pos) pins σ H s):Inv X pins σ H s:=⟨ok,I.os,I.bare,I.base,I.loc,I.cell,I.free,I.freeC,I.pin,I.hok,I.len⟩
def PH2 (X:Cx) (hs:List ExceptHandler) (C ea:Addr) (t:TS):Prop :=
  ∀ (pins:List (Addr × Obj)) (s:Shared) (σ:L2.St) (H:Hp) (D:Ends) (B:Heap) (dd:Option Addr),Inv X pins σ H s -> FlyD B X.stack ea (.ref C) dd s.heap ->
    (∀ h',FlyD B X.stack ea (.ref C) dd h' -> s.heap.UpToSlots h' -> Inv X pins σ H { s with heap:=h' }) -> t D σ H -> wpAny (model X.prog X.w) X.A (handleBy (.ref ea) X.env hs) (SP X pins D) X.xe s
theorem ty_of2 {M:Model} {B h:Heap} {l:List Env} {ea:Addr} {cls:Value} {dd:Option Addr} (fl:FlyD B l ea cls dd h):PySem.W.Looks M h (typeOf (.ref ea)) cls:=by
  obtain ⟨ob,hob,hc,_⟩:=fl.there
  subst hc
  exact (PySem.W.Looks.ld hob).andThen .now
theorem ph_no2 {x:Str} {np pos:Pos} {body:List Stmt} {nm:Option Str} {rest:List ExceptHandler} {C C' ea:Addr} {t:TS} (hg:Gl X x) (hm:X.mg x = some (.ref C')) (hx:exmOne X.K (.ref C) (.ref C') = some false) (hr:PH2 X rest C ea t)
    (hd:(x == ("__debug__":Str)) = false:=by decide):PH2 X (.ExceptHandler (some (.Name x np)) nm body pos :: rest) C ea t:=by
  intro pins s σ H D B dd I fl up ht
  refine wpAny_handleBy_cons (codeAny_handlers_test (ld_glob (X:=Xm X (.ref ea)) (inv_xm I) hg hm ?_ hd)) (by intro q; cases q)
  exact (PySem.W.exm_one I.kIn (ty_of2 fl) hx).here (hr pins s σ H D B dd I fl up ht)
def tAs (i:Nat) (ea:Addr) (t:TS):TS:=fun D σ H => t { D with nx:=fun _ _ => False,ct:=fun _ _ => False,bk:=fun _ _ => False } (σ.set i (some (.ref ea))) H
theorem ph_as {x n:Str} {i:Nat} {np pos:Pos} {b0:Stmt} {suite:List Stmt} {rest:List ExceptHandler} {C ea:Addr} {t:TS} (hN:X.N.Nodup) (hi:X.N[i]? = some n) (hlo:X.env.kindOf n = some .local) (hg:Gl X x) (hm:X.mg x = some (.ref C)) (hx:exmOne X.K (.ref C) (.ref C) = some true)
    (hs:∀ e pos,PSs (Xa X e n pos) (b0 :: suite) t) (hL:Loc X.env.scope n) (hf:X.fn n = true \/ X.env.scope.names.lookup n = some .local)
    (hd:(x == ("__debug__":Str)) = false:=by decide):PH2 X (.ExceptHandler (some (.Name x np)) (some n) (b0 :: suite) pos :: rest) C ea (tAs i ea t):=by
  intro pins s σ H D B dd I fl up ht
  refine wpAny_handleBy_cons (codeAny_handlers_test (ld_glob (X:=Xm X (.ref ea)) (inv_xm I) hg hm ?_ hd)) (by intro q; cases q)
  refine (PySem.W.exm_one I.kIn (ty_of2 fl) hx).here ?_
  refine codeAny_handlers_suite_as (landsD fl fun h6 fl6 up6 => ?_)
  refine store_ok (X:=Xa X (.ref ea) n pos) (inv_xa (up h6 fl6 up6)) hN hi hL (show RelV (.ref ea) (.ref ea) from rfl) (fun s7 I7 => ?_) hf
  refine thn (hs (.ref ea) pos pins _ _ H _ I7 ht) fun f s2 q => ?_
  cases f with
  | next => obtain ⟨σ',H',J,q⟩:=q; exact q.elim
  | brk => obtain ⟨σ',H',J,q⟩:=q; exact q.elim
  | cont => obtain ⟨σ',H',J,q⟩:=q; exact q.elim
  | ret u =>
    obtain ⟨v,σ',H',J,r,q⟩:=q
    have J':=inv_unxa I.ok J
    obtain ⟨m,hn,_⟩:=id J'.loc
    exact wpAny_nameGoes hlo hn (by rw [I.ok.kind]; rfl) fun h' m' hn' hs' => ⟨v,_,H',inv_goes J' hn' hs',r,q⟩
def tTry2 (n:Nat) (cs:List (Addr × (Addr -> TS))) (tb:XK -> TS):TS:=fun D σ H => tb (fun cls dd H' => ∃ c ∈ cs,cls = .ref c.1 /\ ∀ (σ':L2.St) ea,σ'.length = n -> H' ea = none -> c.2 ea D σ' (upd H' ea (exAt c.1 dd ea))) D σ H
theorem ps_try2 {body:List Stmt} {h0:ExceptHandler} {hs:List ExceptHandler} {pos:Pos} {cs:List (Addr × (Addr -> TS))} {tb:XK -> TS} (hstk:X.stack = X.env :: X.outer) (hfr:X.env.frame = some X.env.locals)
    (hb:∀ pins Et,PSs (Xb2 X pins Et) body (tb Et)) (hh:∀ c ∈ cs,∀ ea,PH2 X (h0 :: hs) c.1 ea (c.2 ea)):PS X (.Try body (h0 :: hs) [] [] pos) (tTry2 X.N.length cs tb):=by
  intro pins s σ H D I ht
  refine wpAny_Try_except (wpAny_mono (hb pins _ [] s σ H D (inv_xb2 I) ht) (fun f s1 q => ?_) fun e s1 q => ?_)
  . cases f with
    | next => obtain ⟨σ',H',J,q⟩:=q; exact wpAny_execs_nil ⟨σ',H',inv_unxb2 J,q⟩
    | brk => obtain ⟨σ',H',J,q⟩:=q; exact ⟨σ',H',inv_unxb2 J,q⟩
    | cont => obtain ⟨σ',H',J,q⟩:=q; exact ⟨σ',H',inv_unxb2 J,q⟩
    | ret u => obtain ⟨v,σ',H',J,r,q⟩:=q; exact ⟨v,σ',H',inv_unxb2 J,r,q⟩
  . obtain ⟨pins',σ1,H1,s2,I1,ea,C,dd,H',B,rfl,fl,hokB,os,bare,un,bk,bt,c,hc,ecls,hq⟩:=q
    cases ecls
    have J:=inv_unpn I1
    have new:s2.heap.get? ea = none:=newE J (B:=B) (h':=s1.heap) (cls:=.ref c.1) (dd:=dd) bt fl.2.1 un fl
    have hH':H' ea = none:=by
      cases q:H' ea with
      | none => rfl
      | some u =>
        obtain ⟨ob,e⟩:=obj_there (hokB ea u q)
        rw [fl.2.1] at e
        cases e
    rw [hstk] at fl
    refine note_onD (by rw [J.ok.frames,hstk]) hfr fl fun h4 held4 up4 => ?_
    refine landsD held4 fun h5 fl5 up5 => ?_
    rw [<- hstk] at fl5
    have up:∀ h',FlyD B X.stack ea (.ref c.1) dd h' -> h5.UpToSlots h' -> Inv X pins σ1 (upd H' ea (exAt c.1 dd ea)) { s1 with heap:=h' }:=fun h' f u => landed2 J os bare un hokB bk bt new f ((up4.trans up5).trans u)
    exact hh c hc ea pins { s1 with heap:=h5 } σ1 _ D B dd (landed2 J os bare un hokB bk bt new fl5 (up4.trans up5)) fl5 up (hq σ1 ea J.len hH')
end
end Ex
set_option Elab.async false
set_option maxRecDepth 100000
set_option linter.unusedVariables false
namespace Ex
open PySem PySem.Spec PyProof.Rows L2
section
variable {prog:Program} {w:World} {A:Around} {E:Value -> Shared -> Prop} {h:Heap} {g:Array GenState} {d:Drawn} {t:Nat} {os:OsState} {a dx:Addr} {o:Obj}
  {nm q:Str} {C N:Addr} {bs:List Value} {sn:List Str} {sub:List Value} {ab:Bool} {col:Option Bool} {dd:Option Addr} {k0 k1 k2 k3 k5:Option Value} {newId:String} {mN mA:Str -> Option Value} {name:Str} {v:Value}
theorem ga_check {M:Model} {nameV:Value} {Q:Unit -> Shared -> Prop} (hC:h.get? C = some (excClassObj nm q C N bs bmE true sn sub ab col dd k0 k1 k2 k3 k5 newId))
    (hx:h.get? a = some o) (hc:o.cls = .ref C) (hq:Q () ⟨h,g,d,t,os⟩):wpAny M A (checkBuiltinCall "BaseException.__getattribute__" ⟨[.ref a,nameV],[]⟩) Q E ⟨h,g,d,t,os⟩:=by
  have hk:builtinKind "BaseException.__getattribute__" = some .slot:=by decide +kernel
  have hsplit : splitId "BaseException.__getattribute__" = some ("BaseException", "__getattribute__") := by decide +kernel
  have hcB:(Value.ref C :: bmE).contains (.type "BaseException") = true:=by rw [List.contains_cons]; simp [bmE]
  have ha:=F.args_bexc_ga (.ref a) nameV
  simp only [checkBuiltinCall,hk,hsplit]
  refine wpAny_bind ?_
  unfold isInstance
  repeat (first | (with_reducible refine wpAny_loadPart_at hx ?_; rw [hc]) | (with_reducible refine wpAny_isSubtype_exc hC ?_; rw [hcB]) | wp_step)
  exact hq
theorem ga_entry {tk:Tok} {Q:Fin -> Shared -> Prop} (hC:h.get? C = some (excClassObj nm q C N bs bmE true sn sub ab col dd k0 k1 k2 k3 k5 newId)) (hN:h.Ns N mN) (hna:mN name = none)
    (hB:typeLookup (.type "Exception") name = pure none) (hx:h.get? a = some o) (hc:o.cls = .ref C) (hnc:∀ c,o.data ≠ .cls c) (hdx:o.dict = some dx) (hns:h.Ns1 dx mA) (hv:mA name = some v) (hq:Q (.done (.ret v)) ⟨h,g,d,t,os⟩) :
    wpAny (model prog w) A (Builtin.«object.__getattribute__» ⟨[.ref a,.str name tk],[]⟩) Q E ⟨h,g,d,t,os⟩:=by
  unfold Builtin.«object.__getattribute__»
  repeat (first | (with_reducible refine wpAny_loadPart_at hx ?_; rw [hc]) | (with_reducible refine wpAny_typeLookup_exc hC hN F.attrBase_Exception.mro hB ?_; rw [hna]) | wp_step)
  split
  . rename_i c hcd
    exact absurd hcd (hnc c)
  unfold instanceDict Builtin.ObjectAttr.inDict
  repeat (first | (with_reducible refine wpAny_loadPart_at hx ?_; rw [hc]) | with_reducible refine wpAny_loadPart_at hC ?_ | wp_step)
  rw [hdx]
  repeat (first | (with_reducible refine wpAny_nsGet hns.ns ?_; rw [hv]) | wp_step)
  exact hq
theorem ga_by {tk : Tok} {fill expr : Bool} {Q : Value -> Shared -> Prop} (hC : h.get? C = some (excClassObj nm q C N bs bmE true sn sub ab col dd k0 k1 k2 k3 k5 newId)) (hN : h.Ns N mN) (hng : mN "__getattribute__" = none) (hnh : mN "__getattr__" = none) (hna : mN name = none)
    (hB:typeLookup (.type "Exception") name = pure none) (hx:h.get? a = some o) (hc:o.cls = .ref C) (hnc:∀ c,o.data ≠ .cls c) (hdx:o.dict = some dx) (hns:h.Ns1 dx mA) (hv:mA name = some v) (hh:handedOut v = pure v) (hq:Q v ⟨h,g,d,t,os⟩) :
    wpAny (model prog w) A (getAttrBy (.ref a) (.str name tk) fill expr) Q E ⟨h,g,d,t,os⟩:=by
  have FB:=F.attrBase_Exception
  have f3:=FB.ga.bind (.ref a)
  have hx0:(expr && onTheHeap (Value.builtin "BaseException.__getattribute__")) = false:=by cases expr <;> rfl
  have hx2:(Value.builtin "BaseException.__getattribute__" == Value.builtin "object.__getattribute__") = false:=by decide +kernel
  have hx1:(onTheHeap (Value.ref C) && Value.builtin "BaseException.__getattribute__" == Value.builtin "object.__getattribute__") = false:=by rw [hx2]; rfl
  repeat (any_goals (first | assumption | (with_reducible refine wpAny_loadPart_at hx ?_; rw [hc]) | (with_reducible refine wpAny_typeLookup_exc hC hN FB.mro FB.ga.lookup ?_; rw [hng]) | (with_reducible refine wpAny_typeLookup_exc hC hN FB.mro FB.noGetattr ?_; rw [hnh]) | wp_step))
  refine codeAny_call_builtin FB.ga.plain F.entry_bexc_ga (ga_check hC hx hc (ga_entry hC hN hna hB hx hc hnc hdx hns hv ?_))
  repeat (any_goals (first | assumption | (rw [hh]) | wp_step))
theorem ga_attr {expr : Bool} {Q : Value -> Shared -> Prop} (hC : h.get? C = some (excClassObj nm q C N bs bmE true sn sub ab col dd k0 k1 k2 k3 k5 newId)) (hN : h.Ns N mN) (hng : mN "__getattribute__" = none) (hnh : mN "__getattr__" = none) (hna : mN name = none)
    (hB:typeLookup (.type "Exception") name = pure none) (hx:h.get? a = some o) (hc:o.cls = .ref C) (hnc:∀ c,o.data ≠ .cls c) (hdx:o.dict = some dx) (hns:h.Ns1 dx mA) (hv:mA name = some v) (hh:handedOut v = pure v) (hq:Q v ⟨h,g,d,t + 1,os⟩) :
    wpAny (model prog w) A (getAttr (.ref a) name expr) Q E ⟨h,g,d,t,os⟩:=by
  unfold getAttr
  repeat (any_goals (first | assumption | with_reducible apply ga_by hC hN hng hnh hna hB hx hc hnc hdx hns hv hh | wp_step))
end
end Ex
set_option Elab.async false
set_option maxRecDepth 100000
set_option linter.unusedVariables false
namespace Ex
open PySem PySem.Spec PyProof.Rows L2
open PySem.W (hideAll hideAll_get of_hideAll hideAll_none funFrames_hide exmOne)
def exN (C:Addr) (dd:Option Addr) (x:Addr):HO:=.ext fun h => ∃ t,h.get? x = some { cls:=.ref C,dict:=dd,data:=.fields #[.ref t,.none,.none,.none,.bool false,.none] }
theorem exN_ok {P:Program} {w:World} {H:Hp} {h:Heap} {C x t:Addr} {dd:Option Addr} (e:h.get? x = some { cls:=.ref C,dict:=dd,data:=.fields #[.ref t,.none,.none,.none,.bool false,.none] }):ObjOk P w H h x (exN C dd x) :=
  ⟨⟨t,e⟩,⟨_,e⟩,fun _ _ ⟨t,e1⟩ k => ⟨t,k _ e1⟩⟩
def rm (H:Hp) (x:Addr):Hp:=fun b => if b = x then none else H b
theorem rm_same {H:Hp} {x:Addr}:rm H x x = none:=by unfold rm; rw [if_pos rfl]
theorem rm_ne {H:Hp} {x b:Addr} (h:b ≠ x):rm H x b = H b:=by unfold rm; rw [if_neg h]
structure ExcI (K:PySem.W.Frag) (mg:Str -> Option Value) (x:Str) (C f:Addr) (as:List Str):Prop where
  mg:mg x = some (.ref C)
  kp:PySem.W.keepIn K (.ref C) = true
  fn:PySem.W.isFn K (.ref f) = true
  ex:∃ nm q N bs sn sub ab col dd k0 k1 k2 k3 k5,K.lookup C = some (excClassObj nm q C N bs bmE true sn sub ab col dd k0 k1 k2 k3 k5 "Exception.__new__") /\ PySem.W.nsOkIn K N = true /\ PySem.W.nsIn K N "__init__" = some (some (.ref f)) /\
    ∀ a ∈ (["__setattr__", "__getattribute__", "__getattr__"] : List Str) ++ as, PySem.W.nsIn K N a = some none
theorem raise_obj {M:Model} {A:Around} {E:Value -> Shared -> Prop} {env:Env} {nm q:Str} {C N:Addr} {bs:List Value} {hdct:Bool} {sn:List Str} {sub:List Value} {ab:Bool} {col:Option Bool} {dd:Option Addr} {k0 k1 k2 k3 k5:Option Value} {newId:String}
    {s:Shared} {x:Sem Value} {Q:Flow -> Shared -> Prop} (hh:A.handled = none)
    (h:wpAny M A x (fun v s₁ => ∃ e t d1,v = .ref e /\ s₁.heap.get? C = some (excClassObj nm q C N bs bmE hdct sn sub ab col dd k0 k1 k2 k3 k5 newId) /\
      s₁.heap.get? e = some { cls:=.ref C,dict:=d1,data:=.fields #[.ref t,.none,.none,.none,.bool false,.none] } /\ E (.ref e) s₁) E s) :
    wpAny M A (raiseStmt env (some x) none) Q E s:=by
  have hcB:(Value.ref C :: bmE).contains (.type "BaseException") = true:=by rw [List.contains_cons]; simp [bmE]
  unfold raiseStmt
  refine wpAny_bind (wpAny_mono h (fun v s₁ h₁ => ?_) fun _ _ x => x)
  obtain ⟨e,t,d1,rfl,hC,he,hE⟩:=h₁
  obtain ⟨hp,g,d,tk,os⟩:=s₁
  repeat (first | with_reducible refine wpAny_loadPart_at he ?_ | with_reducible refine wpAny_loadPart_at hC ?_ | (with_reducible refine wpAny_isSubtype_exc hC ?_; rw [hcB]) | wp_step)
  exact wpAny_raiseNew_none hh hE
section
variable {X:Cx} {pins:List (Addr × Obj)} {σ:L2.St} {H H':Hp} {s s':Shared} {E:XK}
theorem xe_made2 (Bd:Body2 X E) (I:Inv X pins σ H s) {e C:Addr} {dd:Option Addr} (hH:H e = some (exN C dd e)) (new:X.s_0.heap.get? e = none) (hE:E (.ref C) dd (rm H e)):X.xe (.ref e) s:=by
  rw [Bd.xe]
  obtain ⟨⟨t,he⟩,_⟩:=(I.hok e _ hH:ObjOk X.prog X.w H s.heap e (exN C dd e))
  have hex:∀ b:Addr,b ∉ X.ex:=fun b z => by rw [Bd.ex] at z; simp at z
  have kb:(hideAll s.heap (e :: frs X.stack)).StaysIn s.heap:=fun b o q => of_hideAll _ q
  have hl:s.heap.FunFrames (hideAll s.heap (e :: frs X.stack)) (X.env :: X.outer):=by
    rw [<- Bd.stk]
    exact funFrames_hide I.stack fun env he a ha => List.mem_cons_of_mem _ (List.mem_filterMap.mpr ⟨env,he,ha⟩)
  have ne0:∀ {b:Addr} {o:Obj},X.s_0.heap.get? b = some o -> b ≠ e:=fun {b o} q z => by
    rw [z,new] at q
    cases q
  refine leaves_madeD (s:=s) (by rw [I.ok.frames,Bd.stk]) hl Bd.fr he kb (hideAll_none _ (List.mem_cons_self ..)) rfl rfl fun h'' x1 x4 => ?_
  have noS:∀ {b:Addr} {o:Obj},X.s_0.heap.get? b = some o -> b ∉ frs X.outer -> b ∉ e :: frs X.stack:=fun {b o} q hb z =>
    (List.mem_cons.mp z).elim (ne0 q) (noStk I q hb)
  have inB:∀ b o,X.s_0.heap.get? b = some o -> X.H_0 b = none -> b ∉ frs X.outer -> (hideAll s.heap (e :: frs X.stack)).get? b = some o:=fun b o q n hb =>
    hideAll_get _ (I.base.keep b o q n hb (hex b)) (noS q hb)
  have slot:∀ b o,X.s_0.heap.get? b = some o -> X.H_0 b = none -> b ∈ frs X.outer -> ∃ sl,h''.get? b = some { o with slots:=sl }:=fun b o q n hb => by
    obtain ⟨sl,e1⟩:=I.base.slot b o q n hb (hex b)
    obtain ⟨sl2,e2⟩:=x4 b _ e1 (frame_data I hb e1)
    exact ⟨sl2,e2⟩
  have thB:∀ b o,X.s_0.heap.get? b = some o -> b ∉ frs X.outer -> ∃ o',(hideAll s.heap (e :: frs X.stack)).get? b = some o':=fun b o q hb => by
    obtain ⟨o',e1⟩:=I.base.there b o q (hex b)
    exact ⟨o',hideAll_get _ e1 (noS q hb)⟩
  have hokB:HOk X.prog X.w (rm H e) (hideAll s.heap (e :: frs X.stack)):=fun b o q => by
    have hb:b ≠ e:=fun z => by
      rw [z,rm_same] at q
      cases q
    rw [rm_ne hb] at q
    refine (I.hok b o q).stay (fun c u hc q2 => hideAll_get _ q2 fun hm => ?_) (fun c q2 => ?_) fun c xs q2 => ?_
    . rcases List.mem_cons.mp hm with z | z
      . rcases hc with z2 | z2
        . exact hb (z2.symm.trans z)
        . rw [z,hH] at z2
          cases z2
      . have:=I.stkFree c z
        rcases hc with z2 | z2
        . rw [z2,q] at this
          cases this
        . rw [z2] at this
          cases this
    . rw [rm_ne (fun z => by rw [z,hH] at q2; cases q2)]
      exact q2
    . rw [rm_ne (fun z => by rw [z,hH] at q2; cases q2)]
      exact q2
  refine ⟨e,C,dd,rm H e,hideAll s.heap (e :: frs X.stack),rfl,x1,hokB,I.os,I.bare,⟨fun b o q n hb _ => x1.1 b o (inB b o q n hb),fun b o q n hb _ => slot b o q n hb,fun b o q n _ => ?_,fun b o q _ => ?_,fun b xs q => ?_,fun b o u q => ?_,fun b ps q => ?_⟩,inB,thB,hE⟩
  . rw [rm_ne (ne0 q)]
    exact I.base.free b o q n (hex b)
  . by_cases hb:b ∈ frs X.outer
    . obtain ⟨sl,q2⟩:=slot b o q (I.ok.frf b hb) hb
      exact ⟨_,q2⟩
    . obtain ⟨o',q2⟩:=thB b o q hb
      exact ⟨o',x1.1 b o' q2⟩
  . have z:=I.base.tups b xs q
    rw [rm_ne (fun y => by rw [y,hH] at z; cases z)]
    exact z
  . have z:=I.base.frzs b o u q
    rw [rm_ne (fun y => by rw [y,hH] at z; cases z)]
    exact z
  . obtain ⟨m,z⟩:=I.base.tbls b ps q
    exact ⟨m,by
      rw [rm_ne (fun y => by rw [y,hH] at z; cases z)]
      exact z⟩
end
end Ex
set_option Elab.async false
set_option maxRecDepth 100000
set_option linter.unusedVariables false
namespace Ex
open PySem PySem.Spec PyProof.Rows L2
theorem ns_some {K:PySem.W.Frag} {h:Heap} {N:Addr} {mg:Str -> Option Value} {n:Str} {v:Value} (X:K.In h) (G:h.Ns N mg) (e:PySem.W.nsIn K N n = some (some v)):mg n = some v:=by
  obtain ⟨o,es,ep,ho,hd,_,hf⟩:=G
  unfold PySem.W.nsIn at e
  split at e
  . rename_i c d es' n' sl q
    have:=X _ _ q
    rw [ho] at this
    cases this
    cases hd
    split at e
    . rename_i en he
      cases e
      rw [<- hf]
      unfold nsFind findBy
      rw [<- Array.find?_toList,he]
      rfl
    . split at e <;> cases e
  . cases e
theorem fn_cls {K:PySem.W.Frag} {h:Heap} {f:Addr} (X:K.In h) (e:PySem.W.isFn K (.ref f) = true):∃ of,h.get? f = some of /\ of.cls = .type "function":=by
  have e:=beq_iff_eq.mp e
  unfold PySem.W.typeIn at e
  cases q:K.lookup f with
  | none => simp [q] at e
  | some o =>
    refine ⟨o,X _ _ q,?_⟩
    simpa [q] using e
section
variable {X:Cx} {pins:List (Addr × Obj)} {σ:L2.St} {H H':Hp} {s s':Shared} {E:XK}
theorem inv_exc (I:Inv X pins σ H s) {h':Heap} {e C:Addr} {vs:List Value} (hm:Heap.MadeExcOf s.heap h' e (.ref C) vs):Inv X pins σ (upd H e (exN C none e)) { s with heap:=h' }:=by
  obtain ⟨t,he,htn,ht⟩:=hm.there
  have ne:∀ {b:Addr} {o:Obj},s.heap.get? b = some o -> b ≠ e:=fun {b o} q z => by
    rw [z,hm.new] at q
    cases q
  have neH:∀ {b:Addr} {o:HO},H b = some o -> b ≠ e:=fun {b o} q => by
    obtain ⟨ob,q⟩:=obj_there (I.hok b o q)
    exact ne q
  refine I.call' (s':={ s with heap:=h' }) (ch:=[]) rfl ⟨fun b o q n hb _ => hm.keeps b o q,fun b o q n hb _ => ⟨o.slots,hm.keeps b o q⟩,fun b o q n x => ?_,fun b o q _ => ⟨o,hm.keeps b o q⟩,fun b xs q => ?_,fun b o u q => ?_,fun b ps q => ?_⟩ ?_ I.bare (fun b z => absurd z (by simp))
  . rw [upd_ne (ne q)]
    exact n
  . rw [upd_ne (neH q)]
    exact q
  . rw [upd_ne (neH q)]
    exact q
  . exact ⟨#[],by rw [upd_ne (neH q),q,Array.append_empty]⟩
  . intro b o q
    by_cases hb:b = e
    . subst hb
      rw [upd_same] at q
      cases q
      exact exN_ok he
    . rw [upd_ne hb] at q
      refine (I.hok b o q).stay (fun c u _ q2 => hm.keeps c u q2) (fun c q2 => ?_) fun c xs q2 => ?_
      . rw [upd_ne (neH q2)]
        exact q2
      . rw [upd_ne (neH q2)]
        exact q2
def tRaiseI (E:XK) (C:Addr) (sp:Sp) (t:TA):TS:=fun _ σ H => t σ H fun vs H1 => ∀ x,H1 x = none ->
  sp (.ref x :: vs) (upd H1 x (exN C none x)) (fun v H2 => v = .non /\ ∃ dx,H2 x = some (exN C (some dx) x) /\ E (.ref C) (some dx) (rm H2 x)) E0
theorem ps_raiseI {x:Str} {np cpos pos:Pos} {C f:Addr} {fd:FuncData} {ps as:List Str} {k:Nat} {sp:Sp} {e:Expr} {es:List Expr} {t:TA} (Bd:Body2 X E) (hg:Gl X x) (hc:X.calm = true) (O:ExcI X.K X.mg x C f as)
    (F:FnOk X.prog X.w X.K X.mg X.base CX0 k f fd ps sp) (hr:Room (k + 1) X.A) (hb:Binds X.K fd ps []) (hps:ps.length <= 64) (ha:PA X (e :: es) t)
    (hd:(x == ("__debug__":Str)) = false:=by decide) (he:starEach (e :: es) X.env = (false,eval e X.env) :: starEach es X.env:=by rfl) (hpl:(backTo cpos (starEach es X.env)).any (·.1) = false:=by rfl) :
    PS X (.Raise (some (.Call (.Name x np) (e :: es) [] cpos)) none pos) (tRaiseI E C sp t):=by
  intro pins s σ H D I h
  obtain ⟨nm,q,N,bs,sn,sub,ab,col,dd,k0,k1,k2,k3,k5,hC0,hok,hin,hno⟩:=O.ex
  rw [arm_exec_Raise]
  refine wpAny_bind (wpAny_standAt ?_)
  refine raise_obj (C:=C) (nm:=nm) (q:=q) (N:=N) (bs:=bs) (hdct:=true) (sn:=sn) (sub:=sub) (ab:=ab) (col:=col) (dd:=dd) (k0:=k0) (k1:=k1) (k2:=k2) (k3:=k3) (k5:=k5) (newId:="Exception.__new__") (I.ok.hd hc) ?_
  refine wpAny_bind (wpAny_mono (Q:=fun v s₁ => ∃ e t d1,v = .ref e /\ s₁.heap.get? C = some (excClassObj nm q C N bs bmE true sn sub ab col dd k0 k1 k2 k3 k5 "Exception.__new__") /\
      s₁.heap.get? e = some { cls:=.ref C,dict:=d1,data:=.fields #[.ref t,.none,.none,.none,.bool false,.none] } /\ X.xe (.ref e) s₁) (E':=X.xe) ?_ (fun v s₃ h₃ => wpAny_bind (wpAny_standAt (wpAny_pure h₃))) fun _ _ x => x)
  refine wpAny_Call_Name_kw (ld_glob I hg O.mg ?_ hd)
  refine PySem.W.callWith_K (h₀:=X.base) I.ok.mod.kin O.kp (thn (ha cpos pins s σ H _ I h) fun us s1 ⟨vs,H1,I1,r,q1⟩ => ⟨I1.kIn,?_⟩) he hpl
  have hN:s1.heap.Ns N (s1.heap.nsMap N):=.of_isNs (PySem.W.isNs_of_in I1.kIn hok)
  have hC1:=I1.kIn _ _ hC0
  obtain ⟨of,hof,hfc⟩:=fn_cls I1.kIn O.fn
  obtain ⟨hp,g,d,tk,os⟩:=s1
  refine wpAny_call_exc_init (rest:=us) PySem.F.excBase_Exception hC1 hN (ns_some I1.kIn hN hin) hof hfc (fun h' ex hm => ?_) ?_
  rotate_left
  . have z:=r.length
    have z2:=F.len _ _ _ _ (q1 hp.objs.size (I1.hok.fresh (Nat.le_refl _)))
    rw [List.length_cons] at z2
    rw [sizeLine_eq]
    omega
  have I2:=inv_exc I1 hm
  have nH:H1 ex = none:=by
    cases z:H1 ex with
    | none => rfl
    | some u =>
      obtain ⟨ob,z2⟩:=obj_there (I1.hok ex u z)
      rw [hm.new] at z2
      cases z2
  have hq:=q1 ex nH
  have r2:Vals (V.ref ex :: vs) (Value.ref ex :: us):=.cons rfl r
  have hl:(Value.ref ex :: us ++ []).length = ps.length:=by
    have z:=r2.length
    rw [F.len _ _ _ _ hq] at z
    rw [List.append_nil]
    exact z.symm
  have bt:=hb ⟨h',g,d,tk,os⟩ (Value.ref ex :: us) I2.kIn hl
  rw [List.append_nil] at bt
  refine wpAny_call (codeAny_mono (F.run _ X.stack _ _ ⟨Value.ref ex :: us,[]⟩ (Value.ref ex :: us) _ _ E0 (hr.make C us []) (I2.env0.make C us []) bt r2 hq) fun r s' hq' => ?_)
  cases r with
  | error e => exact (pass0 pins σ _ _ e s' I2 hq':X.xe e s')
  | ok fl =>
    cases fl with
    | ret u =>
      obtain ⟨v,H',I3,rv,ev,dx,hdx,hE⟩:=I2.after hq'
      subst ev
      obtain ⟨⟨t,ht⟩,_⟩:=(I3.hok ex _ hdx:ObjOk X.prog X.w H' s'.heap ex (exN C (some dx) ex))
      refine ⟨rv,ex,t,some dx,rfl,I3.kIn _ _ hC0,ht,xe_made2 Bd I3 hdx ?_ hE⟩
      cases z:X.s_0.heap.get? ex with
      | none => rfl
      | some o =>
        obtain ⟨o',z2⟩:=I1.base.there ex o z (by rw [Bd.ex]; simp)
        rw [hm.new] at z2
        cases z2
    | next => exact False.elim hq'
    | brk => exact False.elim hq'
    | cont => exact False.elim hq'
end
end Ex
set_option Elab.async false
set_option maxRecDepth 100000
set_option linter.unusedVariables false
namespace Ex
open PySem PySem.Spec PyProof.Rows L2
open Builtin Builtin.ObjectAttr
section
variable {prog:Program} {w:World} {A:Around} {E:Value -> Shared -> Prop} {h:Heap} {g:Array GenState} {d:Drawn} {t:Nat} {os:OsState}
variable {nm q:Str} {C N x:Addr} {bs:List Value} {sn:List Str} {sub:List Value} {ab:Bool} {col:Option Bool} {dd:Option Addr} {k0 k1 k2 k3 k5:Option Value} {newId:String} {mN:Str -> Option Value} {name:Str} {v:Value} {o:Obj}
theorem first_entry {tk:Tok} {Q:Fin -> Shared -> Prop} (hC:h.get? C = some (excClassObj nm q C N bs bmE true sn sub ab col dd k0 k1 k2 k3 k5 newId)) (hn:h.Ns N mN) (hna:mN name = none)
    (hB:typeLookup (.type "Exception") name = pure none) (hx:h.get? x = some o) (hc:o.cls = .ref C) (hnc:∀ c,o.data ≠ .cls c) (hdn:o.dict = none)
    (hq:∀ h' tk',h'.get? x = some { o with dict:=some h.objs.size } -> h'.Ns1 h.objs.size (fun y => if y = name then some v else none) -> (∀ b ob,b ≠ x -> h.get? b = some ob -> h'.get? b = some ob) -> Q (.done (.ret .none)) ⟨h',g,d,tk',os⟩) :
    wpAny (model prog w) A (Builtin.«object.__setattr__» ⟨[.ref x,.str name tk,v],[]⟩) Q E ⟨h,g,d,t,os⟩:=by
  have SF:=F.store_Exception
  have hpass:=SF.passes (.ref x)
  unfold Builtin.«object.__setattr__»
  repeat (first | rw [refuse_eq] | (rw [refuseLoop_ref,hpass]) | (with_reducible refine wpAny_loadPart_at hx ?_; rw [hc]) | with_reducible refine wpAny_mroOf_exc hC ?_ | (with_reducible refine wpAny_typeLookup_exc hC hn SF.mro hB ?_; rw [hna]) | wp_step)
  rw [hdn,if_neg (by simp [typeHasDict])]
  split
  . rename_i hcd
    cases hcd
  split
  . rename_i c hcd
    exact absurd hcd (hnc c)
  . have hx₁:(h.push { cls:=.type "dict",data:=.dict #[] }).get? x = some o:=Heap.get?_push_of_some _ hx
    have hxs:x ≠ h.objs.size:=Nat.ne_of_lt (Heap.lt_size hx)
    refine wpAny_bind (wpAny_alloc' ?_)
    refine wpAny_bind (wpAny_update' hx₁ ?_)
    refine wpAny_pure ?_
    have hgd:((h.push { cls:=.type "dict",data:=.dict #[] }).update x fun o => { cls:=o.cls,dict:=some h.objs.size,data:=o.data,slots:=o.slots }).get? h.objs.size
        = some { cls:=.type "dict",data:=.dict #[] } :=
      (Heap.get?_update_ne _ _ _ _ hxs.symm).trans (Heap.get?_push_at rfl rfl)
    have hnd:((h.push { cls:=.type "dict",data:=.dict #[] }).update x fun o => { cls:=o.cls,dict:=some h.objs.size,data:=o.data,slots:=o.slots }).Ns h.objs.size (fun _ => none) :=
      ⟨_,#[],_,hgd,rfl,fun e he => absurd he (by simp),fun _ => rfl⟩
    show wpAny _ _ (storeInDict h.objs.size (.str name tk) name v) _ _ _
    unfold storeInDict newKeyGuard
    refine wpAny_bind (wpAny_pure (wpAny_bind (wpAny_nsSet1 (Heap.Ns1.of_empty hnd) fun h' hn' hs => ?_)))
    obtain ⟨oD,esD,epD,hoD,hdD,hcD⟩:=hn'.count (Within.cons name v Within.nil)
    refine wpAny_bind (wpAny_lookBehind hoD (by rw [hdD]; exact pastItsLine_dict (Nat.le_trans hcD (by rw [List.length_cons,List.length_nil,sizeLine_eq]; omega))) ?_)
    wp_walk
    refine hq h' _ ?_ ?_ (fun b ob hbx hb => ?_)
    . refine (hs.2 x hxs).trans (Heap.get?_update_self _ hx₁ ?_)
      have hfr:=(Heap.get?_some_iff.mp hx).2
      obtain ⟨oc,od,odt,osl⟩:=o
      cases odt <;> first | rfl | exact hfr
    . exact hn'
    . exact (hs.2 b (Nat.ne_of_lt (Heap.lt_size hb))).trans ((Heap.get?_update_ne _ _ _ _ hbx).trans (Heap.get?_push_of_some _ hb))
theorem first_call {sa owner:String} {tk:Tok} {R:Result -> Shared -> Prop} (SF:StoreFacts "Exception" bmE sa owner) (hC:h.get? C = some (excClassObj nm q C N bs bmE true sn sub ab col dd k0 k1 k2 k3 k5 newId)) (hn:h.Ns N mN) (hna:mN name = none)
    (hB:typeLookup (.type "Exception") name = pure none) (hx:h.get? x = some o) (hc:o.cls = .ref C) (hnc:∀ c,o.data ≠ .cls c) (hdn:o.dict = none)
    (hq:∀ h' tk',h'.get? x = some { o with dict:=some h.objs.size } -> h'.Ns1 h.objs.size (fun y => if y = name then some v else none) -> (∀ b ob,b ≠ x -> h.get? b = some ob -> h'.get? b = some ob) -> R (.ok (.ret .none)) ⟨h',g,d,tk',os⟩) :
    codeAny (model prog w) A (.call (.builtin sa) ⟨[.ref x,.str name tk,v],[]⟩) R ⟨h,g,d,t,os⟩ :=
  codeAny_call_builtin SF.slot.plain SF.entry (wpAny_check_sa SF hC hx hc (first_entry hC hn hna hB hx hc hnc hdn hq))
theorem first_attr' {sa owner : String} {Q : Unit -> Shared -> Prop} (SF : StoreFacts "Exception" bmE sa owner) (hC : h.get? C = some (excClassObj nm q C N bs bmE true sn sub ab col dd k0 k1 k2 k3 k5 newId)) (hn : h.Ns N mN) (hns : mN "__setattr__" = none) (hna : mN name = none)
    (hB:typeLookup (.type "Exception") name = pure none) (hx:h.get? x = some o) (hc:o.cls = .ref C) (hnc:∀ c,o.data ≠ .cls c) (hdn:o.dict = none)
    (hq:∀ h' tk',h'.get? x = some { o with dict:=some h.objs.size } -> h'.Ns1 h.objs.size (fun y => if y = name then some v else none) -> (∀ b ob,b ≠ x -> h.get? b = some ob -> h'.get? b = some ob) -> Q () ⟨h',g,d,tk',os⟩) :
    wpAny (model prog w) A (setAttr (.ref x) name v) Q E ⟨h,g,d,t,os⟩:=by
  have f3:=SF.slot.bind (.ref x)
  unfold setAttr callSpecial? specialOf
  repeat (any_goals (first | assumption | (with_reducible refine wpAny_loadPart_at hx ?_; rw [hc]) | (with_reducible refine wpAny_typeLookup_exc hC hn SF.mro SF.slot.lookup ?_; rw [hns]) | wp_step))
  refine first_call SF hC hn hna hB hx hc hnc hdn (fun h' tk' i1 i2 i3 => ?_)
  repeat (any_goals (first | assumption | wp_step))
  exact hq h' tk' i1 i2 i3
end
end Ex
set_option Elab.async false
set_option maxRecDepth 100000
set_option linter.unusedVariables false
namespace Ex
open PySem PySem.Spec PyProof.Rows L2
section
variable {X:Cx} {pins:List (Addr × Obj)} {σ:L2.St} {H H':Hp} {s s':Shared} {A:Around} {E:Value -> Shared -> Prop}
theorem exc_cls {K:PySem.W.Frag} {mg:Str -> Option Value} {x f:Str} {C fI:Addr} {as:List Str} (O:ExcI K mg x C fI as) (hf:f ∈ as) {h:Heap} (Y:K.In h) :
    ∃ nm q N bs sn sub ab col dd k0 k1 k2 k3 k5 mN,h.get? C = some (excClassObj nm q C N bs bmE true sn sub ab col dd k0 k1 k2 k3 k5 "Exception.__new__") /\ h.Ns N mN /\ mN "__setattr__" = none /\ mN "__getattribute__" = none /\ mN "__getattr__" = none /\ mN f = none:=by
  obtain ⟨nm,q,N,bs,sn,sub,ab,col,dd,k0,k1,k2,k3,k5,hC0,hok,hin,hno⟩:=O.ex
  have hN:h.Ns N (h.nsMap N):=.of_isNs (PySem.W.isNs_of_in Y hok)
  have no : ∀ a ∈ (["__setattr__", "__getattribute__", "__getattr__"] : List Str) ++ as, h.nsMap N a = none := fun a ha => PySem.W.ns_none_of Y hN (hno a ha)
  exact ⟨nm,q,N,bs,sn,sub,ab,col,dd,k0,k1,k2,k3,k5,_,Y _ _ hC0,hN,no _ (by simp),no _ (by simp),no _ (by simp),no _ (List.mem_append_right _ hf)⟩
theorem setX {x f:Str} {C fI a:Addr} {as:List Str} {y:V} {u:Value} {Q:Unit -> Shared -> Prop} (O:ExcI X.K X.mg x C fI as) (hf:f ∈ as) (hB:typeLookup (.type "Exception") f = pure none) (I:Inv X pins σ H s) (e:H a = some (exN C none a)) (ry:RelV y u)
    (h:∀ s' dx,H dx = none -> dx ≠ a -> Inv X pins σ (upd (upd H dx (.xd [(f,y)])) a (exN C (some dx) a)) s' -> Q () s'):wpAny (model X.prog X.w) A (setAttr (.ref a) f u) Q E s:=by
  obtain ⟨nm,q,N,bs,sn,sub,ab,col,dd,k0,k1,k2,k3,k5,mN,hC,hN,n1,n2,n3,n4⟩:=exc_cls O hf I.kIn
  obtain ⟨⟨t,ht⟩,_⟩:=(I.hok a _ e:ObjOk X.prog X.w H s.heap a (exN C none a))
  obtain ⟨hp,g,d,tk,os⟩:=s
  refine first_attr' F.store_Exception hC hN n1 n4 hB ht rfl (fun c z => by cases z) rfl fun h' tk' i1 i2 i3 => ?_
  have hfr:H hp.objs.size = none:=I.hok.fresh (Nat.le_refl _)
  have nea:hp.objs.size ≠ a:=fun z => by
    rw [z,e] at hfr
    cases hfr
  have nb:∀ {b:Addr} {o:Obj},hp.get? b = some o -> b ≠ hp.objs.size:=fun {b o} z => Nat.ne_of_lt (Heap.lt_size z)
  have na:∀ {b:Addr},H b = none -> b ≠ a:=fun {b} z y => by
    rw [y,e] at z
    cases z
  have up:∀ {b:Addr},b ≠ hp.objs.size -> b ≠ a -> upd (upd H hp.objs.size (.xd [(f,y)])) a (exN C (some hp.objs.size) a) b = H b:=fun {b} z1 z2 => by
    rw [upd_ne z2,upd_ne z1]
  have upH:∀ {b:Addr} {o:HO},H b = some o -> b ≠ a -> upd (upd H hp.objs.size (.xd [(f,y)])) a (exN C (some hp.objs.size) a) b = some o:=fun {b o} z1 z2 => by
    rw [up (fun z => by rw [z,hfr] at z1; cases z1) z2]
    exact z1
  refine h _ hp.objs.size hfr nea (I.call' (s':=⟨h',g,d,tk',os⟩) (ch:=[]) rfl ⟨fun b o z n hb _ => i3 b o (na n) z,fun b o z n hb _ => ⟨o.slots,i3 b o (na n) z⟩,fun b o z n _ => ?_,fun b o z _ => ?_,fun b xs z => ?_,fun b o u z => ?_,fun b ps z => ?_⟩ ?_ I.bare (fun b z => absurd z (by simp)))
  . rw [up (nb z) (na n)]
    exact n
  . by_cases hb:b = a
    . rw [hb]
      exact ⟨_,i1⟩
    . exact ⟨o,i3 b o hb z⟩
  . exact upH z fun y => by
      rw [y,e] at z
      cases z
  . exact upH z fun y => by
      rw [y,e] at z
      cases z
  . exact ⟨#[],by
      rw [Array.append_empty]
      exact upH z fun y => by
        rw [y,e] at z
        cases z⟩
  . intro b o z
    by_cases hb:b = a
    . subst hb
      rw [upd_same] at z
      cases z
      exact exN_ok i1
    . rw [upd_ne hb] at z
      by_cases hb2:b = hp.objs.size
      . subst hb2
        rw [upd_same] at z
        cases z
        refine ⟨_,i2,fun g => ?_⟩
        show RelO (List.lookup g [(f,y)]) (if g = f then some u else none)
        by_cases hg:g = f
        . subst hg
          rw [if_pos rfl]
          simp only [List.lookup_cons,beq_self_eq_true]
          exact ry
        . rw [if_neg hg]
          have:(g == f) = false:=by simpa using hg
          simp only [List.lookup_cons,this,List.lookup_nil]
          exact True.intro
      . rw [upd_ne hb2] at z
        refine (I.hok b o z).stay (fun c w' hc z2 => i3 c w' ?_ z2) (fun c z2 => ?_) fun c xs z2 => ?_
        . rintro rfl
          rcases hc with y | y
          . exact hb y.symm
          . rw [e] at y
            cases y
        . exact upH z2 fun y => by
            rw [y,e] at z2
            cases z2
        . exact upH z2 fun y => by
            rw [y,e] at z2
            cases z2
theorem getX {x f:Str} {C fI a dx:Addr} {as:List Str} {fs:List (Str × V)} {v:V} {b:Bool} {Q:Value -> Shared -> Prop} (O:ExcI X.K X.mg x C fI as) (hf:f ∈ as) (hB:typeLookup (.type "Exception") f = pure none) (I:Inv X pins σ H s)
    (e:H a = some (exAt C (some dx) a)) (ed:H dx = some (.xd fs)) (l:fs.lookup f = some v) (h:∀ u s',Inv X pins σ H s' -> RelV v u -> Q u s'):wpAny (model X.prog X.w) A (getAttr (.ref a) f b) Q E s:=by
  obtain ⟨nm,q,N,bs,sn,sub,ab,col,dd,k0,k1,k2,k3,k5,mN,hC,hN,n1,n2,n3,n4⟩:=exc_cls O hf I.kIn
  obtain ⟨⟨oe,he,⟨hc,hd⟩,vs,hv⟩,_⟩:=(I.hok a _ e:ObjOk X.prog X.w H s.heap a (exAt C (some dx) a))
  obtain ⟨mA,hns,r⟩:=(I.hok dx _ ed:ObjOk X.prog X.w H s.heap dx (.xd fs))
  obtain ⟨u,hu,ru⟩:=RelO.some_of (v:=v) (o:=mA f) (by rw [<- l]; exact r f)
  have J:Inv X pins σ H { s with toks:=s.toks + 1 }:=I.tok _
  obtain ⟨hp,g,d,tk,os⟩:=s
  exact ga_attr hC hN n2 n3 n4 hB he hc (fun c z => by rw [hv] at z; cases z) hd hns hu (PySem.W.handedOut_of (handed_of ru)) (h u _ J ru)
end
section
variable {X:Cx} {x f:Str} {C fI:Addr} {as:List Str} {e o value:Expr} {ta tv:TE} {pos pos':Pos}
def sFldX (C:Addr) (ta tv:TE) (f:Str):TS:=fun D σ H => tv σ H fun y H1 => ta σ H1 fun v H2 => ∃ a,v = .ref a /\ H2 a = some (exN C none a) /\ ∀ dx,H2 dx = none -> dx ≠ a -> D.nx σ (upd (upd H2 dx (.xd [(f,y)])) a (exN C (some dx) a))
theorem ps_fldX (O:ExcI X.K X.mg x C fI as) (hf:f ∈ as) (hB:typeLookup (.type "Exception") f = pure none) (ha:PE X o ta) (hv:PE X value tv) (hs:swapsWith value (some (.Attribute o f pos')) pos.line X.env = pure false) :
    PS X (.Assign [.Attribute o f pos'] value pos) (sFldX C ta tv f):=by
  intro pins s σ H D I h
  refine plainObj_wpAny_Assign_Attribute (thn (hv pins s σ H _ I h) fun u s1 ⟨y,H1,I1,ry,q⟩ => thn (ha pins s1 σ H1 _ I1 q) fun ov s2 ⟨z,H2,I2,rx,a,ex,ea,q2⟩ => ?_) hs
  subst ex
  obtain rfl:ov = Value.ref a:=rx
  exact setX O hf hB I2 ea ry fun s3 dx n1 n2 I3 => ⟨σ,_,I3,q2 dx n1 n2⟩
def tFldX (C:Addr) (ta:TE) (f:Str):TE:=fun σ H Q => ta σ H fun z H1 => ∃ a dx fs v,z = .ref a /\ H1 a = some (exAt C (some dx) a) /\ H1 dx = some (.xd fs) /\ fs.lookup f = some v /\ Q v H1
theorem pe_fldX (O:ExcI X.K X.mg x C fI as) (hf:f ∈ as) (hB:typeLookup (.type "Exception") f = pure none) (he:PE X e ta) (hb:attributeBase e f X.env (eval e X.env) = eval e X.env):PE X (.Attribute e f pos) (tFldX C ta f):=by
  intro pins s σ H Q I h
  refine attr_of hb (thn (he pins s σ H _ I h) fun u s1 ⟨z,H1,I1,rx,a,dx,fs,v,ex,ea,ed,l,q⟩ => ?_)
  subst ex
  obtain rfl:u = Value.ref a:=rx
  exact getX O hf hB I1 ea ed l fun u' s2 I2 ru => ⟨v,H1,I2,ru,q⟩
end
end Ex
set_option Elab.async false
set_option maxRecDepth 100000
namespace Ex
open PySem PySem.Spec PyProof.Rows L2
theorem okX2 {P:Program} {w:World} {K:PySem.W.Frag} {mg:Str -> Option Value} {base:Heap} {x qual:Str} {st:Stmt} {f:Addr} {fd:FuncData} {N ps:List Str} {k:Nat} {sp:Sp} (F:Fun K x qual st f fd) (S:FnScope N ps (defScope st)) (len:∀ vs H Q E,sp vs H Q E -> vs.length = ps.length)
    (hbody:∀ (cdv:Value) (A:Around) (outer:List Env) (s:Shared) (H:Hp) (vs:List V) (Q:VK) (E:XK),Room k (A.deeper (envOfC qual (defScope st) s.heap.objs.size f cdv)) -> sp vs H Q E ->
      ∃ t,PSs (cxOf (CX2 P w) P w K mg base N qual (defScope st) f cdv A outer s H E) (defBody st) t /\ t { nx:=fun _ H' => Q .non H',rt:=Q } (start N vs) H):FnOk P w K mg base (CX2 P w) (k + 1) f fd ps sp:=by
  obtain ⟨oc,od,kV,doc,pm,an,cdv,ct,osl,rfl,lk,hcd⟩:=F.ex
  exact fn_of lk hcd S len fun A outer s H vs Q E hr hsp => hbody cdv A outer s H vs Q E hr hsp
section
variable {X:Cx}
theorem phs2_nil {hs:List ExceptHandler}:∀ c ∈ ([]:List (Addr × (Addr -> TS))),∀ ea,PH2 X hs c.1 ea (c.2 ea):=fun c h => by simp at h
theorem phs2_cons {hs:List ExceptHandler} {C:Addr} {t:Addr -> TS} {cs:List (Addr × (Addr -> TS))} (h:∀ ea,PH2 X hs C ea (t ea)) (r:∀ c ∈ cs,∀ ea,PH2 X hs c.1 ea (c.2 ea)):∀ c ∈ (C,t) :: cs,∀ ea,PH2 X hs c.1 ea (c.2 ea):=fun c hc => by
  rcases List.mem_cons.mp hc with rfl | hc
  . exact h
  . exact r c hc
end
end Ex
namespace Com
open PySem PySem.Spec PyProof.Rows L2
section
variable {P:Program} {w:World} {K:PySem.W.Frag} {mg:Str -> Option Value} {base:Heap}
structure CalleeX2 (P:Program) (w:World) (K:PySem.W.Frag) (mg:Str -> Option Value) (base:Heap) (k:Nat) (x:Str) (ps:List Str) (sp:Sp):Prop where
  ex:∃ (f:Addr) (fd:FuncData),FnOk P w K mg base (Ex.CX2 P w) k f fd ps sp /\ mg x = some (.ref f) /\ PySem.W.keepIn K (.ref f) = true /\ Binds K fd ps []
theorem CalleeX2.of {k:Nat} {x:Str} {st:Stmt} {ps:List Str} {sp:Sp} (D:∃ f fd,DefAt K mg x st ps f fd) (h:∀ f fd,DefAt K mg x st ps f fd -> FnOk P w K mg base (Ex.CX2 P w) k f fd ps sp):CalleeX2 P w K mg base k x ps sp:=by
  obtain ⟨f,fd,D⟩:=D
  exact ⟨f,fd,h f fd D,D.mg,D.fn.kp,D.bd⟩
structure EInitAt (K:PySem.W.Frag) (mg:Str -> Option Value) (x:Str) (C:Addr) (as:List Str) (qual:Str) (st:Stmt) (ps:List Str) (f:Addr) (fd:FuncData):Prop where
  fn:Fun K "__init__" qual st f fd
  ex:Ex.ExcI K mg x C f as
  ba:∀ us:List Value,us.length = ps.length -> bindArgs fd ⟨us,[]⟩ = pure (ps.zip us)
structure CalleeE (P:Program) (w:World) (K:PySem.W.Frag) (mg:Str -> Option Value) (base:Heap) (k:Nat) (x:Str) (C:Addr) (as:List Str) (ps:List Str) (sp:Sp):Prop where
  ex:∃ (f:Addr) (fd:FuncData),FnOk P w K mg base CX0 k f fd ps sp /\ Ex.ExcI K mg x C f as /\ Binds K fd ps []
theorem CalleeE.of {k:Nat} {x:Str} {C:Addr} {as:List Str} {qual:Str} {st:Stmt} {ps:List Str} {sp:Sp} (D:∃ f fd,EInitAt K mg x C as qual st ps f fd) (h:∀ f fd,EInitAt K mg x C as qual st ps f fd -> FnOk P w K mg base CX0 k f fd ps sp):CalleeE P w K mg base k x C as ps sp:=by
  obtain ⟨f,fd,D⟩:=D
  exact ⟨f,fd,h f fd D,D.ex,.all D.ba⟩
end
section
variable {X:Cx} {k j:Nat} {C:Addr} {x:Str} {ps as:List Str} {sp:Sp} {p np pos cpos:Pos} {e:Expr} {es:List Expr} {t:TA} {E:XK}
theorem pe_cX2 (C:CalleeX2 X.prog X.w X.K X.mg X.base k x ps sp) (hr:Room j X.A) (hk:k <= j) (hg:Gl X x) (hx:Passes (Ex.CX2 X.prog X.w) X E) (ha:PA X (e :: es) t)
    (hdb:(x == ("__debug__":Str)) = false:=by decide) (he:starEach (e :: es) X.env = (false,eval e X.env) :: starEach es X.env:=by rfl) (hpl:(backTo pos (starEach es X.env)).any (·.1) = false:=by rfl) :
    PE X (.Call (.Name x p) (e :: es) [] pos) (tCall sp [] E t):=by
  obtain ⟨f,fd,F,hm,kp,b⟩:=C.ex
  exact pe_call F (hr.mono hk) hg hm kp b .nil hx ha hdb he hpl
theorem ps_raiseE (I:CalleeE X.prog X.w X.K X.mg X.base k x C as ps sp) (Bd:Ex.Body2 X E) (hr:Room j X.A) (hk:k + 1 <= j) (hg:Gl X x) (hc:X.calm = true) (hps:ps.length <= 64) (ha:PA X (e :: es) t)
    (hdb:(x == ("__debug__":Str)) = false:=by decide) (he:starEach (e :: es) X.env = (false,eval e X.env) :: starEach es X.env:=by rfl) (hpl:(backTo cpos (starEach es X.env)).any (·.1) = false:=by rfl) :
    PS X (.Raise (some (.Call (.Name x np) (e :: es) [] cpos)) none pos) (Ex.tRaiseI E C sp t):=by
  obtain ⟨f,fd,F,O,b⟩:=I.ex
  exact Ex.ps_raiseI Bd hg hc O F (hr.mono hk) b hps ha hdb he hpl
end
end Com
set_option Elab.async false
set_option maxRecDepth 100000
namespace Com
open PySem PySem.Spec PyProof.Rows L2
section
open PySem.AutoSeq1 (wpAny_loadPart')
theorem ext_tup (l:Addr) (items:Array Value) (n:Nat) (b:Addr) (items2:Array Value) (n2:Nat) (dd:Option Addr) (sl:Array (Option Value)) (hs0:¬(!items.isEmpty && Builtin.List.listTooLong (items.size + items2.size)) = true) (hs1:items.size <= sizeLine) (hs2:items.size + items2.size <= sizeLine + 1) :
    Meets (Builtin.«list.extend» ⟨[.ref l, .ref b], []⟩) (fun _ R s => s.heap.get? l = some { cls := .type "list", dict := none, data := .seq items n, slots := #[] } /\ s.heap.get? b = some { cls := .type "tuple", dict := dd, data := .seq items2 n2, slots := sl } /\ R (.ok (.ret Value.none)) { s with heap := s.heap.update l (Obj.mapSeq fun x => x ++ items2), toks := s.toks }) :=
  .of_wp fun prog w A R s h => by
    obtain ⟨hp,g,d,tk,os⟩:=s; obtain ⟨hl,hb,h⟩:=h; have f1:=AutoSeq1.idx_int; have f2:=AutoSeq1.sub_tuple_tuple; have f3:=AutoSeq1.sub_list_list; have f4:=AutoSeq1.sub_tuple_list; have f5:=AutoSeq1.sub_list_tuple;
    have hz':(items ++ items2).size <= sizeLine + 1:=by rw [Array.size_append]; exact hs2
    wp_walk using (wpAny_updateSeq hl rfl (hz:=hs1) (_hz':=hz')),wpAny_loadPart' hl,wpAny_loadPart' hb; exact ⟨_,rfl,h⟩
end
section
variable {X:Cx}
def rExtendT (K:PySem.W.Frag):V -> List V -> Hp -> VK -> Prop:=fun x vs H Q => ∃ l b xs zs,x = .ref l /\ vs = [.ref b] /\ H l = some (.lst xs) /\ SqT K H b zs /\ xs.length + zs.length <= sizeLine /\ Q .non (upd H l (.lst (xs ++ zs)))
theorem mt_extendT:MtM X "list.extend" (rExtendT X.K):=by
  intro pins s σ H x vs v us Q I rx rv h
  obtain ⟨l,b,xs,zs,rfl,rfl,hH,hB,hz,q⟩:=h
  cases rx
  obtain ⟨u,rfl,ru⟩:=rv.one
  cases ru
  obtain ⟨z,its,n,r,hl,e⟩:=I.lstM hH
  obtain ⟨its2,r2,⟨⟨cls,dd,data,sl⟩,e2,hc,n2,hd⟩,z2⟩:=I.tuple hB
  simp only at hc hd
  subst hc hd
  have hl2:=r2.length
  have hsz:its.toArray.size + its2.toArray.size <= sizeLine:=by rw [List.size_toArray,List.size_toArray]; omega
  have hlong:¬ (!its.toArray.isEmpty && Builtin.List.listTooLong (its.toArray.size + its2.toArray.size)) = true:=by
    rw [notLongL hsz,Bool.and_false]
    exact Bool.false_ne_true
  refine call_meets F.slot_list_extend ⟨_,e,rfl⟩ F.entry_list_extend (F.args_list_extend_2 _ _)
    (ext_tup l its.toArray n b its2.toArray n2 dd sl hlong (by rw [List.size_toArray]; omega) (by omega)) ⟨e,e2,?_⟩
  refine ⟨.non,_,I.lset (its':=its ++ its2) hH e (by simp) (r.append r2) ?_,rfl,q⟩
  rw [List.length_append]
  omega
def tListRng (ta:TA):TE:=fun σ H Q => ta σ H fun vs H1 => ∃ (i:Int) (n:Nat),vs = [.int i,.int (i + n)] /\ -1000000 <= i /\ i <= 1000000 /\ n <= 1000000 /\ ∀ l,H1 l = none -> Q (.ref l) (upd H1 l (.lst ((List.range n).map fun k:Nat => V.int (i + k))))
theorem vals_rng {i:Int} {acc:Array Value} {n:Nat} (h:ItemsOf (fun k v => ∃ t,v = Value.int (i + k * 1) t) acc n):Vals ((List.range n).map fun k:Nat => V.int (i + k)) acc.toList:=by
  have go:∀ (l:List Value) (m:Nat),(∀ j v,l[j]? = some v -> ∃ t,v = Value.int (i + ((m + j:Nat):Int)) t) -> Vals ((List.range' m l.length).map fun k:Nat => V.int (i + k)) l:=by
    intro l
    induction l with
    | nil => intro m _; exact .nil
    | cons v l ih =>
      intro m hv
      rw [List.length_cons,List.range'_succ,List.map_cons]
      obtain ⟨t,et⟩:=hv 0 v rfl
      refine .cons ⟨t,by rw [et]; rfl⟩ (ih (m + 1) fun j u e => ?_)
      obtain ⟨t2,e2⟩:=hv (j + 1) u e
      exact ⟨t2,by rw [e2]; congr 2; push_cast; omega⟩
  have e:=h.1
  have h2:=go acc.toList 0 fun j v ej => by
    obtain ⟨t,et⟩:=h.2 j v (by rw [<- Array.getElem?_toList]; exact ej)
    exact ⟨t,by rw [et,Int.mul_one,Nat.zero_add]⟩
  rw [Array.length_toList,e] at h2
  rw [List.range_eq_range']
  exact h2
theorem pe_listRng {a b : Expr} {ta : TA} {p1 p2 q1 q2 : Pos} (hg1 : Gl X "list") (hg2 : Gl X "range") (hc : X.calm = true) (hm1 : X.mg "list" = none) (hm2 : X.mg "range" = none) (ha : PA X [a, b] ta)
    (hs1 : starEach [.Call (.Name "range" p2) [a, b] [] q2] X.env = [(false, eval (.Call (.Name "range" p2) [a, b] [] q2) X.env)] := by rfl) (hs2 : starEach [a, b] X.env = [(false, eval a X.env), (false, eval b X.env)] := by rfl) (hs3 : starEach [b] X.env = [(false, eval b X.env)] := by rfl) :
    PE X (.Call (.Name "list" p1) [.Call (.Name "range" p2) [a,b] [] q2] [] q1) (tListRng ta):=by
  intro pins s σ H Q I h
  refine Call_ (ld_blt I hg1 hm1 Com.bt_list (PyProof.Rows.callWith_type1 ?_ hs1 rfl))
  refine spliced_more ?_ hs1
  refine Call_ (ld_blt I hg2 hm2 boot_range (PyProof.Rows.callWith_type1 (thn (ha q2 pins s σ H _ I h) fun us s1 ⟨vs,H1,I1,r1,i,n,ea,b1,b2,b3,q⟩ => ?_) (by rw [hs2,hs3]) (by rw [hs3]; rfl)))
  subst ea
  cases r1 with
  | cons r rr =>
    cases rr with
    | cons r' rr =>
      cases rr
      obtain ⟨t,rfl⟩:=r
      obtain ⟨t',rfl⟩:=r'
      refine call_range_2 (spliced_none ?_)
      have kk:∀ b u,s1.heap.get? b = some u -> (s1.heap.push { cls:=.type "range",data:=.fields #[.int i t,.int (i + n) t',.int 1 s1.toks] }).get? b = some u:=fun b u e => Heap.get?_push_of_some _ e
      refine call_list_range (n:=n) (I1.ok.hd hc) (IsRange.new ..) (small_one (by omega) (by omega) (by omega) (by omega)) (by rw [rangeSize_one]; split <;> omega) (by omega) fun h' tk acc' c' hk hL hacc => ?_
      have hsz:(s1.heap.push { cls:=.type "range",data:=.fields #[.int i t,.int (i + n) t',.int 1 s1.toks] }).objs.size = s1.heap.objs.size + 1:=Heap.size_push _ _
      have hfr:H1 (s1.heap.push { cls:=.type "range",data:=.fields #[.int i t,.int (i + n) t',.int 1 s1.toks] }).objs.size = none:=I1.hok.fresh (by rw [hsz]; exact Nat.le_succ _)
      refine ⟨.ref _,_,I1.laid (a:=(s1.heap.push { cls:=.type "range",data:=.fields #[.int i t,.int (i + n) t',.int 1 s1.toks] }).objs.size) (o:=.lst ((List.range n).map fun k:Nat => V.int (i + k))) (t':=tk) (fun b u e => hk b u (kk b u e)) (by rw [hsz]; exact Nat.le_succ _) ?_,rfl,q _ hfr⟩
      exact ⟨by rw [List.length_map,List.length_range,sizeLine_eq]; omega,acc'.toList,c',vals_rng hacc,hL⟩
theorem in_orN:InOp X .BitOr (rN0 fun a b => a ||| b):=by
  rintro pins s σ H x y u v Q I rx ry ⟨i,j,rfl,rfl,q⟩
  obtain ⟨t,rfl⟩:=(show ∃ t,u = Value.int i t from rx)
  obtain ⟨t',rfl⟩:=(show ∃ t',v = Value.int j t' from ry)
  refine ior_int ?_
  rw [or_nat]
  exact ⟨.int _,H,I.tok _,⟨_,rfl⟩,q⟩
theorem pe_fldK (K:PySem.W.Frag) {e:Expr} {f:Str} {pos:Pos} {ta:TE} (he:PE X e ta) (hb:attributeBase e f X.env (eval e X.env) = eval e X.env) (eK:X.K = K:=by rfl):PE X (.Attribute e f pos) (tFld K ta f):=by
  subst eK
  exact pe_fld he hb
theorem pe_fldXE {x f:Str} {C:Addr} {as:List Str} {qual:Str} {st:Stmt} {ps:List Str} {e:Expr} {ta:TE} {pos:Pos} (D:∃ f fd,EInitAt X.K X.mg x C as qual st ps f fd) (hf:f ∈ as) (hB:typeLookup (.type "Exception") f = pure none) (he:PE X e ta) (hb:attributeBase e f X.env (eval e X.env) = eval e X.env):PE X (.Attribute e f pos) (Ex.tFldX C ta f):=by
  obtain ⟨fI,fd,D⟩:=D
  exact Ex.pe_fldX D.ex hf hB he hb
theorem EInitAt.mk' {K:PySem.W.Frag} {mg:Str -> Option Value} {h:Heap} {x:Str} {C:Addr} {as:List Str} {qual:Str} {st:Stmt} {ps:List Str} {f:Addr} {oc:Value} {od an:Option Addr} {osl:Array (Option Value)} {kV doc pm cdv ct:Value}
    {nm q:Str} {N:Addr} {bs:List Value} {sn:List Str} {sub:List Value} {ab:Bool} {col:Option Bool} {dd:Option Addr} {k0 k1 k2 k3 k5:Option Value} (X:K.In h) (G:h.Ns mainGlobals mg)
    (aC:PySem.W.nsIn K mainGlobals x = some (some (.ref C))) (kc:PySem.W.keepIn K (.ref C) = true)
    (lC:K.lookup C = some (excClassObj nm q C N bs Ex.bmE true sn sub ab col dd k0 k1 k2 k3 k5 "Exception.__new__")) (ns:PySem.W.nsOkIn K N = true)
    (a : PySem.W.nsIn K N "__init__" = some (some (.ref f))) (no : ∀ a ∈ (["__setattr__", "__getattribute__", "__getattr__"] : List Str) ++ as, PySem.W.nsIn K N a = some none)
    (i:PySem.W.isFn K (.ref f) = true) (l:K.lookup f = some ⟨oc,od,.func (PySem.W.fnOf "__init__" qual (defArgs st) (defBody st) (defScope st) .none kV doc pm an cdv ct),osl⟩) (c:PySem.W.codeIn K cdv qual = true) (k:PySem.W.keepIn K (.ref f) = true)
    (b:∀ (kV doc pm:Value) (an:Option Addr) (cdv ct:Value) (us:List Value),us.length = ps.length -> bindArgs (PySem.W.fnOf "__init__" qual (defArgs st) (defBody st) (defScope st) .none kV doc pm an cdv ct) ⟨us,[]⟩ = pure (ps.zip us)) :
    ∃ f fd,EInitAt K mg x C as qual st ps f fd :=
  ⟨f,_,fun_mk (st:=st) l c k,⟨PySem.W.mg_of X G aC,kc,i,nm,q,N,bs,sn,sub,ab,col,dd,k0,k1,k2,k3,k5,lC,ns,a,no⟩,b kV doc pm an cdv ct⟩
end
end Com
set_option Elab.async false
set_option maxRecDepth 100000
set_option maxHeartbeats 4000000
namespace Bg
open PySem PySem.Spec PyProof.Rows L2 Com
open PySem.W (Codec WData clsIn codeIn findIn fnOf hasDictIn isFn keepIn makesIn mg_none_of mg_of nsIn nsOkIn plainGet plainOver subIn typeIn)
abbrev nz:=BkNeutral.ints
abbrev NL (K:PySem.W.Frag) (H:Hp) (a:Addr) (g:List Nat):Prop:=SqL K H a ((nz g).map V.int)
abbrev lstN (g:List Nat):HO:=.lst ((nz g).map V.int)
theorem ints_len (g:List Nat):(nz g).length = g.length:=List.length_map ..
theorem vi_len (g:List Nat):((nz g).map V.int).length = g.length:=by rw [List.length_map,ints_len]
theorem at_n {g:List Nat} {j:Nat} {z:Int} (h:j < g.length) (e:z = (j:Int):=by omega):atI ((nz g).map V.int) z = some (.int ((g.getD j 0:Nat):Int)):=by
  rw [ints_at (ns:=nz g) (j:=j) (by rw [ints_len]; exact h) e]
  congr 2
  exact Rm.at_ints g j
theorem at_r {as:List Addr} {j:Nat} {a:Addr} {z:Int} (h:as[j]? = some a) (e:z = (j:Int):=by omega):atI (as.map V.ref) z = some (.ref a):=by
  subst e
  exact atI_nat (by rw [List.getElem?_map,h]; rfl)
theorem cut_n {l:List Nat} {u v:Nat} {lo hi:Int} (h:u <= v) (hv:v <= l.length) (e1:lo = (u:Int):=by omega) (e2:hi = (v:Int):=by omega):cutV ((nz l).map V.int) (some lo) (some hi) = (nz ((l.drop u).take (v - u))).map V.int:=by
  subst e1 e2
  unfold cutV
  rw [HT.sIx_nat,HT.sIx_nat,vi_len,Nat.min_eq_left (show u <= l.length by omega),Nat.min_eq_left hv]
  unfold nz BkNeutral.ints
  rw [<- List.map_drop,<- List.map_take,<- List.map_drop,<- List.map_take]
def Lists (K:PySem.W.Frag) (H:Hp) (as:List Addr) (gs:List (List Nat)):Prop:=as.length = gs.length /\ ∀ (j:Nat) (b:Addr) (g:List Nat),as[j]? = some b -> gs[j]? = some g -> NL K H b g
theorem Lists.keep {K:PySem.W.Frag} {H H':Hp} {as:List Addr} {gs:List (List Nat)} (h:Lists K H as gs) (s:Same H H'):Lists K H' as gs:=⟨h.1,fun j b g e1 e2 => s.seq (h.2 j b g e1 e2)⟩
theorem get_snoc {α:Type} {l:List α} {x y:α} {j:Nat} (h:(l ++ [x])[j]? = some y):(j < l.length /\ l[j]? = some y) \/ (j = l.length /\ y = x):=by
  by_cases c:j < l.length
  . rw [List.getElem?_append_left c] at h
    exact .inl ⟨c,h⟩
  . rw [List.getElem?_append_right (by omega)] at h
    have hj:j - l.length < 1:=by
      have:=(List.getElem?_eq_some_iff.mp h).1
      simpa using this
    have e:j = l.length:=by omega
    rw [e,Nat.sub_self] at h
    exact .inr ⟨e,(Option.some.inj h).symm⟩
theorem line_of {n:Nat} (h:n <= 10000000):n <= sizeLine:=by rw [sizeLine_eq]; omega
theorem line_lt {n:Nat} (h:n <= 10000000):n < sizeLine:=by rw [sizeLine_eq]; omega
theorem getD_take {l:List Nat} {j k:Nat} (h:j < k):(l.take k).getD j 0 = l.getD j 0:=by
  rw [List.getD_eq_getElem?_getD,List.getD_eq_getElem?_getD,List.getElem?_take_of_lt h]
def WaysAt (H:Hp) (ts:List Addr) (ws:Rm.Ways):Prop:=ts.length = ws.length /\ ∀ (j:Nat) (t:Addr) (c:Nat) (p:List Nat),ts[j]? = some t -> ws[j]? = some (c,p) -> ∃ q,H t = some (.tup [.int (c:Nat),.ref q]) /\ H q = some (lstN p)
theorem WaysAt.keep {H H':Hp} {ts:List Addr} {ws:Rm.Ways} (h:WaysAt H ts ws) (s:Same H H'):WaysAt H' ts ws:=⟨h.1,fun j t c p e1 e2 => by
  obtain ⟨q,h1,h2⟩:=h.2 j t c p e1 e2
  exact ⟨q,s _ _ h1,s _ _ h2⟩⟩
theorem WaysAt.snoc {H:Hp} {ts:List Addr} {ws:Rm.Ways} (h:WaysAt H ts ws) {t q:Addr} {c:Nat} {p:List Nat} (h1:H t = some (.tup [.int (c:Nat),.ref q])) (h2:H q = some (lstN p)):WaysAt H (ts ++ [t]) (ws ++ [(c,p)]):=by
  refine ⟨by rw [List.length_append,List.length_append,h.1]; rfl,fun j t' c' p' e1 e2 => ?_⟩
  rcases get_snoc e1 with ⟨k1,e1⟩ | ⟨k1,rfl⟩
  . rcases get_snoc e2 with ⟨k2,e2⟩ | ⟨k2,e2⟩
    . exact h.2 j t' c' p' e1 e2
    . have:=h.1
      omega
  . rcases get_snoc e2 with ⟨k2,e2⟩ | ⟨k2,e2⟩
    . have:=h.1
      omega
    . cases e2
      exact ⟨q,h1,h2⟩
def Forms (H:Hp) (kvs:List (Key × V)) (ws:Rm.Ways):Prop:=∀ d:Nat,match Rm.formIn ws d with
  | none => valV kvs (Sum.inl (d:Int)) = none
  | some p => ∃ q,valV kvs (Sum.inl (d:Int)) = some (.ref q) /\ H q = some (lstN p)
def StepsAt (H:Hp) (ts:List Addr) (st:List Rm.Step):Prop:=ts.length = st.length /\ ∀ (j:Nat) (t:Addr) (s:Rm.Step),ts[j]? = some t -> st[j]? = some s -> H t = some (.tup [.int (s.1:Nat),.int (s.2.1:Nat),.int (s.2.2:Nat)])
theorem StepsAt.keep {H H':Hp} {ts:List Addr} {st:List Rm.Step} (h:StepsAt H ts st) (s:Same H H'):StepsAt H' ts st:=⟨h.1,fun j t u e1 e2 => s _ _ (h.2 j t u e1 e2)⟩
def keyN (k:List Nat):List Key:=(nz k).map Sum.inl
def PartIn (p:List Nat):Prop:=p.getD 0 0 < 3 /\ (1 <= p.getD 1 0 /\ p.getD 1 0 <= 2) /\ (1 <= p.getD 2 0 /\ p.getD 2 0 <= 15)
theorem part1 {s:List Nat} (h:s.length = 7):s.take 3 = [s.getD 0 0,s.getD 1 0,s.getD 2 0]:=by
  match s,h with
  | [_,_,_,_,_,_,_],_ => rfl
theorem part2 {s:List Nat} (h:s.length = 7):(s.drop 3).take 3 = [s.getD 3 0,s.getD 4 0,s.getD 5 0]:=by
  match s,h with
  | [_,_,_,_,_,_,_],_ => rfl
theorem dp3 {K:PySem.W.Frag} {H:Hp} {a:Addr} {x y z:Int} (h:SqL K H a [.int x,.int y,.int z]):Dp K H (.ref a) (.list [.int x,.int y,.int z]):=.lst h (.cons (.int x) (.cons (.int y) (.cons (.int z) .nil)))
theorem eqv3 (x y z x' y' z':Int):PyData.eqv (.list [.int x,.int y,.int z]) (.list [.int x',.int y',.int z']) = decide (x = x' /\ y = y' /\ z = z'):=by
  show (x == x' && (y == y' && (z == z' && true))) = _
  rw [Bool.and_true,Bool.eq_iff_iff]
  simp
abbrev kN (d:Nat):Key:=Sum.inl (d:Int)
theorem kN_inj {d e:Nat} (h:kN d = kN e):d = e:=by
  have:=Sum.inl.inj h
  omega
def FDict (H:Hp) (kvs:List (Key × V)) (fl:Rm.Ways):Prop:=kvs.length = fl.length /\ ∀ (j c:Nat) (p:List Nat),fl[j]? = some (c,p) -> ∃ q,kvs[j]? = some (kN c,.ref q) /\ H q = some (lstN p)
def Keys (kvs:List (Key × V)) (n:Nat):Prop:=∃ ds:List Nat,ds.Nodup /\ kvs.map (·.1) = ds.map kN /\ ∀ d ∈ ds,d < n
theorem SqL.keepX {K:PySem.W.Frag} {H H':Hp} {a f:Addr} {xs:List V} {kvs:List (Key × V)} (hf:H f = some (.dK kvs)) (h:SqL K H a xs) (s:∀ b o,b ≠ f -> H b = some o -> H' b = some o):SqL K H' a xs:=by
  rcases h with (h | ⟨o,h⟩) | h
  . exact .inl (.inl (s _ _ (ne_of h hf (by intro z; cases z)) h))
  . exact .inl (.inr ⟨o,s _ _ (ne_of h hf (by intro z; cases z)) h⟩)
  . exact .inr h
def Own (D:Addr) (H:Hp) (as:List Addr) (gs:List (List Nat)):Prop:=as.length = gs.length /\ ∀ (j:Nat) (b:Addr) (g:List Nat),as[j]? = some b -> gs[j]? = some g -> b ≠ D /\ H b = some (lstN g)
theorem Own.lists {K:PySem.W.Frag} {D:Addr} {H:Hp} {as:List Addr} {gs:List (List Nat)} (h:Own D H as gs):Lists K H as gs:=⟨h.1,fun j b g e1 e2 => SqL.of (h.2 j b g e1 e2).2⟩
theorem Own.snoc {D:Addr} {H H':Hp} {as:List Addr} {gs:List (List Nat)} {b:Addr} {g:List Nat} (h:Own D H as gs) (s:∀ b o,b ≠ D -> H b = some o -> H' b = some o) (hn:b ≠ D) (hb:H' b = some (lstN g)):Own D H' (as ++ [b]) (gs ++ [g]):=by
  refine ⟨by rw [List.length_append,List.length_append,h.1]; rfl,fun j b' g' e1 e2 => ?_⟩
  rcases get_snoc e1 with ⟨k1,e1⟩ | ⟨k1,rfl⟩
  . rcases get_snoc e2 with ⟨k2,e2⟩ | ⟨k2,e2⟩
    . obtain ⟨h1,h2⟩:=h.2 j b' g' e1 e2
      exact ⟨h1,s _ _ h1 h2⟩
    . have:=h.1
      omega
  . rcases get_snoc e2 with ⟨k2,e2⟩ | ⟨k2,e2⟩
    . have:=h.1
      omega
    . rw [e2]
      exact ⟨hn,hb⟩
theorem range_snoc {α:Type} (f:Nat -> α) (i:Nat):(List.range (i + 1)).map f = (List.range i).map f ++ [f i]:=by
  rw [List.range_succ,List.map_append]
  rfl
theorem grp_len {l:List Nat} {j:Nat} (hj:j < l.length / 7):(Mm.grp 7 l j).length = 7:=by
  unfold Mm.grp
  rw [List.length_take,List.length_drop]
  omega
theorem be_le {g:List Nat} (h:Rm.RIn g) {j:Nat} (hj:j < 3):Rm.beOf g j <= 15:=by
  obtain ⟨_,h1,h2⟩:=h
  have e:j = 0 \/ j = 1 \/ j = 2:=by omega
  unfold Mm.DeckIn at h1 h2
  unfold Rm.beOf
  rcases e with rfl | rfl | rfl
  . show g.getD 1 0 <= 15
    omega
  . show g.getD 3 0 <= 15
    omega
  . show g.getD 5 0 <= 15
    omega
theorem form_get {H:Hp} {g:List Nat} {kvs:List (Key × V)} (hR:Rm.RIn g) (hW:Rm.Whole g) (hF:Forms H kvs (Rm.waysOf g 3)) {d:Nat} (hd:d < g.getD 0 0):∃ q,valV kvs (kN d) = some (.ref q) /\ H q = some (lstN (Rm.formR g d)):=by
  have h:=hF d
  rw [Rm.form_at hR hW hd] at h
  exact h
def dueI (op d x:Nat):Int:=if op = 0 then (x:Int) + d else (x:Int) - d
theorem due_after {op d x q:Nat} (hq:d < q):dueI op d x % (q:Int) = ((Na.after op q d x:Nat):Int):=by
  unfold dueI Na.after
  by_cases e:op = 0
  . rw [if_pos e,if_pos e]
    push_cast
    rfl
  . rw [if_neg e,if_neg e]
    have:((x + q - d:Nat):Int) = (x:Int) - d + q:=by omega
    rw [Int.natCast_emod,this,Int.add_emod_right]
theorem due_over {op d x q:Nat} (hx:x < q):(if 0 <= dueI op d x /\ dueI op d x < (q:Int) then (0:Int) else 1) = ((if Na.over op q d x = true then 1 else 0:Nat):Int):=by
  unfold dueI Na.over
  by_cases e:op = 0
  . rw [if_pos e,if_pos e]
    by_cases c:q <= x + d
    . rw [if_neg (by omega),if_pos (by simpa using c)]
      rfl
    . rw [if_pos (by omega),if_neg (by simpa using c)]
      rfl
  . rw [if_neg e,if_neg e]
    by_cases c:x < d
    . rw [if_neg (by omega),if_pos (by simpa using c)]
      rfl
    . rw [if_pos (by omega),if_neg (by simpa using c)]
      rfl
theorem upd_self {H:Hp} {a:Addr} {o:HO} (h:H a = some o):upd H a o = H:=by
  funext b
  by_cases e:b = a
  . rw [e,upd_same,h]
  . rw [upd_ne e]
theorem putK_keys {kvs:List (Key × V)} {k:Key} {v y:V} (h:valV kvs k = some v):(putK kvs k y).map (·.1) = kvs.map (·.1):=by
  unfold putK
  rw [valV_any,h,if_pos (show (some v).isSome = true from rfl),List.map_map]
  refine List.map_congr_left fun kv _ => ?_
  show (if kv.1 = k then (kv.1,y) else kv).1 = kv.1
  split <;> rfl
theorem forms_put {H:Hp} {kvs:List (Key × V)} {ws:Rm.Ways} {c:Nat} {p:List Nat} {q0:Addr} (h:Forms H kvs ws) (h2:H q0 = some (lstN p)) (hb:Rm.formIn (ws ++ [(c,p)]) c = some p):Forms H (putK kvs (kN c) (.ref q0)) (ws ++ [(c,p)]):=by
  intro d
  by_cases e:c = d
  . subst e
    rw [hb]
    exact ⟨q0,by rw [valV_put,if_pos rfl],h2⟩
  . have hd:=h d
    rw [Rm.formIn_snoc,if_neg e]
    cases e2:Rm.formIn ws d with
    | none =>
      rw [e2] at hd
      show valV _ _ = none
      rw [valV_put,if_neg (fun z => e (kN_inj z).symm)]
      exact hd
    | some p' =>
      rw [e2] at hd
      obtain ⟨q,k1,k2⟩:=hd
      exact ⟨q,by rw [valV_put,if_neg (fun z => e (kN_inj z).symm)]; exact k1,k2⟩
theorem forms_stay {H:Hp} {kvs:List (Key × V)} {ws:Rm.Ways} {c:Nat} {p p':List Nat} (h:Forms H kvs ws) (h1:Rm.formIn ws c = some p') (h2:Na.nicer p p' = false):Forms H kvs (ws ++ [(c,p)]):=by
  intro d
  have hd:=h d
  rw [Rm.formIn_snoc]
  by_cases e:c = d
  . subst e
    rw [if_pos rfl]
    rw [h1] at hd |-
    dsimp only at hd |-
    rw [h2]
    exact hd
  . rw [if_neg e]
    exact hd
theorem formIn_new {ws:Rm.Ways} {c:Nat} {p:List Nat} (h:Rm.formIn ws c = none):Rm.formIn (ws ++ [(c,p)]) c = some p:=by
  rw [Rm.formIn_snoc,if_pos rfl,h]
theorem formIn_old {ws:Rm.Ways} {c:Nat} {p p':List Nat} (h:Rm.formIn ws c = some p') (h2:Na.nicer p p' = true):Rm.formIn (ws ++ [(c,p)]) c = some p:=by
  rw [Rm.formIn_snoc,if_pos rfl,h]
  dsimp only
  rw [if_pos h2]
theorem Keys.new {kvs:List (Key × V)} {n c:Nat} {y:V} (h:Keys kvs n) (hc:c < n) (hv:valV kvs (kN c) = none):Keys (putK kvs (kN c) y) n:=by
  obtain ⟨ds,h1,h2,h3⟩:=h
  have hn:¬ c ∈ ds:=fun z => valV_not hv (by rw [h2]; exact List.mem_map.mpr ⟨c,z,rfl⟩)
  refine ⟨ds ++ [c],?_,?_,?_⟩
  . rw [List.nodup_append]
    refine ⟨h1,by simp,fun a ha b hb => ?_⟩
    rw [List.mem_singleton] at hb
    rw [hb]
    exact fun z => hn (by rw [<- z]; exact ha)
  . rw [putK_new _ hv,List.map_append,List.map_append,h2]
    rfl
  . intro d hd
    rcases List.mem_append.mp hd with hd | hd
    . exact h3 d hd
    . rw [List.mem_singleton.mp hd]
      exact hc
theorem Keys.old {kvs:List (Key × V)} {n c:Nat} {v y:V} (h:Keys kvs n) (hv:valV kvs (kN c) = some v):Keys (putK kvs (kN c) y) n:=by
  obtain ⟨ds,h1,h2,h3⟩:=h
  exact ⟨ds,h1,by rw [putK_keys hv]; exact h2,h3⟩
theorem Keys.len {kvs:List (Key × V)} {n:Nat} (h:Keys kvs n):kvs.length <= n:=by
  obtain ⟨ds,h1,h2,h3⟩:=h
  have:=congrArg List.length h2
  rw [List.length_map,List.length_map] at this
  rw [this]
  exact Rm.pigeon h1 h3
theorem keys_whole {H:Hp} {g:List Nat} {kvs:List (Key × V)} (h:Keys kvs (g.getD 0 0)) (hf:Forms H kvs (Rm.waysOf g 3)):kvs.length < g.getD 0 0 ↔ ¬ Rm.Whole g:=by
  obtain ⟨ds,h1,h2,h3⟩:=h
  have hl:=congrArg List.length h2
  rw [List.length_map,List.length_map] at hl
  have hmem:∀ d:Nat,Rm.formIn (Rm.waysOf g 3) d ≠ none ↔ d ∈ ds:=fun d => by
    have hd:=hf d
    cases e:Rm.formIn (Rm.waysOf g 3) d with
    | none =>
      rw [e] at hd
      have k:=valV_not hd
      rw [h2] at k
      constructor
      . intro z
        exact absurd rfl z
      . intro z
        exact absurd (List.mem_map.mpr ⟨d,z,rfl⟩) k
    | some p =>
      rw [e] at hd
      obtain ⟨q,hq,_⟩:=hd
      have k:=valV_in hq
      rw [h2] at k
      obtain ⟨d',hd',ed⟩:=List.mem_map.mp k
      have:=kN_inj ed
      constructor
      . intro _
        rw [<- this]
        exact hd'
      . intro _ z
        cases z
  constructor
  . intro hlt hw
    have:g.getD 0 0 <= ds.length:=by
      have:=(List.nodup_range (n:=g.getD 0 0)).length_le_of_subset (l₂:=ds) fun d hd => (hmem d).mp (hw d (List.mem_range.mp hd))
      rwa [List.length_range] at this
    omega
  . intro hw
    refine Classical.byContradiction fun hlt => hw fun d hd => ?_
    refine (hmem d).mpr (Classical.byContradiction fun hn => ?_)
    have:=Rm.pigeon (n:=g.getD 0 0) (l:=d :: ds) (List.nodup_cons.mpr ⟨hn,h1⟩) fun x hx => by
      rcases List.mem_cons.mp hx with rfl | hx
      . exact hd
      . exact h3 x hx
    rw [List.length_cons] at this
    omega
theorem wstep_snoc (q b w:Nat) (ws:Rm.Ways) (cp:Nat × List Nat):Rm.wstep q b w (ws ++ [cp]) = Rm.wstep q b w ws ++ Rm.wrow q b w cp:=by
  unfold Rm.wstep
  rw [List.flatMap_append]
  simp
def wpart (q w:Nat) (cp:Nat × List Nat) (m:Nat):Rm.Ways:=(List.range m).filterMap fun m => if cp.1 + m * w < q then some (cp.1 + m * w,cp.2 ++ [m]) else none
theorem wpart_yes {q w m:Nat} {cp:Nat × List Nat} (h:cp.1 + m * w < q):wpart q w cp (m + 1) = wpart q w cp m ++ [(cp.1 + m * w,cp.2 ++ [m])]:=by
  unfold wpart
  rw [List.range_succ,List.filterMap_append]
  congr 1
  simp [h]
theorem wpart_no {q w m:Nat} {cp:Nat × List Nat} (h:¬ cp.1 + m * w < q):wpart q w cp (m + 1) = wpart q w cp m:=by
  unfold wpart
  rw [List.range_succ,List.filterMap_append]
  simp [h]
theorem wpart_stop {q w m:Nat} {cp:Nat × List Nat} (h:¬ cp.1 + m * w < q):∀ n,m <= n -> wpart q w cp n = wpart q w cp m
  | 0,hn => by
    have:m = 0:=by omega
    rw [this]
  | n + 1,hn => by
    by_cases e:m = n + 1
    . rw [e]
    . have h2:¬ cp.1 + n * w < q:=fun z => h (Nat.lt_of_le_of_lt (Nat.add_le_add_left (Nat.mul_le_mul_right w (by omega)) _) z)
      rw [wpart_no h2]
      exact wpart_stop h n (by omega)
theorem Forms.keep {H H':Hp} {kvs:List (Key × V)} {ws:Rm.Ways} (h:Forms H kvs ws) (k:∀ q p,H q = some (lstN p) -> H' q = some (lstN p)):Forms H' kvs ws:=by
  intro d
  have hd:=h d
  cases e:Rm.formIn ws d with
  | none =>
    rw [e] at hd
    exact hd
  | some p =>
    rw [e] at hd
    obtain ⟨q,k1,k2⟩:=hd
    exact ⟨q,k1,k q p k2⟩
theorem Forms.same {H:Hp} {kvs:List (Key × V)} {ws ws':Rm.Ways} (h:Forms H kvs ws) (e:∀ d,Rm.formIn ws' d = Rm.formIn ws d):Forms H kvs ws':=by
  intro d
  rw [e d]
  exact h d
theorem forms_get {H:Hp} {kvs:List (Key × V)} {ws:Rm.Ways} (h:Forms H kvs ws) {d:Nat} {v:V} (e:valV kvs (kN d) = some v):∃ p q,Rm.formIn ws d = some p /\ v = .ref q /\ H q = some (lstN p):=by
  have hd:=h d
  cases z:Rm.formIn ws d with
  | none =>
    rw [z] at hd
    rw [show valV kvs (kN d) = none from hd] at e
    cases e
  | some p =>
    rw [z] at hd
    obtain ⟨q,k1,k2⟩:=hd
    rw [show valV kvs (kN d) = some (.ref q) from k1] at e
    exact ⟨p,q,rfl,(Option.some.inj e).symm,k2⟩
theorem forms_no {H:Hp} {kvs:List (Key × V)} {ws:Rm.Ways} (h:Forms H kvs ws) {d:Nat} (e:valV kvs (kN d) = none):Rm.formIn ws d = none:=by
  have hd:=h d
  cases z:Rm.formIn ws d with
  | none => rfl
  | some p =>
    rw [z] at hd
    obtain ⟨q,k1,_⟩:=hd
    rw [show valV kvs (kN d) = some (.ref q) from k1] at e
    cases e
theorem snoc_len {ws:Rm.Ways} {n c:Nat} {p:List Nat} (h:∀ d p',Rm.formIn ws d = some p' -> p'.length = n) (hp:p.length = n):∀ d p',Rm.formIn (ws ++ [(c,p)]) d = some p' -> p'.length = n:=fun d p' e => by
  rw [Rm.formIn_snoc] at e
  by_cases z:c = d
  . subst z
    rw [if_pos rfl] at e
    cases y:Rm.formIn ws c with
    | none =>
      rw [y] at e
      cases e
      exact hp
    | some p2 =>
      rw [y] at e
      dsimp only at e
      by_cases x:Na.nicer p p2 = true
      . rw [if_pos x] at e
        cases e
        exact hp
      . rw [if_neg x] at e
        cases e
        exact h c _ y
  . rw [if_neg z] at e
    exact h d p' e
theorem val_at:∀ {kvs:List (Key × V)} {j:Nat} {k:Key} {v:V},(kvs.map (·.1)).Nodup -> kvs[j]? = some (k,v) -> valV kvs k = some v
  | [],j,k,v,_,h => by simp at h
  | p :: r,0,k,v,_,h => by
    cases h
    exact valV_pos rfl
  | p :: r,j + 1,k,v,nd,h => by
    have nd2:=List.nodup_cons.mp nd
    have h:r[j]? = some (k,v):=h
    have hk:k ∈ r.map (·.1):=List.mem_map.mpr ⟨(k,v),List.mem_of_getElem? h,rfl⟩
    rw [valV_neg (fun z => nd2.1 (by rw [show (fun x:Key × V => x.1) p = k from z]; exact hk))]
    exact val_at nd2.2 h
theorem fdict_of {H:Hp} {kvs:List (Key × V)} {ws:Rm.Ways} {n l:Nat} (hF:Forms H kvs ws) (hK:Keys kvs n) (hl:∀ x ∈ ws,x.2.length = l):∃ fl,FDict H kvs fl /\ Fo.Best l fl ws:=by
  obtain ⟨ds,h1,h2,h3⟩:=hK
  have hlen:=congrArg List.length h2
  rw [List.length_map,List.length_map] at hlen
  have key:∀ (j d:Nat),ds[j]? = some d -> ∃ v,kvs[j]? = some (kN d,v) /\ valV kvs (kN d) = some v:=fun j d e => by
    have hj:j < kvs.length:=by
      have:=(List.getElem?_eq_some_iff.mp e).1
      omega
    have e2:(kvs.map (·.1))[j]? = some (kN d):=by rw [h2,List.getElem?_map,e]; rfl
    rw [List.getElem?_map,List.getElem?_eq_getElem hj] at e2
    have e3:(kvs[j]).1 = kN d:=Option.some.inj e2
    refine ⟨(kvs[j]).2,by rw [List.getElem?_eq_getElem hj,<- e3],?_⟩
    have nd:(kvs.map (·.1)).Nodup:=by
      rw [h2]
      exact List.Pairwise.map kN (fun a b hab z => hab (kN_inj z)) h1
    exact val_at nd (by rw [List.getElem?_eq_getElem hj,<- e3])
  have get:∀ d ∈ ds,∃ p q,Rm.formIn ws d = some p /\ valV kvs (kN d) = some (.ref q) /\ H q = some (lstN p):=fun d hd => by
    obtain ⟨j,hj⟩:=List.getElem?_of_mem hd
    obtain ⟨v,_,hv⟩:=key j d hj
    obtain ⟨p,q,k1,rfl,k2⟩:=forms_get hF hv
    exact ⟨p,q,k1,hv,k2⟩
  refine ⟨ds.map fun d => (d,(Rm.formIn ws d).getD []),⟨by rw [List.length_map]; exact hlen,fun j c p e => ?_⟩,hl,fun x hx => ?_,fun d p e => ?_⟩
  . rw [List.getElem?_map] at e
    obtain ⟨d,hd,ed⟩:=Option.map_eq_some_iff.mp e
    cases ed
    obtain ⟨v,hv,hv2⟩:=key j c hd
    obtain ⟨p,q,k1,k2,k3⟩:=get c (List.mem_of_getElem? hd)
    rw [hv2] at k2
    cases k2
    refine ⟨q,hv,?_⟩
    rw [k1]
    exact k3
  . obtain ⟨d,hd,rfl⟩:=List.mem_map.mp hx
    obtain ⟨p,q,k1,k2,k3⟩:=get d hd
    show Rm.formIn ws d = some ((Rm.formIn ws d).getD [])
    rw [k1]
    rfl
  . have hd:=hF d
    rw [e] at hd
    obtain ⟨q,k1,k2⟩:=hd
    have hin:=valV_in k1
    rw [h2] at hin
    obtain ⟨d',hd',ed⟩:=List.mem_map.mp hin
    have:=kN_inj ed
    subst this
    refine List.mem_map.mpr ⟨d',hd',?_⟩
    rw [e]
    rfl
theorem at_len {α β:Type} {l:List α} {m:List β} {i:Nat} {y:β} (h:l.length = m.length) (e:m[i]? = some y):∃ x,l[i]? = some x:=by
  have:=(List.getElem?_eq_some_iff.mp e).1
  exact ⟨_,List.getElem?_eq_getElem (by omega)⟩
theorem lst_snoc (l:List Nat) (x:Nat) {z:Int} (e:z = (x:Int)):(nz l).map V.int ++ [V.int z] = (nz (l ++ [x])).map V.int:=by
  rw [e]
  unfold nz BkNeutral.ints
  rw [List.map_append,List.map_append]
  rfl
theorem groups_le {l:List Nat} (h:l.length % 7 = 0) (h2:l.length <= 500):(Na.groups 7 l).length <= 71:=by
  rw [Mm.groups_is (by decide) h,List.length_map,List.length_range]
  omega
theorem SqL.keepL {K:PySem.W.Frag} {H:Hp} {a L:Addr} {xs ys zs:List V} (hL:H L = some (.lst ys)) (h:SqL K H a xs) (hne:xs ≠ ys):SqL K (upd H L (.lst zs)) a xs:=by
  rcases h with (h | ⟨o,h⟩) | h
  . refine .inl (.inl ?_)
    rw [upd_ne (fun z => by rw [z,hL] at h; cases h; exact hne rfl)]
    exact h
  . refine .inl (.inr ⟨o,?_⟩)
    rw [upd_ne (fun z => by rw [z,hL] at h; cases h)]
    exact h
  . exact .inr h
theorem make_parts {l:List Nat} {x:Na.Make} (h:Na.makeOf l = .ok x):l.length % 7 = 0 /\ (∀ g ∈ Na.groups 7 l,g.length = 7 /\ Rm.RIn g /\ Rm.Whole g) /\ x = (Na.groups 7 l).map Na.rodOf:=by
  by_cases c:Mm.MakeLen l
  . rw [Mm.make_if c] at h
    cases e:(Na.groups 7 l).findIdx? fun (g:List Nat) => Na.rodWrong g != 0 with
    | some i =>
      rw [e] at h
      cases h
    | none =>
      rw [e] at h
      cases h
      refine ⟨c.1,fun g hg => ⟨?_,Rm.right0 ?_⟩,rfl⟩
      . rw [Mm.groups_is (by decide) c.1] at hg
        obtain ⟨j,hj,rfl⟩:=List.mem_map.mp hg
        exact grp_len (List.mem_range.mp hj)
      . have:=List.findIdx?_eq_none_iff.mp e g hg
        simpa using this
  . rw [Mm.make_len c] at h
    cases h
theorem hand_parts {l:List Nat} {x:Na.Hand} (h:Na.handOf l = .ok x):l.length ≠ 0 /\ (l.length - 1) % 7 = 0 /\ (∀ s ∈ Na.groups 7 (l.drop 1),Rm.SIn s) /\ x = ⟨l.getD 0 0,(Na.groups 7 (l.drop 1)).map Na.strokeOf⟩:=by
  by_cases c:Mm.HandLen l
  . rw [Mm.hand_if c] at h
    cases e:(Na.groups 7 (l.drop 1)).findIdx? fun (g:List Nat) => !Na.strokeGood g with
    | some i =>
      rw [e] at h
      cases h
    | none =>
      rw [e] at h
      cases h
      refine ⟨fun z => c.1 (List.eq_nil_of_length_eq_zero z),c.2.2.1,fun g hg => ⟨?_,Mm.strokeGood_iff.mp ?_⟩,rfl⟩
      . rw [Mm.groups_is (by decide) (Mm.hand_mod c)] at hg
        obtain ⟨j,hj,rfl⟩:=List.mem_map.mp hg
        exact grp_len (List.mem_range.mp hj)
      . have:=List.findIdx?_eq_none_iff.mp e g hg
        simpa using this
  . rw [Mm.hand_len c] at h
    cases h
theorem all16 {g:List Nat} (h:Rm.RIn g):∀ d,d < 3 -> Rm.beOf g d <= 15:=fun d hd => be_le h hd
theorem nz_at {xs:List Nat} {j x:Nat} {z:Int} (h:xs[j]? = some x) (e:z = (j:Int):=by omega):atI ((nz xs).map V.int) z = some (.int (x:Nat)):=by
  have hl:=(List.getElem?_eq_some_iff.mp h).1
  rw [at_n hl e]
  congr 3
  rw [List.getD_eq_getElem?_getD,h]
  rfl
theorem keep_of {K:PySem.W.Frag} {H H':Hp} {a:Addr} {xs:List V} {bad:Addr -> Prop} (h:SqL K H a xs) (hb:∀ b,bad b -> ∀ ys,H b ≠ some (.lst ys) /\ ∀ o,H b ≠ some (.frz o (.lst ys))) (s:∀ b o,¬ bad b -> H b = some o -> H' b = some o):SqL K H' a xs:=by
  rcases h with (h | ⟨o,h⟩) | h
  . exact .inl (.inl (s _ _ (fun z => (hb a z xs).1 h) h))
  . exact .inl (.inr ⟨o,s _ _ (fun z => (hb a z xs).2 o h) h⟩)
  . exact .inr h
theorem big1:Big 1:=Nat.one_lt_two_pow (by decide)
theorem big_of {a n:Nat} (h:a < 2 ^ n) (hn:n <= 100000):Big a:=Nat.lt_of_lt_of_le h (Nat.pow_le_pow_right (by decide) hn)
abbrev gfs (s r : Addr) : List (Str × V) := [("strides", .ref s), ("room", .ref r)]
abbrev efs (G S F : Addr) (N : Nat) (A : Addr) (e : Nat) : List (Str × V) := [("ground", .ref G), ("strokes", .ref S), ("found", .ref F), ("settled", .int (N : Nat)), ("settled_at", .ref A), ("effort", .int (e : Nat))]
abbrev tfs (r S f G D W : Addr) : List (Str × V) := [("rod", .ref r), ("strokes", .ref S), ("forms", .ref f), ("ground", .ref G), ("efforts", .ref D), ("told", .ref W)]
theorem gf0 {s r:Addr}:(gfs s r).lookup ("strides":Str) = some (V.ref s):=by kernel_rfl
theorem gf1 {s r:Addr}:(gfs s r).lookup ("room":Str) = some (V.ref r):=by kernel_rfl
theorem ef0 {G S F A:Addr} {N e:Nat}:(efs G S F N A e).lookup ("ground":Str) = some (V.ref G):=by kernel_rfl
theorem ef1 {G S F A:Addr} {N e:Nat}:(efs G S F N A e).lookup ("strokes":Str) = some (V.ref S):=by kernel_rfl
theorem ef2 {G S F A:Addr} {N e:Nat}:(efs G S F N A e).lookup ("found":Str) = some (V.ref F):=by kernel_rfl
theorem ef3 {G S F A:Addr} {N e:Nat}:(efs G S F N A e).lookup ("settled":Str) = some (V.int (N:Nat)):=by kernel_rfl
theorem ef4 {G S F A:Addr} {N e:Nat}:(efs G S F N A e).lookup ("settled_at":Str) = some (V.ref A):=by kernel_rfl
theorem ef5 {G S F A:Addr} {N e:Nat}:(efs G S F N A e).lookup ("effort":Str) = some (V.int (e:Nat)):=by kernel_rfl
theorem tf0 {r S f G D W:Addr}:(tfs r S f G D W).lookup ("rod":Str) = some (V.ref r):=by kernel_rfl
theorem tf1 {r S f G D W:Addr}:(tfs r S f G D W).lookup ("strokes":Str) = some (V.ref S):=by kernel_rfl
theorem tf2 {r S f G D W:Addr}:(tfs r S f G D W).lookup ("forms":Str) = some (V.ref f):=by kernel_rfl
theorem tf3 {r S f G D W:Addr}:(tfs r S f G D W).lookup ("ground":Str) = some (V.ref G):=by kernel_rfl
theorem tf4 {r S f G D W:Addr}:(tfs r S f G D W).lookup ("efforts":Str) = some (V.ref D):=by kernel_rfl
theorem tf5 {r S f G D W:Addr}:(tfs r S f G D W).lookup ("told":Str) = some (V.ref W):=by kernel_rfl
def srd (g:List Nat):List Nat:=[Gd.str g 0,Gd.str g 1,Gd.str g 2,Gd.str g 3]
theorem srd_at (g:List Nat) {d:Nat} (h:d <= 3):(srd g)[d]? = some (Gd.str g d):=by
  have e:d = 0 \/ d = 1 \/ d = 2 \/ d = 3:=by omega
  rcases e with rfl | rfl | rfl | rfl <;> rfl
def rooms (g:List Nat) (d:Nat):List Nat:=(List.range 16).map (Gd.room g d)
theorem rooms_at (g:List Nat) (d:Nat) {k:Nat} (h:k <= 15):(rooms g d)[k]? = some (Gd.room g d k):=by
  unfold rooms
  rw [List.getElem?_map,List.getElem?_range (by omega)]
  rfl
def GrAt (C:Addr) (H:Hp) (G:Addr) (g:List Nat):Prop:=∃ (dx s r:Addr) (as:List Addr),H G = some (.ins C dx (gfs s r)) /\ H s = some (lstN (srd g)) /\ H r = some (.lst (as.map V.ref)) /\ as.length = 3 /\ ∀ (j:Nat) (b:Addr),as[j]? = some b -> H b = some (lstN (rooms g j))
theorem GrAt.keep {C:Addr} {H H':Hp} {G:Addr} {g:List Nat} (h:GrAt C H G g) (s:Same H H'):GrAt C H' G g:=by
  obtain ⟨dx,a,r,as,h1,h2,h3,h4,h5⟩:=h
  exact ⟨dx,a,r,as,s _ _ h1,s _ _ h2,s _ _ h3,h4,fun j b e => s _ _ (h5 j b e)⟩
def StrAt (K:PySem.W.Frag) (H:Hp) (S:Addr) (ss:List (List Nat)):Prop:=∃ as:List Addr,H S = some (.lst (as.map V.ref)) /\ Lists K H as ss /\ (∀ s ∈ ss,Rm.SIn s) /\ ss.length <= 50
theorem StrAt.keep {K:PySem.W.Frag} {H H':Hp} {S:Addr} {ss:List (List Nat)} (h:StrAt K H S ss) (s:Same H H'):StrAt K H' S ss:=by
  obtain ⟨as,h1,h2,h3,h4⟩:=h
  exact ⟨as,s _ _ h1,h2.keep s,h3,h4⟩
def FdAt (g:List Nat) (fnd:List (Key × V)) (c:Nat) (p:List Nat):Prop:=∃ M:Nat,valV fnd (kN c) = some (.int (M:Nat)) /\ M.testBit (Gd.pl g p) = true
def FOk (g:List Nat) (lo hi:Nat) (fnd:List (Key × V)):Prop:=∀ kv ∈ fnd,∃ c M:Nat,kv = (kN c,.int (M:Nat)) /\ lo <= c /\ c <= hi /\ ∀ n,Gd.all g <= n -> M.testBit n = false
theorem val_mem {κ:Type} [DecidableEq κ] {kvs:List (κ × V)} {k:κ} {v:V} (h:valV kvs k = some v):(k,v) ∈ kvs:=by
  unfold valV at h
  obtain ⟨p,hp,rfl⟩:=Option.map_eq_some_iff.mp h
  have h1:=List.mem_of_find?_eq_some hp
  have h2:p.1 = k:=of_decide_eq_true (List.find?_some (p:=fun kv:κ × V => decide (kv.1 = k)) hp)
  rw [<- h2]
  exact h1
theorem FOk.val {g:List Nat} {lo hi:Nat} {fnd:List (Key × V)} (h:FOk g lo hi fnd) {c:Nat} {v:V} (e:valV fnd (kN c) = some v):∃ M:Nat,v = .int (M:Nat) /\ lo <= c /\ c <= hi /\ Gd.Is g M (FdAt g fnd c):=by
  obtain ⟨c',M,ekv,h1,h2,h3⟩:=h _ (val_mem e)
  obtain ⟨ek,rfl⟩:=Prod.mk.inj ekv
  have:=kN_inj ek
  subst this
  refine ⟨M,rfl,h1,h2,h3,fun p _ => ⟨fun z => ⟨M,e,z⟩,fun ⟨M',e',z⟩ => ?_⟩⟩
  rw [e] at e'
  have:(M:Int) = (M':Int):=V.int.inj (Option.some.inj e')
  have:M = M':=by omega
  subst this
  exact z
theorem FOk.mono {g:List Nat} {lo hi lo' hi':Nat} {fnd:List (Key × V)} (h:FOk g lo hi fnd) (h1:lo' <= lo) (h2:hi <= hi'):FOk g lo' hi' fnd:=fun kv m => by
  obtain ⟨c,M,e,k1,k2,k3⟩:=h kv m
  exact ⟨c,M,e,by omega,by omega,k3⟩
theorem put_mem {κ:Type} [DecidableEq κ] {kvs:List (κ × V)} {k:κ} {v:V} {kv:κ × V} (h:kv ∈ putK kvs k v):kv = (k,v) \/ kv ∈ kvs:=by
  unfold putK at h
  split at h
  . obtain ⟨p,hp,rfl⟩:=List.mem_map.mp h
    by_cases z:p.1 = k
    . rw [if_pos z,z]
      exact .inl rfl
    . rw [if_neg z]
      exact .inr hp
  . rcases List.mem_append.mp h with h | h
    . exact .inr h
    . exact .inl (List.mem_singleton.mp h)
theorem put_len {κ:Type} [DecidableEq κ] (kvs:List (κ × V)) (k:κ) (v:V):(putK kvs k v).length <= kvs.length + 1:=by
  unfold putK
  split
  . rw [List.length_map]
    omega
  . rw [List.length_append]
    exact Nat.le_refl _
theorem FOk.put {g:List Nat} {lo hi:Nat} {fnd:List (Key × V)} (h:FOk g lo hi fnd) {c M:Nat} (h1:lo <= c) (h2:c <= hi) (h3:∀ n,Gd.all g <= n -> M.testBit n = false):FOk g lo hi (putK fnd (kN c) (.int (M:Nat))):=fun kv m => by
  rcases put_mem m with e | m
  . exact ⟨c,M,e,h1,h2,h3⟩
  . exact h kv m
theorem FOk.drop {g:List Nat} {lo hi:Nat} {fnd:List (Key × V)} (h:FOk g lo hi fnd):FOk g (lo + 1) hi (dropK fnd (kN lo)):=fun kv m => by
  unfold dropK at m
  obtain ⟨m1,m2⟩:=List.mem_filter.mp m
  obtain ⟨c,M,e,h1,h2,h3⟩:=h kv m1
  refine ⟨c,M,e,?_,h2,h3⟩
  have:kv.1 ≠ kN lo:=of_decide_eq_true m2
  have:c ≠ lo:=fun z => this (by rw [e,z])
  omega
theorem drop_val {κ:Type} [DecidableEq κ] (k j:κ) (hj:j ≠ k):∀ kvs:List (κ × V),valV (dropK kvs k) j = valV kvs j
  | [] => rfl
  | p :: r => by
    have ih:=drop_val k j hj r
    unfold dropK at ih |-
    rw [List.filter_cons]
    by_cases e:p.1 = k
    . rw [if_neg (by simp [e]),ih,valV_neg (fun z => hj (z.symm.trans e))]
    . rw [if_pos (by simp [e])]
      by_cases z:p.1 = j
      . rw [valV_pos z,valV_pos z]
      . rw [valV_neg z,valV_neg z,ih]
theorem drop_no {κ:Type} [DecidableEq κ] (k:κ):∀ kvs:List (κ × V),valV (dropK kvs k) k = none
  | [] => rfl
  | p :: r => by
    have ih:=drop_no k r
    unfold dropK at ih |-
    rw [List.filter_cons]
    by_cases e:p.1 = k
    . rw [if_neg (by simp [e])]
      exact ih
    . rw [if_pos (by simp [e]),valV_neg e]
      exact ih
theorem fd_put {g:List Nat} {lo hi:Nat} {fnd:List (Key × V)} (h:FOk g lo hi fnd) {c M:Nat} {S:List Nat -> Prop} (hM:Gd.Is g M S) {c':Nat} {p:List Nat} (hp:Gd.Fit g p):FdAt g (putK fnd (kN c) (.int (M:Nat))) c' p ↔ if c' = c then S p else FdAt g fnd c' p:=by
  unfold FdAt
  rw [valV_put]
  by_cases e:c' = c
  . subst e
    rw [if_pos rfl,if_pos rfl]
    constructor
    . rintro ⟨M',e1,e2⟩
      have:(M:Int) = (M':Int):=V.int.inj (Option.some.inj e1)
      have:M = M':=by omega
      subst this
      exact (hM.2 p hp).mp e2
    . intro z
      exact ⟨M,rfl,(hM.2 p hp).mpr z⟩
  . rw [if_neg (fun z => e (kN_inj z)),if_neg e]
structure Eff (g:List Nat) (ss:List (List Nat)) (q:List Nat) (e L N:Nat) (fnd st:List (Key × V)):Prop where
  set:Gd.Is g N fun p => ∃ c,c < e /\ Pd.Far3 g ss q p c
  known:Gd.Known g ss q e (FdAt g fnd)
  fok:FOk g e L fnd
  fl:fnd.length <= 1 + 50 * Gd.cnt g N
  comp:∀ c:Nat,c < e -> valV st (kN c) = none -> ∀ p,Gd.Fit g p -> ¬ Pd.Far3 g ss q p c
  sk:∀ kv ∈ st,∃ c M:Nat,kv = (kN c,.int (M:Nat)) /\ c < e /\ Gd.Is g M fun p => Pd.Far3 g ss q p c
  sl:st.length <= Gd.cnt g N
  ll:L <= e + 255
def mu (g:List Nat) (e L N:Nat):Nat:=(Gd.all g - Gd.cnt g N) * 257 + (L + 1 - e)
structure EffAt (K:PySem.W.Frag) (C Cg:Addr) (H2 H:Hp) (E F A G S:Addr) (g:List Nat) (ss:List (List Nat)) (q:List Nat) (e L N:Nat) (fnd st:List (Key × V)):Prop where
  same:Same H2 H
  nE:H2 E = none
  nF:H2 F = none
  nA:H2 A = none
  dEF:E ≠ F
  dEA:E ≠ A
  dFA:F ≠ A
  gr:GrAt Cg H2 G g
  str:StrAt K H2 S ss
  rin:Rm.RIn g
  fit:Gd.Fit g q
  ob:∃ dx,H E = some (.ins C dx (efs G S F N A e))
  fd:H F = some (.dK fnd)
  sa:H A = some (.dK st)
  eff:Eff g ss q e L N fnd st
def But3 (E F A:Addr) (H H':Hp):Prop:=∀ b o,b ≠ E -> b ≠ F -> b ≠ A -> H b = some o -> H' b = some o
theorem But3.of {E F A:Addr} {H H':Hp} (s:Same H H'):But3 E F A H H':=fun b o _ _ _ e => s b o e
theorem But3.trans {E F A:Addr} {H H1 H2:Hp} (a:But3 E F A H H1) (b:But3 E F A H1 H2):But3 E F A H H2:=fun c o h1 h2 h3 e => b c o h1 h2 h3 (a c o h1 h2 h3 e)
theorem EffAt.keep {K:PySem.W.Frag} {C Cg:Addr} {H2 H H':Hp} {E F A G S:Addr} {g:List Nat} {ss:List (List Nat)} {q:List Nat} {e L N:Nat} {fnd st:List (Key × V)} (h:EffAt K C Cg H2 H E F A G S g ss q e L N fnd st) (s:Same H H'):EffAt K C Cg H2 H' E F A G S g ss q e L N fnd st:=by
  obtain ⟨dx,ob⟩:=h.ob
  exact ⟨h.same.trans s,h.nE,h.nF,h.nA,h.dEF,h.dEA,h.dFA,h.gr,h.str,h.rin,h.fit,⟨dx,s _ _ ob⟩,s _ _ h.fd,s _ _ h.sa,h.eff⟩
theorem EffAt.seq {K:PySem.W.Frag} {C Cg:Addr} {H2 H H':Hp} {E F A G S:Addr} {g:List Nat} {ss:List (List Nat)} {q:List Nat} {e L N:Nat} {fnd st:List (Key × V)} (h:EffAt K C Cg H2 H E F A G S g ss q e L N fnd st) (s:But3 E F A H H') {a:Addr} {xs:List V} (hs:SqL K H a xs):SqL K H' a xs:=by
  obtain ⟨dx,ob⟩:=h.ob
  refine keep_of (bad:=fun b => b = E \/ b = F \/ b = A) hs (fun b hb ys => ?_) (fun b o hb eb => s b o (fun z => hb (.inl z)) (fun z => hb (.inr (.inl z))) (fun z => hb (.inr (.inr z))) eb)
  rcases hb with rfl | rfl | rfl
  . rw [ob]
    exact ⟨(by intro z; cases z),fun o z => (by cases z)⟩
  . rw [h.fd]
    exact ⟨(by intro z; cases z),fun o z => (by cases z)⟩
  . rw [h.sa]
    exact ⟨(by intro z; cases z),fun o z => (by cases z)⟩
def TFix (K:PySem.W.Frag) (C Cg:Addr) (H:Hp) (T D W:Addr) (g:List Nat) (ss:List (List Nat)):Prop:=∃ (dx r S f G:Addr) (kvs:List (Key × V)),H T = some (.ins C dx (tfs r S f G D W)) /\ NL K H r g /\ StrAt K H S ss /\ H f = some (.dK kvs) /\ Forms H kvs (Rm.waysOf g 3) /\ GrAt Cg H G g /\ g.length = 7 /\ Rm.RIn g /\ Rm.Whole g
theorem forms_keep {H H':Hp} {kvs:List (Key × V)} {ws:Rm.Ways} (h:Forms H kvs ws) (s:Same H H'):Forms H' kvs ws:=fun d => by
  have:=h d
  cases e:Rm.formIn ws d with
  | none =>
    rw [e] at this
    exact this
  | some p =>
    rw [e] at this
    obtain ⟨q,h1,h2⟩:=this
    exact ⟨q,h1,s _ _ h2⟩
theorem TFix.keep {K:PySem.W.Frag} {C Cg:Addr} {H H':Hp} {T D W:Addr} {g:List Nat} {ss:List (List Nat)} (h:TFix K C Cg H T D W g ss) (s:Same H H'):TFix K C Cg H' T D W g ss:=by
  obtain ⟨dx,r,S,f,G,kvs,h1,h2,h3,h4,h5,h6,h7⟩:=h
  exact ⟨dx,r,S,f,G,kvs,s _ _ h1,s.seq h2,h3.keep s,s _ _ h4,forms_keep h5 s,h6.keep s,h7⟩
def TourV (H:Hp) (g:List Nat) (ss:List (List Nat)) (x y:Nat) (v:V):Prop:=(v = .non /\ ∀ c,¬ Pd.Way3 g ss (Rm.formR g y) (Rm.formR g x) c) \/
  ∃ (t:Addr) (ts:List Addr) (c:Nat) (l:List Rm.Step),v = .ref t /\ Pd.Far3 g ss (Rm.formR g y) (Rm.formR g x) c /\ Pd.First3 g ss (Rm.formR g y) (Rm.formR g x) c l /\ H t = some (.lst (ts.map V.ref)) /\ StepsAt H ts (l.take 11)
structure TourX (K:PySem.W.Frag) (C Ce Cg:Addr) (H2 H:Hp) (T D W:Addr) (g:List Nat) (ss:List (List Nat)) (Z:Addr) (o:Addr -> Nat) (effs:List (Key × V)) (told:List (List Key × V)):Prop where
  fix:TFix K C Cg H2 T D W g ss
  same:Same H2 H
  nD:H2 D = none
  nW:H2 W = none
  oD:o D = 1000
  oW:o W = 1001
  hD:H D = some (.dK effs)
  hW:H W = some (.dT told)
  eo:∀ (y:Nat) (v:V),valV effs (kN y) = some v -> y < 1000 /\ ∃ (E F A G S:Addr) (e L N:Nat) (fnd st:List (Key × V)),v = .ref E /\ (o E = y /\ o F = y /\ o A = y) /\ EffAt K Ce Cg H2 H E F A G S g ss (Rm.formR g y) e L N fnd st
  to_:∀ (x y:Nat) (v:V),valV told (keyN [x,y]) = some v -> TourV H g ss x y v
  nz_:∀ (x y:Nat),valV told (keyN [x,y]) ≠ some (.ref Z)
def TourAt (K:PySem.W.Frag) (C Ce Cg:Addr) (H2 H:Hp) (T D W:Addr) (g:List Nat) (ss:List (List Nat)) (Z:Addr) (m:Nat):Prop:=∃ (o:Addr -> Nat) (effs:List (Key × V)) (told:List (List Key × V)),TourX K C Ce Cg H2 H T D W g ss Z o effs told /\ effs.length <= m /\ told.length <= m
def isS:HO -> Bool
  | .lst _ => true
  | .tup _ => true
  | .frz _ _ => true
  | _ => false
def LKeep (H H':Hp):Prop:=∀ b o,H b = some o -> isS o = true -> H' b = some o
theorem LKeep.of {H H':Hp} (s:Same H H'):LKeep H H':=fun b o e _ => s b o e
theorem LKeep.trans {H H1 H2:Hp} (a:LKeep H H1) (b:LKeep H1 H2):LKeep H H2:=fun c o e h => b c o (a c o e h) h
theorem LKeep.seq {K:PySem.W.Frag} {H H':Hp} (s:LKeep H H') {a:Addr} {xs:List V} (h:SqL K H a xs):SqL K H' a xs:=by
  rcases h with (h | ⟨o,h⟩) | h
  . exact .inl (.inl (s _ _ h rfl))
  . exact .inl (.inr ⟨o,s _ _ h rfl⟩)
  . exact .inr h
theorem LKeep.seqT {K:PySem.W.Frag} {H H':Hp} (s:LKeep H H') {a:Addr} {xs:List V} (h:SqT K H a xs):SqT K H' a xs:=by
  rcases h with (h | ⟨o,h⟩) | h
  . exact .inl (.inl (s _ _ h rfl))
  . exact .inl (.inr ⟨o,s _ _ h rfl⟩)
  . exact .inr h
theorem LKeep.steps {H H':Hp} (s:LKeep H H') {ts:List Addr} {st:List Rm.Step} (h:StepsAt H ts st):StepsAt H' ts st:=⟨h.1,fun j t u e1 e2 => s _ _ (h.2 j t u e1 e2) rfl⟩
theorem LKeep.tour {H H':Hp} (s:LKeep H H') {g:List Nat} {ss:List (List Nat)} {x y:Nat} {v:V} (h:TourV H g ss x y v):TourV H' g ss x y v:=by
  rcases h with h | ⟨t,ts,c,l,h1,h2,h3,h4,h5⟩
  . exact .inl h
  . exact .inr ⟨t,ts,c,l,h1,h2,h3,s _ _ h4 rfl,s.steps h5⟩
theorem LKeep.put {H:Hp} {a:Addr} {o u:HO} (h:H a = some o) (ho:isS o = false):LKeep H (upd H a u):=fun b o' e h' => by
  rw [upd_ne (fun z => by rw [z,h] at e; cases e; rw [ho] at h'; cases h')]
  exact e
theorem EffAt.lk {K:PySem.W.Frag} {C Cg:Addr} {H2 H H':Hp} {E F A G S:Addr} {g:List Nat} {ss:List (List Nat)} {q:List Nat} {e L N:Nat} {fnd st:List (Key × V)} (h:EffAt K C Cg H2 H E F A G S g ss q e L N fnd st) (b:But3 E F A H H'):LKeep H H':=fun c o z hs => by
  obtain ⟨dx,ob⟩:=h.ob
  refine b c o (fun y => ?_) (fun y => ?_) (fun y => ?_) z
  . rw [y,ob] at z
    cases z
    cases hs
  . rw [y,h.fd] at z
    cases z
    cases hs
  . rw [y,h.sa] at z
    cases z
    cases hs
theorem EffAt.other {K:PySem.W.Frag} {C Cg:Addr} {H2 H H':Hp} {E F A G S:Addr} {g:List Nat} {ss:List (List Nat)} {q:List Nat} {e L N:Nat} {fnd st:List (Key × V)} (h:EffAt K C Cg H2 H E F A G S g ss q e L N fnd st) (s:Same H2 H') (k:∀ b o,b = E \/ b = F \/ b = A -> H b = some o -> H' b = some o):EffAt K C Cg H2 H' E F A G S g ss q e L N fnd st:=by
  obtain ⟨dx,ob⟩:=h.ob
  exact ⟨s,h.nE,h.nF,h.nA,h.dEF,h.dEA,h.dFA,h.gr,h.str,h.rin,h.fit,⟨dx,k _ _ (.inl rfl) ob⟩,k _ _ (.inr (.inl rfl)) h.fd,k _ _ (.inr (.inr rfl)) h.sa,h.eff⟩
section
variable {K:PySem.W.Frag} {C Ce Cg:Addr} {H2 H H':Hp} {T D W Z:Addr} {g:List Nat} {ss:List (List Nat)} {o:Addr -> Nat} {effs:List (Key × V)} {told:List (List Key × V)}
theorem TourX.keep (h:TourX K C Ce Cg H2 H T D W g ss Z o effs told) (s:Same H H'):TourX K C Ce Cg H2 H' T D W g ss Z o effs told :=
  ⟨h.fix,h.same.trans s,h.nD,h.nW,h.oD,h.oW,s _ _ h.hD,s _ _ h.hW,fun y v e => by
    obtain ⟨h1,E,F,A,G,S,e',L,N,fnd,st,h2,h3,h4⟩:=h.eo y v e
    exact ⟨h1,E,F,A,G,S,e',L,N,fnd,st,h2,h3,h4.keep s⟩,fun x y v e => (LKeep.of s).tour (h.to_ x y v e),h.nz_⟩
theorem TourX.went (h:TourX K C Ce Cg H2 H T D W g ss Z o effs told) {y:Nat} {E F A G S:Addr} {e L N e' L' N':Nat} {fnd st fnd' st':List (Key × V)} (hv:valV effs (kN y) = some (.ref E)) (ho:o E = y /\ o F = y /\ o A = y) (h0:EffAt K Ce Cg H2 H E F A G S g ss (Rm.formR g y) e L N fnd st) (b:But3 E F A H H')
    (h1:EffAt K Ce Cg H2 H' E F A G S g ss (Rm.formR g y) e' L' N' fnd' st'):TourX K C Ce Cg H2 H' T D W g ss Z o effs told:=by
  have hy:=(h.eo y _ hv).1
  have ne:∀ {c:Addr},o c ≠ y -> c ≠ E /\ c ≠ F /\ c ≠ A:=fun {c} z => ⟨fun k => z (k ▸ ho.1),fun k => z (k ▸ ho.2.1),fun k => z (k ▸ ho.2.2)⟩
  have nD:=ne (c:=D) (by rw [h.oD]; omega)
  have nW:=ne (c:=W) (by rw [h.oW]; omega)
  refine ⟨h.fix,h1.same,h.nD,h.nW,h.oD,h.oW,b _ _ nD.1 nD.2.1 nD.2.2 h.hD,b _ _ nW.1 nW.2.1 nW.2.2 h.hW,fun y' v ev => ?_,fun x' y' v ev => (h0.lk b).tour (h.to_ x' y' v ev),h.nz_⟩
  by_cases z:y' = y
  . subst z
    rw [hv] at ev
    cases ev
    exact ⟨hy,E,F,A,G,S,e',L',N',fnd',st',rfl,ho,h1⟩
  . obtain ⟨k1,E',F',A',G',S',e1,L1,N1,fnd1,st1,k2,k3,k4⟩:=h.eo y' v ev
    refine ⟨k1,E',F',A',G',S',e1,L1,N1,fnd1,st1,k2,k3,k4.other h1.same fun c oc hc ec => ?_⟩
    have hoc:o c ≠ y:=by
      rcases hc with rfl | rfl | rfl
      . rw [k3.1]; exact z
      . rw [k3.2.1]; exact z
      . rw [k3.2.2]; exact z
    have:=ne hoc
    exact b c oc this.1 this.2.1 this.2.2 ec
theorem TourX.new (h:TourX K C Ce Cg H2 H T D W g ss Z o effs told) {y:Nat} (hy:y < 1000) {E F A G S:Addr} {e L N:Nat} {fnd st:List (Key × V)} (hv:valV effs (kN y) = none) (fE:H E = none) (fF:H F = none) (fA:H A = none) (s:∀ b o,H b = some o -> H' b = some o)
    (h1:EffAt K Ce Cg H2 H' E F A G S g ss (Rm.formR g y) e L N fnd st):∃ o',TourX K C Ce Cg H2 (upd H' D (.dK (putK effs (kN y) (.ref E)))) T D W g ss Z o' (putK effs (kN y) (.ref E)) told:=by
  have hk:=h.keep s
  have nD:∀ {c:Addr},H c = none -> D ≠ c:=fun {c} z => ne_of_none h.hD z
  have oldne:∀ {c:Addr} {u:HO},H c = some u -> ¬ (c = E \/ c = F \/ c = A):=fun {c u} e1 z => by
    rcases z with rfl | rfl | rfl
    . rw [fE] at e1; cases e1
    . rw [fF] at e1; cases e1
    . rw [fA] at e1; cases e1
  have sm:Same H2 (upd H' D (.dK (putK effs (kN y) (.ref E)))):=Same.put hk.same h.nD
  have nWD:W ≠ D:=ne_of h.hW h.hD (by intro z; cases z)
  refine ⟨fun b => if b = E \/ b = F \/ b = A then y else o b,h.fix,sm,h.nD,h.nW,by rw [if_neg (oldne h.hD)]; exact h.oD,by rw [if_neg (oldne h.hW)]; exact h.oW,upd_same,by rw [upd_ne nWD]; exact hk.hW,fun y' v ev => ?_,fun x' y' v ev => (LKeep.put hk.hD rfl).tour (hk.to_ x' y' v ev),h.nz_⟩
  rw [valV_put] at ev
  by_cases z:y' = y
  . subst z
    rw [if_pos rfl] at ev
    cases ev
    refine ⟨hy,E,F,A,G,S,e,L,N,fnd,st,rfl,⟨if_pos (.inl rfl),if_pos (.inr (.inl rfl)),if_pos (.inr (.inr rfl))⟩,h1.other sm fun c oc hc ec => ?_⟩
    have:c ≠ D:=by
      rcases hc with rfl | rfl | rfl
      . exact Ne.symm (nD fE)
      . exact Ne.symm (nD fF)
      . exact Ne.symm (nD fA)
    rw [upd_ne this]
    exact ec
  . rw [if_neg (fun k => z (kN_inj k))] at ev
    obtain ⟨k1,E',F',A',G',S',e1,L1,N1,fnd1,st1,k2,k3,k4⟩:=h.eo y' v ev
    obtain ⟨dx',ob'⟩:=k4.ob
    refine ⟨k1,E',F',A',G',S',e1,L1,N1,fnd1,st1,k2,⟨by rw [if_neg (oldne ob')]; exact k3.1,by rw [if_neg (oldne k4.fd)]; exact k3.2.1,by rw [if_neg (oldne k4.sa)]; exact k3.2.2⟩,k4.other sm fun c oc hc ec => ?_⟩
    have hoc:o c = y':=by
      rcases hc with rfl | rfl | rfl
      . exact k3.1
      . exact k3.2.1
      . exact k3.2.2
    have:c ≠ D:=fun k => by
      rw [k,h.oD] at hoc
      omega
    rw [upd_ne this]
    exact s _ _ ec
theorem TourX.tell (h:TourX K C Ce Cg H2 H T D W g ss Z o effs told) {x y:Nat} {v:V} (hv:TourV H g ss x y v) (hz:v ≠ .ref Z):TourX K C Ce Cg H2 (upd H W (.dT (putK told (keyN [x,y]) v))) T D W g ss Z o effs (putK told (keyN [x,y]) v):=by
  have sm:Same H2 (upd H W (.dT (putK told (keyN [x,y]) v))):=Same.put h.same h.nW
  have nWD:D ≠ W:=ne_of h.hD h.hW (by intro z; cases z)
  refine ⟨h.fix,sm,h.nD,h.nW,h.oD,h.oW,by rw [upd_ne nWD]; exact h.hD,upd_same,fun y' v' ev => ?_,fun x' y' v' ev => ?_,fun x' y' ev => ?_⟩
  . obtain ⟨k1,E',F',A',G',S',e1,L1,N1,fnd1,st1,k2,k3,k4⟩:=h.eo y' v' ev
    refine ⟨k1,E',F',A',G',S',e1,L1,N1,fnd1,st1,k2,k3,k4.other sm fun c oc hc ec => ?_⟩
    have hoc:o c = y':=by
      rcases hc with rfl | rfl | rfl
      . exact k3.1
      . exact k3.2.1
      . exact k3.2.2
    have:c ≠ W:=fun k => by
      rw [k,h.oW] at hoc
      omega
    rw [upd_ne this]
    exact ec
  . refine (LKeep.put h.hW rfl).tour ?_
    rw [valV_put] at ev
    by_cases z:keyN [x',y'] = keyN [x,y]
    . rw [if_pos z] at ev
      cases ev
      have e1:nz [x',y'] = nz [x,y]:=(List.map_inj_right (fun _ _ e => Sum.inl.inj e)).mp z
      have e2:(x':Int) = x /\ (y':Int) = y:=by
        have:=List.cons.inj e1
        exact ⟨this.1,(List.cons.inj this.2).1⟩
      have hx:x' = x:=by omega
      have hy:y' = y:=by omega
      rw [hx,hy]
      exact hv
    . rw [if_neg z] at ev
      exact h.to_ x' y' v' ev
  . rw [valV_put] at ev
    by_cases z:keyN [x',y'] = keyN [x,y]
    . rw [if_pos z] at ev
      exact hz (Option.some.inj ev)
    . rw [if_neg z] at ev
      exact h.nz_ x' y' ev
theorem TourX.grow (h:TourX K C Ce Cg H2 H T D W g ss Z o effs told) (h2:H2 Z = none) {zs zs':List V} (hZ:H Z = some (.lst zs)):TourX K C Ce Cg H2 (upd H Z (.lst zs')) T D W g ss Z o effs told:=by
  have ne:∀ {c:Addr} {u:HO},H c = some u -> (∀ xs,u ≠ .lst xs) -> upd H Z (.lst zs') c = some u:=fun {c u} e hu => by
    rw [upd_ne (fun z => by rw [z,hZ] at e; cases e; exact hu zs rfl)]
    exact e
  have sm:Same H2 (upd H Z (.lst zs')):=Same.put h.same h2
  refine ⟨h.fix,sm,h.nD,h.nW,h.oD,h.oW,ne h.hD (by intro _ z; cases z),ne h.hW (by intro _ z; cases z),fun y v ev => ?_,fun x y v ev => ?_,h.nz_⟩
  . obtain ⟨k1,E',F',A',G',S',e1,L1,N1,fnd1,st1,k2,k3,k4⟩:=h.eo y v ev
    obtain ⟨dx',ob'⟩:=k4.ob
    refine ⟨k1,E',F',A',G',S',e1,L1,N1,fnd1,st1,k2,k3,k4.other sm fun c oc hc ec => ?_⟩
    rcases hc with rfl | rfl | rfl
    . rw [ob'] at ec
      cases ec
      exact ne ob' (by intro _ z; cases z)
    . rw [k4.fd] at ec
      cases ec
      exact ne k4.fd (by intro _ z; cases z)
    . rw [k4.sa] at ec
      cases ec
      exact ne k4.sa (by intro _ z; cases z)
  . rcases h.to_ x y v ev with k | ⟨t,ts,c,l,rfl,k2,k3,k4,k5⟩
    . exact .inl k
    . refine .inr ⟨t,ts,c,l,rfl,k2,k3,?_,k5.1,fun j t' s e1 e2 => ne (k5.2 j t' s e1 e2) (by intro _ z; cases z)⟩
      rw [upd_ne (fun z => h.nz_ x y (by rw [<- z]; exact ev))]
      exact k4
end
def StepsK (K:PySem.W.Frag) (H:Hp) (ts:List Addr) (st:List Rm.Step):Prop:=ts.length = st.length /\ ∀ (j:Nat) (t:Addr) (s:Rm.Step),ts[j]? = some t -> st[j]? = some s -> SqT K H t [.int (s.1:Nat),.int (s.2.1:Nat),.int (s.2.2:Nat)]
theorem SqL.keepI {K:PySem.W.Frag} {H H':Hp} {a G C dx:Addr} {xs:List V} {fs:List (Str × V)} (hG:H G = some (.ins C dx fs)) (h:SqL K H a xs) (s:∀ b o,b ≠ G -> H b = some o -> H' b = some o):SqL K H' a xs :=
  keep_of (bad:=fun b => b = G) h (fun b hb ys => by subst hb; rw [hG]; exact ⟨(by intro z; cases z),fun o z => (by cases z)⟩) s
theorem Lists.keepX {K:PySem.W.Frag} {H H':Hp} {f:Addr} {as:List Addr} {gs:List (List Nat)} {kvs:List (Key × V)} (hf:H f = some (.dK kvs)) (h:Lists K H as gs) (s:∀ b o,b ≠ f -> H b = some o -> H' b = some o):Lists K H' as gs:=⟨h.1,fun j b g e1 e2 => SqL.keepX hf (h.2 j b g e1 e2) s⟩
theorem GrAt.keepX {C:Addr} {H H':Hp} {G f:Addr} {g:List Nat} {kvs:List (Key × V)} (hf:H f = some (.dK kvs)) (h:GrAt C H G g) (s:∀ b o,b ≠ f -> H b = some o -> H' b = some o):GrAt C H' G g:=by
  obtain ⟨dx,a,r,as,h1,h2,h3,h4,h5⟩:=h
  exact ⟨dx,a,r,as,s _ _ (ne_of h1 hf (by intro z; cases z)) h1,s _ _ (ne_of h2 hf (by intro z; cases z)) h2,s _ _ (ne_of h3 hf (by intro z; cases z)) h3,h4,fun j b e => s _ _ (ne_of (h5 j b e) hf (by intro z; cases z)) (h5 j b e)⟩
theorem known_mono {g:List Nat} {ss:List (List Nat)} {q:List Nat} {e:Nat} {Fd Fd':Nat -> List Nat -> Prop} (hq:Gd.Fit g q) (h:Gd.Known g ss q e Fd) (k:∀ c p,Gd.Fit g p -> (Fd c p ↔ Fd' c p)):Gd.Known g ss q e Fd' :=
  ⟨fun c p hp z => h.way c p hp ((k c p hp).mpr z),fun z => (k 0 q hq).mp (h.goal z),fun p u w d hp h1 h2 h3 h4 h5 => (k _ p hp).mp (h.next p u w d hp h1 h2 h3 h4 h5)⟩
theorem eff_start {g:List Nat} {ss:List (List Nat)} {q:List Nat} (hq:Gd.Fit g q):Eff g ss q 0 0 0 [(kN 0,.int ((1 <<< Gd.pl g q:Nat):Int))] []:=by
  have hI:=Gd.Is.only hq
  have hF:∀ c p,Gd.Fit g p -> ((c = 0 /\ p = q) ↔ FdAt g [(kN 0,.int ((1 <<< Gd.pl g q:Nat):Int))] c p):=fun c p hp => by
    unfold FdAt
    by_cases z:c = 0
    . subst z
      rw [valV_pos rfl]
      constructor
      . rintro ⟨_,rfl⟩
        exact ⟨_,rfl,(hI.2 p hp).mpr rfl⟩
      . rintro ⟨M,e,h⟩
        have e:((1 <<< Gd.pl g q:Nat):Int) = (M:Int):=V.int.inj (Option.some.inj e)
        have e:(1 <<< Gd.pl g q) = M:=by exact_mod_cast e
        subst e
        exact ⟨rfl,(hI.2 p hp).mp h⟩
    . rw [valV_neg (fun y => z (kN_inj y).symm),valV_nil]
      constructor
      . rintro ⟨h,_⟩
        exact absurd h z
      . rintro ⟨M,e,_⟩
        cases e
  refine ⟨Gd.Is.zero.mono fun p _ => ⟨fun z => z.elim,fun ⟨c,hc,_⟩ => absurd hc (Nat.not_lt_zero _)⟩,known_mono hq Gd.known_start hF,fun kv m => ?_,?_,fun c hc => absurd hc (Nat.not_lt_zero _),fun kv m => by simp at m,Nat.zero_le _,by omega⟩
  . rw [List.mem_singleton] at m
    exact ⟨0,_,m,Nat.le_refl _,Nat.le_refl _,hI.1⟩
  . simp only [List.length_cons,List.length_nil]
    omega
section
variable {g:List Nat} {ss:List (List Nat)} {q:List Nat} {e L N:Nat} {fnd fnd1 st:List (Key × V)}
theorem eff_step0 (h:Eff g ss q e L N fnd st) (hs:∀ s ∈ ss,Rm.SIn s) (hX:∀ p,Gd.Fit g p -> ¬ Pd.Far3 g ss q p e) (hok:FOk g (e + 1) L fnd1) (hl:fnd1.length <= fnd.length) (hfd:∀ c p,Gd.Fit g p -> (FdAt g fnd1 c p ↔ c ≠ e /\ FdAt g fnd c p)):Eff g ss q (e + 1) L N fnd1 st:=by
  refine ⟨h.set.mono fun p hp => ⟨fun ⟨c,hc,z⟩ => ⟨c,by omega,z⟩,fun ⟨c,hc,z⟩ => ⟨c,?_,z⟩⟩,Gd.known_step hs h.known fun c p hp => ?_,hok,Nat.le_trans hl h.fl,fun c hc hv p hp z => ?_,fun kv m => ?_,h.sl,by have:=h.ll; omega⟩
  . have:c ≠ e:=fun y => hX p hp (y ▸ z)
    omega
  . rw [hfd c p hp]
    constructor
    . exact .inl
    . rintro (z | ⟨s,h1,_,n,k,u,h3,h4⟩)
      . exact z
      . exact absurd h4 (hX u (Gd.stroke_fit (hs s h1) hp h3))
  . by_cases y:c = e
    . subst y
      exact hX p hp z
    . exact h.comp c (by omega) hv p hp z
  . obtain ⟨c,M,e1,e2,e3⟩:=h.sk kv m
    exact ⟨c,M,e1,by omega,e3⟩
theorem eff_step1 (h:Eff g ss q e L N fnd st) (hs:∀ s ∈ ss,Rm.SIn s) (hsl:ss.length <= 50) {X:Nat} (hX:Gd.Is g X fun p => Pd.Far3 g ss q p e) (h0:X ≠ 0) (hl:fnd1.length <= fnd.length) (hfd:∀ c p,Gd.Fit g p -> (FdAt g fnd1 c p ↔ c ≠ e /\ FdAt g fnd c p)) {fnd5:List (Key × V)} (hok:FOk g (e + 1) (e + 255) fnd5)
    (hl5:fnd5.length <= fnd1.length + ss.length) (hfd5:∀ c p,Gd.Fit g p -> (FdAt g fnd5 c p ↔ FdAt g fnd1 c p \/ ∃ s ∈ ss,c = e + s.getD 6 0 /\ Gd.Str g s (fun u => Pd.Far3 g ss q u e) p)) :
    Eff g ss q (e + 1) (e + 255) (N ||| X) fnd5 (putK st (kN e) (.int (X:Nat))) /\ Gd.cnt g N < Gd.cnt g (N ||| X):=by
  have hg:=Gd.cnt_grow h.set hX (fun p hp z ⟨c,hc,y⟩ => by have:=Pd.far_one z y; omega) h0
  refine ⟨⟨(h.set.or hX).mono fun p hp => ⟨?_,?_⟩,Gd.known_step hs h.known fun c p hp => ?_,hok,?_,fun c hc hv p hp z => ?_,fun kv m => ?_,?_,by omega⟩,hg⟩
  . rintro (⟨c,hc,z⟩ | z)
    . exact ⟨c,by omega,z⟩
    . exact ⟨e,by omega,z⟩
  . rintro ⟨c,hc,z⟩
    by_cases y:c = e
    . subst y
      exact .inr z
    . exact .inl ⟨c,by omega,z⟩
  . rw [hfd5 c p hp,hfd c p hp]
  . have:=h.fl
    omega
  . rw [valV_put] at hv
    by_cases y:c = e
    . rw [if_pos (by rw [y])] at hv
      cases hv
    . rw [if_neg (fun w => y (kN_inj w))] at hv
      exact h.comp c (by omega) hv p hp z
  . rcases put_mem m with z | m
    . exact ⟨e,X,z,by omega,hX⟩
    . obtain ⟨c,M,e1,e2,e3⟩:=h.sk kv m
      exact ⟨c,M,e1,by omega,e3⟩
  . have:=put_len st (kN e) (.int (X:Nat))
    have:=h.sl
    omega
theorem mu_less0 (h:e <= L):mu g (e + 1) L N < mu g e L N:=by
  unfold mu
  omega
theorem mu_less1 {X:Nat} (h:Gd.cnt g N < Gd.cnt g (N ||| X)):mu g (e + 1) (e + 255) (N ||| X) < mu g e L N:=by
  unfold mu
  have:=Gd.cnt_le g (N ||| X)
  have e1:Gd.all g - Gd.cnt g N = (Gd.all g - Gd.cnt g (N ||| X)) + (Gd.cnt g (N ||| X) - Gd.cnt g N):=by omega
  have e2:(Gd.cnt g (N ||| X) - Gd.cnt g N) * 257 >= 257:=Nat.le_mul_of_pos_left 257 (by omega)
  rw [e1,Nat.add_mul]
  omega
theorem eff_fresh (h:Eff g ss q e L N fnd st) (hs:∀ s ∈ ss,Rm.SIn s) {M:Nat} (hM:Gd.Is g M (FdAt g fnd e)):Gd.Is g (M - (M &&& N)) fun p => Pd.Far3 g ss q p e:=(hM.diff h.set).mono fun p hp => Gd.known_fresh hs h.known hp
theorem fd_drop (c:Nat) (p:List Nat):FdAt g (dropK fnd (kN e)) c p ↔ c ≠ e /\ FdAt g fnd c p:=by
  unfold FdAt
  by_cases z:c = e
  . rw [z,drop_no]
    constructor
    . rintro ⟨M,h,_⟩
      cases h
    . rintro ⟨h,_⟩
      exact absurd rfl h
  . rw [drop_val _ _ (fun y => z (kN_inj y))]
    exact ⟨fun h => ⟨z,h⟩,fun h => h.2⟩
theorem drop_len {κ:Type} [DecidableEq κ] (k:κ) (kvs:List (κ × V)):(dropK kvs k).length <= kvs.length:=List.length_filter_le ..
theorem drop_id {κ:Type} [DecidableEq κ] {k:κ} {kvs:List (κ × V)} (h:valV kvs k = none):dropK kvs k = kvs:=by
  unfold dropK
  rw [List.filter_eq_self]
  intro kv m
  refine decide_eq_true fun z => ?_
  exact valV_not h (z ▸ List.mem_map_of_mem (f:=(·.1)) m)
theorem eff_all (h:Eff g ss q e L N fnd st) (hs:∀ s ∈ ss,Rm.SIn s) (hq:Gd.Fit g q) (h0:fnd = []):∀ (c:Nat) (p:List Nat),Gd.Fit g p -> Pd.Far3 g ss q p c -> c < e :=
  Gd.known_end hs h.known hq fun c p _ ⟨M,z,_⟩ => by rw [h0] at z; cases z
end
theorem EffAt.back {K:PySem.W.Frag} {C Cg:Addr} {H2 H H':Hp} {E F A G S:Addr} {g:List Nat} {ss:List (List Nat)} {q:List Nat} {e L N:Nat} {fnd st:List (Key × V)} (h:EffAt K C Cg H2 H E F A G S g ss q e L N fnd st) (s:∀ b o,b ≠ A -> H b = some o -> H' b = some o):EffAt K C Cg H2 (upd H' A (.dK st)) E F A G S g ss q e L N fnd st:=by
  obtain ⟨dx,ob⟩:=h.ob
  refine ⟨fun b o z => ?_,h.nE,h.nF,h.nA,h.dEF,h.dEA,h.dFA,h.gr,h.str,h.rin,h.fit,⟨dx,?_⟩,?_,upd_same,h.eff⟩
  . have nb:=ne_of_none z h.nA
    rw [upd_ne nb]
    exact s _ _ nb (h.same _ _ z)
  . rw [upd_ne h.dEA]
    exact s _ _ h.dEA ob
  . rw [upd_ne h.dFA]
    exact s _ _ h.dFA h.fd
def secs (s:List Nat):List Nat:=if s.getD 4 0 = 0 then [0] else (List.range (s.getD 5 0)).map (· + 1)
theorem secs_at {s:List Nat} {j k:Nat} (h:(secs s)[j]? = some k):(s.getD 4 0 = 0 /\ j = 0 /\ k = 0) \/ (s.getD 4 0 ≠ 0 /\ k = j + 1):=by
  unfold secs at h
  by_cases c:s.getD 4 0 = 0
  . rw [if_pos c] at h
    cases j with
    | zero => cases h; exact .inl ⟨c,rfl,rfl⟩
    | succ j => simp at h
  . rw [if_neg c,List.getElem?_map] at h
    obtain ⟨a,ha,rfl⟩:=Option.map_eq_some_iff.mp h
    have:=(List.getElem?_eq_some_iff.mp ha)
    obtain ⟨h1,h2⟩:=this
    rw [List.getElem_range] at h2
    exact .inr ⟨c,by omega⟩
theorem secs_mem {s:List Nat} {k:Nat} (h:if s.getD 4 0 = 0 then k = 0 else 1 <= k /\ k <= s.getD 5 0):∃ j:Nat,(secs s)[j]? = some k /\ (s.getD 4 0 ≠ 0 -> k = j + 1):=by
  unfold secs
  by_cases c:s.getD 4 0 = 0
  . rw [if_pos c] at h |-
    subst h
    exact ⟨0,rfl,fun z => absurd c z⟩
  . rw [if_neg c] at h |-
    refine ⟨k - 1,?_,fun _ => by omega⟩
    rw [List.getElem?_map,List.getElem?_range (by omega)]
    show some (k - 1 + 1) = some k
    congr 1
    omega
theorem nz_get {l:List Nat} {j:Nat} {x:V} (h:((nz l).map V.int)[j]? = some x):∃ k,l[j]? = some k /\ x = .int (k:Nat):=by
  unfold nz BkNeutral.ints at h
  rw [List.map_map] at h
  obtain ⟨k,h1,h2⟩:=map_at (g:=V.int ∘ _) h
  exact ⟨k,h1,h2⟩
theorem steps_snoc {H H':Hp} {ts:List Addr} {st:List Rm.Step} {t:Addr} {s:Rm.Step} (h:StepsAt H ts st) (k:∀ b xs,H b = some (.tup xs) -> H' b = some (.tup xs)) (ht:H' t = some (.tup [.int (s.1:Nat),.int (s.2.1:Nat),.int (s.2.2:Nat)])):StepsAt H' (ts ++ [t]) (st ++ [s]):=by
  refine ⟨by rw [List.length_append,List.length_append,h.1]; rfl,fun j t' s' e1 e2 => ?_⟩
  rcases get_snoc e1 with ⟨k1,e1⟩ | ⟨k1,rfl⟩
  . rcases get_snoc e2 with ⟨k2,e2⟩ | ⟨k2,e2⟩
    . exact k _ _ (h.2 j t' s' e1 e2)
    . have:=h.1
      omega
  . rcases get_snoc e2 with ⟨k2,e2⟩ | ⟨k2,e2⟩
    . have:=h.1
      omega
    . rw [e2]
      exact ht
theorem form_fit {g:List Nat} (hR:Rm.RIn g) (hW:Rm.Whole g) {d:Nat} (hd:d < g.getD 0 0):Gd.Fit g (Rm.formR g d):=by
  have h:=Rm.form_fits hR hW hd
  exact Gd.fit_pad hR h
theorem GrAt.keepI {C Cg dx:Addr} {H H':Hp} {G To:Addr} {g:List Nat} {fs:List (Str × V)} (hTo:H To = some (.ins C dx fs)) (h:GrAt Cg H G g) (nG:G ≠ To) (s:∀ b o,b ≠ To -> H b = some o -> H' b = some o):GrAt Cg H' G g:=by
  obtain ⟨dx,a,r,as,h1,h2,h3,h4,h5⟩:=h
  exact ⟨dx,a,r,as,s _ _ nG h1,s _ _ (ne_of h2 hTo (by intro z; cases z)) h2,s _ _ (ne_of h3 hTo (by intro z; cases z)) h3,h4,fun j b e => s _ _ (ne_of (h5 j b e) hTo (by intro z; cases z)) (h5 j b e)⟩
theorem Lists.keepI {K:PySem.W.Frag} {C dx:Addr} {H H':Hp} {To:Addr} {as:List Addr} {gs:List (List Nat)} {fs:List (Str × V)} (hTo:H To = some (.ins C dx fs)) (h:Lists K H as gs) (s:∀ b o,b ≠ To -> H b = some o -> H' b = some o):Lists K H' as gs:=⟨h.1,fun j b g e1 e2 => SqL.keepI hTo (h.2 j b g e1 e2) s⟩
theorem forms_keepI {C dx:Addr} {H H':Hp} {To:Addr} {kvs:List (Key × V)} {ws:Rm.Ways} {fs:List (Str × V)} (hTo:H To = some (.ins C dx fs)) (h:Forms H kvs ws) (s:∀ b o,b ≠ To -> H b = some o -> H' b = some o):Forms H' kvs ws:=fun d => by
  have:=h d
  cases e:Rm.formIn ws d with
  | none =>
    rw [e] at this
    exact this
  | some p =>
    rw [e] at this
    obtain ⟨q,h1,h2⟩:=this
    exact ⟨q,h1,s _ _ (ne_of h2 hTo (by intro z; cases z)) h2⟩
theorem groups_7 {l:List Nat} (h0:l.length ≠ 0) (h:(l.length - 1) % 7 = 0) (h2:l.length <= 300):(Na.groups 7 (l.drop 1)).length <= 50:=by
  rw [Mm.groups_is (by decide) (by rw [List.length_drop]; exact h),List.length_map,List.length_range,List.length_drop]
  omega
theorem LKeep.free' {H H':Hp} (s:LKeep H H') {t:Addr} (h:H' t = none):∀ u,isS u = true -> H t ≠ some u:=fun u hu e => by
  rw [s _ _ e hu] at h
  cases h
theorem StepsK.keep {K:PySem.W.Frag} {H H':Hp} {ts:List Addr} {st:List Rm.Step} (h:StepsK K H ts st) (s:Same H H'):StepsK K H' ts st:=⟨h.1,fun j t u e1 e2 => Same.seqT s (h.2 j t u e1 e2)⟩
theorem TourAt.keep {K:PySem.W.Frag} {C Ce Cg:Addr} {H2 H H':Hp} {T D W Z:Addr} {g:List Nat} {ss:List (List Nat)} {m:Nat} (h:TourAt K C Ce Cg H2 H T D W g ss Z m) (s:Same H H'):TourAt K C Ce Cg H2 H' T D W g ss Z m:=by
  obtain ⟨o,ef,to,h1,h2,h3⟩:=h
  exact ⟨o,ef,to,h1.keep s,h2,h3⟩
theorem TourAt.grow {K:PySem.W.Frag} {C Ce Cg:Addr} {H2 H:Hp} {T D W Z:Addr} {g:List Nat} {ss:List (List Nat)} {m:Nat} (h:TourAt K C Ce Cg H2 H T D W g ss Z m) (h0:H2 Z = none) {zs zs':List V} (hZ:H Z = some (.lst zs)):TourAt K C Ce Cg H2 (upd H Z (.lst zs')) T D W g ss Z m:=by
  obtain ⟨o,ef,to,h1,h2,h3⟩:=h
  exact ⟨o,ef,to,h1.grow h0 hZ,h2,h3⟩
theorem SqT.keepL {K:PySem.W.Frag} {H:Hp} {a L:Addr} {xs ys zs:List V} (hL:H L = some (.lst ys)) (h:SqT K H a xs):SqT K (upd H L (.lst zs)) a xs:=by
  rcases h with (h | ⟨o,h⟩) | h
  . exact .inl (.inl (by rw [upd_ne (ne_of h hL (by intro z; cases z))]; exact h))
  . exact .inl (.inr ⟨o,by rw [upd_ne (ne_of h hL (by intro z; cases z))]; exact h⟩)
  . exact .inr h
structure CA where
  Efforts:Addr
  Ground:Addr
  Tours:Addr
  NoActsLeadThere:Addr
  TooManySteps:Addr
def sp_1 (K:PySem.W.Frag):Sp:=fun vs H Q _ => ∃ (a:Addr) (g:List Nat),vs = [.ref a] /\ NL K H a g /\ g.length = 7 /\ Q (.int (g.getD 0 0:Nat)) H
def sp_2 (K:PySem.W.Frag):Sp:=fun vs H Q _ => ∃ (a:Addr) (g:List Nat) (j:Nat),vs = [.ref a,.int (j:Nat)] /\ NL K H a g /\ g.length = 7 /\ j < 3 /\ Q (.int (Rm.beOf g j:Nat)) H
def sp_3 (K:PySem.W.Frag):Sp:=fun vs H Q _ => ∃ (a:Addr) (g:List Nat) (j:Nat),vs = [.ref a,.int (j:Nat)] /\ NL K H a g /\ g.length = 7 /\ j < 3 /\ Q (.int (Rm.woOf g j:Nat)) H
def sp_0 (K:PySem.W.Frag):Sp:=fun vs H Q _ => ∃ (a:Addr) (l:List Nat),vs = [.ref a] /\ NL K H a l /\ l.length % 7 = 0 /\ l.length <= 500 /\
  ∀ H' p as,Same H H' -> H' p = some (.lst (as.map V.ref)) -> Lists K H' as (Na.groups 7 l) -> Q (.ref p) H'
def sp_5 (K:PySem.W.Frag):Sp:=fun vs H Q _ => ∃ (a:Addr) (l:List Nat),vs = [.ref a] /\ NL K H a l /\ l.length ≠ 0 /\ (l.length - 1) % 7 = 0 /\ l.length <= 300 /\
  ∀ H' p as,(Same H H' /\ H p = none) -> H' p = some (.lst (as.map V.ref)) -> Lists K H' as (Na.groups 7 (l.drop 1)) -> Q (.ref p) H'
def sp_21 (K:PySem.W.Frag):Sp:=fun vs H Q _ => ∃ (a:Addr) (g:List Nat),vs = [.ref a] /\ NL K H a g /\ g.length = 7 /\ Rm.RIn g /\ ∀ H',Same H H' -> Q (.int (Rm.mostOf g:Nat)) H'
def sp_22 (K:PySem.W.Frag):Sp:=fun vs H Q _ => ∃ (a f:Addr) (g:List Nat) (j:Nat) (kvs:List (Key × V)) (fl:Rm.Ways),vs = [.ref a,.int (j:Nat),.ref f] /\ NL K H a g /\ g.length = 7 /\ Rm.RIn g /\ j < 3 /\
  H f = some (.dK kvs) /\ FDict H kvs fl /\ (∀ x ∈ fl,x.2.length = j) /\
  ∀ H' f' kvs',(Same H H' /\ H f' = none) -> H' f' = some (.dK kvs') -> Forms H' kvs' (Rm.wstep (g.getD 0 0) (Rm.beOf g j) (Rm.woOf g j) fl) -> Keys kvs' (g.getD 0 0) -> Q (.ref f') H'
def sp_8 (K:PySem.W.Frag):Sp:=fun vs H Q _ => ∃ (a:Addr) (g:List Nat),vs = [.ref a] /\ NL K H a g /\ g.length = 7 /\ Q (.int (g.getD 6 0:Nat)) H
def sp_9 (_:PySem.W.Frag):Sp:=fun vs H Q _ => ∃ (op d x:Nat),vs = [.int (op:Nat),.int (d:Nat),.int (x:Nat)] /\ (op = 0 -> Q (.int ((x:Int) + d)) H) /\ (op ≠ 0 -> Q (.int ((x:Int) - d)) H)
def sp_4 (K:PySem.W.Frag):Sp:=fun vs H Q _ => ∃ (a b:Addr) (p q:List Nat),vs = [.ref a,.ref b] /\ NL K H a p /\ NL K H b q /\ p.length = q.length /\ Q (.bl (Na.nicer p q)) H
def sp_30 (K:PySem.W.Frag):Sp:=fun vs H Q _ => ∃ (a:Addr) (g:List Nat),vs = [.ref a] /\ NL K H a g /\ g.length = 7 /\ Rm.RIn g /\
  ∀ H' f kvs,(Same H H' /\ H f = none) -> H' f = some (.dK kvs) -> Forms H' kvs (Rm.waysOf g 3) -> ((kvs.length < g.getD 0 0 ↔ ¬ Rm.Whole g) /\ Keys kvs (g.getD 0 0)) -> Q (.ref f) H'
def sp_6 (K:PySem.W.Frag):Sp:=fun vs H Q _ => ∃ (a:Addr) (s:List Nat),vs = [.ref a] /\ NL K H a s /\ s.length = 7 /\ ∀ H' p,Same H H' -> H' p = some (lstN (s.take 3)) -> Q (.ref p) H'
def sp_7 (K:PySem.W.Frag):Sp:=fun vs H Q _ => ∃ (a:Addr) (s:List Nat),vs = [.ref a] /\ NL K H a s /\ s.length = 7 /\ ∀ H' p,Same H H' -> H' p = some (lstN ((s.drop 3).take 3)) -> Q (.ref p) H'
def sp_23 (K:PySem.W.Frag):Sp:=fun vs H Q _ => ∃ (a b c:Addr) (g p t:List Nat) (n:Nat),vs = [.ref a,.ref b,.ref c,.int (n:Nat)] /\ NL K H a g /\ g.length = 7 /\ NL K H b p /\ p.length = 3 /\ NL K H c t /\ t.length = 3 /\ t.getD 0 0 < 3 /\
  (Rm.push3 (Rm.bsOf g) p (t.getD 0 0) (t.getD 1 0 == 1) (t.getD 2 0) n = none -> Q .non H) /\ ∀ u,Rm.push3 (Rm.bsOf g) p (t.getD 0 0) (t.getD 1 0 == 1) (t.getD 2 0) n = some u -> ∀ H' r,Same H H' -> H' r = some (lstN u) -> Q (.ref r) H'
def sp_31 (K:PySem.W.Frag):Sp:=fun vs H Q _ => ∃ (a b c:Addr) (g p s:List Nat) (n k:Nat),vs = [.ref a,.ref b,.ref c,.int (n:Nat),.int (k:Nat)] /\ NL K H a g /\ g.length = 7 /\ NL K H b p /\ p.length = 3 /\ NL K H c s /\ Rm.SIn s /\
  (Rm.stroke3 (Rm.bsOf g) p s n k = none -> ∀ H',Same H H' -> Q .non H') /\ ∀ u,Rm.stroke3 (Rm.bsOf g) p s n k = some u -> ∀ H' r,Same H H' -> H' r = some (lstN u) -> Q (.ref r) H'
def firstV:List V -> V
  | [] => .non
  | .non :: r => firstV r
  | x :: _ => x
def sp_17 (K:PySem.W.Frag):Sp:=fun vs H Q _ => ∃ (a:Addr) (xs:List V),vs = [.ref a] /\ SqL K H a xs /\ Q (firstV xs) H
def sp_18 (_:PySem.W.Frag):Sp:=fun vs H Q _ => ∃ b w:Nat,vs = [.int (b:Nat),.int (w:Nat)] /\ ∀ k:Bool,(k = true ↔ Rm.DeckOk b w) -> Q (.bl k) H
def sp_28 (K:PySem.W.Frag):Sp:=fun vs H Q _ => ∃ (a:Addr) (g:List Nat),vs = [.ref a] /\ NL K H a g /\ g.length = 7 /\ ∀ k:Bool,(k = true ↔ Rm.RIn g) -> Q (.bl k) H
def sp_37 (K:PySem.W.Frag):Sp:=fun vs H Q _ => ∃ (a:Addr) (g:List Nat),vs = [.ref a] /\ NL K H a g /\ g.length = 7 /\
  (Na.rodWrong g = 0 -> ∀ H',Same H H' -> Q .non H') /\ ∀ w,Na.rodWrong g = w -> w ≠ 0 -> ∀ H',Same H H' -> Q (.int (w:Nat)) H'
def sp_41 (K:PySem.W.Frag):Sp:=fun vs H Q _ => ∃ (a:Addr) (l:List Nat),vs = [.ref a] /\ NL K H a l /\ l.length <= 500 /\
  (∀ m,Na.makeOf l = .ok m -> ∀ H',Same H H' -> Q .non H') /\ ∀ r i,Na.makeOf l = .error ⟨r,i⟩ -> ∀ H' p,Same H H' -> H' p = some (.lst [.int (r:Nat),.int (i:Nat)]) -> Q (.ref p) H'
def sp_19 (K:PySem.W.Frag):Sp:=fun vs H Q _ => ∃ (a:Addr) (l:List Nat),vs = [.ref a] /\ NL K H a l /\ l.length <= 300 /\ ∀ k:Bool,(k = true ↔ Mm.HandLen l) -> Q (.bl k) H
def sp_20 (K:PySem.W.Frag):Sp:=fun vs H Q _ => ∃ (a:Addr) (p:List Nat),vs = [.ref a] /\ NL K H a p /\ p.length = 3 /\ ∀ k:Bool,(k = true ↔ PartIn p) -> Q (.bl k) H
def sp_29 (K:PySem.W.Frag):Sp:=fun vs H Q _ => ∃ (a:Addr) (s:List Nat),vs = [.ref a] /\ NL K H a s /\ s.length = 7 /\ ∀ (k:Bool) H',(k = true ↔ Na.strokeGood s = true) -> Same H H' -> Q (.bl k) H'
def sp_34 (K:PySem.W.Frag):Sp:=fun vs H Q _ => ∃ (a:Addr) (l:List Nat),vs = [.ref a] /\ NL K H a l /\ l.length <= 300 /\
  (∀ h,Na.handOf l = .ok h -> ∀ H',Same H H' -> Q .non H') /\ ∀ r i,Na.handOf l = .error ⟨r,i⟩ -> ∀ H' p,Same H H' -> H' p = some (.lst [.int (r:Nat),.int (i:Nat)]) -> Q (.ref p) H'
def sp_10 (_:PySem.W.Frag):Sp:=fun vs H Q _ => ∃ e r:Int,vs = [.int e,.int r] /\ Q (.int (if 0 <= e /\ e < r then 0 else 1)) H
def sp_13 (K:PySem.W.Frag) (ca:CA):Sp:=fun vs H Q _ => ∃ (G a:Addr) (g p:List Nat),vs = [.ref G,.ref a] /\ GrAt ca.Ground H G g /\ NL K H a p /\ Gd.Fit g p /\ Rm.RIn g /\ ∀ H',Same H H' -> Q (.int ((1 <<< Gd.pl g p:Nat):Int)) H'
def sp_14 (_:PySem.W.Frag) (ca:CA):Sp:=fun vs H Q _ => ∃ (G:Addr) (g:List Nat) (N d k:Nat) (to_:Bool),vs = [.ref G,.int (N:Nat),.int (d:Nat),.bl to_,.int (k:Nat)] /\ GrAt ca.Ground H G g /\ Rm.RIn g /\ d < 3 /\ k <= 15 /\ N < 2 ^ Gd.all g /\ Q (.int (Gd.mvN g d to_ k N:Nat)) H
def sp_24 (K:PySem.W.Frag) (ca:CA):Sp:=fun vs H Q _ => ∃ (G a:Addr) (g t:List Nat) (N:Nat) (S:List Nat -> Prop),vs = [.ref G,.int (N:Nat),.ref a] /\ GrAt ca.Ground H G g /\ Rm.RIn g /\ NL K H a t /\ t.length = 3 /\ PartIn t /\ Gd.Is g N S /\ ∀ M:Nat,Gd.Is g M (Gd.Pre g (t.getD 0 0) (t.getD 1 0 == 1) (t.getD 2 0) S) -> Q (.int (M:Nat)) H
def sp_33 (K:PySem.W.Frag) (ca:CA):Sp:=fun vs H Q _ => ∃ (G a:Addr) (g s:List Nat) (N:Nat) (S:List Nat -> Prop),vs = [.ref G,.int (N:Nat),.ref a] /\ GrAt ca.Ground H G g /\ Rm.RIn g /\ NL K H a s /\ Rm.SIn s /\ Gd.Is g N S /\ ∀ (M:Nat) H',Gd.Is g M (Gd.Str g s S) -> Same H H' -> Q (.int (M:Nat)) H'
def sp_25 (K:PySem.W.Frag):Sp:=fun vs H Q _ => ∃ (a:Addr) (g:List Nat),vs = [.ref a] /\ NL K H a g /\ g.length = 7 /\ Rm.RIn g /\ ∀ H' p,(Same H H' /\ H p = none) -> H' p = some (lstN (srd g)) -> Q (.ref p) H'
def sp_26 (K:PySem.W.Frag):Sp:=fun vs H Q _ => ∃ (a s:Addr) (g:List Nat) (d:Nat),vs = [.ref a,.int (d:Nat),.ref s] /\ NL K H a g /\ g.length = 7 /\ Rm.RIn g /\ NL K H s (srd g) /\ d < 3 /\ ∀ H' p,(Same H H' /\ H p = none) -> H' p = some (lstN (rooms g d)) -> Q (.ref p) H'
def sp_32 (K:PySem.W.Frag) (ca:CA):Sp:=fun vs H Q _ => ∃ (G dx a:Addr) (g:List Nat),vs = [.ref G,.ref a] /\ H G = some (.ins ca.Ground dx []) /\ NL K H a g /\ g.length = 7 /\ Rm.RIn g /\ ∀ H',(∀ b o,b ≠ G -> H b = some o -> H' b = some o) -> GrAt ca.Ground H' G g -> Q .non H'
def sp_27 (K:PySem.W.Frag):Sp:=fun vs H Q _ => ∃ (a:Addr) (s:List Nat),vs = [.ref a] /\ NL K H a s /\ Rm.SIn s /\ ∀ H' p,Same H H' -> H' p = some (lstN (if s.getD 4 0 = 0 then [0] else (List.range (s.getD 5 0)).map (· + 1))) -> Q (.ref p) H'
def sp_11 (K:PySem.W.Frag) (ca:CA):Sp:=fun vs H Q _ => ∃ (E dx G S:Addr) (g q:List Nat) (ss:List (List Nat)) (H2:Hp),vs = [.ref E,.ref G,.ref S,.int ((1 <<< Gd.pl g q:Nat):Int)] /\ H E = some (.ins ca.Efforts dx []) /\ Same H2 H /\ H2 E = none /\ GrAt ca.Ground H2 G g /\ StrAt K H2 S ss /\ Rm.RIn g /\ Gd.Fit g q /\
  ∀ H' F A e L N fnd st,(∀ b o,b ≠ E -> H b = some o -> H' b = some o) -> H F = none -> H A = none -> EffAt K ca.Efforts ca.Ground H2 H' E F A G S g ss q e L N fnd st -> Q .non H'
def sp_35 (K:PySem.W.Frag) (ca:CA):Sp:=fun vs H Q _ => ∃ (E F A G S dx:Addr) (g q:List Nat) (ss:List (List Nat)) (e hi N M:Nat) (fnd:List (Key × V)),vs = [.ref E,.int (M:Nat)] /\ H E = some (.ins ca.Efforts dx (efs G S F N A e)) /\ E ≠ F /\ H F = some (.dK fnd) /\ GrAt ca.Ground H G g /\ StrAt K H S ss /\ Rm.RIn g /\
  Gd.Is g M (fun p => Pd.Far3 g ss q p e) /\ FOk g (e + 1) hi fnd /\ e + 255 <= hi /\ fnd.length <= 1000000 /\
  ∀ H' fnd',(∀ b o,b ≠ F -> H b = some o -> H' b = some o) -> H' F = some (.dK fnd') -> FOk g (e + 1) hi fnd' -> fnd'.length <= fnd.length + ss.length -> (∀ c p,Gd.Fit g p -> (FdAt g fnd' c p ↔ FdAt g fnd c p \/ ∃ s ∈ ss,c = e + s.getD 6 0 /\ Gd.Str g s (fun u => Pd.Far3 g ss q u e) p)) -> Q .non H'
def sp_38 (K:PySem.W.Frag) (ca:CA):Sp:=fun vs H Q _ => ∃ (E F A G S:Addr) (g q:List Nat) (ss:List (List Nat)) (e L N:Nat) (fnd st:List (Key × V)) (H2:Hp),vs = [.ref E] /\ EffAt K ca.Efforts ca.Ground H2 H E F A G S g ss q e L N fnd st /\ fnd ≠ [] /\
  ∀ H' L' N' fnd' st',But3 E F A H H' -> EffAt K ca.Efforts ca.Ground H2 H' E F A G S g ss q (e + 1) L' N' fnd' st' -> mu g (e + 1) L' N' < mu g e L N -> Q .non H'
def sp_42 (K:PySem.W.Frag) (ca:CA):Sp:=fun vs H Q _ => ∃ (E F A G S:Addr) (g q p:List Nat) (ss:List (List Nat)) (e L N:Nat) (fnd st:List (Key × V)) (H2:Hp),vs = [.ref E,.int ((1 <<< Gd.pl g p:Nat):Int)] /\ EffAt K ca.Efforts ca.Ground H2 H E F A G S g ss q e L N fnd st /\ Gd.Fit g p /\
  ∀ H' e' L' N' fnd' st',But3 E F A H H' -> EffAt K ca.Efforts ca.Ground H2 H' E F A G S g ss q e' L' N' fnd' st' -> ((∀ c,¬ Pd.Way3 g ss q p c) -> Q .non H') /\ ∀ c:Nat,Pd.Far3 g ss q p c -> c < e' -> Q (.int (c:Nat)) H'
def sp_12 (K:PySem.W.Frag) (ca:CA):Sp:=fun vs H Q _ => ∃ (E F A G S:Addr) (g q:List Nat) (ss:List (List Nat)) (e L N:Nat) (fnd st:List (Key × V)) (H2:Hp) (z:Int),vs = [.ref E,.int z] /\ EffAt K ca.Efforts ca.Ground H2 H E F A G S g ss q e L N fnd st /\ z < (e:Int) /\ ∀ M:Nat,Gd.Is g M (fun u => ∃ c:Nat,z = (c:Int) /\ Pd.Far3 g ss q u c) -> Q (.int (M:Nat)) H
def sp_39 (K:PySem.W.Frag) (ca:CA):Sp:=fun vs H Q _ => ∃ (T dx a b:Addr) (g hd:List Nat),vs = [.ref T,.ref a,.ref b] /\ H T = some (.ins ca.Tours dx []) /\ NL K H a g /\ g.length = 7 /\ Rm.RIn g /\ Rm.Whole g /\ NL K H b hd /\ hd.length ≠ 0 /\ (hd.length - 1) % 7 = 0 /\ hd.length <= 300 /\ (∀ s ∈ Na.groups 7 (hd.drop 1),Rm.SIn s) /\
  ∀ H' H2 D W,(∀ b o,b ≠ T -> H b = some o -> H' b = some o) -> (∀ Z,TourAt K ca.Tours ca.Efforts ca.Ground H2 H' T D W g (Na.groups 7 (hd.drop 1)) Z 0) -> Q .non H'
def sp_36 (K:PySem.W.Frag) (ca:CA):Sp:=fun vs H Q _ => ∃ (T D W a c:Addr) (g p s:List Nat) (ss:List (List Nat)) (M:Nat) (S:List Nat -> Prop),vs = [.ref T,.ref a,.ref c,.int (M:Nat)] /\ TFix K ca.Tours ca.Ground H T D W g ss /\ NL K H a p /\ Gd.Fit g p /\ NL K H c s /\ Rm.SIn s /\ Gd.Is g M S /\ Gd.Str g s S p /\
  ∀ (n k:Nat) (u:List Nat) H' t,Rm.stroke3 (Rm.bsOf g) p s n k = some u -> S u -> (∀ n' k' v,(n' < n \/ (n' = n /\ k' < k)) -> Rm.stroke3 (Rm.bsOf g) p s n' k' = some v -> ¬ S v) -> Same H H' -> H' t = some (.tup [.int (n:Nat),.int (k:Nat)]) -> Q (.ref t) H'
def sp_40 (K:PySem.W.Frag) (ca:CA):Sp:=fun vs H Q _ => ∃ (T D W a E F A G S:Addr) (g p q:List Nat) (ss:List (List Nat)) (c e L N:Nat) (fnd st:List (Key × V)) (H2:Hp),vs = [.ref T,.ref a,.int (c:Nat),.ref E] /\ TFix K ca.Tours ca.Ground H T D W g ss /\ EffAt K ca.Efforts ca.Ground H2 H E F A G S g ss q e L N fnd st /\ NL K H a p /\ Gd.Fit g p /\ Pd.Far3 g ss q p c /\ c ≠ 0 /\ c < e /\
  ∀ (j n k i d:Nat) (u:List Nat) H' t,(Pd.acts3 ss)[i]? = some (j,n,k) -> Pd.Hit g ss q p c (j,n,k) u d -> (∀ i' y,i' < i -> (Pd.acts3 ss)[i']? = some y -> ∀ v e',¬ Pd.Hit g ss q p c y v e') -> Same H H' -> H' t = some (.tup [.int (j:Nat),.int (n:Nat),.int (k:Nat)]) -> Q (.ref t) H'
def sp_43 (K:PySem.W.Frag) (ca:CA):Sp:=fun vs H Q _ => ∃ (T D W a E F A G S:Addr) (g p q:List Nat) (ss:List (List Nat)) (e L N:Nat) (fnd st:List (Key × V)) (H2:Hp),vs = [.ref T,.ref a,.ref E] /\ TFix K ca.Tours ca.Ground H2 T D W g ss /\ EffAt K ca.Efforts ca.Ground H2 H E F A G S g ss q e L N fnd st /\ NL K H a p /\ Gd.Fit g p /\
  ∀ H' e' L' N' fnd' st',But3 E F A H H' -> EffAt K ca.Efforts ca.Ground H2 H' E F A G S g ss q e' L' N' fnd' st' -> ((∀ c,¬ Pd.Way3 g ss q p c) -> Q .non H') /\ ∀ (c:Nat) (l:List Rm.Step) (t:Addr) (ts:List Addr),Pd.Far3 g ss q p c -> Pd.First3 g ss q p c l -> (∀ u,isS u = true -> H t ≠ some u) -> H' t = some (.lst (ts.map V.ref)) -> StepsAt H' ts (l.take 11) -> Q (.ref t) H'
def sp_44 (K:PySem.W.Frag) (ca:CA):Sp:=fun vs H Q _ => ∃ (T D W Z:Addr) (g:List Nat) (ss:List (List Nat)) (m x y:Nat) (H2:Hp),vs = [.ref T,.int (x:Nat),.int (y:Nat)] /\ TourAt K ca.Tours ca.Efforts ca.Ground H2 H T D W g ss Z m /\ (∃ zs,H Z = some (.lst zs)) /\ m < 1000000 /\ x < g.getD 0 0 /\ y < g.getD 0 0 /\
  ∀ v H',TourAt K ca.Tours ca.Efforts ca.Ground H2 H' T D W g ss Z (m + 1) -> LKeep H H' -> TourV H' g ss x y v -> Q v H'
def HeadAt (H:Hp) (dx:Addr) (l:List Nat):Prop:=∃ p,H dx = some (.xd [("head",.ref p)]) /\ H p = some (lstN l)
def sp_15 (_:PySem.W.Frag) (ca:CA):Sp:=fun vs H Q _ => ∃ (x:Addr) (op d z:Nat),vs = [.ref x,.int (op:Nat),.int (d:Nat),.int (z:Nat)] /\ H x = some (Ex.exN ca.NoActsLeadThere none x) /\ ∀ H' dx,H' x = some (Ex.exN ca.NoActsLeadThere (some dx) x) -> dx ≠ x -> HeadAt (Ex.rm H' x) dx [op,d,z] -> Q .non H'
def sp_16 (_:PySem.W.Frag) (ca:CA):Sp:=fun vs H Q _ => ∃ (x:Addr) (op d z:Nat),vs = [.ref x,.int (op:Nat),.int (d:Nat),.int (z:Nat)] /\ H x = some (Ex.exN ca.TooManySteps none x) /\ ∀ H' dx,H' x = some (Ex.exN ca.TooManySteps (some dx) x) -> dx ≠ x -> HeadAt (Ex.rm H' x) dx [op,d,z] -> Q .non H'
def sp_45 (K:PySem.W.Frag) (ca:CA):Sp:=fun vs H Q E => ∃ (T D W Z:Addr) (g:List Nat) (ss:List (List Nat)) (m w op d x ho:Nat) (H2:Hp),vs = [.ref T,.int (w:Nat),.int (op:Nat),.int (d:Nat),.int (x:Nat)] /\ TourAt K ca.Tours ca.Efforts ca.Ground H2 H T D W g ss Z m /\ (∃ zs,H Z = some (.lst zs)) /\ m < 1000000 /\ op <= 1 /\ d < g.getD 0 0 /\ x < g.getD 0 0 /\
  (Na.bestRule (Na.rodOf g) ⟨ho,ss.map Na.strokeOf⟩ w op d x = none -> ∀ H' dx,HeadAt H' dx [op,d,x] -> E (.ref ca.NoActsLeadThere) (some dx) H') /\
  (∀ n,Na.bestRule (Na.rodOf g) ⟨ho,ss.map Na.strokeOf⟩ w op d x = some n -> 10 < n.length -> ∀ H' dx,HeadAt H' dx [op,d,x] -> E (.ref ca.TooManySteps) (some dx) H') /\
  ∀ l H' t ts,Na.bestRule (Na.rodOf g) ⟨ho,ss.map Na.strokeOf⟩ w op d x = some (l.map Rm.mv) -> ¬ 10 < l.length -> (∀ s ∈ l,Rm.StepIn s) -> TourAt K ca.Tours ca.Efforts ca.Ground H2 H' T D W g ss Z (m + 1) -> (∀ u,isS u = true -> H t ≠ some u) -> H' t = some (.lst (ts.map V.ref)) -> StepsK K H' ts l -> LKeep H H' -> Q (.ref t) H'
def sp_46 (K:PySem.W.Frag) (ca:CA):Sp:=fun vs H Q E => ∃ (a b:Addr) (g hd:List Nat) (w:Nat),vs = [.ref a,.int (w:Nat),.ref b] /\ NL K H a g /\ g.length = 7 /\ Rm.RIn g /\ Rm.Whole g /\ NL K H b hd /\ hd.length ≠ 0 /\ (hd.length - 1) % 7 = 0 /\ hd.length <= 300 /\ (∀ s ∈ Na.groups 7 (hd.drop 1),Rm.SIn s) /\
  (∀ l,An.tellB (Na.bestBook (Na.rodOf g) ⟨hd.getD 0 0,(Na.groups 7 (hd.drop 1)).map Na.strokeOf⟩ w) = -2 :: nz l -> l.length <= 3 -> ∀ H' dx,HeadAt H' dx l -> E (.ref ca.NoActsLeadThere) (some dx) H') /\
  (∀ l,An.tellB (Na.bestBook (Na.rodOf g) ⟨hd.getD 0 0,(Na.groups 7 (hd.drop 1)).map Na.strokeOf⟩ w) = -8 :: nz l -> l.length <= 3 -> ∀ H' dx,HeadAt H' dx l -> E (.ref ca.TooManySteps) (some dx) H') /\
  ∀ l H' p,An.tellB (Na.bestBook (Na.rodOf g) ⟨hd.getD 0 0,(Na.groups 7 (hd.drop 1)).map Na.strokeOf⟩ w) = 0 :: nz l -> l.length <= 1000000 -> H' p = some (lstN l) -> Q (.ref p) H'
def sp_47 (K:PySem.W.Frag):Sp:=fun vs H Q _ => ∃ (a b:Addr) (i w:Nat) (m hd:List Nat),vs = [.int (i:Nat),.int (w:Nat),.ref a,.ref b] /\ NL K H a m /\ m.length <= 500 /\ NL K H b hd /\ hd.length <= 300 /\ ∀ H' p,H' p = some (.lst ((An.bestI i w m hd).map V.int)) -> Q (.ref p) H'
theorem hb_head:typeLookup (.type "Exception") "head" = pure none:=by rw [typeLookup_type,builtinLookup_eq_fast]; kernel_rfl
def top (i:Nat):Stmt:=PySem.Challenge.pw_abacusbooks_s04_best.main.body.getD i (.Pass ⟨0,0,0,0⟩)
abbrev t_0:Stmt:=top 4
abbrev t_1:Stmt:=top 5
abbrev t_2:Stmt:=top 6
abbrev t_3:Stmt:=top 7
abbrev t_4:Stmt:=top 9
abbrev t_5:Stmt:=top 15
abbrev t_6:Stmt:=top 16
abbrev t_7:Stmt:=top 17
abbrev t_8:Stmt:=top 18
abbrev t_9:Stmt:=top 26
abbrev t_10:Stmt:=top 27
abbrev t_11:Stmt:=inClass (top 29) 0
abbrev t_12:Stmt:=inClass (top 29) 4
abbrev t_13:Stmt:=inClass (top 31) 1
abbrev t_14:Stmt:=inClass (top 31) 4
abbrev t_15:Stmt:=inClass (top 39) 0
abbrev t_16:Stmt:=inClass (top 40) 0
abbrev t_17:Stmt:=top 58
abbrev t_18:Stmt:=top 62
abbrev t_19:Stmt:=top 64
abbrev t_20:Stmt:=top 66
abbrev t_21:Stmt:=top 8
abbrev t_22:Stmt:=top 11
abbrev t_23:Stmt:=top 20
abbrev t_24:Stmt:=inClass (top 31) 3
abbrev t_25:Stmt:=top 32
abbrev t_26:Stmt:=top 33
abbrev t_27:Stmt:=top 36
abbrev t_28:Stmt:=top 61
abbrev t_29:Stmt:=top 65
abbrev t_30:Stmt:=top 10
abbrev t_31:Stmt:=top 19
abbrev t_32:Stmt:=inClass (top 31) 0
abbrev t_33:Stmt:=inClass (top 31) 2
abbrev t_34:Stmt:=top 63
abbrev t_35:Stmt:=inClass (top 29) 3
abbrev t_36:Stmt:=inClass (top 35) 4
abbrev t_37:Stmt:=top 60
abbrev t_38:Stmt:=inClass (top 29) 2
abbrev t_39:Stmt:=inClass (top 35) 0
abbrev t_40:Stmt:=inClass (top 35) 3
abbrev t_41:Stmt:=top 59
abbrev t_42:Stmt:=inClass (top 29) 1
abbrev t_43:Stmt:=inClass (top 35) 2
abbrev t_44:Stmt:=inClass (top 35) 1
abbrev t_45:Stmt:=top 42
abbrev t_46:Stmt:=top 41
abbrev t_47:Stmt:=top 68
structure Txt (K:PySem.W.Frag) (mg:Str -> Option Value) (ca:CA):Prop where
  k_Efforts : ClsAt K mg "Efforts" ca.Efforts ["ground", "strokes", "found", "settled", "settled_at", "effort"]
  k_Ground : ClsAt K mg "Ground" ca.Ground ["strides", "room"]
  k_Tours : ClsAt K mg "Tours" ca.Tours ["rod", "strokes", "forms", "ground", "efforts", "told"]
  g_NoActsLeadThere:mg "NoActsLeadThere" = some (.ref ca.NoActsLeadThere)
  eq_NoActsLeadThere:PySem.W.exmOne K (.ref ca.NoActsLeadThere) (.ref ca.NoActsLeadThere) = some true
  ne_NoActsLeadThere_TooManySteps:PySem.W.exmOne K (.ref ca.NoActsLeadThere) (.ref ca.TooManySteps) = some false
  g_TooManySteps:mg "TooManySteps" = some (.ref ca.TooManySteps)
  eq_TooManySteps:PySem.W.exmOne K (.ref ca.TooManySteps) (.ref ca.TooManySteps) = some true
  ne_TooManySteps_NoActsLeadThere:PySem.W.exmOne K (.ref ca.TooManySteps) (.ref ca.NoActsLeadThere) = some false
  v_ADD:IntG mg "ADD" 0
  v_CARRY:TupG K mg "CARRY" [.int 0,.int 0,.int 0]
  v_CARRY_FIRST:IntG mg "CARRY_FIRST" 0
  v_DECKS:IntG mg "DECKS" 3
  v_DIGITS_RULE:IntG mg "DIGITS_RULE" 4
  v_HAND_RULE:IntG mg "HAND_RULE" 6
  v_HIGHEST_COST:IntG mg "HIGHEST_COST" 255
  v_HIGHEST_DIRECTION:IntG mg "HIGHEST_DIRECTION" 2
  v_HIGHEST_RATIO:IntG mg "HIGHEST_RATIO" 20
  v_HIGHEST_WORTH:IntG mg "HIGHEST_WORTH" 63
  v_HIGHEST_WORTH_TOGETHER:IntG mg "HIGHEST_WORTH_TOGETHER" 255
  v_LOWEST_RATIO:IntG mg "LOWEST_RATIO" 2
  v_MAKE_LENGTH_RULE:IntG mg "MAKE_LENGTH_RULE" 1
  v_MOST_BEADS:IntG mg "MOST_BEADS" 15
  v_MOST_RODS:IntG mg "MOST_RODS" 64
  v_MOST_STEPS:IntG mg "MOST_STEPS" 10
  v_MOST_STROKES:IntG mg "MOST_STROKES" 32
  v_NUMBERS_A_ROD:IntG mg "NUMBERS_A_ROD" 7
  v_NUMBERS_A_STROKE:IntG mg "NUMBERS_A_STROKE" 7
  v_ROD_RULE:IntG mg "ROD_RULE" 2
  v_STROKE_RULE:IntG mg "STROKE_RULE" 7
  v_TAKE_AWAY:IntG mg "TAKE_AWAY" 1
  v_TO_THE_BEAM:IntG mg "TO_THE_BEAM" 1
  v_WORTH_TOGETHER_RULE:IntG mg "WORTH_TOGETHER_RULE" 3
  n_enumerate:mg "enumerate" = none
  n_len:mg "len" = none
  n_list:mg "list" = none
  n_max:mg "max" = none
  n_min:mg "min" = none
  n_range:mg "range" = none
  n_sum:mg "sum" = none
  d_0:∃ f fd,DefAt K mg "rods_of" t_0 ["make"] f fd
  d_1:∃ f fd,DefAt K mg "ratio_of" t_1 ["rod"] f fd
  d_2 : ∃ f fd, DefAt K mg "beads_of" t_2 ["rod", "deck"] f fd
  d_3 : ∃ f fd, DefAt K mg "worth_of" t_3 ["rod", "deck"] f fd
  d_4 : ∃ f fd, DefAt K mg "goes_before" t_4 ["way", "other"] f fd
  d_5:∃ f fd,DefAt K mg "strokes_of" t_5 ["hand"] f fd
  d_6:∃ f fd,DefAt K mg "first_part" t_6 ["stroke"] f fd
  d_7:∃ f fd,DefAt K mg "second_part" t_7 ["stroke"] f fd
  d_8:∃ f fd,DefAt K mg "cost_of" t_8 ["stroke"] f fd
  d_9 : ∃ f fd, DefAt K mg "due_on" t_9 ["op", "d", "x"] f fd
  d_10 : ∃ f fd, DefAt K mg "carries_due" t_10 ["due", "ratio"] f fd
  d_11 : ∃ f fd, InitAt K mg "Efforts" ca.Efforts "Efforts.__init__" t_11 ["self", "ground", "strokes", "goal"] f fd
  d_12 : ∃ f fd, MethAt K ca.Efforts "at" "Efforts.at" t_12 ["self", "effort"] f fd
  d_13 : ∃ f fd, MethAt K ca.Ground "only" "Ground.only" t_13 ["self", "pushed"] f fd
  d_14 : ∃ f fd, MethAt K ca.Ground "ahead_of_beads" "Ground.ahead_of_beads" t_14 ["self", "standings", "deck", "to_the_beam", "number"] f fd
  d_15 : ∃ f fd, EInitAt K mg "NoActsLeadThere" ca.NoActsLeadThere ["head"] "NoActsLeadThere.__init__" t_15 ["self", "op", "d", "x"] f fd
  d_16 : ∃ f fd, EInitAt K mg "TooManySteps" ca.TooManySteps ["head"] "TooManySteps.__init__" t_16 ["self", "op", "d", "x"] f fd
  d_17:∃ f fd,DefAt K mg "first_fault" t_17 ["faults"] f fd
  d_18 : ∃ f fd, DefAt K mg "deck_can_be" t_18 ["beads", "worth"] f fd
  d_19:∃ f fd,DefAt K mg "hand_can_be" t_19 ["hand"] f fd
  d_20:∃ f fd,DefAt K mg "part_can_be" t_20 ["part"] f fd
  d_21:∃ f fd,DefAt K mg "worth_together" t_21 ["rod"] f fd
  d_22 : ∃ f fd, DefAt K mg "forms_with_deck" t_22 ["rod", "deck", "forms"] f fd
  d_23 : ∃ f fd, DefAt K mg "behind_part" t_23 ["rod", "pushed", "part", "number"] f fd
  d_24 : ∃ f fd, MethAt K ca.Ground "ahead_of_part" "Ground.ahead_of_part" t_24 ["self", "standings", "part"] f fd
  d_25:∃ f fd,DefAt K mg "strides_of" t_25 ["rod"] f fd
  d_26 : ∃ f fd, DefAt K mg "room_on_deck" t_26 ["rod", "deck", "strides"] f fd
  d_27:∃ f fd,DefAt K mg "second_numbers" t_27 ["stroke"] f fd
  d_28:∃ f fd,DefAt K mg "rod_can_be" t_28 ["rod"] f fd
  d_29:∃ f fd,DefAt K mg "stroke_can_be" t_29 ["stroke"] f fd
  d_30:∃ f fd,DefAt K mg "digit_forms" t_30 ["rod"] f fd
  d_31 : ∃ f fd, DefAt K mg "behind_act" t_31 ["rod", "pushed", "stroke", "n", "k"] f fd
  d_32 : ∃ f fd, InitAt K mg "Ground" ca.Ground "Ground.__init__" t_32 ["self", "rod"] f fd
  d_33 : ∃ f fd, MethAt K ca.Ground "ahead_of_stroke" "Ground.ahead_of_stroke" t_33 ["self", "standings", "stroke"] f fd
  d_34:∃ f fd,DefAt K mg "hand_fault" t_34 ["hand"] f fd
  d_35 : ∃ f fd, MethAt K ca.Efforts "find_ahead_of" "Efforts.find_ahead_of" t_35 ["self", "standings"] f fd
  d_36 : ∃ f fd, MethAt K ca.Tours "first_beads" "Tours.first_beads" t_36 ["self", "pushed", "stroke", "aims"] f fd
  d_37:∃ f fd,DefAt K mg "rule_broken" t_37 ["rod"] f fd
  d_38:∃ f fd,MethAt K ca.Efforts "look_further" "Efforts.look_further" t_38 ["self"] f fd
  d_39 : ∃ f fd, InitAt K mg "Tours" ca.Tours "Tours.__init__" t_39 ["self", "rod", "hand"] f fd
  d_40 : ∃ f fd, MethAt K ca.Tours "first_act" "Tours.first_act" t_40 ["self", "pushed", "left", "efforts"] f fd
  d_41:∃ f fd,DefAt K mg "make_fault" t_41 ["make"] f fd
  d_42 : ∃ f fd, MethAt K ca.Efforts "effort_from" "Efforts.effort_from" t_42 ["self", "standing"] f fd
  d_43 : ∃ f fd, MethAt K ca.Tours "follow" "Tours.follow" t_43 ["self", "start", "efforts"] f fd
  d_44 : ∃ f fd, MethAt K ca.Tours "first_tour" "Tours.first_tour" t_44 ["self", "x", "goal"] f fd
  d_45 : ∃ f fd, DefAt K mg "best_steps" t_45 ["tours", "where", "op", "d", "x"] f fd
  d_46 : ∃ f fd, DefAt K mg "best_rules" t_46 ["rod", "where", "hand"] f fd
  d_47 : ∃ f fd, DefAt K mg "best" t_47 ["rod", "where", "make", "hand"] f fd
section
variable {P:Program} {w:World} {K:PySem.W.Frag} {mg:Str -> Option Value} {base:Heap} {f:Addr} {fd:FuncData} {ca:CA}
theorem sc_0 : FnScope ["make", "start"] ["make"] (defScope t_0) := ⟨rfl, rfl, rfl, by decide +kernel, rfl, by decide +kernel, by decide +kernel⟩
theorem ok_0 (T : Txt K mg ca) (D : DefAt K mg "rods_of" t_0 ["make"] f fd) : FnOk P w K mg base CX0 1 f fd ["make"] (sp_0 K) := by
  refine D.fn.ok sc_0 (fun vs H Q E h => ?_) (fun cdv A outer s H vs Q E hr h => ?_)
  . obtain ⟨a,l,rfl,hs,hm,hl,q⟩:=h
    rfl
  obtain ⟨a,l,rfl,hs,hm,hl,q⟩:=h
  refine ⟨_, (pss_one (ps_ret (pe_lc rfl sc_0.nd (pi_range3 rfl T.n_range (pa_cons pe_int (pa_cons (pe_callB (len_s K) (by rfl) T.n_len bt_len (pa_cons (pv 0) pa_nil)) (pa_cons (pe_gi rfl T.v_NUMBERS_A_ROD) pa_nil)))) (blkOk_by (N := ["make", "start"]) (sc := defScope t_0) (own := [("start", 1)]) (by decide +kernel)) (fun _ _ _ _ _ => (pg_name (i := 1) sc_0.nd rfl (by first | exact Or.inl rfl | exact Or.inr rfl))) (fun _ _ _ _ _ => pts_nil) (fun _ _ _ _ _ => (pe_slice (sl_l K) (pv 0) (po_some (pv 1)) (po_some (pe_op op_add (pv 1) (pe_gi rfl T.v_NUMBERS_A_ROD)))))))), ?_⟩
  refine ⟨_,rfl,a,_,rfl,.inl hs,0,_,7,_,rfl,(by rw [vi_len]; exact rgC (n:=l.length / 7) (by decide) (by decide) (by decide) (by decide) (by omega) (by omega) (by split <;> omega)),fun D hD => ?_⟩
  refine lc_rangeC (lo:=0) (c:=7) (n:=l.length / 7) (fun i H' => ∃ as:List Addr,Same H H' /\ H' D = some (.lst (as.map V.ref)) /\ Own D H' as ((List.range i).map (Mm.grp 7 l)))
    ⟨[],Same.new (Same.refl H) hD,upd_same,rfl,fun j b g e => by simp at e⟩ ?_ ?_
  . rintro i H' hi ⟨as,s1,hd,ho⟩
    refine ⟨rfl,?_⟩
    refine ⟨_,rfl,_,rfl,_,rfl,_,rfl,_,_,rfl,rfl,_,rfl,a,_,rfl,s1.seq hs,fun p hp => ?_⟩
    have np:p ≠ D:=fun z => by rw [z,hd] at hp; cases hp
    rw [cut_n (u:=7 * i) (v:=7 * i + 7) (by omega) (by omega)]
    refine ⟨_,(by rw [upd_ne (ne_of_none hd hp)]; exact hd),?_,as ++ [p],?_,?_,?_⟩
    . rw [List.length_map,ho.1,List.length_map,List.length_range]
      exact line_lt (by omega)
    . exact Same.put (Same.new s1 hp) hD
    . rw [List.map_append]
      exact upd_same
    . rw [range_snoc]
      refine ho.snoc (fun b o nb e => ?_) np ?_
      . rw [upd_ne nb,upd_ne (ne_of_none e hp)]
        exact e
      . rw [upd_ne np,upd_same]
        unfold Mm.grp
        rw [Nat.add_sub_cancel_left]
  . rintro H' ⟨as,s1,hd,ho⟩
    refine q _ D as s1 hd ?_
    rw [Mm.groups_is (by decide) hm]
    exact ho.lists
theorem c_0 (T:Txt K mg ca):Callee P w K mg base 1 "rods_of" ["make"] (sp_0 K):=Callee.of T.d_0 fun _ _ D => ok_0 T D
theorem sc_1:FnScope ["rod"] ["rod"] (defScope t_1):=⟨rfl,rfl,rfl,by decide +kernel,rfl,by decide +kernel,by decide +kernel⟩
theorem ok_1 (T : Txt K mg ca) (D : DefAt K mg "ratio_of" t_1 ["rod"] f fd) : FnOk P w K mg base CX0 1 f fd ["rod"] (sp_1 K) := by
  refine D.fn.ok sc_1 (fun vs H Q E h => ?_) (fun cdv A outer s H vs Q E hr h => ?_)
  . obtain ⟨a,g,rfl,hs,hl,q⟩:=h
    rfl
  obtain ⟨a,g,rfl,hs,hl,q⟩:=h
  refine ⟨_,(pss_one (ps_ret (pe_ix (ix_l K) (pv 0) pe_int (fun _ _ => rfl)))),?_⟩
  exact ⟨_,rfl,a,_,_,_,rfl,rfl,hs,at_n (j:=0) (by omega),q⟩
theorem c_1 (T:Txt K mg ca):Callee P w K mg base 1 "ratio_of" ["rod"] (sp_1 K):=Callee.of T.d_1 fun _ _ D => ok_1 T D
theorem sc_2 : FnScope ["rod", "deck"] ["rod", "deck"] (defScope t_2) := ⟨rfl, rfl, rfl, by decide +kernel, rfl, by decide +kernel, by decide +kernel⟩
theorem ok_2 (T : Txt K mg ca) (D : DefAt K mg "beads_of" t_2 ["rod", "deck"] f fd) : FnOk P w K mg base CX0 1 f fd ["rod", "deck"] (sp_2 K) := by
  refine D.fn.ok sc_2 (fun vs H Q E h => ?_) (fun cdv A outer s H vs Q E hr h => ?_)
  . obtain ⟨a,g,j,rfl,hs,hl,hj,q⟩:=h
    rfl
  obtain ⟨a,g,j,rfl,hs,hl,hj,q⟩:=h
  refine ⟨_,(pss_one (ps_ret (pe_ix (ix_l K) (pv 0) (pe_op op_add pe_int (pe_op op_mul pe_int (pv 1))) (fun _ _ => rfl)))),?_⟩
  exact ⟨_,rfl,_,rfl,_,_,rfl,rfl,.inl ⟨by decide,by decide⟩,_,_,rfl,rfl,a,_,_,_,rfl,rfl,hs,at_n (j:=1 + 2 * j) (by omega),q⟩
theorem c_2 (T : Txt K mg ca) : Callee P w K mg base 1 "beads_of" ["rod", "deck"] (sp_2 K) := Callee.of T.d_2 fun _ _ D => ok_2 T D
theorem sc_3 : FnScope ["rod", "deck"] ["rod", "deck"] (defScope t_3) := ⟨rfl, rfl, rfl, by decide +kernel, rfl, by decide +kernel, by decide +kernel⟩
theorem ok_3 (T : Txt K mg ca) (D : DefAt K mg "worth_of" t_3 ["rod", "deck"] f fd) : FnOk P w K mg base CX0 1 f fd ["rod", "deck"] (sp_3 K) := by
  refine D.fn.ok sc_3 (fun vs H Q E h => ?_) (fun cdv A outer s H vs Q E hr h => ?_)
  . obtain ⟨a,g,j,rfl,hs,hl,hj,q⟩:=h
    rfl
  obtain ⟨a,g,j,rfl,hs,hl,hj,q⟩:=h
  refine ⟨_,(pss_one (ps_ret (pe_ix (ix_l K) (pv 0) (pe_op op_add pe_int (pe_op op_mul pe_int (pv 1))) (fun _ _ => rfl)))),?_⟩
  exact ⟨_,rfl,_,rfl,_,_,rfl,rfl,.inl ⟨by decide,by decide⟩,_,_,rfl,rfl,a,_,_,_,rfl,rfl,hs,at_n (j:=2 + 2 * j) (by omega),q⟩
theorem c_3 (T : Txt K mg ca) : Callee P w K mg base 1 "worth_of" ["rod", "deck"] (sp_3 K) := Callee.of T.d_3 fun _ _ D => ok_3 T D
theorem sum_ints:∀ l:List Nat,(nz l).sum = ((Na.total l:Nat):Int)
  | [] => rfl
  | x :: l => by
    show ((x:Int) :: nz l).sum = ((x + Na.total l:Nat):Int)
    rw [List.sum_cons,sum_ints l]
    omega
theorem lex_below:∀ {p q:List Nat},p.length = q.length -> HT.lexLt (nz p) (nz q) = Na.below p q
  | [],[],_ => rfl
  | x :: p,y :: q,h => by
    show HT.lexLt ((x:Int) :: nz p) ((y:Int) :: nz q) = (decide (x < y) || (x == y && Na.below p q))
    rw [HT.lexLt_cons,lex_below (by simpa using h)]
    by_cases e:x = y
    . subst e
      rw [if_pos rfl]
      simp
    . rw [if_neg (by omega)]
      have e2:(x == y) = false:=by simpa using e
      have e3:decide ((x:Int) < (y:Int)) = decide (x < y):=decide_eq_decide.mpr (by omega)
      rw [e2,e3]
      simp
  | [],_ :: _,h => by simp at h
  | _ :: _,[],h => by simp at h
theorem sc_4 : FnScope ["way", "other"] ["way", "other"] (defScope t_4) := ⟨rfl, rfl, rfl, by decide +kernel, rfl, by decide +kernel, by decide +kernel⟩
theorem ok_4 (T : Txt K mg ca) (D : DefAt K mg "goes_before" t_4 ["way", "other"] f fd) : FnOk P w K mg base CX0 1 f fd ["way", "other"] (sp_4 K) := by
  refine D.fn.ok sc_4 (fun vs H Q E h => ?_) (fun cdv A outer s H vs Q E hr h => ?_)
  . obtain ⟨a,b,p,q,rfl,ha,hb,hl,k⟩:=h
    rfl
  obtain ⟨a,b,p,q,rfl,ha,hb,hl,k⟩:=h
  refine ⟨_,(pss_cons (ps_if (pt_cmp (pc_neI (pe_callB (sum_l K rfl) (by rfl) T.n_sum bt_sum (pa_cons (pv 0) pa_nil)) (pe_callB (sum_l K rfl) (by rfl) T.n_sum bt_sum (pa_cons (pv 1) pa_nil))))
        (pss_one (ps_ret (pe_cmp (pc_lt (pe_callB (sum_l K rfl) (by rfl) T.n_sum bt_sum (pa_cons (pv 0) pa_nil)) (pe_callB (sum_l K rfl) (by rfl) T.n_sum bt_sum (pa_cons (pv 1) pa_nil))))))
        pss_nil)
      (pss_one (ps_ret (pe_cmpR (gt_l K hr.units0) (pv 0) (pv 1) (nomark _))))),?_⟩
  refine ⟨_,rfl,a,_,rfl,ha,_,rfl,b,_,rfl,hb,_,_,rfl,rfl,_,rfl,ite2 (fun e => ?_) (fun e => ?_)⟩
  . refine ⟨_,rfl,a,_,rfl,ha,_,rfl,b,_,rfl,hb,_,_,rfl,rfl,?_⟩
    rw [sum_ints,sum_ints] at e |-
    have e:Na.total p ≠ Na.total q:=by
      intro z
      rw [z] at e
      simp at e
    have e2:Na.nicer p q = decide ((Na.total p:Int) < (Na.total q:Int)):=by
      unfold Na.nicer
      have e3:(Na.total p == Na.total q) = false:=by simpa using e
      rw [e3,Bool.false_and,Bool.or_false]
      exact decide_eq_decide.mpr (by omega)
    rw [e2] at k
    exact k
  . refine ⟨_,rfl,_,rfl,a,b,_,_,rfl,rfl,ha,hb,by rw [ints_len,ints_len]; exact hl,?_⟩
    rw [sum_ints,sum_ints] at e
    have e:Na.total p = Na.total q:=by
      refine Classical.byContradiction fun z => e ?_
      simp
      omega
    have e2:Na.nicer p q = Na.below q p:=by
      unfold Na.nicer
      rw [e]
      simp
    rw [lex_below hl.symm,<- e2]
    exact k
theorem c_4 (T : Txt K mg ca) : Callee P w K mg base 1 "goes_before" ["way", "other"] (sp_4 K) := Callee.of T.d_4 fun _ _ D => ok_4 T D
theorem sc_5 : FnScope ["hand", "start"] ["hand"] (defScope t_5) := ⟨rfl, rfl, rfl, by decide +kernel, rfl, by decide +kernel, by decide +kernel⟩
theorem ok_5 (T : Txt K mg ca) (D : DefAt K mg "strokes_of" t_5 ["hand"] f fd) : FnOk P w K mg base CX0 1 f fd ["hand"] (sp_5 K) := by
  refine D.fn.ok sc_5 (fun vs H Q E h => ?_) (fun cdv A outer s H vs Q E hr h => ?_)
  . obtain ⟨a,l,rfl,hs,h0,hm,hl,q⟩:=h
    rfl
  obtain ⟨a,l,rfl,hs,h0,hm,hl,q⟩:=h
  refine ⟨_, (pss_one (ps_ret (pe_lc rfl sc_5.nd (pi_range3 rfl T.n_range (pa_cons pe_int (pa_cons (pe_callB (len_s K) (by rfl) T.n_len bt_len (pa_cons (pv 0) pa_nil)) (pa_cons (pe_gi rfl T.v_NUMBERS_A_STROKE) pa_nil)))) (blkOk_by (N := ["hand", "start"]) (sc := defScope t_5) (own := [("start", 1)]) (by decide +kernel)) (fun _ _ _ _ _ => (pg_name (i := 1) sc_5.nd rfl (by first | exact Or.inl rfl | exact Or.inr rfl))) (fun _ _ _ _ _ => pts_nil) (fun _ _ _ _ _ => (pe_slice (sl_l K) (pv 0) (po_some (pv 1)) (po_some (pe_op op_add (pv 1) (pe_gi rfl T.v_NUMBERS_A_STROKE)))))))), ?_⟩
  refine ⟨_,rfl,a,_,rfl,.inl hs,1,_,7,_,rfl,(by rw [vi_len]; exact rgC (n:=(l.length - 1) / 7) (by decide) (by decide) (by decide) (by decide) (by omega) (by omega) (by split <;> omega)),fun D hD => ?_⟩
  refine lc_rangeC (lo:=1) (c:=7) (n:=(l.length - 1) / 7) (fun i H' => ∃ as:List Addr,Same H H' /\ H' D = some (.lst (as.map V.ref)) /\ Own D H' as ((List.range i).map (Mm.grp 7 (l.drop 1))))
    ⟨[],Same.new (Same.refl H) hD,upd_same,rfl,fun j b g e => by simp at e⟩ ?_ ?_
  . rintro i H' hi ⟨as,s1,hd,ho⟩
    refine ⟨rfl,?_⟩
    refine ⟨_,rfl,_,rfl,_,rfl,_,rfl,_,_,rfl,rfl,_,rfl,a,_,rfl,s1.seq hs,fun p hp => ?_⟩
    have np:p ≠ D:=fun z => by rw [z,hd] at hp; cases hp
    rw [cut_n (u:=1 + 7 * i) (v:=1 + 7 * i + 7) (by omega) (by omega)]
    refine ⟨_,(by rw [upd_ne (ne_of_none hd hp)]; exact hd),?_,as ++ [p],?_,?_,?_⟩
    . rw [List.length_map,ho.1,List.length_map,List.length_range]
      exact line_lt (by omega)
    . exact Same.put (Same.new s1 hp) hD
    . rw [List.map_append]
      exact upd_same
    . rw [range_snoc]
      refine ho.snoc (fun b o nb e => ?_) np ?_
      . rw [upd_ne nb,upd_ne (ne_of_none e hp)]
        exact e
      . rw [upd_ne np,upd_same]
        unfold Mm.grp
        rw [Nat.add_sub_cancel_left,List.drop_drop]
  . rintro H' ⟨as,s1,hd,ho⟩
    refine q _ D as ⟨s1,hD⟩ hd ?_
    rw [Mm.groups_is (by decide) (by rw [List.length_drop]; exact hm),List.length_drop]
    exact ho.lists
theorem c_5 (T:Txt K mg ca):Callee P w K mg base 1 "strokes_of" ["hand"] (sp_5 K):=Callee.of T.d_5 fun _ _ D => ok_5 T D
theorem sc_6:FnScope ["stroke"] ["stroke"] (defScope t_6):=⟨rfl,rfl,rfl,by decide +kernel,rfl,by decide +kernel,by decide +kernel⟩
theorem ok_6 (T : Txt K mg ca) (D : DefAt K mg "first_part" t_6 ["stroke"] f fd) : FnOk P w K mg base CX0 1 f fd ["stroke"] (sp_6 K) := by
  refine D.fn.ok sc_6 (fun vs H Q E h => ?_) (fun cdv A outer s H vs Q E hr h => ?_)
  . obtain ⟨a,s,rfl,hs,hl,q⟩:=h
    rfl
  obtain ⟨a,s,rfl,hs,hl,q⟩:=h
  refine ⟨_,(pss_one (ps_ret (pe_slice (sl_l K) (pv 0) (po_some pe_int) (po_some pe_int)))),?_⟩
  refine ⟨_,rfl,_,rfl,_,rfl,a,_,rfl,hs,fun p hp => q _ p (Same.new (Same.refl H) hp) ?_⟩
  rw [cut_n (u:=0) (v:=3) (by omega) (by omega)]
  exact upd_same
theorem c_6 (T:Txt K mg ca):Callee P w K mg base 1 "first_part" ["stroke"] (sp_6 K):=Callee.of T.d_6 fun _ _ D => ok_6 T D
theorem sc_7:FnScope ["stroke"] ["stroke"] (defScope t_7):=⟨rfl,rfl,rfl,by decide +kernel,rfl,by decide +kernel,by decide +kernel⟩
theorem ok_7 (T : Txt K mg ca) (D : DefAt K mg "second_part" t_7 ["stroke"] f fd) : FnOk P w K mg base CX0 1 f fd ["stroke"] (sp_7 K) := by
  refine D.fn.ok sc_7 (fun vs H Q E h => ?_) (fun cdv A outer s H vs Q E hr h => ?_)
  . obtain ⟨a,s,rfl,hs,hl,q⟩:=h
    rfl
  obtain ⟨a,s,rfl,hs,hl,q⟩:=h
  refine ⟨_,(pss_one (ps_ret (pe_slice (sl_l K) (pv 0) (po_some pe_int) (po_some pe_int)))),?_⟩
  refine ⟨_,rfl,_,rfl,_,rfl,a,_,rfl,hs,fun p hp => q _ p (Same.new (Same.refl H) hp) ?_⟩
  rw [cut_n (u:=3) (v:=6) (by omega) (by omega)]
  exact upd_same
theorem c_7 (T:Txt K mg ca):Callee P w K mg base 1 "second_part" ["stroke"] (sp_7 K):=Callee.of T.d_7 fun _ _ D => ok_7 T D
theorem sc_8:FnScope ["stroke"] ["stroke"] (defScope t_8):=⟨rfl,rfl,rfl,by decide +kernel,rfl,by decide +kernel,by decide +kernel⟩
theorem ok_8 (T : Txt K mg ca) (D : DefAt K mg "cost_of" t_8 ["stroke"] f fd) : FnOk P w K mg base CX0 1 f fd ["stroke"] (sp_8 K) := by
  refine D.fn.ok sc_8 (fun vs H Q E h => ?_) (fun cdv A outer s H vs Q E hr h => ?_)
  . obtain ⟨a,g,rfl,hs,hl,q⟩:=h
    rfl
  obtain ⟨a,g,rfl,hs,hl,q⟩:=h
  refine ⟨_,(pss_one (ps_ret (pe_ix (ix_l K) (pv 0) pe_int (fun _ _ => rfl)))),?_⟩
  exact ⟨_,rfl,a,_,_,_,rfl,rfl,hs,at_n (j:=6) (by omega),q⟩
theorem c_8 (T:Txt K mg ca):Callee P w K mg base 1 "cost_of" ["stroke"] (sp_8 K):=Callee.of T.d_8 fun _ _ D => ok_8 T D
theorem sc_9 : FnScope ["op", "d", "x"] ["op", "d", "x"] (defScope t_9) := ⟨rfl, rfl, rfl, by decide +kernel, rfl, by decide +kernel, by decide +kernel⟩
theorem ok_9 (T : Txt K mg ca) (D : DefAt K mg "due_on" t_9 ["op", "d", "x"] f fd) : FnOk P w K mg base CX0 1 f fd ["op", "d", "x"] (sp_9 K) := by
  refine D.fn.ok sc_9 (fun vs H Q E h => ?_) (fun cdv A outer s H vs Q E hr h => ?_)
  . obtain ⟨op,d,x,rfl,q0,q1⟩:=h
    rfl
  obtain ⟨op,d,x,rfl,q0,q1⟩:=h
  refine ⟨_,(pss_one (ps_ret (pe_ifExp (pt_cmp (pc_eqI (pv 0) (pe_gi rfl T.v_ADD))) (pe_op op_add (pv 2) (pv 1)) (pe_op op_sub (pv 2) (pv 1))))),?_⟩
  refine ⟨_,rfl,_,_,rfl,rfl,_,rfl,ite2 (fun eo => ?_) (fun eo => ?_)⟩
  . have eo:=of_decide_eq_true eo
    exact ⟨_,rfl,_,rfl,_,_,rfl,rfl,q0 (by omega)⟩
  . exact ⟨_,rfl,_,rfl,_,_,rfl,rfl,q1 (fun z => eo (decide_eq_true (by omega)))⟩
theorem c_9 (T : Txt K mg ca) : Callee P w K mg base 1 "due_on" ["op", "d", "x"] (sp_9 K) := Callee.of T.d_9 fun _ _ D => ok_9 T D
theorem sc_10 : FnScope ["due", "ratio"] ["due", "ratio"] (defScope t_10) := ⟨rfl, rfl, rfl, by decide +kernel, rfl, by decide +kernel, by decide +kernel⟩
theorem ok_10 (T : Txt K mg ca) (D : DefAt K mg "carries_due" t_10 ["due", "ratio"] f fd) : FnOk P w K mg base CX0 1 f fd ["due", "ratio"] (sp_10 K) := by
  refine D.fn.ok sc_10 (fun vs H Q E h => ?_) (fun cdv A outer s H vs Q E hr h => ?_)
  . obtain ⟨e,r,rfl,q⟩:=h
    rfl
  obtain ⟨e,r,rfl,q⟩:=h
  refine ⟨_,(pss_one (ps_ret (pe_ifExp (pt_chain op_le op_lt pe_int (pv 0) (pv 1)) pe_int pe_int))),?_⟩
  refine ⟨_,rfl,_,_,rfl,rfl,_,rfl,ite2 (fun e1 => ?_) (fun e1 => ?_)⟩
  . have e1:=of_decide_eq_true e1
    refine ⟨_,rfl,_,_,rfl,rfl,_,rfl,ite2 (fun e2 => ?_) (fun e2 => ?_)⟩
    . rw [if_pos ⟨e1,of_decide_eq_true e2⟩] at q
      exact q
    . rw [if_neg (fun z => e2 (decide_eq_true z.2))] at q
      exact q
  . rw [if_neg (fun z => e1 (decide_eq_true z.1))] at q
    exact ⟨_,rfl,iteF q⟩
theorem c_10 (T : Txt K mg ca) : Callee P w K mg base 1 "carries_due" ["due", "ratio"] (sp_10 K) := Callee.of T.d_10 fun _ _ D => ok_10 T D
theorem sc_11 : FnScope ["self", "ground", "strokes", "goal"] ["self", "ground", "strokes", "goal"] (defScope t_11) := ⟨rfl, rfl, rfl, by decide +kernel, rfl, by decide +kernel, by decide +kernel⟩
theorem ok_11 (T : Txt K mg ca) (D : InitAt K mg "Efforts" ca.Efforts "Efforts.__init__" t_11 ["self", "ground", "strokes", "goal"] f fd) : FnOk P w K mg base CX0 1 f fd ["self", "ground", "strokes", "goal"] (sp_11 K ca) := by
  refine D.fn.ok sc_11 (fun vs H Q E h => ?_) (fun cdv A outer s H vs Q E hr h => ?_)
  . obtain ⟨E,dx,G,S,g,q,ss,H2,rfl,hE,s0,nE,hG,hS,hR,hF,k⟩:=h
    rfl
  obtain ⟨E,dx,G,S,g,q,ss,H2,rfl,hE,s0,nE,hG,hS,hR,hF,k⟩:=h
  refine ⟨_,(pss_cons (ps_fld (pv 0) (pv 1) rfl)
      (pss_cons (ps_fld (pv 0) (pv 2) rfl)
      (pss_cons (ps_fld (pv 0) (pe_disp (pps_cons pe_int (pv 3) pps_nil) rfl rfl (by intro z; cases z) (by decide)) rfl)
      (pss_cons (ps_fld (pv 0) pe_int rfl)
      (pss_cons (ps_fld (pv 0) pe_dnewK rfl)
      (pss_one (ps_fld (pv 0) pe_int rfl))))))),?_⟩
  refine ⟨_,rfl,_,rfl,E,ca.Efforts,dx,_,rfl,hE,T.k_Efforts.cl,T.k_Efforts.no 0,(by show 0 < 1000; decide),?_⟩
  have hE1:upd H E (.ins ca.Efforts dx (putF "ground" (.ref G) [])) E = some (.ins ca.Efforts dx [("ground",.ref G)]):=upd_same
  have k1:∀ b o,b ≠ E -> H b = some o -> upd H E (.ins ca.Efforts dx (putF "ground" (.ref G) [])) b = some o:=fun b o nb e => by rw [upd_ne nb]; exact e
  have f1:∀ b,b ≠ E -> upd H E (.ins ca.Efforts dx (putF "ground" (.ref G) [])) b = none -> H b = none:=fun b nb e => by rw [upd_ne nb] at e; exact e
  generalize upd H E (.ins ca.Efforts dx (putF "ground" (.ref G) [])) = H3 at hE1 k1 f1 |-
  refine ⟨_,rfl,_,rfl,E,ca.Efforts,dx,_,rfl,hE1,T.k_Efforts.cl,T.k_Efforts.no 1,(by show 1 < 1000; decide),?_⟩
  have hE2 : upd H3 E (.ins ca.Efforts dx (putF "strokes" (.ref S) [("ground", .ref G)])) E = some (.ins ca.Efforts dx [("ground", .ref G), ("strokes", .ref S)]) := upd_same
  have k2:∀ b o,b ≠ E -> H b = some o -> upd H3 E (.ins ca.Efforts dx (putF "strokes" (.ref S) [("ground",.ref G)])) b = some o:=fun b o nb e => by rw [upd_ne nb]; exact k1 b o nb e
  have f2:∀ b,b ≠ E -> upd H3 E (.ins ca.Efforts dx (putF "strokes" (.ref S) [("ground",.ref G)])) b = none -> H b = none:=fun b nb e => by rw [upd_ne nb] at e; exact f1 b nb e
  generalize upd H3 E (.ins ca.Efforts dx (putF "strokes" (.ref S) [("ground",.ref G)])) = H4 at hE2 k2 f2 |-
  intro F hF4
  have nFE:F ≠ E:=fun z => by rw [z,hE2] at hF4; cases hF4
  have hF0:=f2 F nFE hF4
  refine ⟨_,rfl,upd_same,[(kN 0,.int ((1 <<< Gd.pl g q:Nat):Int))],rfl,by show 1 <= 15; decide,?_⟩
  have hF5:upd (upd H4 F (.dK [])) F (.dK (mergeK [] [(kN 0,.int ((1 <<< Gd.pl g q:Nat):Int))])) F = some (.dK [(kN 0,.int ((1 <<< Gd.pl g q:Nat):Int))]):=upd_same
  have k3:∀ b o,b ≠ E -> H b = some o -> upd (upd H4 F (.dK [])) F (.dK (mergeK [] [(kN 0,.int ((1 <<< Gd.pl g q:Nat):Int))])) b = some o:=fun b o nb e => by rw [upd_ne (ne_of_none e hF0),upd_ne (ne_of_none e hF0)]; exact k2 b o nb e
  have f3:∀ b,b ≠ E -> upd (upd H4 F (.dK [])) F (.dK (mergeK [] [(kN 0,.int ((1 <<< Gd.pl g q:Nat):Int))])) b = none -> H b = none:=fun b nb e => by
    have nb2:b ≠ F:=fun z => by rw [z,upd_same] at e; cases e
    rw [upd_ne nb2,upd_ne nb2] at e
    exact f2 b nb e
  have hE3 : upd (upd H4 F (.dK [])) F (.dK (mergeK [] [(kN 0, .int ((1 <<< Gd.pl g q : Nat) : Int))])) E = some (.ins ca.Efforts dx [("ground", .ref G), ("strokes", .ref S)]) := by rw [upd_ne (Ne.symm nFE), upd_ne (Ne.symm nFE)]; exact hE2
  generalize upd (upd H4 F (.dK [])) F (.dK (mergeK [] [(kN 0,.int ((1 <<< Gd.pl g q:Nat):Int))])) = H5 at hF5 k3 f3 hE3 |-
  refine ⟨_,rfl,E,ca.Efforts,dx,_,rfl,hE3,T.k_Efforts.cl,T.k_Efforts.no 2,(by show 2 < 1000; decide),?_⟩
  refine ⟨_,rfl,E,ca.Efforts,dx,_,rfl,upd_same,T.k_Efforts.cl,T.k_Efforts.no 3,(by show 3 < 1000; decide),?_⟩
  rw [upd_upd]
  intro A hA6
  have nAE:A ≠ E:=fun z => by rw [z,upd_same] at hA6; cases hA6
  have hA5:H5 A = none:=by rw [upd_ne nAE] at hA6; exact hA6
  have nAF:A ≠ F:=fun z => by rw [z,hF5] at hA5; cases hA5
  have hA0:=f3 A nAE hA5
  refine ⟨_,rfl,E,ca.Efforts,dx,_,rfl,by rw [upd_ne (Ne.symm nAE)]; exact upd_same,T.k_Efforts.cl,T.k_Efforts.no 4,(by show 4 < 1000; decide),?_⟩
  refine ⟨_,rfl,E,ca.Efforts,dx,_,rfl,upd_same,T.k_Efforts.cl,T.k_Efforts.no 5,(by show 5 < 1000; decide),?_⟩
  rw [upd_upd]
  have kk:∀ (fs fs':List (Str × V)) b o,b ≠ E -> H b = some o -> upd (upd (upd H5 E (.ins ca.Efforts dx fs)) A (.dK [])) E (.ins ca.Efforts dx fs') b = some o:=fun fs fs' b o nb e => by rw [upd_ne nb,upd_ne (ne_of_none e hA0),upd_ne nb]; exact k3 b o nb e
  refine k _ F A 0 0 0 [(kN 0,.int ((1 <<< Gd.pl g q:Nat):Int))] [] (kk _ _) hF0 hA0 ⟨fun b o e => kk _ _ b o (ne_of_none e nE) (s0 _ _ e),nE,s0.free hF0,s0.free hA0,Ne.symm nFE,Ne.symm nAE,Ne.symm nAF,hG,hS,hR,hF,⟨dx,upd_same⟩,?_,?_,eff_start hF⟩
  . rw [upd_ne nFE,upd_ne (Ne.symm nAF),upd_ne nFE]
    exact hF5
  . rw [upd_ne nAE,upd_same]
theorem c_11 (T : Txt K mg ca) : CalleeI P w K mg base 1 "Efforts" ca.Efforts ["self", "ground", "strokes", "goal"] (sp_11 K ca) := CalleeI.of T.d_11 fun _ _ D => ok_11 T D
theorem sc_12 : FnScope ["self", "effort"] ["self", "effort"] (defScope t_12) := ⟨rfl, rfl, rfl, by decide +kernel, rfl, by decide +kernel, by decide +kernel⟩
theorem ok_12 (T : Txt K mg ca) (D : MethAt K ca.Efforts "at" "Efforts.at" t_12 ["self", "effort"] f fd) : FnOk P w K mg base CX0 1 f fd ["self", "effort"] (sp_12 K ca) := by
  refine D.fn.ok sc_12 (fun vs H Q E h => ?_) (fun cdv A outer s H vs Q E hr h => ?_)
  . obtain ⟨E,F,A,G,S,g,q,ss,e,L,N,fnd,st,H2,z,rfl,hA,hz,k⟩:=h
    rfl
  obtain ⟨E,F,A,G,S,g,q,ss,e,L,N,fnd,st,H2,z,rfl,hA,hz,k⟩:=h
  have hu:=hu_of hr
  refine ⟨_,(pss_one (ps_ret (pe_dget2 hu (pe_fld (pv 0) rfl) (pv 1) pe_int ⟨rfl,rfl,rfl,rfl⟩))),?_⟩
  obtain ⟨dx,ob⟩:=hA.ob
  refine ⟨_,rfl,E,ca.Efforts,dx,_,_,rfl,ob,T.k_Efforts.cl,T.k_Efforts.no 4,ef4,A,rfl,.inl ⟨st,.inl hA.sa⟩,_,rfl,_,DGet.k (k:=Sum.inl z) hA.sa,?_⟩
  cases ev:valV st (Sum.inl z) with
  | none =>
    refine k 0 (Gd.Is.zero.mono fun u hu => ⟨fun y => y.elim,fun ⟨c,ec,hc⟩ => ?_⟩)
    rw [ec] at ev
    exact hA.eff.comp c (by omega) ev u hu hc
  | some v =>
    obtain ⟨c,M,ekv,hc,hM⟩:=hA.eff.sk _ (val_mem ev)
    obtain ⟨e1,rfl⟩:=Prod.mk.inj ekv
    have e1:z = (c:Int):=Sum.inl.inj e1
    refine k M (hM.mono fun u _ => ⟨fun y => ⟨c,e1,y⟩,fun ⟨c',ec,y⟩ => ?_⟩)
    have:c' = c:=by omega
    rw [<- this]
    exact y
theorem c_12 (T : Txt K mg ca) : CalleeM P w K mg base CX0 1 ca.Efforts "at" ["self", "effort"] (sp_12 K ca) := CalleeM.of T.d_12 fun _ _ D => ok_12 T D
theorem sc_13 : FnScope ["self", "pushed", "deck"] ["self", "pushed"] (defScope t_13) := ⟨rfl, rfl, rfl, by decide +kernel, rfl, by decide +kernel, by decide +kernel⟩
theorem ok_13 (T : Txt K mg ca) (D : MethAt K ca.Ground "only" "Ground.only" t_13 ["self", "pushed"] f fd) : FnOk P w K mg base CX0 1 f fd ["self", "pushed"] (sp_13 K ca) := by
  refine D.fn.ok sc_13 (fun vs H Q E h => ?_) (fun cdv A outer s H vs Q E hr h => ?_)
  . obtain ⟨G,a,g,p,rfl,hG,hp,hF,hR,q⟩:=h
    rfl
  obtain ⟨G,a,g,p,rfl,hG,hp,hF,hR,q⟩:=h
  refine ⟨_, (pss_one (ps_ret (pe_op op_shlN pe_int (pe_callB (sum_l K rfl) (by rfl) T.n_sum bt_sum (pa_cons (pe_lc rfl sc_13.nd (pi_range1 rfl T.n_range (pa_cons (pe_gi rfl T.v_DECKS) pa_nil)) (blkOk_by (N := ["self", "pushed", "deck"]) (sc := defScope t_13) (own := [("deck", 2)]) (by decide +kernel)) (fun _ _ _ _ _ => (pg_name (i := 2) sc_13.nd rfl (by first | exact Or.inl rfl | exact Or.inr rfl))) (fun _ _ _ _ _ => pts_nil) (fun _ _ _ _ _ => (pe_op op_mul (pe_ix (ix_l K) (pv 1) (pv 2) (fun _ _ => rfl)) (pe_ix (ix_l K) (pe_fldK K (pv 0) rfl) (pv 2) (fun _ _ => rfl))))) pa_nil))))), ?_⟩
  obtain ⟨dx,s,r,as,hG1,hs,hr1,h3,hro⟩:=hG
  have h16:=all16 hR
  refine ⟨3,rfl,by decide,by decide,fun D hD => ?_⟩
  refine lc_range (lo:=0) (n:=3) (fun i H' => Same H H' /\ H' D = some (.lst (((List.range i).map fun j => ((p.getD j 0 * Gd.str g j:Nat):Int)).map V.int)))
    ⟨Same.new (Same.refl H) hD,upd_same⟩ ?_ ?_
  . rintro i H' hi ⟨s1,hd⟩
    have hb:=hF.2 i hi
    have hb2:=be_le hR hi
    have hle:=Gd.str_le h16 (d:=i) (by omega)
    refine ⟨rfl,?_⟩
    refine ⟨_,rfl,_,rfl,a,_,_,_,rfl,rfl,s1.seq hp,at_n (j:=i) (by have:=hF.1; omega),_,rfl,G,ca.Ground,dx,_,_,rfl,s1 _ _ hG1,T.k_Ground.cl,T.k_Ground.no 0,gf0,_,rfl,s,_,_,_,rfl,rfl,s1.seq (SqL.of hs),nz_at (srd_at g (d:=i) (by omega)),_,_,rfl,rfl,.inl ⟨by omega,by omega⟩,?_⟩
    refine ⟨_,hd,line_lt (by rw [List.length_map,List.length_map,List.length_range]; omega),Same.put s1 hD,?_⟩
    rw [upd_same,range_snoc,List.map_append]
    congr 2
  . rintro H' ⟨s1,hd⟩
    refine ⟨D,_,rfl,SqL.of hd,1,Gd.pl g p,rfl,?_,⟨big1,?_⟩,q H' s1⟩
    . congr 1
      rw [Gd.pl_sum]
      show ((p.getD 0 0 * Gd.str g 0:Nat):Int) + (((p.getD 1 0 * Gd.str g 1:Nat):Int) + (((p.getD 2 0 * Gd.str g 2:Nat):Int) + 0)) = _
      push_cast
      omega
    . have:=hF.lt
      have:=Gd.all_le h16
      omega
theorem c_13 (T : Txt K mg ca) : CalleeM P w K mg base CX0 1 ca.Ground "only" ["self", "pushed"] (sp_13 K ca) := CalleeM.of T.d_13 fun _ _ D => ok_13 T D
theorem sc_14 : FnScope ["self", "standings", "deck", "to_the_beam", "number", "apart"] ["self", "standings", "deck", "to_the_beam", "number"] (defScope t_14) := ⟨rfl, rfl, rfl, by decide +kernel, rfl, by decide +kernel, by decide +kernel⟩
theorem ok_14 (T : Txt K mg ca) (D : MethAt K ca.Ground "ahead_of_beads" "Ground.ahead_of_beads" t_14 ["self", "standings", "deck", "to_the_beam", "number"] f fd) : FnOk P w K mg base CX0 1 f fd ["self", "standings", "deck", "to_the_beam", "number"] (sp_14 K ca) := by
  refine D.fn.ok sc_14 (fun vs H Q E h => ?_) (fun cdv A outer s H vs Q E hr h => ?_)
  . obtain ⟨G,g,N,d,k,to_,rfl,hG,hR,hd,hk,hN,q⟩:=h
    rfl
  obtain ⟨G,g,N,d,k,to_,rfl,hG,hR,hd,hk,hN,q⟩:=h
  refine ⟨_,(pss_cons (ps_set (i:=5) sc_14.nd rfl (by first | exact Or.inl rfl | exact Or.inr rfl) (pe_op op_mul (pv 4) (pe_ix (ix_l K) (pe_fld (pv 0) rfl) (pv 2) (fun _ _ => rfl))))
      (pss_cons (ps_if (pt_val (pv 3))
        (pss_one (ps_ret (pe_op op_andN (pe_op op_shrN (pv 1) (pv 5)) (pe_ix (ix_l K) (pe_ix (ix_l K) (pe_fld (pv 0) rfl) (pv 2) (fun _ _ => rfl)) (pv 4) (fun _ _ => rfl)))))
        pss_nil)
      (pss_one (ps_ret (pe_op op_shlN (pe_op op_andN (pv 1) (pe_ix (ix_l K) (pe_ix (ix_l K) (pe_fld (pv 0) rfl) (pv 2) (fun _ _ => rfl)) (pv 4) (fun _ _ => rfl))) (pv 5)))))),?_⟩
  obtain ⟨dx,s,r,as,hG1,hs,hr1,h3,hro⟩:=hG
  have h16:=all16 hR
  have hle:=Gd.str_le h16 (d:=d) (by omega)
  obtain ⟨b,hb⟩:∃ b,as[d]? = some b:=⟨_,List.getElem?_eq_getElem (by omega)⟩
  have hro:=hro d b hb
  have hks:k * Gd.str g d <= 61440:=by
    have:=Nat.mul_le_mul hk hle
    omega
  refine ⟨_,rfl,_,rfl,G,ca.Ground,dx,_,_,rfl,hG1,T.k_Ground.cl,T.k_Ground.no 0,gf0,_,rfl,s,_,_,_,rfl,rfl,SqL.of hs,nz_at (srd_at g (d:=d) (by omega)),_,_,rfl,rfl,.inl ⟨by omega,by omega⟩,?_⟩
  refine ⟨_,rfl,_,rfl,ite2 (fun eb => ?_) (fun eb => ?_)⟩
  . rw [eb] at q
    refine ⟨_,rfl,_,rfl,N,k * Gd.str g d,rfl,by rw [Int.natCast_mul],_,rfl,G,ca.Ground,dx,_,_,rfl,hG1,T.k_Ground.cl,T.k_Ground.no 1,gf1,_,rfl,r,_,_,_,rfl,rfl,SqL.of hr1,at_r hb,_,rfl,b,_,_,_,rfl,rfl,SqL.of hro,nz_at (rooms_at g d hk),_,_,rfl,rfl,?_⟩
    exact q
  . have eb:to_ = false:=by simpa using eb
    rw [eb] at q
    refine ⟨_,rfl,_,rfl,G,ca.Ground,dx,_,_,rfl,hG1,T.k_Ground.cl,T.k_Ground.no 1,gf1,_,rfl,r,_,_,_,rfl,rfl,SqL.of hr1,at_r hb,_,rfl,b,_,_,_,rfl,rfl,SqL.of hro,nz_at (rooms_at g d hk),_,_,rfl,rfl,_,rfl,_,k * Gd.str g d,rfl,by rw [Int.natCast_mul],⟨?_,by omega⟩,?_⟩
    . exact big_of (n:=Gd.all g) (Nat.lt_of_le_of_lt Nat.and_le_left hN) (by have:=Gd.all_le h16; omega)
    . exact q
theorem c_14 (T : Txt K mg ca) : CalleeM P w K mg base CX0 1 ca.Ground "ahead_of_beads" ["self", "standings", "deck", "to_the_beam", "number"] (sp_14 K ca) := CalleeM.of T.d_14 fun _ _ D => ok_14 T D
theorem sc_15 : FnScope ["self", "op", "d", "x"] ["self", "op", "d", "x"] (defScope t_15) := ⟨rfl, rfl, rfl, by decide +kernel, rfl, by decide +kernel, by decide +kernel⟩
theorem ok_15 (T : Txt K mg ca) (D : EInitAt K mg "NoActsLeadThere" ca.NoActsLeadThere ["head"] "NoActsLeadThere.__init__" t_15 ["self", "op", "d", "x"] f fd) : FnOk P w K mg base CX0 1 f fd ["self", "op", "d", "x"] (sp_15 K ca) := by
  refine D.fn.ok sc_15 (fun vs H Q E h => ?_) (fun cdv A outer s H vs Q E hr h => ?_)
  . obtain ⟨x,op,d,z,rfl,hx,q⟩:=h
    rfl
  obtain ⟨x,op,d,z,rfl,hx,q⟩:=h
  refine ⟨_,(pss_one (Ex.ps_fldX D.ex (by simp) hb_head (pv 0) (pe_lst (pa_cons (pv 1) (pa_cons (pv 2) (pa_cons (pv 3) pa_nil)))) rfl)),?_⟩
  refine ⟨_,rfl,_,rfl,_,rfl,(by show 3 <= sizeLine; decide),fun p hp => ?_⟩
  have nxp:x ≠ p:=ne_of_none hx hp
  refine ⟨_,rfl,x,rfl,by rw [upd_ne nxp]; exact hx,fun dx hdx ndx => q _ dx upd_same ndx ⟨p,?_,?_⟩⟩
  . rw [Ex.rm_ne ndx,upd_ne ndx,upd_same]
  . have npd:p ≠ dx:=fun y => by rw [<- y,upd_same] at hdx; cases hdx
    rw [Ex.rm_ne (Ne.symm nxp),upd_ne (Ne.symm nxp),upd_ne npd,upd_same]
    rfl
theorem c_15 (T : Txt K mg ca) : CalleeE P w K mg base 1 "NoActsLeadThere" ca.NoActsLeadThere ["head"] ["self", "op", "d", "x"] (sp_15 K ca) := CalleeE.of T.d_15 fun _ _ D => ok_15 T D
theorem sc_16 : FnScope ["self", "op", "d", "x"] ["self", "op", "d", "x"] (defScope t_16) := ⟨rfl, rfl, rfl, by decide +kernel, rfl, by decide +kernel, by decide +kernel⟩
theorem ok_16 (T : Txt K mg ca) (D : EInitAt K mg "TooManySteps" ca.TooManySteps ["head"] "TooManySteps.__init__" t_16 ["self", "op", "d", "x"] f fd) : FnOk P w K mg base CX0 1 f fd ["self", "op", "d", "x"] (sp_16 K ca) := by
  refine D.fn.ok sc_16 (fun vs H Q E h => ?_) (fun cdv A outer s H vs Q E hr h => ?_)
  . obtain ⟨x,op,d,z,rfl,hx,q⟩:=h
    rfl
  obtain ⟨x,op,d,z,rfl,hx,q⟩:=h
  refine ⟨_,(pss_one (Ex.ps_fldX D.ex (by simp) hb_head (pv 0) (pe_lst (pa_cons (pv 1) (pa_cons (pv 2) (pa_cons (pv 3) pa_nil)))) rfl)),?_⟩
  refine ⟨_,rfl,_,rfl,_,rfl,(by show 3 <= sizeLine; decide),fun p hp => ?_⟩
  have nxp:x ≠ p:=ne_of_none hx hp
  refine ⟨_,rfl,x,rfl,by rw [upd_ne nxp]; exact hx,fun dx hdx ndx => q _ dx upd_same ndx ⟨p,?_,?_⟩⟩
  . rw [Ex.rm_ne ndx,upd_ne ndx,upd_same]
  . have npd:p ≠ dx:=fun y => by rw [<- y,upd_same] at hdx; cases hdx
    rw [Ex.rm_ne (Ne.symm nxp),upd_ne (Ne.symm nxp),upd_ne npd,upd_same]
    rfl
theorem c_16 (T : Txt K mg ca) : CalleeE P w K mg base 1 "TooManySteps" ca.TooManySteps ["head"] ["self", "op", "d", "x"] (sp_16 K ca) := CalleeE.of T.d_16 fun _ _ D => ok_16 T D
theorem sc_17 : FnScope ["faults", "fault"] ["faults"] (defScope t_17) := ⟨rfl, rfl, rfl, by decide +kernel, rfl, by decide +kernel, by decide +kernel⟩
theorem ok_17 (T : Txt K mg ca) (D : DefAt K mg "first_fault" t_17 ["faults"] f fd) : FnOk P w K mg base CX0 1 f fd ["faults"] (sp_17 K) := by
  refine D.fn.ok sc_17 (fun vs H Q E h => ?_) (fun cdv A outer s H vs Q E hr h => ?_)
  . obtain ⟨a,xs,rfl,hs,q⟩:=h
    rfl
  obtain ⟨a,xs,rfl,hs,q⟩:=h
  refine ⟨_,(pss_cons (ps_for PassesOwn.never rfl (pi_list (pv 0)) (pg_name (i:=1) sc_17.nd rfl (by first | exact Or.inl rfl | exact Or.inr rfl))
        (pss_one (ps_if (pt_cmp (pc_notN (pv 1)))
          (pss_one (ps_ret (pv 1)))
          pss_nil)))
      (pss_one (ps_ret pe_non))),?_⟩
  refine ⟨_,rfl,a,rfl,⟨_,hs⟩,for_list (a:=a) (xs:=xs) (fun i σ H' => ∃ v:Option V,σ = [some (.ref a),v] /\ H' = H /\ firstV xs = firstV (xs.drop i)) ⟨none,rfl,rfl,rfl⟩ (fun i σ H' _ ⟨_,_,e,_⟩ => by rw [e]; exact hs) ?_ ?_⟩
  . rintro i x σ H' hi ⟨v,rfl,rfl,he⟩
    obtain ⟨hil,hie⟩:=List.getElem?_eq_some_iff.mp hi
    rw [List.drop_eq_getElem_cons hil,hie] at he
    by_cases c:x = .non
    . subst c
      exact ⟨_,rfl,_,rfl,iteF ⟨_,rfl,rfl,he⟩⟩
    . have e:firstV xs = x:=by
        rw [he]
        cases x <;> first | rfl | exact absurd rfl c
      rw [e] at q
      exact ⟨_,rfl,_,rfl,ite2 (fun _ => ⟨_,rfl,q⟩) (fun z => absurd (by rw [decide_eq_false c]; rfl) z)⟩
  . rintro σ H' ⟨v,rfl,rfl,he⟩
    rw [List.drop_length] at he
    rw [he] at q
    exact q
theorem c_17 (T:Txt K mg ca):Callee P w K mg base 1 "first_fault" ["faults"] (sp_17 K):=Callee.of T.d_17 fun _ _ D => ok_17 T D
theorem sc_18 : FnScope ["beads", "worth"] ["beads", "worth"] (defScope t_18) := ⟨rfl, rfl, rfl, by decide +kernel, rfl, by decide +kernel, by decide +kernel⟩
theorem ok_18 (T : Txt K mg ca) (D : DefAt K mg "deck_can_be" t_18 ["beads", "worth"] f fd) : FnOk P w K mg base CX0 1 f fd ["beads", "worth"] (sp_18 K) := by
  refine D.fn.ok sc_18 (fun vs H Q E h => ?_) (fun cdv A outer s H vs Q E hr h => ?_)
  . obtain ⟨b,w,rfl,q⟩:=h
    rfl
  obtain ⟨b,w,rfl,q⟩:=h
  refine ⟨_,(pss_cons (ps_if (PW.pt (pw_or (pt_cmp (pc_eqI (pv 0) pe_int)) (pw_or1 (pt_cmp (pc_eqI (pv 1) pe_int)))))
        (pss_one (ps_ret (pe_cmp (pc_eqI (pv 0) (pv 1)))))
        pss_nil)
      (pss_one (ps_ret (pe_and (pe_cmp (pc_le (pv 0) (pe_gi rfl T.v_MOST_BEADS))) (pe_one (pe_cmp (pc_le (pv 1) (pe_gi rfl T.v_HIGHEST_WORTH)))))))),?_⟩
  unfold Rm.DeckOk Mm.DeckIn at q
  refine ⟨_,rfl,_,_,rfl,rfl,_,rfl,ite2 (fun e0 => ?_) (fun e0 => ⟨_,rfl,_,_,rfl,rfl,_,rfl,ite2 (fun e1 => ?_) (fun e1 => ?_)⟩)⟩
  . have e0:=of_decide_eq_true e0
    refine ⟨_,rfl,_,rfl,_,_,rfl,rfl,q _ ?_⟩
    simp only [decide_eq_true_eq]
    omega
  . have e1:=of_decide_eq_true e1
    refine ⟨_,rfl,_,rfl,_,_,rfl,rfl,q _ ?_⟩
    simp only [decide_eq_true_eq]
    omega
  . have e0:¬ (b:Int) = 0:=fun z => e0 (decide_eq_true z)
    have e1:¬ (w:Int) = 0:=fun z => e1 (decide_eq_true z)
    refine ⟨_,rfl,_,_,rfl,rfl,_,rfl,ite2 (fun e2 => ?_) (fun e2 => ?_)⟩
    . have e2:=of_decide_eq_true e2
      refine ⟨_,rfl,_,_,rfl,rfl,q _ ?_⟩
      simp only [decide_eq_true_eq]
      omega
    . have e2:¬ (b:Int) <= 15:=fun z => e2 (decide_eq_true z)
      refine q _ ?_
      simp only [Bool.false_eq_true,false_iff]
      omega
theorem c_18 (T : Txt K mg ca) : Callee P w K mg base 1 "deck_can_be" ["beads", "worth"] (sp_18 K) := Callee.of T.d_18 fun _ _ D => ok_18 T D
theorem sc_19 : FnScope ["hand", "behind"] ["hand"] (defScope t_19) := ⟨rfl, rfl, rfl, by decide +kernel, rfl, by decide +kernel, by decide +kernel⟩
theorem ok_19 (T : Txt K mg ca) (D : DefAt K mg "hand_can_be" t_19 ["hand"] f fd) : FnOk P w K mg base CX0 1 f fd ["hand"] (sp_19 K) := by
  refine D.fn.ok sc_19 (fun vs H Q E h => ?_) (fun cdv A outer s H vs Q E hr h => ?_)
  . obtain ⟨a,l,rfl,hs,hl,q⟩:=h
    rfl
  obtain ⟨a,l,rfl,hs,hl,q⟩:=h
  refine ⟨_,(pss_cons (ps_if (PW.pt (pw_or (pt_cmp (pc_eqI (pe_callB (len_s K) (by rfl) T.n_len bt_len (pa_cons (pv 0) pa_nil)) pe_int)) (pw_or1 (pt_cmp (pc_gt (pe_ix (ix_l K) (pv 0) pe_int (fun _ _ => rfl)) (pe_gi rfl T.v_HIGHEST_COST))))))
        (pss_one (ps_ret pe_bl))
        pss_nil)
      (pss_cons (ps_set (i:=1) sc_19.nd rfl (by first | exact Or.inl rfl | exact Or.inr rfl) (pe_op op_sub (pe_callB (len_s K) (by rfl) T.n_len bt_len (pa_cons (pv 0) pa_nil)) pe_int))
      (pss_one (ps_ret (pe_and (pe_cmp (pc_eqI (pe_op op_mod (pv 1) (pe_gi rfl T.v_NUMBERS_A_STROKE)) pe_int)) (pe_one (pe_cmp (pc_le (pe_op op_fdiv (pv 1) (pe_gi rfl T.v_NUMBERS_A_STROKE)) (pe_gi rfl T.v_MOST_STROKES))))))))),?_⟩
  have no:¬ Mm.HandLen l -> Q (.bl false) H:=fun z => q false (by simp only [Bool.false_eq_true,false_iff]; exact z)
  have ll:=vi_len l
  refine ⟨_,rfl,a,_,rfl,.inl hs,_,_,rfl,rfl,_,rfl,ite2 (fun e0 => ?_) (fun e0 => ?_)⟩
  . have e0:=of_decide_eq_true e0
    refine no fun z => z.1 (List.eq_nil_of_length_eq_zero ?_)
    rw [ll] at e0
    omega
  . have e0:¬ l.length = 0:=fun z => e0 (decide_eq_true (by rw [ll]; omega))
    have el:l ≠ []:=fun z => e0 (by rw [z]; rfl)
    refine ⟨_,rfl,a,_,_,_,rfl,rfl,hs,at_n (j:=0) (by omega),_,_,rfl,rfl,_,rfl,ite2 (fun e1 => ?_) (fun e1 => ?_)⟩
    . have e1:=of_decide_eq_true e1
      exact no fun z => by have:=z.2.1; omega
    . have e1:¬ (255:Int) < (l.getD 0 0:Nat):=fun z => e1 (decide_eq_true z)
      refine ⟨_,rfl,a,_,rfl,.inl hs,_,_,rfl,rfl,?_⟩
      refine ⟨_,rfl,_,_,rfl,rfl,(by show (0:Int) < 7; decide),_,_,rfl,rfl,_,rfl,ite2 (fun e2 => ?_) (fun e2 => ?_)⟩
      . have e2:=of_decide_eq_true e2
        refine ⟨_,rfl,_,_,rfl,rfl,⟨by decide,by decide⟩,_,_,rfl,rfl,q _ ?_⟩
        rw [ll] at e2 |-
        simp only [decide_eq_true_eq]
        unfold Mm.HandLen
        constructor
        . intro z
          exact ⟨el,by omega,by omega,by omega⟩
        . rintro ⟨_,_,z1,z2⟩
          omega
      . refine no fun z => e2 (decide_eq_true ?_)
        rw [ll]
        have:=z.2.2.1
        omega
theorem c_19 (T:Txt K mg ca):Callee P w K mg base 1 "hand_can_be" ["hand"] (sp_19 K):=Callee.of T.d_19 fun _ _ D => ok_19 T D
theorem sc_20:FnScope ["part"] ["part"] (defScope t_20):=⟨rfl,rfl,rfl,by decide +kernel,rfl,by decide +kernel,by decide +kernel⟩
theorem ok_20 (T : Txt K mg ca) (D : DefAt K mg "part_can_be" t_20 ["part"] f fd) : FnOk P w K mg base CX0 1 f fd ["part"] (sp_20 K) := by
  refine D.fn.ok sc_20 (fun vs H Q E h => ?_) (fun cdv A outer s H vs Q E hr h => ?_)
  . obtain ⟨a,p,rfl,hs,hl,q⟩:=h
    rfl
  obtain ⟨a,p,rfl,hs,hl,q⟩:=h
  refine ⟨_,(pss_one (ps_ret (pe_and (pe_cmp (pc_lt (pe_ix (ix_l K) (pv 0) pe_int (fun _ _ => rfl)) (pe_gi rfl T.v_DECKS))) (pe_and (pe_chain op_le op_le pe_int (pe_ix (ix_l K) (pv 0) pe_int (fun _ _ => rfl)) (pe_gi rfl T.v_HIGHEST_DIRECTION)) (pe_one (pe_chain op_le op_le pe_int (pe_ix (ix_l K) (pv 0) pe_int (fun _ _ => rfl)) (pe_gi rfl T.v_MOST_BEADS))))))),?_⟩
  unfold PartIn at q
  have no:¬ (p.getD 0 0 < 3 /\ (1 <= p.getD 1 0 /\ p.getD 1 0 <= 2) /\ (1 <= p.getD 2 0 /\ p.getD 2 0 <= 15)) -> Q (.bl false) H:=fun z => q false (by simp only [Bool.false_eq_true,false_iff]; exact z)
  refine ⟨_,rfl,a,_,_,_,rfl,rfl,hs,at_n (j:=0) (by omega),_,_,rfl,rfl,_,rfl,ite2 (fun e0 => ?_) (fun e0 => no fun z => e0 (decide_eq_true (by omega)))⟩
  have e0:=of_decide_eq_true e0
  refine ⟨_,rfl,a,_,_,_,rfl,rfl,hs,at_n (j:=1) (by omega),_,_,rfl,rfl,_,rfl,ite2 (fun e1 => ?_) (fun e1 => ⟨_,rfl,iteF (no fun z => e1 (decide_eq_true (by omega)))⟩)⟩
  have e1:=of_decide_eq_true e1
  refine ⟨_,_,rfl,rfl,_,rfl,ite2 (fun e2 => ?_) (fun e2 => no fun z => e2 (decide_eq_true (by omega)))⟩
  have e2:=of_decide_eq_true e2
  refine ⟨_,rfl,a,_,_,_,rfl,rfl,hs,at_n (j:=2) (by omega),_,_,rfl,rfl,_,rfl,ite2 (fun e3 => ?_) (fun e3 => no fun z => e3 (decide_eq_true (by omega)))⟩
  have e3:=of_decide_eq_true e3
  refine ⟨_,_,rfl,rfl,q _ ?_⟩
  simp only [decide_eq_true_eq]
  omega
theorem c_20 (T:Txt K mg ca):Callee P w K mg base 1 "part_can_be" ["part"] (sp_20 K):=Callee.of T.d_20 fun _ _ D => ok_20 T D
theorem sc_21 : FnScope ["rod", "deck"] ["rod"] (defScope t_21) := ⟨rfl, rfl, rfl, by decide +kernel, rfl, by decide +kernel, by decide +kernel⟩
theorem ok_21 (T : Txt K mg ca) (D : DefAt K mg "worth_together" t_21 ["rod"] f fd) : FnOk P w K mg base CX0 2 f fd ["rod"] (sp_21 K) := by
  refine D.fn.ok sc_21 (fun vs H Q E h => ?_) (fun cdv A outer s H vs Q E hr h => ?_)
  . obtain ⟨a,g,rfl,hs,hl,hR,q⟩:=h
    rfl
  obtain ⟨a,g,rfl,hs,hl,hR,q⟩:=h
  refine ⟨_, (pss_one (ps_ret (pe_callB (sum_l K rfl) (by rfl) T.n_sum bt_sum (pa_cons (pe_lc rfl sc_21.nd (pi_range1 rfl T.n_range (pa_cons (pe_gi rfl T.v_DECKS) pa_nil)) (blkOk_by (N := ["rod", "deck"]) (sc := defScope t_21) (own := [("deck", 1)]) (by decide +kernel)) (fun _ _ _ _ _ => (pg_name (i := 1) sc_21.nd rfl (by first | exact Or.inl rfl | exact Or.inr rfl))) (fun _ _ _ _ _ => pts_nil) (fun _ _ _ _ _ => (pe_op op_mul (pe_c (c_2 T) hr (by decide) rfl (pa_cons (pv 0) (pa_cons (pv 1) pa_nil))) (pe_c (c_3 T) hr (by decide) rfl (pa_cons (pv 0) (pa_cons (pv 1) pa_nil)))))) pa_nil)))), ?_⟩
  refine ⟨3,rfl,by decide,by decide,fun D hD => ?_⟩
  refine lc_range (lo:=0) (n:=3) (fun i H' => Same H H' /\ H' D = some (.lst (((List.range i).map fun j => ((Rm.beOf g j * Rm.woOf g j:Nat):Int)).map V.int)))
    ⟨Same.new (Same.refl H) hD,upd_same⟩ ?_ ?_
  . rintro i H' hi ⟨s1,hd⟩
    have hb:=be_le hR hi
    refine ⟨rfl,?_⟩
    refine ⟨_,rfl,_,rfl,a,g,i,by rw [Int.zero_add]; rfl,s1.seq hs,hl,hi,_,rfl,_,rfl,a,g,i,by rw [Int.zero_add]; rfl,s1.seq hs,hl,hi,_,_,rfl,rfl,.inl ⟨by omega,by omega⟩,?_⟩
    refine ⟨_,hd,line_lt (by rw [List.length_map,List.length_map,List.length_range]; omega),Same.put s1 hD,?_⟩
    rw [upd_same,range_snoc,List.map_append]
    congr 2
  . rintro H' ⟨s1,hd⟩
    refine ⟨D,_,rfl,SqL.of hd,?_⟩
    have e:((List.range 3).map fun j => ((Rm.beOf g j * Rm.woOf g j:Nat):Int)).sum = ((Rm.mostOf g:Nat):Int):=by
      show ((Rm.beOf g 0 * Rm.woOf g 0:Nat):Int) + (((Rm.beOf g 1 * Rm.woOf g 1:Nat):Int) + (((Rm.beOf g 2 * Rm.woOf g 2:Nat):Int) + 0)) = _
      unfold Rm.mostOf Rm.beOf Rm.woOf
      simp only [Nat.mul_zero,Nat.add_zero,Nat.mul_one,show 1 + 2 * 2 = 5 from rfl,show 2 + 2 * 2 = 6 from rfl,show 1 + 2 = 3 from rfl,show 2 + 2 = 4 from rfl]
      omega
    rw [e]
    exact q H' s1
theorem c_21 (T:Txt K mg ca):Callee P w K mg base 2 "worth_together" ["rod"] (sp_21 K):=Callee.of T.d_21 fun _ _ D => ok_21 T D
theorem sc_22 : FnScope ["rod", "deck", "forms", "longer", "digit", "form", "more", "grown", "way"] ["rod", "deck", "forms"] (defScope t_22) := ⟨rfl, rfl, rfl, by decide +kernel, rfl, by decide +kernel, by decide +kernel⟩
theorem ok_22 (T : Txt K mg ca) (D : DefAt K mg "forms_with_deck" t_22 ["rod", "deck", "forms"] f fd) : FnOk P w K mg base CX0 2 f fd ["rod", "deck", "forms"] (sp_22 K) := by
  refine D.fn.ok sc_22 (fun vs H Q E h => ?_) (fun cdv A outer s H vs Q E hr h => ?_)
  . obtain ⟨a,f,g,j,kvs,fl,rfl,hs,hl,hR,hj,hf,hfd,hlen,q⟩:=h
    rfl
  obtain ⟨a,f,g,j,kvs,fl,rfl,hs,hl,hR,hj,hf,hfd,hlen,q⟩:=h
  have hu:=hu_of hr
  refine ⟨_,(pss_cons (ps_set (i:=3) sc_22.nd rfl (by first | exact Or.inl rfl | exact Or.inr rfl) pe_dnewK)
      (pss_cons (ps_lock (ps_for PassesOwn.never rfl (pi_items (pv 2)) (pg_tup rfl (pgs_cons (pg_name (i:=4) sc_22.nd rfl (by first | exact Or.inl rfl | exact Or.inr rfl)) (pgs_cons (pg_name (i:=5) sc_22.nd rfl (by first | exact Or.inl rfl | exact Or.inr rfl)) pgs_nil)))
        (pss_one (ps_for PassesOwn.never rfl (pi_range1 rfl T.n_range (pa_cons (pe_op op_add (pe_c (c_2 T) hr (by decide) rfl (pa_cons (pv 0) (pa_cons (pv 1) pa_nil))) pe_int) pa_nil)) (pg_name (i:=6) sc_22.nd rfl (by first | exact Or.inl rfl | exact Or.inr rfl))
          (pss_cons (ps_set (i:=7) sc_22.nd rfl (by first | exact Or.inl rfl | exact Or.inr rfl) (pe_op op_add (pv 4) (pe_op op_mul (pv 6) (pe_c (c_3 T) hr (by decide) rfl (pa_cons (pv 0) (pa_cons (pv 1) pa_nil))))))
          (pss_cons (ps_if (pt_cmp (pc_ge (pv 7) (pe_c (c_1 T) hr (by decide) rfl (pa_cons (pv 0) pa_nil))))
            (pss_one ps_break)
            pss_nil)
          (pss_cons (ps_set (i:=8) sc_22.nd rfl (by first | exact Or.inl rfl | exact Or.inr rfl) (pe_op op_cat (pv 5) (pe_lst (pa_cons (pv 6) pa_nil))))
          (pss_one (ps_if (PW.pt (pw_or (pt_cmp (pc_dnotin hu (pv 7) (pv 3)) rfl) (pw_or1 (pt_val (pe_c (c_4 T) hr (by decide) rfl (pa_cons (pv 8) (pa_cons (pe_dget hu (pv 3) (pv 7) (fun _ _ => rfl)) pa_nil)))))))
            (pss_one (ps_dput hu (pv 3) (pv 7) (pv 8) rfl))
            pss_nil)))))))))
      (pss_one (ps_ret (pv 3))))),?_⟩
  intro L hL
  have nfL:f ≠ L:=ne_of_none hf hL
  have hbl:=be_le hR hj
  refine ⟨f,.dK kvs,by rw [upd_ne nfL]; exact hf,True.intro,fun od => ?_⟩
  refine ⟨_,rfl,f,od,kvs,rfl,upd_same,for_items (d:=f) (od:=od) (kvs:=kvs) (fun i σ H' => ∃ (v4 v5 v6 v7 v8:Option V) (ks:List (Key × V)),σ = [some (.ref a),some (.int (j:Nat)),some (.ref f),some (.ref L),v4,v5,v6,v7,v8] /\ (∀ b o,b ≠ f -> H b = some o -> H' b = some o) /\ H' f = some (.frz od (.dK kvs)) /\ H' L = some (.dK ks) /\
    Forms H' ks (Rm.wstep (g.getD 0 0) (Rm.beOf g j) (Rm.woOf g j) (fl.take i)) /\ Keys ks (g.getD 0 0) /\ ∀ d p',Rm.formIn (Rm.wstep (g.getD 0 0) (Rm.beOf g j) (Rm.woOf g j) (fl.take i)) d = some p' -> p'.length = j + 1)
    ⟨none,none,none,none,none,[],rfl,fun b o nb e => by rw [upd_ne nb,upd_ne (ne_of_none e hL)]; exact e,upd_same,by rw [upd_ne (Ne.symm nfL)]; exact upd_same,fun d => by rw [List.take_zero]; exact rfl,⟨[],List.nodup_nil,rfl,fun d h => by simp at h⟩,fun d p e => by rw [List.take_zero] at e; cases e⟩
    (fun i σ H' _ ⟨_,_,_,_,_,_,_,_,h,_⟩ => h) ?_ ?_⟩
  . rintro i k v T σ H2 hi hT ⟨v4,v5,v6,v7,v8,ks,rfl,s2,hf2,hL2,hF,hK,h3⟩
    have hil:i < fl.length:=by
      have:=(List.getElem?_eq_some_iff.mp hi).1
      rw [hfd.1] at this
      exact this
    obtain ⟨⟨c,p⟩,hcp⟩:∃ cp,fl[i]? = some cp:=⟨_,List.getElem?_eq_getElem hil⟩
    obtain ⟨q0,h1,h2⟩:=hfd.2 i c p hcp
    rw [hi] at h1
    cases h1
    have hpl:p.length = j:=hlen _ (List.mem_of_getElem? hcp)
    have nq0:q0 ≠ f:=ne_of h2 hf (by intro z; cases z)
    have T2:Same H2 (upd H2 T (.tup [kV (kN c),.ref q0])):=Same.new (Same.refl H2) hT
    have fin:∀ (m:Nat) (H3:Hp) (v6 v7 v8:Option V) (ks:List (Key × V)),wpart (g.getD 0 0) (Rm.woOf g j) (c,p) m = wpart (g.getD 0 0) (Rm.woOf g j) (c,p) (Rm.beOf g j + 1) -> (∀ b o,b ≠ f -> H b = some o -> H3 b = some o) -> H3 f = some (.frz od (.dK kvs)) -> H3 L = some (.dK ks) ->
      Forms H3 ks (Rm.wstep (g.getD 0 0) (Rm.beOf g j) (Rm.woOf g j) (fl.take i) ++ wpart (g.getD 0 0) (Rm.woOf g j) (c,p) m) -> Keys ks (g.getD 0 0) -> (∀ d p',Rm.formIn (Rm.wstep (g.getD 0 0) (Rm.beOf g j) (Rm.woOf g j) (fl.take i) ++ wpart (g.getD 0 0) (Rm.woOf g j) (c,p) m) d = some p' -> p'.length = j + 1) ->
      ∃ (v4 v5 v6' v7' v8':Option V) (ks:List (Key × V)),[some (.ref a),some (.int (j:Nat)),some (.ref f),some (.ref L),some (.int (c:Nat)),some (.ref q0),v6,v7,v8] = [some (.ref a),some (.int (j:Nat)),some (.ref f),some (.ref L),v4,v5,v6',v7',v8'] /\ (∀ b o,b ≠ f -> H b = some o -> H3 b = some o) /\ H3 f = some (.frz od (.dK kvs)) /\ H3 L = some (.dK ks) /\
      Forms H3 ks (Rm.wstep (g.getD 0 0) (Rm.beOf g j) (Rm.woOf g j) (fl.take (i + 1))) /\ Keys ks (g.getD 0 0) /\ ∀ d p',Rm.formIn (Rm.wstep (g.getD 0 0) (Rm.beOf g j) (Rm.woOf g j) (fl.take (i + 1))) d = some p' -> p'.length = j + 1:=by
      intro m H3 v6 v7 v8 ks em k1 k2 k3 k4 k5 k6
      have ew:Rm.wstep (g.getD 0 0) (Rm.beOf g j) (Rm.woOf g j) (fl.take (i + 1)) = Rm.wstep (g.getD 0 0) (Rm.beOf g j) (Rm.woOf g j) (fl.take i) ++ wpart (g.getD 0 0) (Rm.woOf g j) (c,p) m:=by
        rw [take_snoc hcp,wstep_snoc,em]
        rfl
      rw [ew]
      exact ⟨_,_,_,_,_,ks,rfl,k1,k2,k3,k4,k5,k6⟩
    refine ⟨T,_,rfl,SqT.of upd_same,rfl,_,_,rfl,_,_,rfl,rfl,?_⟩
    have nTf:f ≠ T:=ne_of_none hf2 hT
    have nTL:L ≠ T:=ne_of_none hL2 hT
    refine ⟨_,rfl,_,rfl,a,g,j,rfl,T2.seq (SqL.keepX hf hs s2),hl,hj,_,_,rfl,rfl,_,rfl,by omega,by omega,for_range (fun m σ H3 => ∃ (v6 v7 v8:Option V) (ks:List (Key × V)),σ = [some (.ref a),some (.int (j:Nat)),some (.ref f),some (.ref L),some (.int (c:Nat)),some (.ref q0),v6,v7,v8] /\ (∀ b o,b ≠ f -> H b = some o -> H3 b = some o) /\ H3 f = some (.frz od (.dK kvs)) /\ H3 L = some (.dK ks) /\
      Forms H3 ks (Rm.wstep (g.getD 0 0) (Rm.beOf g j) (Rm.woOf g j) (fl.take i) ++ wpart (g.getD 0 0) (Rm.woOf g j) (c,p) m) /\ Keys ks (g.getD 0 0) /\ ∀ d p',Rm.formIn (Rm.wstep (g.getD 0 0) (Rm.beOf g j) (Rm.woOf g j) (fl.take i) ++ wpart (g.getD 0 0) (Rm.woOf g j) (c,p) m) d = some p' -> p'.length = j + 1)
      ⟨v6,v7,v8,ks,rfl,fun b o nb e => T2 _ _ (s2 b o nb e),T2 _ _ hf2,T2 _ _ hL2,?_,hK,?_⟩ ?_ ?_⟩
    . unfold wpart
      rw [List.range_zero,List.filterMap_nil,List.append_nil]
      exact hF.keep fun r u e => T2 _ _ e
    . unfold wpart
      rw [List.range_zero,List.filterMap_nil,List.append_nil]
      exact h3
    . rintro m σ H3 hm ⟨v6,v7,v8,ks,rfl,s3,hf3,hL3,hF3,hK3,h33⟩
      have hm:m <= Rm.beOf g j:=by omega
      have ec:((c:Nat):Int) + (0 + (m:Int)) * (Rm.woOf g j:Nat) = ((c + m * Rm.woOf g j:Nat):Int):=by
        rw [Int.zero_add]
        push_cast
        rfl
      have ek:(Sum.inl (((c:Nat):Int) + (0 + (m:Int)) * (Rm.woOf g j:Nat)):Key) = kN (c + m * Rm.woOf g j):=congrArg Sum.inl ec
      refine ⟨_,rfl,_,rfl,_,rfl,_,rfl,a,g,j,rfl,SqL.keepX hf hs s3,hl,hj,_,_,rfl,rfl,.inl ⟨by omega,by omega⟩,_,_,rfl,rfl,?_⟩
      refine ⟨_,rfl,_,rfl,a,g,rfl,SqL.keepX hf hs s3,hl,_,_,rfl,rfl,_,rfl,ite2 (fun e => ?_) (fun e => ?_)⟩
      . rw [ec] at e
        have e:¬ c + m * Rm.woOf g j < g.getD 0 0:=by
          have:=of_decide_eq_true e
          omega
        exact fin m H3 _ _ _ ks (wpart_stop (cp:=(c,p)) e _ (by omega)).symm s3 hf3 hL3 hF3 hK3 h33
      . rw [ec] at e
        have e:c + m * Rm.woOf g j < g.getD 0 0:=by
          refine Classical.byContradiction fun z => e (decide_eq_true ?_)
          omega
        have hq3:=s3 _ _ nq0 h2
        refine ⟨_,rfl,_,rfl,(by show 1 <= sizeLine; decide),fun M hM => ?_⟩
        have s4:Same H3 (upd H3 M (.lst [.int (0 + (m:Int))])):=Same.new (Same.refl H3) hM
        refine ⟨q0,M,_,_,rfl,rfl,s4 _ _ hq3,upd_same,line_of (by rw [vi_len]; simp only [List.length_cons,List.length_nil]; omega),fun R hR' => ?_⟩
        have s5:Same (upd H3 M (.lst [.int (0 + (m:Int))])) (upd (upd H3 M (.lst [.int (0 + (m:Int))])) R (.lst ((nz p).map V.int ++ [.int (0 + (m:Int))]))):=Same.new (Same.refl _) hR'
        have s45:=s4.trans s5
        have hRl:(upd (upd H3 M (.lst [.int (0 + (m:Int))])) R (.lst ((nz p).map V.int ++ [.int (0 + (m:Int))]))) R = some (lstN (p ++ [m])):=by
          refine upd_same.trans ?_
          congr 2
          rw [Int.zero_add]
          show (nz p).map V.int ++ [V.int (m:Int)] = (nz (p ++ [m])).map V.int
          unfold nz BkNeutral.ints
          rw [List.map_append,List.map_append]
          rfl
        generalize upd (upd H3 M (.lst [.int (0 + (m:Int))])) R (.lst ((nz p).map V.int ++ [.int (0 + (m:Int))])) = H4 at s5 s45 hRl |-
        have hL4:=s45 _ _ hL3
        have hf4:=s45 _ _ hf3
        have hF4:Forms H4 ks _:=hF3.keep fun r u e => s45 _ _ e
        have hklen:ks.length < sizeLine:=line_lt (by have:=hK3.len; have:=hR.1.2; omega)
        have hp1:(p ++ [m]).length = j + 1:=by rw [List.length_append,hpl]; rfl
        have put:∀ ks',Forms H4 ks' (Rm.wstep (g.getD 0 0) (Rm.beOf g j) (Rm.woOf g j) (fl.take i) ++ wpart (g.getD 0 0) (Rm.woOf g j) (c,p) m ++ [(c + m * Rm.woOf g j,p ++ [m])]) -> Keys ks' (g.getD 0 0) ->
          ∃ (v6 v7 v8:Option V) (ks:List (Key × V)),[some (.ref a),some (.int (j:Nat)),some (.ref f),some (.ref L),some (.int (c:Nat)),some (.ref q0),some (.int (0 + (m:Int))),some (.int (((c:Nat):Int) + (0 + (m:Int)) * (Rm.woOf g j:Nat))),some (.ref R)] = [some (.ref a),some (.int (j:Nat)),some (.ref f),some (.ref L),some (.int (c:Nat)),some (.ref q0),v6,v7,v8] /\ (∀ b o,b ≠ f -> H b = some o -> (upd H4 L (.dK ks')) b = some o) /\ (upd H4 L (.dK ks')) f = some (.frz od (.dK kvs)) /\ (upd H4 L (.dK ks')) L = some (.dK ks) /\
          Forms (upd H4 L (.dK ks')) ks (Rm.wstep (g.getD 0 0) (Rm.beOf g j) (Rm.woOf g j) (fl.take i) ++ wpart (g.getD 0 0) (Rm.woOf g j) (c,p) (m + 1)) /\ Keys ks (g.getD 0 0) /\ ∀ d p',Rm.formIn (Rm.wstep (g.getD 0 0) (Rm.beOf g j) (Rm.woOf g j) (fl.take i) ++ wpart (g.getD 0 0) (Rm.woOf g j) (c,p) (m + 1)) d = some p' -> p'.length = j + 1:=by
          intro ks' k1 k2
          rw [wpart_yes (cp:=(c,p)) e,<- List.append_assoc]
          refine ⟨_,_,_,ks',rfl,fun b o nb eb => ?_,by rw [upd_ne nfL]; exact hf4,upd_same,k1.keep fun r u er => ?_,k2,snoc_len h33 hp1⟩
          . rw [upd_ne (ne_of_none eb hL)]
            exact s45 _ _ (s3 b o nb eb)
          . rw [upd_ne (ne_of er hL4 (by intro z; cases z))]
            exact er
        cases ev:valV ks (Sum.inl (((c:Nat):Int) + (0 + (m:Int)) * (Rm.woOf g j:Nat))) with
        | none =>
          have ev2:=ev
          rw [ek] at ev2
          refine ⟨_,rfl,_,rfl,L,_,rfl,DGet.k (k:=Sum.inl (((c:Nat):Int) + (0 + (m:Int)) * (Rm.woOf g j:Nat))) hL4,_,rfl,?_⟩
          rw [ev]
          refine iteT (iteT ⟨_,rfl,_,rfl,_,rfl,L,_,rfl,DPut.k (k:=Sum.inl (((c:Nat):Int) + (0 + (m:Int)) * (Rm.woOf g j:Nat))) hL4 hklen,?_⟩)
          rw [ek]
          exact put _ (forms_put hF4 hRl (formIn_new (forms_no hF4 ev2))) (hK3.new e ev2)
        | some v =>
          have ev2:=ev
          rw [ek] at ev2
          obtain ⟨p',q',en,rfl,h2'⟩:=forms_get hF4 ev2
          refine ⟨_,rfl,_,rfl,L,_,rfl,DGet.k (k:=Sum.inl (((c:Nat):Int) + (0 + (m:Int)) * (Rm.woOf g j:Nat))) hL4,_,rfl,?_⟩
          rw [ev]
          refine iteF ⟨_,rfl,_,rfl,_,rfl,L,.ref q',rfl,?_,R,q',p ++ [m],p',rfl,SqL.of hRl,SqL.of h2',by rw [hp1,h33 _ p' en],_,rfl,ite2 (fun e2 => ?_) (fun e2 => ?_)⟩
          . have:=DGet.k (k:=Sum.inl (((c:Nat):Int) + (0 + (m:Int)) * (Rm.woOf g j:Nat))) (a:=L) (H:=H4) hL4
            rw [ev] at this
            exact this
          . refine ⟨_,rfl,_,rfl,_,rfl,L,_,rfl,DPut.k (k:=Sum.inl (((c:Nat):Int) + (0 + (m:Int)) * (Rm.woOf g j:Nat))) hL4 hklen,?_⟩
            rw [ek]
            exact put _ (forms_put hF4 hRl (formIn_old en e2)) (hK3.old ev2)
          . have e2:Na.nicer (p ++ [m]) p' = false:=Bool.eq_false_iff.mpr e2
            have z:=put ks (forms_stay hF4 en e2) hK3
            rw [upd_self hL4] at z
            exact z
    . rintro σ H3 ⟨v6,v7,v8,ks,rfl,k1,k2,k3,k4,k5,k6⟩
      have en:(((Rm.beOf g j:Nat):Int) + 1).toNat = Rm.beOf g j + 1:=by omega
      rw [en] at k4 k6
      exact fin _ H3 _ _ _ ks rfl k1 k2 k3 k4 k5 k6
  . rintro σ H2 ⟨v4,v5,v6,v7,v8,ks,rfl,s2,hf2,hL2,hF,hK,h3⟩
    rw [hfd.1,List.take_length] at hF
    refine ⟨hf2,_,rfl,q _ L ks ⟨?_,hL⟩ ?_ (hF.keep fun r u e => ?_) hK⟩
    . intro b o e
      by_cases nb:b = f
      . rw [nb,upd_same]
        rw [nb,hf] at e
        exact e
      . rw [upd_ne nb]
        exact s2 b o nb e
    . rw [upd_ne (Ne.symm nfL)]
      exact hL2
    . rw [upd_ne (ne_of e hf2 (by intro z; cases z))]
      exact e
theorem c_22 (T : Txt K mg ca) : Callee P w K mg base 2 "forms_with_deck" ["rod", "deck", "forms"] (sp_22 K) := Callee.of T.d_22 fun _ _ D => ok_22 T D
theorem bs_at {g:List Nat} {j:Nat} (hj:j < 3):(Rm.bsOf g).getD j 0 = Rm.beOf g j:=by
  have e:j = 0 \/ j = 1 \/ j = 2:=by omega
  rcases e with rfl | rfl | rfl <;> rfl
theorem ints_set (l:List Nat) (j x:Nat):((nz l).map V.int).set j (.int (x:Nat)) = (nz (l.set j x)).map V.int:=by
  unfold nz BkNeutral.ints
  rw [List.map_set,List.map_set]
theorem ix_n {l:List Nat} {j:Nat} (h:j < l.length):ixN ((nz l).map V.int).length (j:Int) = some j:=by
  unfold ixN
  rw [vi_len,if_pos (by omega),if_pos (by omega)]
  simp
theorem sc_23 : FnScope ["rod", "pushed", "part", "number", "deck", "to_the_beam", "ready", "behind"] ["rod", "pushed", "part", "number"] (defScope t_23) := ⟨rfl, rfl, rfl, by decide +kernel, rfl, by decide +kernel, by decide +kernel⟩
theorem ok_23 (T : Txt K mg ca) (D : DefAt K mg "behind_part" t_23 ["rod", "pushed", "part", "number"] f fd) : FnOk P w K mg base CX0 2 f fd ["rod", "pushed", "part", "number"] (sp_23 K) := by
  refine D.fn.ok sc_23 (fun vs H Q E h => ?_) (fun cdv A outer s H vs Q E hr h => ?_)
  . obtain ⟨a,b,c,g,p,t,n,rfl,hg,hgl,hp,hpl,ht,htl,hd,kN,kS⟩:=h
    rfl
  obtain ⟨a,b,c,g,p,t,n,rfl,hg,hgl,hp,hpl,ht,htl,hd,kN,kS⟩:=h
  refine ⟨_,(pss_cons (ps_set (i:=4) sc_23.nd rfl (by first | exact Or.inl rfl | exact Or.inr rfl) (pe_ix (ix_l K) (pv 2) pe_int (fun _ _ => rfl)))
      (pss_cons (ps_set (i:=5) sc_23.nd rfl (by first | exact Or.inl rfl | exact Or.inr rfl) (pe_cmp (pc_eqI (pe_ix (ix_l K) (pv 2) pe_int (fun _ _ => rfl)) (pe_gi rfl T.v_TO_THE_BEAM))))
      (pss_cons (ps_set (i:=6) sc_23.nd rfl (by first | exact Or.inl rfl | exact Or.inr rfl) (pe_ifExp (pt_val (pv 5)) (pe_op op_sub (pe_c (c_2 T) hr (by decide) rfl (pa_cons (pv 0) (pa_cons (pv 4) pa_nil))) (pe_ix (ix_l K) (pv 1) (pv 4) (fun _ _ => rfl))) (pe_ix (ix_l K) (pv 1) (pv 4) (fun _ _ => rfl))))
      (pss_cons (ps_if (pt_not (pt_chain op_le op_le pe_int (pv 3) (pe_callB (call_min2 rfl) (by rfl) T.n_min bt_min (pa_cons (pe_ix (ix_l K) (pv 2) pe_int (fun _ _ => rfl)) (pa_cons (pv 6) pa_nil)))))
        (pss_one (ps_ret pe_non))
        pss_nil)
      (pss_cons (ps_set (i:=7) sc_23.nd rfl (by first | exact Or.inl rfl | exact Or.inr rfl) (pe_callTy (list_o K) (by rfl) T.n_list bt_list (pa_cons (pv 1) pa_nil)))
      (pss_cons (ps_augS (pv 7) (pv 4) get_list (pe_ifExp (pt_val (pv 5)) (pv 3) (pe_un un_neg (pv 3))) ip_add set_list)
      (pss_one (ps_ret (pv 7))))))))),?_⟩
  have hj:t.getD 0 0 < 3:=hd
  unfold Rm.push3 at kN kS
  rw [bs_at hj] at kN kS
  refine ⟨_,rfl,c,_,_,_,rfl,rfl,ht,at_n (j:=0) (by omega),?_⟩
  refine ⟨_,rfl,c,_,_,_,rfl,rfl,ht,at_n (j:=1) (by omega),_,_,rfl,rfl,?_⟩
  refine ⟨_,rfl,_,rfl,ite2 (fun eb => ?_) (fun eb => ?_)⟩
  . have t1:(t.getD 1 0 == 1) = true:=by
      have eb:((t.getD 1 0:Nat):Int) = 1:=of_decide_eq_true eb
      have:t.getD 1 0 = 1:=by omega
      simpa using this
    rw [t1] at kN kS
    simp only [if_true] at kN kS
    refine ⟨_,rfl,_,rfl,a,g,t.getD 0 0,rfl,hg,hgl,hj,_,rfl,_,rfl,b,_,_,_,rfl,rfl,hp,at_n (j:=t.getD 0 0) (by omega),_,_,rfl,rfl,?_⟩
    refine ⟨_,rfl,_,_,rfl,rfl,_,rfl,ite2 (fun e1 => ?_) (fun e1 => ⟨_,rfl,kN (if_neg fun z => e1 (decide_eq_true (by have:=z.1.1; omega)))⟩)⟩
    have e1:=of_decide_eq_true e1
    refine ⟨_,rfl,c,_,_,_,rfl,rfl,ht,at_n (j:=2) (by omega),_,rfl,_,_,rfl,_,_,rfl,rfl,_,rfl,ite2 (fun e2 => ?_) (fun e2 => ?_)⟩
    . have e2:(!decide ((n:Int) <= if (((Rm.beOf g (t.getD 0 0):Nat):Int) - ((p.getD (t.getD 0 0) 0:Nat):Int)) < ((t.getD 2 0:Nat):Int) then (((Rm.beOf g (t.getD 0 0):Nat):Int) - ((p.getD (t.getD 0 0) 0:Nat):Int)) else ((t.getD 2 0:Nat):Int))) = true:=e2
      refine kN (if_neg fun z => ?_)
      obtain ⟨⟨z1,z2⟩,z3⟩:=z
      rw [decide_eq_true (by split <;> omega)] at e2
      cases e2
    . have e2:(n:Int) <= if (((Rm.beOf g (t.getD 0 0):Nat):Int) - ((p.getD (t.getD 0 0) 0:Nat):Int)) < ((t.getD 2 0:Nat):Int) then (((Rm.beOf g (t.getD 0 0):Nat):Int) - ((p.getD (t.getD 0 0) 0:Nat):Int)) else ((t.getD 2 0:Nat):Int):=by
        refine Classical.byContradiction fun z => e2 ?_
        show (!decide ((n:Int) <= if (((Rm.beOf g (t.getD 0 0):Nat):Int) - ((p.getD (t.getD 0 0) 0:Nat):Int)) < ((t.getD 2 0:Nat):Int) then (((Rm.beOf g (t.getD 0 0):Nat):Int) - ((p.getD (t.getD 0 0) 0:Nat):Int)) else ((t.getD 2 0:Nat):Int))) = true
        rw [decide_eq_false z]
        rfl
      have e3:(1 <= n /\ n <= t.getD 2 0) /\ n <= (Rm.beOf g (t.getD 0 0) - p.getD (t.getD 0 0) 0):=by
        split at e2 <;> omega
      have e4:=kS _ (if_pos e3)
      refine ⟨_,rfl,b,_,rfl,.inl hp,fun B hB => ?_⟩
      refine ⟨_,rfl,_,rfl,B,_,_,_,rfl,rfl,SqL.of upd_same,at_n (j:=t.getD 0 0) (by omega),_,rfl,_,rfl,ite2 (fun _ => ?_) (fun z => absurd eb z)⟩
      refine ⟨_,rfl,_,_,rfl,rfl,B,_,_,t.getD 0 0,rfl,rfl,upd_same,ix_n (by omega),?_⟩
      refine ⟨_,rfl,e4 _ B (Same.put (Same.new (Same.refl H) hB) hB) ?_⟩
      rw [upd_same]
      congr 2
      rw [<- ints_set]
      congr 2
  . have t1:(t.getD 1 0 == 1) = false:=by
      have eb:¬ ((t.getD 1 0:Nat):Int) = 1:=fun z => eb (decide_eq_true z)
      have:¬ t.getD 1 0 = 1:=by omega
      simpa using this
    rw [t1] at kN kS
    simp only [Bool.false_eq_true,if_false] at kN kS
    refine ⟨_,rfl,_,rfl,b,_,_,_,rfl,rfl,hp,at_n (j:=t.getD 0 0) (by omega),?_⟩
    refine ⟨_,rfl,_,_,rfl,rfl,_,rfl,ite2 (fun e1 => ?_) (fun e1 => ⟨_,rfl,kN (if_neg fun z => e1 (decide_eq_true (by have:=z.1.1; omega)))⟩)⟩
    have e1:=of_decide_eq_true e1
    refine ⟨_,rfl,c,_,_,_,rfl,rfl,ht,at_n (j:=2) (by omega),_,rfl,_,_,rfl,_,_,rfl,rfl,_,rfl,ite2 (fun e2 => ?_) (fun e2 => ?_)⟩
    . have e2:(!decide ((n:Int) <= if ((p.getD (t.getD 0 0) 0:Nat):Int) < ((t.getD 2 0:Nat):Int) then ((p.getD (t.getD 0 0) 0:Nat):Int) else ((t.getD 2 0:Nat):Int))) = true:=e2
      refine kN (if_neg fun z => ?_)
      obtain ⟨⟨z1,z2⟩,z3⟩:=z
      rw [decide_eq_true (by split <;> omega)] at e2
      cases e2
    . have e2:(n:Int) <= if ((p.getD (t.getD 0 0) 0:Nat):Int) < ((t.getD 2 0:Nat):Int) then ((p.getD (t.getD 0 0) 0:Nat):Int) else ((t.getD 2 0:Nat):Int):=by
        refine Classical.byContradiction fun z => e2 ?_
        show (!decide ((n:Int) <= if ((p.getD (t.getD 0 0) 0:Nat):Int) < ((t.getD 2 0:Nat):Int) then ((p.getD (t.getD 0 0) 0:Nat):Int) else ((t.getD 2 0:Nat):Int))) = true
        rw [decide_eq_false z]
        rfl
      have e3:(1 <= n /\ n <= t.getD 2 0) /\ n <= p.getD (t.getD 0 0) 0:=by
        split at e2 <;> omega
      have e4:=kS _ (if_pos e3)
      refine ⟨_,rfl,b,_,rfl,.inl hp,fun B hB => ?_⟩
      refine ⟨_,rfl,_,rfl,B,_,_,_,rfl,rfl,SqL.of upd_same,at_n (j:=t.getD 0 0) (by omega),_,rfl,_,rfl,ite2 (fun z => absurd z eb) (fun _ => ?_)⟩
      refine ⟨_,rfl,_,rfl,_,_,rfl,rfl,B,_,_,t.getD 0 0,rfl,rfl,upd_same,ix_n (by omega),?_⟩
      refine ⟨_,rfl,e4 _ B (Same.put (Same.new (Same.refl H) hB) hB) ?_⟩
      rw [upd_same]
      congr 2
      rw [<- ints_set]
      congr 2
      show ((p.getD (t.getD 0 0) 0:Nat):Int) + -(n:Int) = ((p.getD (t.getD 0 0) 0 - n:Nat):Int)
      omega
theorem c_23 (T : Txt K mg ca) : Callee P w K mg base 2 "behind_part" ["rod", "pushed", "part", "number"] (sp_23 K) := Callee.of T.d_23 fun _ _ D => ok_23 T D
theorem sc_24 : FnScope ["self", "standings", "part", "deck", "to_the_beam", "reached", "looked_at", "more"] ["self", "standings", "part"] (defScope t_24) := ⟨rfl, rfl, rfl, by decide +kernel, rfl, by decide +kernel, by decide +kernel⟩
theorem ok_24 (T : Txt K mg ca) (D : MethAt K ca.Ground "ahead_of_part" "Ground.ahead_of_part" t_24 ["self", "standings", "part"] f fd) : FnOk P w K mg base CX0 2 f fd ["self", "standings", "part"] (sp_24 K ca) := by
  refine D.fn.ok sc_24 (fun vs H Q E h => ?_) (fun cdv A outer s H vs Q E hr h => ?_)
  . obtain ⟨G,a,g,t,N,S,rfl,hG,hR,ht,htl,hP,hI,q⟩:=h
    rfl
  obtain ⟨G,a,g,t,N,S,rfl,hG,hR,ht,htl,hP,hI,q⟩:=h
  refine ⟨_,(pss_cons (ps_set (i:=3) sc_24.nd rfl (by first | exact Or.inl rfl | exact Or.inr rfl) (pe_ix (ix_l K) (pv 2) pe_int (fun _ _ => rfl)))
      (pss_cons (ps_set (i:=4) sc_24.nd rfl (by first | exact Or.inl rfl | exact Or.inr rfl) (pe_cmp (pc_eqI (pe_ix (ix_l K) (pv 2) pe_int (fun _ _ => rfl)) (pe_gi rfl T.v_TO_THE_BEAM))))
      (pss_cons (ps_set (i:=5) sc_24.nd rfl (by first | exact Or.inl rfl | exact Or.inr rfl) (pe_m T.k_Ground.cl (c_14 T) hr (by decide) pass0 (pv 0) (pa_cons (pv 1) (pa_cons (pv 3) (pa_cons (pv 4) (pa_cons pe_int pa_nil))))))
      (pss_cons (ps_set (i:=6) sc_24.nd rfl (by first | exact Or.inl rfl | exact Or.inr rfl) pe_int)
      (pss_cons (ps_while PassesOwn.never (pt_cmp (pc_lt (pv 6) (pe_ix (ix_l K) (pv 2) pe_int (fun _ _ => rfl))))
        (pss_cons (ps_set (i:=7) sc_24.nd rfl (by first | exact Or.inl rfl | exact Or.inr rfl) (pe_callB (call_min2 rfl) (by rfl) T.n_min bt_min (pa_cons (pv 6) (pa_cons (pe_op op_sub (pe_ix (ix_l K) (pv 2) pe_int (fun _ _ => rfl)) (pv 6)) pa_nil))))
        (pss_cons (ps_aug (i:=5) sc_24.nd rfl (by first | exact Or.inl rfl | exact Or.inr rfl) (pe_m T.k_Ground.cl (c_14 T) hr (by decide) pass0 (pv 0) (pa_cons (pv 5) (pa_cons (pv 3) (pa_cons (pv 4) (pa_cons (pv 7) pa_nil))))) ip_orN)
        (pss_one (ps_aug (i:=6) sc_24.nd rfl (by first | exact Or.inl rfl | exact Or.inr rfl) (pv 7) ip_add)))))
      (pss_one (ps_ret (pv 5)))))))),?_⟩
  obtain ⟨dx,s,r,as,hG1,_⟩:=id hG
  obtain ⟨hd,hdir,hm1,hm2⟩:=hP
  have e1:decide (((t.getD 1 0:Nat):Int) = 1) = (t.getD 1 0 == 1):=by
    rw [Bool.eq_iff_iff,decide_eq_true_iff,beq_iff_eq]
    omega
  rw [<- e1] at q
  refine ⟨_,rfl,a,_,_,_,rfl,rfl,ht,at_n (j:=0) (by omega),?_⟩
  refine ⟨_,rfl,a,_,_,_,rfl,rfl,ht,at_n (j:=1) (by omega),_,_,rfl,rfl,?_⟩
  refine ⟨_,rfl,G,dx,_,rfl,hG1,(by kernel_rfl),_,rfl,_,rfl,_,rfl,G,g,N,t.getD 0 0,1,(decide (((t.getD 1 0:Nat):Int) = 1)),rfl,hG,hR,hd,by decide,hI.lt,?_⟩
  refine ⟨fun m σ H' => ∃ (R c:Nat) (v7:Option V),σ = [some (.ref G),some (.int (N:Nat)),some (.ref a),some (.int (t.getD 0 0:Nat)),some (.bl (decide (((t.getD 1 0:Nat):Int) = 1))),some (.int (R:Nat)),some (.int (c:Nat)),v7] /\ H = H' /\ 1 <= c /\ c <= t.getD 2 0 /\ Gd.Is g R (Gd.Pre g (t.getD 0 0) (decide (((t.getD 1 0:Nat):Int) = 1)) c S) /\ m = t.getD 2 0 - c,
    ⟨_,_,1,none,rfl,rfl,Nat.le_refl _,hm1,hI.pre1 hd,rfl⟩,?_⟩
  rintro m σ H' ⟨R,c,v7,rfl,rfl,h1,h2,hRI,rfl⟩
  refine ⟨_,rfl,_,rfl,a,_,_,_,rfl,rfl,ht,at_n (j:=2) (by omega),_,_,rfl,rfl,_,rfl,ite2 (fun e => ?_) (fun e => ?_)⟩
  . have e:=of_decide_eq_true e
    have hc:c < t.getD 2 0:=by omega
    have em:(if ((t.getD 2 0:Nat):Int) - ((c:Nat):Int) < ((c:Nat):Int) then ((t.getD 2 0:Nat):Int) - ((c:Nat):Int) else ((c:Nat):Int)) = ((min c (t.getD 2 0 - c):Nat):Int):=by
      split <;> omega
    refine ⟨fun σ' H' => ∃ (R c':Nat) (v7:Option V),σ' = [some (.ref G),some (.int (N:Nat)),some (.ref a),some (.int (t.getD 0 0:Nat)),some (.bl (decide (((t.getD 1 0:Nat):Int) = 1))),some (.int (R:Nat)),some (.int (c':Nat)),v7] /\ H = H' /\ 1 <= c' /\ c' <= t.getD 2 0 /\ Gd.Is g R (Gd.Pre g (t.getD 0 0) (decide (((t.getD 1 0:Nat):Int) = 1)) c' S) /\ c < c',fun σ' H' ⟨R',c',v7',k1,k2,k3,k4,k5,k6⟩ => ⟨_,by omega,R',c',v7',k1,k2,k3,k4,k5,rfl⟩,?_⟩
    refine ⟨_,rfl,_,rfl,a,_,_,_,rfl,rfl,ht,at_n (j:=2) (by omega),_,rfl,_,_,rfl,rfl,_,_,rfl,?_⟩
    rw [em]
    refine ⟨_,rfl,_,rfl,G,dx,_,rfl,hG1,(by kernel_rfl),_,rfl,_,rfl,_,rfl,_,rfl,G,g,R,t.getD 0 0,min c (t.getD 2 0 - c),(decide (((t.getD 1 0:Nat):Int) = 1)),rfl,hG,hR,hd,by omega,hRI.lt,_,_,rfl,rfl,?_⟩
    refine ⟨_,rfl,_,rfl,_,_,rfl,rfl,?_⟩
    refine ⟨_,c + min c (t.getD 2 0 - c),some (.int ((min c (t.getD 2 0 - c):Nat):Int)),?_,rfl,by omega,by omega,hRI.preS hd (by omega),by omega⟩
    push_cast
    rfl
  . have e:¬ c < t.getD 2 0:=fun z => e (decide_eq_true (by omega))
    have ec:c = t.getD 2 0:=by omega
    rw [ec] at hRI
    exact ⟨_,rfl,q R hRI⟩
theorem c_24 (T : Txt K mg ca) : CalleeM P w K mg base CX0 2 ca.Ground "ahead_of_part" ["self", "standings", "part"] (sp_24 K ca) := CalleeM.of T.d_24 fun _ _ D => ok_24 T D
theorem sc_25 : FnScope ["rod", "strides", "deck"] ["rod"] (defScope t_25) := ⟨rfl, rfl, rfl, by decide +kernel, rfl, by decide +kernel, by decide +kernel⟩
theorem ok_25 (T : Txt K mg ca) (D : DefAt K mg "strides_of" t_25 ["rod"] f fd) : FnOk P w K mg base CX0 2 f fd ["rod"] (sp_25 K) := by
  refine D.fn.ok sc_25 (fun vs H Q E h => ?_) (fun cdv A outer s H vs Q E hr h => ?_)
  . obtain ⟨a,g,rfl,hs,hl,hR,q⟩:=h
    rfl
  obtain ⟨a,g,rfl,hs,hl,hR,q⟩:=h
  refine ⟨_,(pss_cons (ps_set (i:=1) sc_25.nd rfl (by first | exact Or.inl rfl | exact Or.inr rfl) (pe_lst (pa_cons pe_int pa_nil)))
      (pss_cons (ps_for PassesOwn.never rfl (pi_range1 rfl T.n_range (pa_cons (pe_gi rfl T.v_DECKS) pa_nil)) (pg_name (i:=2) sc_25.nd rfl (by first | exact Or.inl rfl | exact Or.inr rfl))
        (pss_one (ps_expr (pe_bm PySem.F.plainAttrs_list PySem.F.slot_list_append PySem.F.type_list_append mt_append (pv 1) (pa_cons (pe_op op_mul (pe_ix (ix_l K) (pv 1) (pv 2) (fun _ _ => rfl)) (pe_op op_add (pe_c (c_2 T) hr (by decide) rfl (pa_cons (pv 0) (pa_cons (pv 2) pa_nil))) pe_int)) pa_nil)))))
      (pss_one (ps_ret (pv 1))))),?_⟩
  refine ⟨(by show 1 <= sizeLine; decide),fun L hL => ?_⟩
  have s1:∀ o,Same H (upd H L o):=fun o => Same.new (Same.refl H) hL
  refine ⟨3,rfl,by decide,by decide,for_range (n:=3) (fun i σ H' => ∃ v2:Option V,σ = [some (.ref a),some (.ref L),v2] /\ H' = upd H L (lstN ((srd g).take (i + 1)))) ⟨none,rfl,rfl⟩ ?_ ?_⟩
  . rintro i σ H' hi ⟨v2,rfl,rfl⟩
    have hb:=be_le hR hi
    have hle:=Gd.str_le (all16 hR) (d:=i) (by omega)
    have e1:((srd g).take (i + 1))[i]? = some (Gd.str g i):=by
      rw [List.getElem?_take_of_lt (by omega)]
      exact srd_at g (by omega)
    refine ⟨_,rfl,.inl ⟨rfl,_,SqL.of upd_same⟩,_,rfl,_,rfl,L,_,_,_,rfl,rfl,SqL.of upd_same,nz_at e1,_,rfl,_,rfl,a,g,i,by rw [Int.zero_add]; rfl,(s1 _).seq hs,hl,hi,_,_,rfl,rfl,_,_,rfl,rfl,.inl ⟨by omega,by omega⟩,L,_,_,rfl,rfl,upd_same,line_lt (by rw [vi_len,List.length_take]; omega),?_⟩
    refine ⟨_,rfl,?_⟩
    rw [upd_upd,take_snoc (l:=srd g) (i:=i + 1) (srd_at g (by omega))]
    show upd H L (.lst _) = upd H L (.lst _)
    rw [lst_snoc ((srd g).take (i + 1)) (Gd.str g (i + 1)) (by show ((Gd.str g i:Nat):Int) * (((Rm.beOf g i:Nat):Int) + 1) = ((Gd.str g i * (Rm.beOf g i + 1):Nat):Int); push_cast; rfl)]
  . rintro σ H' ⟨v2,rfl,rfl⟩
    exact ⟨_,rfl,q _ L ⟨s1 _,hL⟩ upd_same⟩
theorem c_25 (T:Txt K mg ca):Callee P w K mg base 2 "strides_of" ["rod"] (sp_25 K):=Callee.of T.d_25 fun _ _ D => ok_25 T D
theorem range_cnt {B n:Nat} (hB:0 < B) (hn:0 < n):((n:Nat):Int) = if (0:Int) < ((B * n:Nat):Int) then (((B * n:Nat):Int) - 0 - 1) / ((B:Nat):Int) + 1 else 0:=by
  have h1:0 < B * n:=Nat.mul_pos hB hn
  rw [if_pos (by omega)]
  have e:(((B * n:Nat):Int) - 0 - 1) = ((B * n - 1:Nat):Int):=by omega
  have e2:(B * n - 1) / B = n - 1:=by
    refine Nat.div_eq_of_lt_le ?_ ?_
    . have:(n - 1) * B + B = B * n:=by
        rw [Nat.mul_comm B n,<- Nat.succ_mul]
        congr 1
        omega
      omega
    . rw [show n - 1 + 1 = n by omega,Nat.mul_comm n B]
      omega
  rw [e,<- Int.natCast_ediv,e2]
  omega
theorem ones_lt {B:Nat} (hB:0 < B) (m:Nat):Gd.ones B m < 2 ^ (m * B):=by
  rw [Gd.ones_rep hB]
  exact Gd.rep_lt (Nat.one_lt_two_pow (by omega)) m
theorem sc_26 : FnScope ["rod", "deck", "strides", "firsts", "place", "room", "number", "fewer"] ["rod", "deck", "strides"] (defScope t_26) := ⟨rfl, rfl, rfl, by decide +kernel, rfl, by decide +kernel, by decide +kernel⟩
theorem ok_26 (T : Txt K mg ca) (D : DefAt K mg "room_on_deck" t_26 ["rod", "deck", "strides"] f fd) : FnOk P w K mg base CX0 2 f fd ["rod", "deck", "strides"] (sp_26 K) := by
  refine D.fn.ok sc_26 (fun vs H Q E h => ?_) (fun cdv A outer s H vs Q E hr h => ?_)
  . obtain ⟨a,s,g,d,rfl,hs,hl,hR,hst,hd,q⟩:=h
    rfl
  obtain ⟨a,s,g,d,rfl,hs,hl,hR,hst,hd,q⟩:=h
  refine ⟨_,(pss_cons (ps_set (i:=3) sc_26.nd rfl (by first | exact Or.inl rfl | exact Or.inr rfl) pe_int)
      (pss_cons (ps_for PassesOwn.never rfl (pi_range3 rfl T.n_range (pa_cons pe_int (pa_cons (pe_ix (ix_l K) (pv 2) (pe_gi rfl T.v_DECKS) (fun _ _ => rfl)) (pa_cons (pe_ix (ix_l K) (pv 2) (pe_op op_add (pv 1) pe_int) (fun _ _ => rfl)) pa_nil)))) (pg_name (i:=4) sc_26.nd rfl (by first | exact Or.inl rfl | exact Or.inr rfl))
        (pss_one (ps_aug (i:=3) sc_26.nd rfl (by first | exact Or.inl rfl | exact Or.inr rfl) (pe_op op_shlN pe_int (pv 4)) ip_orN)))
      (pss_cons (ps_set (i:=5) sc_26.nd rfl (by first | exact Or.inl rfl | exact Or.inr rfl) (pe_lst pa_nil))
      (pss_cons (ps_for PassesOwn.never rfl (pi_range1 rfl T.n_range (pa_cons (pe_op op_add (pe_gi rfl T.v_MOST_BEADS) pe_int) pa_nil)) (pg_name (i:=6) sc_26.nd rfl (by first | exact Or.inl rfl | exact Or.inr rfl))
        (pss_cons (ps_set (i:=7) sc_26.nd rfl (by first | exact Or.inl rfl | exact Or.inr rfl) (pe_callB (call_max2 rfl) (by rfl) T.n_max bt_max (pa_cons pe_int (pa_cons (pe_op op_sub (pe_op op_add (pe_c (c_2 T) hr (by decide) rfl (pa_cons (pv 0) (pa_cons (pv 1) pa_nil))) pe_int) (pv 6)) pa_nil))))
        (pss_one (ps_expr (pe_bm PySem.F.plainAttrs_list PySem.F.slot_list_append PySem.F.type_list_append mt_append (pv 5) (pa_cons (pe_op op_mulN (pv 3) (pe_op op_sub (pe_op op_shlN pe_int (pe_op op_mul (pv 7) (pe_ix (ix_l K) (pv 2) (pv 1) (fun _ _ => rfl)))) pe_int)) pa_nil))))))
      (pss_one (ps_ret (pv 5))))))),?_⟩
  have h16:=all16 hR
  have hle3:=Gd.str_le h16 (d:=3) (by omega)
  have hle1:=Gd.str_le h16 (d:=d + 1) (by omega)
  have hle0:=Gd.str_le h16 (d:=d) (by omega)
  have hp1:=Gd.str_pos g (d + 1)
  have hbd:=be_le hR hd
  obtain ⟨n,hn⟩:=Gd.str_dvd (g:=g) (d:=d + 1) (by omega)
  have eall:Gd.str g 3 = Gd.str g (d + 1) * n:=(Gd.str3 g).trans hn
  have hn0:0 < n:=by
    rcases Nat.eq_zero_or_pos n with z | z
    . have:=Gd.str_pos g 3
      rw [eall,z,Nat.mul_zero] at this
      omega
    . exact z
  have hall:Gd.all g / Gd.str g (d + 1) = n:=by rw [hn,Nat.mul_div_cancel_left _ hp1]
  refine ⟨_,rfl,s,_,_,_,rfl,rfl,hst,nz_at (srd_at g (d:=3) (by decide)),_,rfl,_,rfl,_,_,rfl,rfl,s,_,_,_,rfl,rfl,hst,nz_at (srd_at g (d:=d + 1) (by omega)),0,_,_,n,rfl,rgC (by omega) (by omega) (by decide) (by decide) (by omega) (by omega) (by rw [eall]; exact range_cnt hp1 hn0),
    for_rangeC (lo:=0) (c:=((Gd.str g (d + 1):Nat):Int)) (n:=n) (fun i σ H' => ∃ v4 v5 v6 v7:Option V,σ = [some (.ref a),some (.int (d:Nat)),some (.ref s),some (.int (Gd.ones (Gd.str g (d + 1)) i:Nat)),v4,v5,v6,v7] /\ H = H') ⟨none,none,none,none,rfl,rfl⟩ ?_ ?_⟩
  . rintro i σ H' hi ⟨v4,v5,v6,v7,rfl,rfl⟩
    have hle:i * Gd.str g (d + 1) <= 4096:=by
      have:=Nat.mul_le_mul_right (Gd.str g (d + 1)) (show i <= n by omega)
      rw [Nat.mul_comm n,<- eall] at this
      omega
    refine ⟨_,rfl,_,rfl,1,i * Gd.str g (d + 1),rfl,by rw [Int.zero_add,Int.natCast_mul],⟨big1,by omega⟩,_,_,rfl,rfl,?_⟩
    exact ⟨_,_,_,_,rfl,rfl⟩
  . rintro σ H' ⟨v4,v5,v6,v7,rfl,rfl⟩
    refine ⟨(by show 0 <= sizeLine; decide),fun R hR' => ?_⟩
    have s1:∀ o,Same H (upd H R o):=fun o => Same.new (Same.refl H) hR'
    refine ⟨_,_,rfl,rfl,_,rfl,by decide,by decide,for_range (fun i σ H' => ∃ v4 v6 v7:Option V,σ = [some (.ref a),some (.int (d:Nat)),some (.ref s),some (.int (Gd.ones (Gd.str g (d + 1)) n:Nat)),v4,some (.ref R),v6,v7] /\ H' = upd H R (lstN ((List.range i).map (Gd.room g d)))) ⟨_,_,_,rfl,rfl⟩ ?_ ?_⟩
    . rintro i σ H' hi ⟨v4,v6,v7,rfl,rfl⟩
      have hi:i < 16:=hi
      refine ⟨_,rfl,_,rfl,a,g,d,rfl,(s1 _).seq hs,hl,hd,_,_,rfl,rfl,_,rfl,_,_,rfl,rfl,_,_,rfl,?_⟩
      have ef:(if ((Rm.beOf g d:Nat):Int) + 1 - (0 + (i:Int)) > 0 then ((Rm.beOf g d:Nat):Int) + 1 - (0 + (i:Int)) else 0) = ((Rm.beOf g d + 1 - i:Nat):Int):=by
        split <;> omega
      rw [ef]
      have hw:(Rm.beOf g d + 1 - i) * Gd.str g d <= 65536:=by
        have:=Nat.mul_le_mul (show Rm.beOf g d + 1 - i <= 16 by omega) hle0
        omega
      have e2:((1 <<< ((Rm.beOf g d + 1 - i) * Gd.str g d):Nat):Int) - 1 = ((2 ^ ((Rm.beOf g d + 1 - i) * Gd.str g d) - 1:Nat):Int):=by
        rw [Nat.shiftLeft_eq,Nat.one_mul]
        have:=Nat.two_pow_pos ((Rm.beOf g d + 1 - i) * Gd.str g d)
        generalize 2 ^ ((Rm.beOf g d + 1 - i) * Gd.str g d) = x at this
        omega
      have hB1:Big (Gd.ones (Gd.str g (d + 1)) n):=big_of (ones_lt hp1 n) (by rw [Nat.mul_comm n,<- eall]; omega)
      have hB2:Big (2 ^ ((Rm.beOf g d + 1 - i) * Gd.str g d) - 1):=big_of (n:=(Rm.beOf g d + 1 - i) * Gd.str g d) (by have:=Nat.two_pow_pos ((Rm.beOf g d + 1 - i) * Gd.str g d); omega) (by omega)
      refine ⟨_,rfl,.inl ⟨rfl,_,SqL.of upd_same⟩,_,rfl,_,rfl,_,rfl,_,rfl,s,_,_,_,rfl,rfl,(s1 _).seq hst,nz_at (srd_at g (d:=d) (by omega)),_,_,rfl,rfl,.inl ⟨by omega,by omega⟩,1,(Rm.beOf g d + 1 - i) * Gd.str g d,rfl,by rw [Int.natCast_mul],⟨big1,by omega⟩,_,_,rfl,rfl,_,_,rfl,congrArg V.int e2,⟨hB1,hB2⟩,R,_,_,rfl,rfl,upd_same,line_lt (by rw [vi_len,List.length_map,List.length_range]; omega),?_⟩
      refine ⟨_,_,_,rfl,?_⟩
      rw [upd_upd,range_snoc]
      show upd H R (.lst _) = upd H R (.lst _)
      rw [lst_snoc _ (Gd.room g d i) (by unfold Gd.room; rw [hall])]
    . rintro σ H' ⟨v4,v6,v7,rfl,rfl⟩
      exact ⟨_,rfl,q _ R ⟨s1 _,hR'⟩ upd_same⟩
theorem c_26 (T : Txt K mg ca) : Callee P w K mg base 2 "room_on_deck" ["rod", "deck", "strides"] (sp_26 K) := Callee.of T.d_26 fun _ _ D => ok_26 T D
theorem sc_27:FnScope ["stroke"] ["stroke"] (defScope t_27):=⟨rfl,rfl,rfl,by decide +kernel,rfl,by decide +kernel,by decide +kernel⟩
theorem ok_27 (T : Txt K mg ca) (D : DefAt K mg "second_numbers" t_27 ["stroke"] f fd) : FnOk P w K mg base CX0 2 f fd ["stroke"] (sp_27 K) := by
  refine D.fn.ok sc_27 (fun vs H Q E h => ?_) (fun cdv A outer s H vs Q E hr h => ?_)
  . obtain ⟨a,s,rfl,hs,hS,q⟩:=h
    rfl
  obtain ⟨a,s,rfl,hs,hS,q⟩:=h
  have hu64:=hr.units
  refine ⟨_,(pss_cons (ps_if (pt_cmpR (eq_d K hu64) (pe_c (c_7 T) hr (by decide) rfl (pa_cons (pv 0) pa_nil)) (pe_lst (pa_cons pe_int (pa_cons pe_int (pa_cons pe_int pa_nil)))) (nomark _))
        (pss_one (ps_ret (pe_lst (pa_cons pe_int pa_nil))))
        pss_nil)
      (pss_one (ps_ret (pe_listRng rfl rfl rfl T.n_list T.n_range (pa_cons pe_int (pa_cons (pe_op op_add (pe_ix (ix_l K) (pe_c (c_7 T) hr (by decide) rfl (pa_cons (pv 0) pa_nil)) pe_int (fun _ _ => rfl)) pe_int) pa_nil)))))),?_⟩
  obtain ⟨hsl,i1,i2,i3,i4,i5⟩:=id hS
  refine ⟨_,rfl,a,s,rfl,hs,hsl,fun H3 w s3 hw => ⟨(by show 3 <= sizeLine; decide),fun z hz => ⟨_,_,dp3 (x:=s.getD 3 0) (y:=s.getD 4 0) (z:=s.getD 5 0) ?_,dp3 (SqL.of upd_same),rfl,rfl,_,rfl,?_⟩⟩⟩
  . rw [part2 hsl] at hw
    exact (Same.new (Same.refl H3) hz).seq (SqL.of hw)
  have s4:Same H (upd H3 z (.lst [.int 0,.int 0,.int 0])):=s3.trans (Same.new (Same.refl H3) hz)
  rw [eqv3]
  refine ite2 (fun e2 => ?_) (fun e2 => ?_)
  . have e2:=of_decide_eq_true e2
    rw [if_pos (show s.getD 4 0 = 0 by omega)] at q
    exact ⟨(by show 1 <= sizeLine; decide),fun p hp => q _ p (Same.new s4 hp) upd_same⟩
  . have c0:¬ (s.getD 3 0 = 0 /\ s.getD 4 0 = 0 /\ s.getD 5 0 = 0):=fun z => e2 (decide_eq_true (by omega))
    have c4:¬ s.getD 4 0 = 0 /\ s.getD 5 0 <= 15:=by
      rcases i4 with z | z
      . exact absurd z c0
      . omega
    rw [if_neg c4.1] at q
    refine ⟨_,rfl,a,s,rfl,s4.seq hs,hsl,fun H5 f s5 hf => ?_⟩
    rw [part2 hsl] at hf
    refine ⟨f,_,_,_,rfl,rfl,SqL.of hf,at_n (g:=[s.getD 3 0,s.getD 4 0,s.getD 5 0]) (j:=2) (by simp),_,_,rfl,rfl,1,s.getD 5 0,?_,by decide,by decide,by omega,fun l hl => q _ l (Same.new (s4.trans s5) hl) ?_⟩
    . rw [Int.add_comm]
      rfl
    . rw [upd_same]
      congr 2
      unfold nz BkNeutral.ints
      rw [List.map_map,List.map_map]
      refine List.map_congr_left fun k _ => ?_
      show V.int (1 + (k:Int)) = V.int ((k + 1:Nat):Int)
      congr 1
      omega
theorem c_27 (T:Txt K mg ca):Callee P w K mg base 2 "second_numbers" ["stroke"] (sp_27 K):=Callee.of T.d_27 fun _ _ D => ok_27 T D
theorem sc_28 : FnScope ["rod", "deck"] ["rod"] (defScope t_28) := ⟨rfl, rfl, rfl, by decide +kernel, rfl, by decide +kernel, by decide +kernel⟩
theorem ok_28 (T : Txt K mg ca) (D : DefAt K mg "rod_can_be" t_28 ["rod"] f fd) : FnOk P w K mg base CX0 2 f fd ["rod"] (sp_28 K) := by
  refine D.fn.ok sc_28 (fun vs H Q E h => ?_) (fun cdv A outer s H vs Q E hr h => ?_)
  . obtain ⟨a,g,rfl,hs,hl,q⟩:=h
    rfl
  obtain ⟨a,g,rfl,hs,hl,q⟩:=h
  refine ⟨_,(pss_cons (ps_if (pt_not (pt_chain op_le op_le (pe_gi rfl T.v_LOWEST_RATIO) (pe_c (c_1 T) hr (by decide) rfl (pa_cons (pv 0) pa_nil)) (pe_gi rfl T.v_HIGHEST_RATIO)))
        (pss_one (ps_ret pe_bl))
        pss_nil)
      (pss_cons (ps_for PassesOwn.never rfl (pi_range1 rfl T.n_range (pa_cons (pe_gi rfl T.v_DECKS) pa_nil)) (pg_name (i:=1) sc_28.nd rfl (by first | exact Or.inl rfl | exact Or.inr rfl))
        (pss_one (ps_if (pt_not (pt_val (pe_c (c_18 T) hr (by decide) rfl (pa_cons (pe_c (c_2 T) hr (by decide) rfl (pa_cons (pv 0) (pa_cons (pv 1) pa_nil))) (pa_cons (pe_c (c_3 T) hr (by decide) rfl (pa_cons (pv 0) (pa_cons (pv 1) pa_nil))) pa_nil)))))
          (pss_one (ps_ret pe_bl))
          pss_nil)))
      (pss_cons (ps_if (pt_cmp (pc_eqI (pe_c (c_2 T) hr (by decide) rfl (pa_cons (pv 0) (pa_cons pe_int pa_nil))) pe_int))
        (pss_one (ps_ret pe_bl))
        pss_nil)
      (pss_one (ps_ret (pe_or (pe_cmp (pc_eqI (pe_c (c_2 T) hr (by decide) rfl (pa_cons (pv 0) (pa_cons pe_int pa_nil))) pe_int)) (pe_one (pe_cmp (pc_gt (pe_c (c_2 T) hr (by decide) rfl (pa_cons (pv 0) (pa_cons pe_int pa_nil))) pe_int))))))))),?_⟩
  have no:¬ Rm.RIn g -> Q (.bl false) H:=fun z => q false (by simp only [Bool.false_eq_true,false_iff]; exact z)
  unfold Rm.RIn at no q
  rw [Rm.rodIn_iff] at no q
  refine ⟨_,rfl,a,g,rfl,hs,hl,_,_,rfl,rfl,_,rfl,ite2 (fun e1 => ?_) (fun e1 => ?_)⟩
  . have e1:=of_decide_eq_true e1
    refine ⟨_,_,rfl,rfl,_,rfl,ite2 (fun e2 => ?_) (fun e2 => ?_)⟩
    . refine no fun z => ?_
      rw [show (!decide (((g.getD 0 0:Nat):Int) <= 20)) = false by rw [decide_eq_true (by have:=z.1.2; omega)]; rfl] at e2
      cases e2
    . have e2:(g.getD 0 0:Nat) <= 20:=by
        refine Classical.byContradiction fun z => e2 ?_
        show (!decide (((g.getD 0 0:Nat):Int) <= 20)) = true
        rw [decide_eq_false (by omega)]
        rfl
      refine ⟨3,rfl,by decide,by decide,for_range (n:=3) (fun i σ H' => ∃ v:Option V,σ = [some (.ref a),v] /\ H' = H /\ ∀ j,j < i -> Rm.DeckOk (Rm.beOf g j) (Rm.woOf g j)) ⟨none,rfl,rfl,fun j hj => by omega⟩ ?_ ?_⟩
      . rintro i σ H' hi ⟨v,rfl,rfl,hd⟩
        refine ⟨_,rfl,_,rfl,a,g,i,by rw [Int.zero_add]; rfl,hs,hl,hi,_,rfl,_,rfl,a,g,i,by rw [Int.zero_add]; rfl,hs,hl,hi,_,_,rfl,fun k hk => ⟨k,rfl,ite2 (fun e3 => ?_) (fun e3 => ?_)⟩⟩
        . have hn:¬ Rm.DeckOk (Rm.beOf g i) (Rm.woOf g i):=fun z => by
            rw [hk.mpr z] at e3
            cases e3
          refine no fun z => hn ?_
          have ei:i = 0 \/ i = 1 \/ i = 2:=by omega
          rcases ei with rfl | rfl | rfl
          . exact z.2.1.1
          . exact z.2.1.2.1
          . exact z.2.1.2.2
        . refine ⟨_,rfl,rfl,fun j hj => ?_⟩
          by_cases z:j = i
          . rw [z]
            exact hk.mp (by cases k with
              | true => rfl
              | false => exact absurd rfl e3)
          . exact hd j (by omega)
      . rintro σ H' ⟨v,rfl,rfl,hd⟩
        have d0:=hd 0 (by decide)
        have d1:=hd 1 (by decide)
        have d2:=hd 2 (by decide)
        refine ⟨_,rfl,a,g,0,rfl,hs,hl,by decide,_,_,rfl,rfl,_,rfl,ite2 (fun e3 => ?_) (fun e3 => ?_)⟩
        . have e3:=of_decide_eq_true e3
          refine no fun z => z.2.2.1 ?_
          have e3:((g.getD 1 0:Nat):Int) = 0:=e3
          omega
        . have e3:¬ g.getD 1 0 = 0:=fun z => e3 (decide_eq_true (by show ((g.getD 1 0:Nat):Int) = 0; omega))
          refine ⟨_,rfl,a,g,2,rfl,hs,hl,by decide,_,_,rfl,rfl,_,rfl,ite2 (fun e4 => ?_) (fun e4 => ?_)⟩
          . have e4:((g.getD 5 0:Nat):Int) = 0:=of_decide_eq_true e4
            refine q true ?_
            simp only [true_iff]
            exact ⟨⟨by omega,e2⟩,⟨d0,d1,d2⟩,e3,.inl (by omega)⟩
          . have e4:¬ ((g.getD 5 0:Nat):Int) = 0:=fun z => e4 (decide_eq_true z)
            refine ⟨_,rfl,a,g,1,rfl,hs,hl,by decide,_,_,rfl,rfl,q _ ?_⟩
            show decide ((0:Int) < ((g.getD 3 0:Nat):Int)) = true ↔ _
            simp only [decide_eq_true_eq]
            constructor
            . intro z
              exact ⟨⟨by omega,e2⟩,⟨d0,d1,d2⟩,e3,.inr (by omega)⟩
            . rintro ⟨_,_,_,z | z⟩
              . omega
              . omega
  . refine ⟨_,rfl,iteT (no fun z => e1 (decide_eq_true ?_))⟩
    have:=z.1.1
    omega
theorem c_28 (T:Txt K mg ca):Callee P w K mg base 2 "rod_can_be" ["rod"] (sp_28 K):=Callee.of T.d_28 fun _ _ D => ok_28 T D
theorem sc_29 : FnScope ["stroke", "first", "second"] ["stroke"] (defScope t_29) := ⟨rfl, rfl, rfl, by decide +kernel, rfl, by decide +kernel, by decide +kernel⟩
theorem ok_29 (T : Txt K mg ca) (D : DefAt K mg "stroke_can_be" t_29 ["stroke"] f fd) : FnOk P w K mg base CX0 2 f fd ["stroke"] (sp_29 K) := by
  refine D.fn.ok sc_29 (fun vs H Q E h => ?_) (fun cdv A outer s H vs Q E hr h => ?_)
  . obtain ⟨a,s,rfl,hs,hl,q⟩:=h
    rfl
  obtain ⟨a,s,rfl,hs,hl,q⟩:=h
  have hu64:=hr.units
  refine ⟨_,(pss_cons (ps_set (i:=1) sc_29.nd rfl (by first | exact Or.inl rfl | exact Or.inr rfl) (pe_c (c_6 T) hr (by decide) rfl (pa_cons (pv 0) pa_nil)))
      (pss_cons (ps_set (i:=2) sc_29.nd rfl (by first | exact Or.inl rfl | exact Or.inr rfl) (pe_c (c_7 T) hr (by decide) rfl (pa_cons (pv 0) pa_nil)))
      (pss_cons (ps_if (PW.pt (pw_or (pt_not (pt_val (pe_c (c_20 T) hr (by decide) rfl (pa_cons (pv 1) pa_nil)))) (pw_or1 (pt_not (pt_chain op_le op_le pe_int (pe_c (c_8 T) hr (by decide) rfl (pa_cons (pv 0) pa_nil)) (pe_gi rfl T.v_HIGHEST_COST))))))
        (pss_one (ps_ret pe_bl))
        pss_nil)
      (pss_one (ps_ret (pe_or (pe_cmpR (eq_d K hu64) (pv 2) (pe_lst (pa_cons pe_int (pa_cons pe_int (pa_cons pe_int pa_nil)))) (nomark _)) (pe_one (pe_and (pe_c (c_20 T) hr (by decide) rfl (pa_cons (pv 2) pa_nil)) (pe_one (pe_cmp (pc_neI (pe_ix (ix_l K) (pv 2) pe_int (fun _ _ => rfl)) (pe_ix (ix_l K) (pv 1) pe_int (fun _ _ => rfl))))))))))))),?_⟩
  have no:¬ Na.strokeGood s = true -> ∀ H',Same H H' -> Q (.bl false) H':=fun z H' s1 => q false H' (by simp only [Bool.false_eq_true,false_iff]; exact z) s1
  rw [Mm.strokeGood_iff] at no q
  unfold Mm.StrokeIn at no q
  refine ⟨_,rfl,a,s,rfl,hs,hl,fun H1 f s1 hf => ⟨_,rfl,a,s,rfl,s1.seq hs,hl,fun H2 w s2 hw => ?_⟩⟩
  have s12:=s1.trans s2
  rw [part1 hl] at hf
  rw [part2 hl] at hw
  refine ⟨_,rfl,f,[s.getD 0 0,s.getD 1 0,s.getD 2 0],rfl,SqL.of (s2 _ _ hf),rfl,fun k hk => ⟨_,rfl,ite2 (fun e0 => ?_) (fun e0 => ?_)⟩⟩
  . refine no (fun z => ?_) H2 s12
    rw [hk.mpr ⟨by show s.getD 0 0 < 3; omega,z.2.1,z.2.2.1⟩] at e0
    cases e0
  . have e0:=hk.mp (by cases k with
      | true => rfl
      | false => exact absurd rfl e0)
    have e0:s.getD 0 0 < 3 /\ (1 <= s.getD 1 0 /\ s.getD 1 0 <= 2) /\ (1 <= s.getD 2 0 /\ s.getD 2 0 <= 15):=e0
    refine ⟨_,rfl,a,s,rfl,s12.seq hs,hl,_,_,rfl,rfl,_,rfl,ite2 (fun e1 => ?_) (fun e1 => ⟨_,rfl,no (fun z => e1 (decide_eq_true (by omega))) H2 s12⟩)⟩
    have e1:=of_decide_eq_true e1
    refine ⟨_,_,rfl,rfl,_,rfl,ite2 (fun e2 => ?_) (fun e2 => ?_)⟩
    . refine no (fun z => ?_) H2 s12
      have e2:(!decide (((s.getD 6 0:Nat):Int) <= 255)) = true:=e2
      rw [decide_eq_true (by omega)] at e2
      cases e2
    . have e2:s.getD 6 0 <= 255:=by
        refine Classical.byContradiction fun z => e2 ?_
        show (!decide (((s.getD 6 0:Nat):Int) <= 255)) = true
        rw [decide_eq_false (by omega)]
        rfl
      refine ⟨_,rfl,(by show 3 <= sizeLine; decide),fun z hz => ⟨_,_,dp3 (x:=s.getD 3 0) (y:=s.getD 4 0) (z:=s.getD 5 0) ((Same.new (Same.refl H2) hz).seq (SqL.of hw)),dp3 (SqL.of upd_same),rfl,rfl,_,rfl,?_⟩⟩
      have s3:Same H2 (upd H2 z (.lst [.int 0,.int 0,.int 0])):=Same.new (Same.refl H2) hz
      rw [eqv3]
      refine ite2 (fun e3 => ?_) (fun e3 => ?_)
      . have e3:=of_decide_eq_true e3
        refine q true _ ?_ (s12.trans s3)
        simp only [true_iff]
        omega
      . have e3:¬ ((s.getD 3 0:Int) = 0 /\ (s.getD 4 0:Int) = 0 /\ (s.getD 5 0:Int) = 0):=fun z => e3 (decide_eq_true z)
        refine ⟨_,rfl,w,[s.getD 3 0,s.getD 4 0,s.getD 5 0],rfl,SqL.of (s3 _ _ hw),rfl,fun k2 hk2 => ⟨k2,rfl,ite2 (fun e4 => ?_) (fun e4 => ?_)⟩⟩
        . have e4:s.getD 3 0 < 3 /\ (1 <= s.getD 4 0 /\ s.getD 4 0 <= 2) /\ (1 <= s.getD 5 0 /\ s.getD 5 0 <= 15):=hk2.mp e4
          refine ⟨_,rfl,w,_,_,_,rfl,rfl,SqL.of (s3 _ _ hw),at_n (g:=[s.getD 3 0,s.getD 4 0,s.getD 5 0]) (j:=0) (by simp),_,rfl,f,_,_,_,rfl,rfl,SqL.of ((s2.trans s3) _ _ hf),at_n (g:=[s.getD 0 0,s.getD 1 0,s.getD 2 0]) (j:=0) (by simp),_,_,rfl,rfl,q _ _ ?_ (s12.trans s3)⟩
          show (!decide (((s.getD 3 0:Nat):Int) = ((s.getD 0 0:Nat):Int))) = true ↔ _
          simp only [Bool.not_eq_true',decide_eq_false_iff_not]
          omega
        . refine no (fun z => e4 (hk2.mpr ?_)) _ (s12.trans s3)
          show s.getD 3 0 < 3 /\ (1 <= s.getD 4 0 /\ s.getD 4 0 <= 2) /\ (1 <= s.getD 5 0 /\ s.getD 5 0 <= 15)
          omega
theorem c_29 (T:Txt K mg ca):Callee P w K mg base 2 "stroke_can_be" ["stroke"] (sp_29 K):=Callee.of T.d_29 fun _ _ D => ok_29 T D
theorem sc_30 : FnScope ["rod", "forms", "deck"] ["rod"] (defScope t_30) := ⟨rfl, rfl, rfl, by decide +kernel, rfl, by decide +kernel, by decide +kernel⟩
theorem ok_30 (T : Txt K mg ca) (D : DefAt K mg "digit_forms" t_30 ["rod"] f fd) : FnOk P w K mg base CX0 3 f fd ["rod"] (sp_30 K) := by
  refine D.fn.ok sc_30 (fun vs H Q E h => ?_) (fun cdv A outer s H vs Q E hr h => ?_)
  . obtain ⟨a,g,rfl,hs,hl,hR,q⟩:=h
    rfl
  obtain ⟨a,g,rfl,hs,hl,hR,q⟩:=h
  refine ⟨_,(pss_cons (ps_set (i:=1) sc_30.nd rfl (by first | exact Or.inl rfl | exact Or.inr rfl) (pe_disp (pps_cons pe_int (pe_lst pa_nil) pps_nil) rfl rfl (by intro z; cases z) (by decide)))
      (pss_cons (ps_for PassesOwn.never rfl (pi_range1 rfl T.n_range (pa_cons (pe_gi rfl T.v_DECKS) pa_nil)) (pg_name (i:=2) sc_30.nd rfl (by first | exact Or.inl rfl | exact Or.inr rfl))
        (pss_one (ps_set (i:=1) sc_30.nd rfl (by first | exact Or.inl rfl | exact Or.inr rfl) (pe_c (c_22 T) hr (by decide) rfl (pa_cons (pv 0) (pa_cons (pv 2) (pa_cons (pv 1) pa_nil)))))))
      (pss_one (ps_ret (pv 1))))),?_⟩
  intro f0 hf0
  refine ⟨(by show 0 <= sizeLine; decide),fun e0 he0 => ⟨by rw [upd_ne (ne_of_none upd_same he0)]; exact upd_same,[(kN 0,.ref e0)],rfl,by show 1 <= 15; decide,?_⟩⟩
  have n0:e0 ≠ f0:=fun z => by rw [z,upd_same] at he0; cases he0
  have z1:Same H (upd (upd (upd H f0 (.dK [])) e0 (.lst [])) f0 (.dK [(kN 0,.ref e0)])):=Same.put (Same.new (Same.new (Same.refl H) hf0) he0) hf0
  refine ⟨3,rfl,by decide,by decide,for_range (n:=3) (fun i σ H' => ∃ (f:Addr) (v2:Option V) (kvs:List (Key × V)),σ = [some (.ref a),some (.ref f),v2] /\ (Same H H' /\ H f = none) /\ H' f = some (.dK kvs) /\ Forms H' kvs (Rm.waysOf g i) /\ Keys kvs (g.getD 0 0) /\ ∀ x ∈ Rm.waysOf g i,x.2.length = i)
    ⟨f0,none,[(kN 0,.ref e0)],rfl,⟨z1,hf0⟩,upd_same,fun d => ?_,⟨[0],by simp,rfl,fun d hd => by rw [List.mem_singleton.mp hd]; have:=hR.1.1; omega⟩,fun x hx => by rw [List.mem_singleton.mp hx]; rfl⟩ ?_ ?_⟩
  . show match Rm.formIn [(0,[])] d with
      | none => valV [(kN 0,V.ref e0)] (kN d) = none
      | some p => ∃ q,valV [(kN 0,V.ref e0)] (kN d) = some (.ref q) /\ _
    by_cases z:d = 0
    . subst z
      exact ⟨e0,rfl,by rw [upd_ne n0]; exact upd_same⟩
    . have e:Rm.formIn [(0,[])] d = none:=Fo.form_none.mpr fun p hp => z (by rw [List.mem_singleton] at hp; cases hp; rfl)
      rw [e]
      rw [valV_neg (fun y => z (kN_inj y).symm)]
      rfl
  . rintro i σ H' hi ⟨f,v2,kvs,rfl,⟨s1,hn⟩,hf,hF,hK,hlen⟩
    obtain ⟨fl,hfd,hB⟩:=fdict_of hF hK hlen
    refine ⟨_,rfl,_,rfl,_,rfl,a,f,g,i,kvs,fl,by rw [Int.zero_add]; rfl,s1.seq hs,hl,hR,hi,hf,hfd,fun x hx => hB.len x (hB.mem hx),fun H2 f2 kvs2 ⟨s2,n2⟩ hf2 hF2 hK2 => ?_⟩
    exact ⟨f2,_,kvs2,rfl,⟨s1.trans s2,s1.free n2⟩,hf2,hF2.same fun d => (Fo.form_step hB d).symm,hK2,Fo.step_len hlen⟩
  . rintro σ H' ⟨f,v2,kvs,rfl,s1,hf,hF,hK,hlen⟩
    exact ⟨_,rfl,q _ f kvs s1 hf hF ⟨keys_whole hK hF,hK⟩⟩
theorem c_30 (T:Txt K mg ca):Callee P w K mg base 3 "digit_forms" ["rod"] (sp_30 K):=Callee.of T.d_30 fun _ _ D => ok_30 T D
theorem sc_31 : FnScope ["rod", "pushed", "stroke", "n", "k", "between"] ["rod", "pushed", "stroke", "n", "k"] (defScope t_31) := ⟨rfl, rfl, rfl, by decide +kernel, rfl, by decide +kernel, by decide +kernel⟩
theorem ok_31 (T : Txt K mg ca) (D : DefAt K mg "behind_act" t_31 ["rod", "pushed", "stroke", "n", "k"] f fd) : FnOk P w K mg base CX0 3 f fd ["rod", "pushed", "stroke", "n", "k"] (sp_31 K) := by
  refine D.fn.ok sc_31 (fun vs H Q E h => ?_) (fun cdv A outer s H vs Q E hr h => ?_)
  . obtain ⟨a,b,c,g,p,s,n,k,rfl,hg,hgl,hp,hpl,hs,hS,kN,kS⟩:=h
    rfl
  obtain ⟨a,b,c,g,p,s,n,k,rfl,hg,hgl,hp,hpl,hs,hS,kN,kS⟩:=h
  have hu64:=hr.units
  refine ⟨_,(pss_cons (ps_set (i:=5) sc_31.nd rfl (by first | exact Or.inl rfl | exact Or.inr rfl) (pe_c (c_23 T) hr (by decide) rfl (pa_cons (pv 0) (pa_cons (pv 1) (pa_cons (pe_c (c_6 T) hr (by decide) rfl (pa_cons (pv 2) pa_nil)) (pa_cons (pv 3) pa_nil))))))
      (pss_cons (ps_if (pt_cmp (pc_isN (pv 5)))
        (pss_one (ps_ret pe_non))
        pss_nil)
      (pss_cons (ps_if (pt_cmpR (eq_d K hu64) (pe_c (c_7 T) hr (by decide) rfl (pa_cons (pv 2) pa_nil)) (pe_lst (pa_cons pe_int (pa_cons pe_int (pa_cons pe_int pa_nil)))) (nomark _))
        (pss_one (ps_ret (pe_ifExp (pt_cmp (pc_eqI (pv 4) pe_int)) (pv 5) pe_non)))
        pss_nil)
      (pss_one (ps_ret (pe_c (c_23 T) hr (by decide) rfl (pa_cons (pv 0) (pa_cons (pv 5) (pa_cons (pe_c (c_7 T) hr (by decide) rfl (pa_cons (pv 2) pa_nil)) (pa_cons (pv 4) pa_nil)))))))))),?_⟩
  obtain ⟨hsl,hI⟩:=hS
  have hI':=hI
  obtain ⟨i1,i2,i3,i4,i5⟩:=hI'
  unfold Rm.stroke3 at kN kS
  refine ⟨_,rfl,_,rfl,_,rfl,c,s,rfl,hs,hsl,fun H1 f s1 hf => ⟨_,rfl,a,b,f,g,p,s.take 3,n,rfl,s1.seq hg,hgl,s1.seq hp,hpl,SqL.of hf,by rw [List.length_take]; omega,by rw [getD_take (by decide)]; omega,fun e => ?_,fun u e H2 r s2 hr' => ?_⟩⟩
  . rw [getD_take (by decide),getD_take (by decide),getD_take (by decide)] at e
    rw [e] at kN
    exact ⟨_,rfl,_,rfl,iteT (kN rfl H1 s1)⟩
  . rw [getD_take (by decide),getD_take (by decide),getD_take (by decide)] at e
    rw [e,Option.bind_some] at kN kS
    have s12:=s1.trans s2
    have hul:u.length = 3:=(Rm.push_len e).trans hpl
    refine ⟨_,rfl,_,rfl,iteF ?_⟩
    refine ⟨_,rfl,c,s,rfl,s12.seq hs,hsl,fun H3 w s3 hw => ⟨(by show 3 <= sizeLine; decide),fun z hz => ⟨_,_,dp3 (x:=s.getD 3 0) (y:=s.getD 4 0) (z:=s.getD 5 0) ?_,dp3 (SqL.of upd_same),rfl,rfl,_,rfl,?_⟩⟩⟩
    . rw [part2 hsl] at hw
      exact (Same.new (Same.refl H3) hz).seq (SqL.of hw)
    . have s4:Same H2 (upd H3 z (.lst [.int 0,.int 0,.int 0])):=s3.trans (Same.new (Same.refl H3) hz)
      rw [eqv3]
      refine ite2 (fun e2 => ?_) (fun e2 => ?_)
      . have e2:=of_decide_eq_true e2
        have c0:s.getD 3 0 = 0 /\ s.getD 4 0 = 0 /\ s.getD 5 0 = 0:=by omega
        rw [if_pos c0] at kN kS
        refine ⟨_,rfl,_,_,rfl,rfl,_,rfl,ite2 (fun e3 => ?_) (fun e3 => ?_)⟩
        . have e3:=of_decide_eq_true e3
          have k0:k = 0:=by omega
          rw [if_pos k0] at kS
          exact ⟨_,rfl,kS u rfl _ r (s12.trans s4) (s4 _ _ hr')⟩
        . have k0:¬ k = 0:=fun z => e3 (decide_eq_true (by omega))
          rw [if_neg k0] at kN
          exact kN rfl _ (s12.trans s4)
      . have c0:¬ (s.getD 3 0 = 0 /\ s.getD 4 0 = 0 /\ s.getD 5 0 = 0):=fun z => e2 (decide_eq_true (by omega))
        rw [if_neg c0] at kN kS
        refine ⟨_,rfl,_,rfl,_,rfl,c,s,rfl,(s12.trans s4).seq hs,hsl,fun H5 f2 s5 hf2 => ⟨_,rfl,a,r,f2,g,u,(s.drop 3).take 3,k,rfl,((s12.trans s4).trans s5).seq hg,hgl,(s4.trans s5).seq (SqL.of hr'),hul,SqL.of hf2,by rw [part2 hsl]; rfl,by rw [part2 hsl]; show s.getD 3 0 < 3; omega,fun e3 => ?_,fun u2 e3 H6 r2 s6 hr2 => ?_⟩⟩
        . rw [part2 hsl] at e3
          exact kN e3 _ ((s12.trans s4).trans s5)
        . rw [part2 hsl] at e3
          exact kS u2 e3 _ r2 (((s12.trans s4).trans s5).trans s6) hr2
theorem c_31 (T : Txt K mg ca) : Callee P w K mg base 3 "behind_act" ["rod", "pushed", "stroke", "n", "k"] (sp_31 K) := Callee.of T.d_31 fun _ _ D => ok_31 T D
theorem sc_32 : FnScope ["self", "rod", "deck"] ["self", "rod"] (defScope t_32) := ⟨rfl, rfl, rfl, by decide +kernel, rfl, by decide +kernel, by decide +kernel⟩
theorem ok_32 (T : Txt K mg ca) (D : InitAt K mg "Ground" ca.Ground "Ground.__init__" t_32 ["self", "rod"] f fd) : FnOk P w K mg base CX0 3 f fd ["self", "rod"] (sp_32 K ca) := by
  refine D.fn.ok sc_32 (fun vs H Q E h => ?_) (fun cdv A outer s H vs Q E hr h => ?_)
  . obtain ⟨G,dx,a,g,rfl,hG,hs,hl,hR,q⟩:=h
    rfl
  obtain ⟨G,dx,a,g,rfl,hG,hs,hl,hR,q⟩:=h
  refine ⟨_,(pss_cons (ps_fld (pv 0) (pe_c (c_25 T) hr (by decide) rfl (pa_cons (pv 1) pa_nil)) rfl)
      (pss_one (ps_fld (pv 0) (pe_lc rfl sc_32.nd (pi_range1 rfl T.n_range (pa_cons (pe_gi rfl T.v_DECKS) pa_nil)) (blkOk_by (N := ["self", "rod", "deck"]) (sc := defScope t_32) (own := [("deck", 2)]) (by decide +kernel)) (fun _ _ _ _ _ => (pg_name (i := 2) sc_32.nd rfl (by first | exact Or.inl rfl | exact Or.inr rfl))) (fun _ _ _ _ _ => pts_nil) (fun _ _ _ _ _ => (pe_c (c_26 T) hr (by decide) rfl (pa_cons (pv 1) (pa_cons (pv 2) (pa_cons (pe_fldK K (pv 0) rfl) pa_nil)))))) rfl))), ?_⟩
  refine ⟨_,rfl,a,g,rfl,hs,hl,hR,fun H1 p ⟨s1,np⟩ hp => ?_⟩
  have npG:p ≠ G:=fun z => by rw [z,hG] at np; cases np
  refine ⟨_,rfl,G,ca.Ground,dx,_,rfl,s1 _ _ hG,T.k_Ground.cl,T.k_Ground.no 0,(by show 0 < 1000; decide),?_⟩
  have hG2:upd H1 G (.ins ca.Ground dx (putF "strides" (.ref p) [])) G = some (.ins ca.Ground dx [("strides",.ref p)]):=upd_same
  have k2:∀ b o,b ≠ G -> H1 b = some o -> upd H1 G (.ins ca.Ground dx (putF "strides" (.ref p) [])) b = some o:=fun b o nb e => by rw [upd_ne nb]; exact e
  have hs2:=SqL.keepI (s1 _ _ hG) (s1.seq hs) k2
  have hp2:=k2 _ _ npG hp
  generalize upd H1 G (.ins ca.Ground dx (putF "strides" (.ref p) [])) = H2 at hG2 k2 hs2 hp2 |-
  refine ⟨3,rfl,by decide,by decide,fun D hD => ?_⟩
  refine lc_range (lo:=0) (n:=3) (fun i H' => ∃ as:List Addr,Same H2 H' /\ H' D = some (.lst (as.map V.ref)) /\ as.length = i /\ ∀ (j:Nat) (b:Addr),as[j]? = some b -> b ≠ D /\ H' b = some (lstN (rooms g j)))
    ⟨[],Same.new (Same.refl H2) hD,upd_same,rfl,fun j b e => by simp at e⟩ ?_ ?_
  . rintro i H' hi ⟨as,s3,hd,hlen,hall⟩
    refine ⟨rfl,?_⟩
    refine ⟨_,rfl,_,rfl,_,rfl,G,ca.Ground,dx,_,_,rfl,s3 _ _ hG2,T.k_Ground.cl,T.k_Ground.no 0,(by kernel_rfl),a,p,g,i,by rw [Int.zero_add]; rfl,s3.seq hs2,hl,hR,s3.seq (SqL.of hp2),hi,fun H4 b ⟨s4,nb⟩ hb => ?_⟩
    have nbD:b ≠ D:=fun z => by rw [z,hd] at nb; cases nb
    refine ⟨_,s4 _ _ hd,line_lt (by rw [List.length_map]; omega),as ++ [b],Same.put (s3.trans s4) hD,?_,by rw [List.length_append,hlen]; rfl,fun j b' e => ?_⟩
    . rw [upd_same,List.map_append]
      rfl
    . rcases get_snoc e with ⟨k1,e⟩ | ⟨k1,rfl⟩
      . obtain ⟨h1,h2⟩:=hall j b' e
        exact ⟨h1,by rw [upd_ne h1]; exact s4 _ _ h2⟩
      . rw [k1,hlen]
        exact ⟨nbD,by rw [upd_ne nbD]; exact hb⟩
  . rintro H3 ⟨as,s3,hd,hlen,hall⟩
    have hG3:=s3 _ _ hG2
    refine ⟨_,rfl,G,ca.Ground,dx,_,rfl,hG3,T.k_Ground.cl,T.k_Ground.no 1,(by show 1 < 1000; decide),?_⟩
    refine q _ (fun b o nb e => by rw [upd_ne nb]; exact s3 _ _ (k2 b o nb (s1 _ _ e))) ⟨dx,p,D,as,upd_same,?_,?_,hlen,fun j b e => ?_⟩
    . rw [upd_ne npG]
      exact s3 _ _ hp2
    . rw [upd_ne (ne_of hd hG3 (by intro z; cases z))]
      exact hd
    . rw [upd_ne (ne_of (hall j b e).2 hG3 (by intro z; cases z))]
      exact (hall j b e).2
theorem c_32 (T : Txt K mg ca) : CalleeI P w K mg base 3 "Ground" ca.Ground ["self", "rod"] (sp_32 K ca) := CalleeI.of T.d_32 fun _ _ D => ok_32 T D
theorem sc_33 : FnScope ["self", "standings", "stroke", "between"] ["self", "standings", "stroke"] (defScope t_33) := ⟨rfl, rfl, rfl, by decide +kernel, rfl, by decide +kernel, by decide +kernel⟩
theorem ok_33 (T : Txt K mg ca) (D : MethAt K ca.Ground "ahead_of_stroke" "Ground.ahead_of_stroke" t_33 ["self", "standings", "stroke"] f fd) : FnOk P w K mg base CX0 3 f fd ["self", "standings", "stroke"] (sp_33 K ca) := by
  refine D.fn.ok sc_33 (fun vs H Q E h => ?_) (fun cdv A outer s H vs Q E hr h => ?_)
  . obtain ⟨G,a,g,s,N,S,rfl,hG,hR,hs,hS,hI,q⟩:=h
    rfl
  obtain ⟨G,a,g,s,N,S,rfl,hG,hR,hs,hS,hI,q⟩:=h
  have hu64:=hr.units
  refine ⟨_,(pss_cons (ps_set (i:=3) sc_33.nd rfl (by first | exact Or.inl rfl | exact Or.inr rfl) (pe_m T.k_Ground.cl (c_24 T) hr (by decide) pass0 (pv 0) (pa_cons (pv 1) (pa_cons (pe_c (c_6 T) hr (by decide) rfl (pa_cons (pv 2) pa_nil)) pa_nil))))
      (pss_cons (ps_if (pt_cmpR (eq_d K hu64) (pe_c (c_7 T) hr (by decide) rfl (pa_cons (pv 2) pa_nil)) (pe_lst (pa_cons pe_int (pa_cons pe_int (pa_cons pe_int pa_nil)))) (nomark _))
        (pss_one (ps_ret (pv 3)))
        pss_nil)
      (pss_one (ps_ret (pe_m T.k_Ground.cl (c_24 T) hr (by decide) pass0 (pv 0) (pa_cons (pv 3) (pa_cons (pe_c (c_7 T) hr (by decide) rfl (pa_cons (pv 2) pa_nil)) pa_nil))))))),?_⟩
  obtain ⟨dx,st,r,as,hG1,_⟩:=id hG
  obtain ⟨hsl,hI'⟩:=id hS
  obtain ⟨i1,i2,i3,i4,i5⟩:=hI'
  refine ⟨_,rfl,G,dx,_,rfl,hG1,(by kernel_rfl),_,rfl,_,rfl,a,s,rfl,hs,hsl,fun H1 f s1 hf => ?_⟩
  refine ⟨G,f,g,s.take 3,N,S,rfl,hG.keep s1,hR,SqL.of hf,by rw [List.length_take]; omega,?_,hI,fun M hM => ?_⟩
  . rw [part1 hsl]
    exact ⟨show s.getD 0 0 < 3 by omega,i2,i3⟩
  rw [part1 hsl] at hM
  have hM:Gd.Is g M (Gd.Pre g (s.getD 0 0) (s.getD 1 0 == 1) (s.getD 2 0) S):=hM
  refine ⟨_,rfl,a,s,rfl,s1.seq hs,hsl,fun H3 w s3 hw => ⟨(by show 3 <= sizeLine; decide),fun z hz => ⟨_,_,dp3 (x:=s.getD 3 0) (y:=s.getD 4 0) (z:=s.getD 5 0) ?_,dp3 (SqL.of upd_same),rfl,rfl,_,rfl,?_⟩⟩⟩
  . rw [part2 hsl] at hw
    exact (Same.new (Same.refl H3) hz).seq (SqL.of hw)
  have s4:Same H (upd H3 z (.lst [.int 0,.int 0,.int 0])):=(s1.trans s3).trans (Same.new (Same.refl H3) hz)
  rw [eqv3]
  refine ite2 (fun e2 => ?_) (fun e2 => ?_)
  . have e2:=of_decide_eq_true e2
    have c0:s.getD 3 0 = 0 /\ s.getD 4 0 = 0 /\ s.getD 5 0 = 0:=by omega
    exact ⟨_,rfl,q M _ (hM.mono fun p hp => (Gd.str_one hS hp (fun z => z c0)).symm) s4⟩
  . have c0:¬ (s.getD 3 0 = 0 /\ s.getD 4 0 = 0 /\ s.getD 5 0 = 0):=fun z => e2 (decide_eq_true (by omega))
    refine ⟨_,rfl,G,dx,_,rfl,s4 _ _ hG1,(by kernel_rfl),_,rfl,_,rfl,a,s,rfl,s4.seq hs,hsl,fun H5 f2 s5 hf2 => ?_⟩
    refine ⟨G,f2,g,(s.drop 3).take 3,M,_,rfl,hG.keep (s4.trans s5),hR,SqL.of hf2,by rw [part2 hsl]; rfl,?_,hM,fun M2 hM2 => ?_⟩
    . rw [part2 hsl]
      rcases i4 with z | z
      . exact absurd z c0
      . exact ⟨show s.getD 3 0 < 3 by omega,z.2.1,z.2.2.1⟩
    . rw [part2 hsl] at hM2
      exact q M2 _ (hM2.mono fun p hp => (Gd.str_two hS hp c0).symm) (s4.trans s5)
theorem c_33 (T : Txt K mg ca) : CalleeM P w K mg base CX0 3 ca.Ground "ahead_of_stroke" ["self", "standings", "stroke"] (sp_33 K ca) := CalleeM.of T.d_33 fun _ _ D => ok_33 T D
theorem sc_34 : FnScope ["hand", "place", "stroke"] ["hand"] (defScope t_34) := ⟨rfl, rfl, rfl, by decide +kernel, rfl, by decide +kernel, by decide +kernel⟩
theorem ok_34 (T : Txt K mg ca) (D : DefAt K mg "hand_fault" t_34 ["hand"] f fd) : FnOk P w K mg base CX0 3 f fd ["hand"] (sp_34 K) := by
  refine D.fn.ok sc_34 (fun vs H Q E h => ?_) (fun cdv A outer s H vs Q E hr h => ?_)
  . obtain ⟨a,l,rfl,hs,hl,kN,kS⟩:=h
    rfl
  obtain ⟨a,l,rfl,hs,hl,kN,kS⟩:=h
  refine ⟨_,(pss_cons (ps_if (pt_not (pt_val (pe_c (c_19 T) hr (by decide) rfl (pa_cons (pv 0) pa_nil))))
        (pss_one (ps_ret (pe_lst (pa_cons (pe_gi rfl T.v_HAND_RULE) (pa_cons pe_int pa_nil)))))
        pss_nil)
      (pss_cons (ps_for PassesOwn.never rfl (pi_enum rfl T.n_enumerate (pa_cons (pe_c (c_5 T) hr (by decide) rfl (pa_cons (pv 0) pa_nil)) pa_nil)) (pg_tup rfl (pgs_cons (pg_name (i:=1) sc_34.nd rfl (by first | exact Or.inl rfl | exact Or.inr rfl)) (pgs_cons (pg_name (i:=2) sc_34.nd rfl (by first | exact Or.inl rfl | exact Or.inr rfl)) pgs_nil)))
        (pss_one (ps_if (pt_not (pt_val (pe_c (c_29 T) hr (by decide) rfl (pa_cons (pv 2) pa_nil))))
          (pss_one (ps_ret (pe_lst (pa_cons (pe_gi rfl T.v_STROKE_RULE) (pa_cons (pv 1) pa_nil)))))
          pss_nil)))
      (pss_one (ps_ret pe_non)))),?_⟩
  refine ⟨_,rfl,a,l,rfl,hs,hl,fun k hk => ⟨k,rfl,ite2 (fun e => ?_) (fun e => ?_)⟩⟩
  . have hn:¬ Mm.HandLen l:=fun z => by
      rw [hk.mpr z] at e
      cases e
    exact ⟨(by show 2 <= sizeLine; decide),fun p hp => kS 6 0 (Mm.hand_len hn) _ p (Same.new (Same.refl H) hp) upd_same⟩
  . have hL:Mm.HandLen l:=hk.mp (by cases k with
      | true => rfl
      | false => exact absurd rfl e)
    have hL':=hL
    obtain ⟨h0,h1,h2,h3⟩:=hL'
    have h0:l.length ≠ 0:=fun z => h0 (List.eq_nil_of_length_eq_zero z)
    refine ⟨_,rfl,a,l,rfl,hs,h0,h2,hl,fun H1 p1 sas ⟨s1,_⟩ hp1 hsas => ⟨p1,_,rfl,SqL.of hp1,for_enum (a:=p1) (xs:=sas.map V.ref) (fun i σ H' => ∃ (v1 v2:Option V),σ = [some (.ref a),v1,v2] /\ Same H1 H' /\ ∀ j,j < i -> Na.strokeGood (Mm.grp 7 (l.drop 1) j) = true)
      ⟨none,none,rfl,Same.refl H1,fun j hj => by omega⟩ (fun i σ H' _ ⟨_,_,_,s2,_⟩ => s2.seq (SqL.of hp1)) ?_ ?_⟩⟩
    . rintro i y p σ H' hi hp ⟨v1,v2,rfl,s2,hg⟩
      obtain ⟨ra,hra,rfl⟩:=map_at hi
      have hil:i < (Na.groups 7 (l.drop 1)).length:=by
        have:=(List.getElem?_eq_some_iff.mp hra).1
        rw [hsas.1] at this
        exact this
      obtain ⟨g,hgg⟩:∃ g,(Na.groups 7 (l.drop 1))[i]? = some g:=⟨_,List.getElem?_eq_getElem hil⟩
      obtain ⟨hi7,eg⟩:=(Mm.groups_at (by decide) (Mm.hand_mod hL)).mp hgg
      have hg7:g.length = 7:=by rw [eg]; exact grp_len hi7
      have s3:Same H' (upd H' p (.tup [.int (i:Nat),.ref ra])):=Same.new (Same.refl H') hp
      have s13:=s2.trans s3
      refine ⟨p,_,rfl,SqT.of upd_same,rfl,_,_,rfl,_,_,rfl,rfl,?_⟩
      refine ⟨_,rfl,ra,g,rfl,s13.seq (hsas.2 i ra g hra hgg),hg7,fun k H4 hk4 s4 => ⟨k,rfl,ite2 (fun e => ?_) (fun e => ?_)⟩⟩
      . have hb:Na.strokeGood g = false:=by
          cases z:Na.strokeGood g with
          | false => rfl
          | true =>
            rw [hk4.mpr z] at e
            cases e
        rw [List.length_drop] at hi7
        exact ⟨_,rfl,(by show 2 <= sizeLine; decide),fun p5 hp5 => kS 7 i (Mm.hand_bad hL hi7 (by rw [<- eg]; exact hb) hg) _ p5 (Same.new ((s1.trans s13).trans s4) hp5) upd_same⟩
      . refine ⟨_,_,rfl,s13.trans s4,fun j hj => ?_⟩
        by_cases z:j = i
        . rw [z,<- eg]
          exact hk4.mp (by cases k with
            | true => rfl
            | false => exact absurd rfl e)
        . exact hg j (by omega)
    . rintro σ H' ⟨v1,v2,rfl,s2,hg⟩
      rw [List.length_map,hsas.1,Mm.groups_is (by decide) (Mm.hand_mod hL),List.length_map,List.length_range,List.length_drop] at hg
      exact kN _ (Mm.hand_ok hL hg) _ (s1.trans s2)
theorem c_34 (T:Txt K mg ca):Callee P w K mg base 3 "hand_fault" ["hand"] (sp_34 K):=Callee.of T.d_34 fun _ _ D => ok_34 T D
theorem sc_35 : FnScope ["self", "standings", "stroke", "ahead", "cost"] ["self", "standings"] (defScope t_35) := ⟨rfl, rfl, rfl, by decide +kernel, rfl, by decide +kernel, by decide +kernel⟩
theorem ok_35 (T : Txt K mg ca) (D : MethAt K ca.Efforts "find_ahead_of" "Efforts.find_ahead_of" t_35 ["self", "standings"] f fd) : FnOk P w K mg base CX0 4 f fd ["self", "standings"] (sp_35 K ca) := by
  refine D.fn.ok sc_35 (fun vs H Q E h => ?_) (fun cdv A outer s H vs Q E hr h => ?_)
  . obtain ⟨E,F,A,G,S,dx,g,q,ss,e,hi,N,M,fnd,rfl,hE,nEF,hF,hG,hS,hR,hM,hok,hhi,hlen,k⟩:=h
    rfl
  obtain ⟨E,F,A,G,S,dx,g,q,ss,e,hi,N,M,fnd,rfl,hE,nEF,hF,hG,hS,hR,hM,hok,hhi,hlen,k⟩:=h
  have hu:=hu_of hr
  refine ⟨_,(pss_one (ps_for PassesOwn.never rfl (pi_list (pe_fld (pv 0) rfl)) (pg_name (i:=2) sc_35.nd rfl (by first | exact Or.inl rfl | exact Or.inr rfl))
        (pss_cons (ps_set (i:=3) sc_35.nd rfl (by first | exact Or.inl rfl | exact Or.inr rfl) (pe_m T.k_Ground.cl (c_33 T) hr (by decide) pass0 (pe_fld (pv 0) rfl) (pa_cons (pv 1) (pa_cons (pv 2) pa_nil))))
        (pss_one (ps_if (pt_cmp (pc_neI (pv 3) pe_int))
          (pss_cons (ps_set (i:=4) sc_35.nd rfl (by first | exact Or.inl rfl | exact Or.inr rfl) (pe_op op_add (pe_fld (pv 0) rfl) (pe_c (c_8 T) hr (by decide) rfl (pa_cons (pv 2) pa_nil))))
          (pss_one (ps_dput hu (pe_fld (pv 0) rfl) (pv 4) (pe_op op_orN (pe_dget2 hu (pe_fld (pv 0) rfl) (pv 4) pe_int ⟨rfl,rfl,rfl,rfl⟩) (pv 3)) rfl)))
          pss_nil))))),?_⟩
  obtain ⟨as,hS1,hls,hSI,hsl⟩:=hS
  refine ⟨_,rfl,E,ca.Efforts,dx,_,_,rfl,hE,T.k_Efforts.cl,T.k_Efforts.no 1,ef1,S,rfl,⟨_,SqL.of hS1⟩,for_list (a:=S) (xs:=as.map V.ref) (fun i σ H' => ∃ (v2 v3 v4:Option V) (fnd':List (Key × V)),σ = [some (.ref E),some (.int (M:Nat)),v2,v3,v4] /\ (∀ b o,b ≠ F -> H b = some o -> H' b = some o) /\ H' F = some (.dK fnd') /\ FOk g (e + 1) hi fnd' /\ fnd'.length <= fnd.length + i /\
      ∀ c p,Gd.Fit g p -> (FdAt g fnd' c p ↔ FdAt g fnd c p \/ ∃ s ∈ ss.take i,c = e + s.getD 6 0 /\ Gd.Str g s (fun u => Pd.Far3 g ss q u e) p))
    ⟨none,none,none,fnd,rfl,fun b o _ z => z,hF,hok,Nat.le_refl _,fun c p _ => ⟨.inl,fun z => z.elim id fun ⟨s,h,_⟩ => by simp at h⟩⟩ (fun i σ H' _ ⟨_,_,_,_,_,h,_⟩ => SqL.keepX hF (SqL.of hS1) h) ?_ ?_⟩
  . rintro i x σ H' hi' ⟨v2,v3,v4,fnd',rfl,hk,hF',hok',hl',hfd⟩
    obtain ⟨b,hb,rfl⟩:=map_at hi'
    obtain ⟨s,hs⟩:=at_len hls.1.symm hb
    have hsI:=hSI s (List.mem_of_getElem? hs)
    have hil:i < ss.length:=(List.getElem?_eq_some_iff.mp hs).1
    have hE':=hk _ _ nEF hE
    have hG':=hG.keepX hF hk
    have hN':NL K H' b s:=(hls.keepX hF hk).2 i b s hb hs
    obtain ⟨dg,sg,rg,ag,hG1,_⟩:=id hG'
    refine ⟨_,rfl,E,ca.Efforts,dx,_,_,rfl,hE',T.k_Efforts.cl,T.k_Efforts.no 0,ef0,G,dg,_,rfl,hG1,(by kernel_rfl),_,rfl,_,rfl,G,b,g,s,M,_,rfl,hG',hR,hN',hsI,hM,fun M2 H3 hM2 s3 => ?_⟩
    have tk:=take_snoc hs
    have hF3:=s3 _ _ hF'
    have hk3:∀ b o,b ≠ F -> H b = some o -> H3 b = some o:=fun b o nb z => s3 _ _ (hk b o nb z)
    refine ⟨_,rfl,_,_,rfl,rfl,_,rfl,ite2 (fun e0 => ?_) (fun e0 => ?_)⟩
    . have ec:((e:Nat):Int) + ((s.getD 6 0:Nat):Int) = ((e + s.getD 6 0:Nat):Int):=by push_cast; rfl
      have hc1:1 <= s.getD 6 0 /\ s.getD 6 0 <= 255:=hsI.2.2.2.2.2
      refine ⟨_,rfl,E,ca.Efforts,dx,_,_,rfl,s3 _ _ hE',T.k_Efforts.cl,T.k_Efforts.no 5,ef5,_,rfl,b,s,rfl,s3.seq hN',hsI.1,_,_,rfl,rfl,?_⟩
      simp only [ec]
      have fin:∀ (a:Nat),Gd.Is g a (FdAt g fnd' (e + s.getD 6 0)) -> ∃ (v2 v3 v4:Option V) (fnd2:List (Key × V)),[some (V.ref E),some (V.int (M:Nat)),some (V.ref b),some (V.int (M2:Nat)),some (V.int ((e + s.getD 6 0:Nat):Int))] = [some (.ref E),some (.int (M:Nat)),v2,v3,v4] /\ (∀ b o,b ≠ F -> H b = some o -> upd H3 F (.dK (putK fnd' (kN (e + s.getD 6 0)) (.int ((a ||| M2:Nat):Int)))) b = some o) /\ upd H3 F (.dK (putK fnd' (kN (e + s.getD 6 0)) (.int ((a ||| M2:Nat):Int)))) F = some (.dK fnd2) /\ FOk g (e + 1) hi fnd2 /\ fnd2.length <= fnd.length + (i + 1) /\
          ∀ c p,Gd.Fit g p -> (FdAt g fnd2 c p ↔ FdAt g fnd c p \/ ∃ s ∈ ss.take (i + 1),c = e + s.getD 6 0 /\ Gd.Str g s (fun u => Pd.Far3 g ss q u e) p):=by
        intro a ha
        have hor:=ha.or hM2
        refine ⟨_,_,_,_,rfl,fun b o nb z => by rw [upd_ne nb]; exact hk3 b o nb z,upd_same,hok'.put (by omega) (by omega) hor.1,by have:=put_len fnd' (kN (e + s.getD 6 0)) (.int ((a ||| M2:Nat):Int)); omega,fun c p hp => ?_⟩
        rw [fd_put hok' hor hp,tk]
        by_cases z:c = e + s.getD 6 0
        . rw [if_pos z,<- z,hfd c p hp]
          constructor
          . rintro ((h | ⟨s',h1,h2⟩) | h)
            . exact .inl h
            . exact .inr ⟨s',List.mem_append_left _ h1,h2⟩
            . exact .inr ⟨s,List.mem_append_right _ (List.mem_singleton.mpr rfl),z,h⟩
          . rintro (h | ⟨s',h1,h2,h3⟩)
            . exact .inl (.inl h)
            . rcases List.mem_append.mp h1 with h1 | h1
              . exact .inl (.inr ⟨s',h1,h2,h3⟩)
              . rw [List.mem_singleton] at h1
                rw [h1] at h3
                exact .inr h3
        . rw [if_neg z,hfd c p hp]
          constructor
          . rintro (h | ⟨s',h1,h2⟩)
            . exact .inl h
            . exact .inr ⟨s',List.mem_append_left _ h1,h2⟩
          . rintro (h | ⟨s',h1,h2,h3⟩)
            . exact .inl h
            . rcases List.mem_append.mp h1 with h1 | h1
              . exact .inr ⟨s',h1,h2,h3⟩
              . rw [List.mem_singleton] at h1
                rw [h1] at h2
                exact absurd h2 z
      have hln:fnd'.length < sizeLine:=line_lt (by omega)
      refine ⟨_,rfl,E,ca.Efforts,dx,_,_,rfl,s3 _ _ hE',T.k_Efforts.cl,T.k_Efforts.no 2,ef2,F,rfl,.inl ⟨fnd',.inl hF3⟩,_,rfl,_,DGet.k (k:=kN (e + s.getD 6 0)) hF3,?_⟩
      cases ev:valV fnd' (kN (e + s.getD 6 0)) with
      | none =>
        refine ⟨_,rfl,0,M2,rfl,rfl,_,rfl,E,ca.Efforts,dx,_,_,rfl,s3 _ _ hE',T.k_Efforts.cl,T.k_Efforts.no 2,ef2,_,rfl,F,_,rfl,DPut.k (k:=kN (e + s.getD 6 0)) hF3 hln,?_⟩
        exact fin 0 (Gd.Is.zero.mono fun p _ => ⟨fun z => z.elim,fun ⟨M',z,_⟩ => by rw [ev] at z; cases z⟩)
      | some v =>
        obtain ⟨M1,rfl,_,_,hM1⟩:=hok'.val ev
        refine ⟨_,rfl,M1,M2,rfl,rfl,_,rfl,E,ca.Efforts,dx,_,_,rfl,s3 _ _ hE',T.k_Efforts.cl,T.k_Efforts.no 2,ef2,_,rfl,F,_,rfl,DPut.k (k:=kN (e + s.getD 6 0)) hF3 hln,?_⟩
        exact fin M1 hM1
    . have e0:M2 = 0:=by
        refine Classical.byContradiction fun z => e0 ?_
        show (!decide (((M2:Nat):Int) = 0)) = true
        rw [decide_eq_false (by omega)]
        rfl
      have hno:=hM2.none.mp e0
      refine ⟨_,_,_,fnd',rfl,hk3,hF3,hok',by omega,fun c p hp => ?_⟩
      rw [hfd c p hp,tk]
      constructor
      . rintro (h | ⟨s',h1,h2⟩)
        . exact .inl h
        . exact .inr ⟨s',List.mem_append_left _ h1,h2⟩
      . rintro (h | ⟨s',h1,h2,h3⟩)
        . exact .inl h
        . rcases List.mem_append.mp h1 with h1 | h1
          . exact .inr ⟨s',h1,h2,h3⟩
          . rw [List.mem_singleton] at h1
            rw [h1] at h3
            exact absurd h3 (hno p hp)
  . rintro σ H' ⟨v2,v3,v4,fnd',rfl,hk,hF',hok',hl',hfd⟩
    rw [List.length_map,hls.1] at hl' hfd
    rw [List.take_length] at hfd
    exact k H' fnd' hk hF' hok' hl' hfd
theorem c_35 (T : Txt K mg ca) : CalleeM P w K mg base CX0 4 ca.Efforts "find_ahead_of" ["self", "standings"] (sp_35 K ca) := CalleeM.of T.d_35 fun _ _ D => ok_35 T D
theorem sc_36 : FnScope ["self", "pushed", "stroke", "aims", "n", "k", "behind"] ["self", "pushed", "stroke", "aims"] (defScope t_36) := ⟨rfl, rfl, rfl, by decide +kernel, rfl, by decide +kernel, by decide +kernel⟩
theorem ok_36 (T : Txt K mg ca) (D : MethAt K ca.Tours "first_beads" "Tours.first_beads" t_36 ["self", "pushed", "stroke", "aims"] f fd) : FnOk P w K mg base CX0 4 f fd ["self", "pushed", "stroke", "aims"] (sp_36 K ca) := by
  refine D.fn.ok sc_36 (fun vs H Q E h => ?_) (fun cdv A outer s H vs Q E hr h => ?_)
  . obtain ⟨To,D,W,a,c,g,p,s,ss,M,S,rfl,hT,hp,hF,hc,hS,hI,hStr,q⟩:=h
    rfl
  obtain ⟨To,D,W,a,c,g,p,s,ss,M,S,rfl,hT,hp,hF,hc,hS,hI,hStr,q⟩:=h
  refine ⟨_,(pss_cons (ps_for PassesOwn.never rfl (pi_range2 rfl T.n_range (pa_cons pe_int (pa_cons (pe_op op_add (pe_ix (ix_l K) (pe_c (c_6 T) hr (by decide) rfl (pa_cons (pv 2) pa_nil)) pe_int (fun _ _ => rfl)) pe_int) pa_nil))) (pg_name (i:=4) sc_36.nd rfl (by first | exact Or.inl rfl | exact Or.inr rfl))
        (pss_one (ps_for PassesOwn.never rfl (pi_list (pe_c (c_27 T) hr (by decide) rfl (pa_cons (pv 2) pa_nil))) (pg_name (i:=5) sc_36.nd rfl (by first | exact Or.inl rfl | exact Or.inr rfl))
          (pss_cons (ps_set (i:=6) sc_36.nd rfl (by first | exact Or.inl rfl | exact Or.inr rfl) (pe_c (c_31 T) hr (by decide) rfl (pa_cons (pe_fld (pv 0) rfl) (pa_cons (pv 1) (pa_cons (pv 2) (pa_cons (pv 4) (pa_cons (pv 5) pa_nil)))))))
          (pss_one (ps_if (PW.pt (pw_and (pt_cmp (pc_notN (pv 6))) (pw_and1 (pt_cmp (pc_neI (pe_op op_andN (pe_m T.k_Ground.cl (c_13 T) hr (by decide) pass0 (pe_fld (pv 0) rfl) (pa_cons (pv 6) pa_nil)) (pv 3)) pe_int)))))
            (pss_one (ps_ret (pe_tup (pa_cons (pv 4) (pa_cons (pv 5) pa_nil)))))
            pss_nil))))))
      (pss_one (ps_ret pe_non))),?_⟩
  obtain ⟨dx,r,St,f,G,kvs,hTo,hr,hSt,hf,hFo,hG,h7,hR,hW⟩:=id hT
  obtain ⟨dg,sg,rg,ag,hG1,_⟩:=id hG
  obtain ⟨hsl,i1,i2,i3,i4,i5⟩:=id hS
  refine ⟨_,rfl,c,s,rfl,hc,hsl,fun H1 f1 s1 hf1 => ?_⟩
  rw [part1 hsl] at hf1
  refine ⟨f1,_,_,_,rfl,rfl,SqL.of hf1,at_n (g:=[s.getD 0 0,s.getD 1 0,s.getD 2 0]) (j:=2) (by simp),_,_,rfl,rfl,1,_,rfl,⟨by decide,by decide,by show _ <= ((s.getD 2 0:Nat):Int) + 1; omega,by show ((s.getD 2 0:Nat):Int) + 1 < _; omega⟩,for_range (lo:=1) (fun i σ H' => ∃ v4 v5 v6:Option V,σ = [some (.ref To),some (.ref a),some (.ref c),some (.int (M:Nat)),v4,v5,v6] /\ Same H H' /\ ∀ n' k' v,n' < i + 1 -> Rm.stroke3 (Rm.bsOf g) p s n' k' = some v -> ¬ S v)
    ⟨none,none,none,rfl,s1,fun n' k' v hn hv => ?_⟩ ?_ ?_⟩
  . have:=(Gd.stroke_in hS hv).1.1
    omega
  . rintro i σ H2 hi ⟨v4,v5,v6,rfl,s2,hno⟩
    have en:(1:Int) + (i:Int) = ((i + 1:Nat):Int):=by omega
    rw [en]
    refine ⟨_,rfl,c,s,rfl,s2.seq hc,hS,fun H3 l s3 hl => ?_⟩
    have s23:=s2.trans s3
    refine ⟨l,rfl,⟨_,SqL.of hl⟩,for_list (a:=l) (xs:=(nz (secs s)).map V.int) (fun j σ H' => ∃ v5 v6:Option V,σ = [some (.ref To),some (.ref a),some (.ref c),some (.int (M:Nat)),some (.int ((i + 1:Nat):Int)),v5,v6] /\ Same H3 H' /\ ∀ (j' k':Nat) (v:List Nat),j' < j -> (secs s)[j']? = some k' -> Rm.stroke3 (Rm.bsOf g) p s (i + 1) k' = some v -> ¬ S v)
      ⟨_,_,rfl,Same.refl H3,fun j' k' v h => absurd h (Nat.not_lt_zero _)⟩ (fun j σ H' _ ⟨_,_,_,h,_⟩ => h.seq (SqL.of hl)) ?_ ?_⟩
    . rintro j x σ H4 hj ⟨v5,v6,rfl,s4,hno4⟩
      obtain ⟨k,hk,rfl⟩:=nz_get hj
      have sH:=s23.trans s4
      have next:∀ (H5:Hp) (v:Option V),Same H4 H5 -> (∀ v,Rm.stroke3 (Rm.bsOf g) p s (i + 1) k = some v -> ¬ S v) -> ∃ v5 v6:Option V,[some (V.ref To),some (.ref a),some (.ref c),some (.int (M:Nat)),some (.int ((i + 1:Nat):Int)),some (.int (k:Nat)),v] = [some (.ref To),some (.ref a),some (.ref c),some (.int (M:Nat)),some (.int ((i + 1:Nat):Int)),v5,v6] /\ Same H3 H5 /\ ∀ (j' k':Nat) (v:List Nat),j' < j + 1 -> (secs s)[j']? = some k' -> Rm.stroke3 (Rm.bsOf g) p s (i + 1) k' = some v -> ¬ S v:=by
        intro H5 v s5 hn
        refine ⟨_,_,rfl,s4.trans s5,fun j' k' v' hj' ej ev => ?_⟩
        by_cases z:j' = j
        . subst z
          rw [hk] at ej
          cases ej
          exact hn v' ev
        . exact hno4 j' k' v' (by omega) ej ev
      refine ⟨_,rfl,To,ca.Tours,dx,_,_,rfl,sH _ _ hTo,T.k_Tours.cl,T.k_Tours.no 0,tf0,_,rfl,_,rfl,_,rfl,_,rfl,r,a,c,g,p,s,i + 1,k,rfl,sH.seq hr,h7,sH.seq hp,hF.1,sH.seq hc,hS,fun e1 H5 s5 => ?_,fun u e1 H5 w s5 hw => ?_⟩
      . exact ⟨_,rfl,_,rfl,iteF (iteF (next H5 _ s5 fun v z => by rw [e1] at z; cases z))⟩
      . have sH5:=sH.trans s5
        have hu:=Gd.stroke_fit hS hF e1
        refine ⟨_,rfl,_,rfl,iteT ?_⟩
        refine ⟨_,rfl,To,ca.Tours,dx,_,_,rfl,sH5 _ _ hTo,T.k_Tours.cl,T.k_Tours.no 3,tf3,G,dg,_,rfl,sH5 _ _ hG1,(by kernel_rfl),_,rfl,G,w,g,u,rfl,hG.keep sH5,SqL.of hw,hu,hR,fun H6 s6 => ?_⟩
        refine ⟨_,rfl,1 <<< Gd.pl g u,M,rfl,rfl,_,_,rfl,rfl,_,rfl,ite2 (fun e2 => ?_) (fun e2 => ?_)⟩
        . have e2:(!decide ((((1 <<< Gd.pl g u) &&& M:Nat):Int) = 0)) = true:=e2
          have h2:(1 <<< Gd.pl g u) &&& M ≠ 0:=fun z => by
            rw [z] at e2
            simp at e2
          have hSu:=(hI.meets' hu).mp h2
          refine ⟨_,rfl,_,rfl,(by show 2 <= sizeLine; decide),fun t ht => q (i + 1) k u _ t e1 hSu (fun n' k' v hlt hv => ?_) (Same.new (sH5.trans s6) ht) upd_same⟩
          rcases hlt with h | ⟨rfl,h⟩
          . exact hno n' k' v h hv
          . obtain ⟨j',hj',h4⟩:=secs_mem (Gd.stroke_in hS hv).2
            refine hno4 j' k' v ?_ hj' hv
            rcases secs_at hk with ⟨c4,_,_⟩ | ⟨c4,ek⟩
            . rcases secs_at hj' with ⟨_,_,_⟩ | ⟨c5,_⟩
              . omega
              . exact absurd c4 c5
            . have:=h4 c4
              omega
        . refine next H6 _ (s5.trans s6) fun v ev z => e2 ?_
          rw [e1] at ev
          cases ev
          have:=(hI.meets' hu).mpr z
          show (!decide ((((1 <<< Gd.pl g u) &&& M:Nat):Int) = 0)) = true
          rw [decide_eq_false (by omega)]
          rfl
    . rintro σ H4 ⟨v5,v6,rfl,s4,hno4⟩
      rw [vi_len] at hno4
      refine ⟨_,_,_,rfl,s23.trans s4,fun n' k' v hn hv => ?_⟩
      by_cases z:n' = i + 1
      . subst z
        obtain ⟨j',hj',_⟩:=secs_mem (Gd.stroke_in hS hv).2
        exact hno4 j' k' v (List.getElem?_eq_some_iff.mp hj').1 hj' hv
      . exact hno n' k' v (by omega) hv
  . rintro σ H2 ⟨v4,v5,v6,rfl,s2,hno⟩
    exfalso
    obtain ⟨n,k,u,h1,h2⟩:=hStr
    refine hno n k u ?_ h1 h2
    have:=(Gd.stroke_in hS h1).1.2
    show n < (((s.getD 2 0:Nat):Int) + 1 - 1).toNat + 1
    omega
theorem c_36 (T : Txt K mg ca) : CalleeM P w K mg base CX0 4 ca.Tours "first_beads" ["self", "pushed", "stroke", "aims"] (sp_36 K ca) := CalleeM.of T.d_36 fun _ _ D => ok_36 T D
theorem sc_37:FnScope ["rod"] ["rod"] (defScope t_37):=⟨rfl,rfl,rfl,by decide +kernel,rfl,by decide +kernel,by decide +kernel⟩
theorem ok_37 (T : Txt K mg ca) (D : DefAt K mg "rule_broken" t_37 ["rod"] f fd) : FnOk P w K mg base CX0 4 f fd ["rod"] (sp_37 K) := by
  refine D.fn.ok sc_37 (fun vs H Q E h => ?_) (fun cdv A outer s H vs Q E hr h => ?_)
  . obtain ⟨a,g,rfl,hs,hl,kN,kS⟩:=h
    rfl
  obtain ⟨a,g,rfl,hs,hl,kN,kS⟩:=h
  refine ⟨_,(pss_cons (ps_if (pt_not (pt_val (pe_c (c_28 T) hr (by decide) rfl (pa_cons (pv 0) pa_nil))))
        (pss_one (ps_ret (pe_gi rfl T.v_ROD_RULE)))
        pss_nil)
      (pss_cons (ps_if (pt_cmp (pc_gt (pe_c (c_21 T) hr (by decide) rfl (pa_cons (pv 0) pa_nil)) (pe_gi rfl T.v_HIGHEST_WORTH_TOGETHER)))
        (pss_one (ps_ret (pe_gi rfl T.v_WORTH_TOGETHER_RULE)))
        pss_nil)
      (pss_cons (ps_if (pt_cmp (pc_lt (pe_callB call_lenD (by rfl) T.n_len bt_len (pa_cons (pe_c (c_30 T) hr (by decide) rfl (pa_cons (pv 0) pa_nil)) pa_nil)) (pe_c (c_1 T) hr (by decide) rfl (pa_cons (pv 0) pa_nil))))
        (pss_one (ps_ret (pe_gi rfl T.v_DIGITS_RULE)))
        pss_nil)
      (pss_one (ps_ret pe_non))))),?_⟩
  refine ⟨_,rfl,a,g,rfl,hs,hl,fun k hk => ⟨k,rfl,ite2 (fun e => ?_) (fun e => ?_)⟩⟩
  . have hn:¬ Rm.RIn g:=fun z => by
      rw [hk.mpr z] at e
      cases e
    exact kS 2 (Rm.wrong2 hn) (by decide) H (Same.refl H)
  . have hR:Rm.RIn g:=hk.mp (by cases k with
      | true => rfl
      | false => exact absurd rfl e)
    refine ⟨_,rfl,a,g,rfl,hs,hl,hR,fun H1 s1 => ⟨_,_,rfl,rfl,_,rfl,ite2 (fun e1 => ?_) (fun e1 => ?_)⟩⟩
    . have e1:=of_decide_eq_true e1
      exact kS 3 (Rm.wrong3 hR (by omega)) (by decide) H1 s1
    . have e1:¬ 255 < Rm.mostOf g:=fun z => e1 (decide_eq_true (by omega))
      refine ⟨_,rfl,a,g,rfl,s1.seq hs,hl,hR,fun H2 f kvs ⟨s2,_⟩ hf hF ⟨hw,_⟩ => ⟨f,kvs,rfl,hf,_,rfl,a,g,rfl,(s1.trans s2).seq hs,hl,_,_,rfl,rfl,_,rfl,ite2 (fun e2 => ?_) (fun e2 => ?_)⟩⟩
      . have e2:=of_decide_eq_true e2
        exact kS 4 (Rm.wrong4 hR e1 (hw.mp (by omega))) (by decide) H2 (s1.trans s2)
      . refine kN (Rm.wrong0 hR e1 (Classical.byContradiction fun z => e2 (decide_eq_true ?_))) H2 (s1.trans s2)
        have:=hw.mpr z
        omega
theorem c_37 (T:Txt K mg ca):Callee P w K mg base 4 "rule_broken" ["rod"] (sp_37 K):=Callee.of T.d_37 fun _ _ D => ok_37 T D
theorem sc_38 : FnScope ["self", "fresh"] ["self"] (defScope t_38) := ⟨rfl, rfl, rfl, by decide +kernel, rfl, by decide +kernel, by decide +kernel⟩
theorem ok_38 (T : Txt K mg ca) (D : MethAt K ca.Efforts "look_further" "Efforts.look_further" t_38 ["self"] f fd) : FnOk P w K mg base CX0 5 f fd ["self"] (sp_38 K ca) := by
  refine D.fn.ok sc_38 (fun vs H Q E h => ?_) (fun cdv A outer s H vs Q E hr h => ?_)
  . obtain ⟨E,F,A,G,S,g,q,ss,e,L,N,fnd,st,H2,rfl,hA,hne,k⟩:=h
    rfl
  obtain ⟨E,F,A,G,S,g,q,ss,e,L,N,fnd,st,H2,rfl,hA,hne,k⟩:=h
  have hu:=hu_of hr
  refine ⟨_,(pss_cons (ps_set (i:=1) sc_38.nd rfl (by first | exact Or.inl rfl | exact Or.inr rfl) (pe_op op_andnot (pe_dpop2 (pe_fld (pv 0) rfl) (pe_fld (pv 0) rfl) pe_int ⟨rfl,rfl,rfl,rfl⟩) (pe_un un_inv (pe_fld (pv 0) rfl))))
      (pss_cons (ps_if (pt_cmp (pc_neI (pv 1) pe_int))
        (pss_cons (ps_fldaug (pv 0) (pv 1) in_orN)
        (pss_cons (ps_dput hu (pe_fld (pv 0) rfl) (pe_fld (pv 0) rfl) (pv 1) rfl)
        (pss_one (ps_expr (pe_m T.k_Efforts.cl (c_35 T) hr (by decide) pass0 (pv 0) (pa_cons (pv 1) pa_nil))))))
        pss_nil)
      (pss_one (ps_fldaug (pv 0) pe_int in_add)))),?_⟩
  obtain ⟨dx,ob⟩:=hA.ob
  obtain ⟨asS,hS1,hls,hSI,hsl⟩:=id hA.str
  have hEf:=hA.eff
  have hall:Gd.cnt g N <= 4096:=Nat.le_trans (Gd.cnt_le g N) (Gd.all_le (all16 hA.rin))
  have heL:e <= L:=by
    obtain ⟨kv,hkv⟩:∃ kv,kv ∈ fnd:=List.exists_mem_of_ne_nil fnd hne
    obtain ⟨c,M,_,h1,h2,_⟩:=hEf.fok kv hkv
    omega
  have nEF:=hA.dEF
  have ob1:upd H F (.dK (dropK fnd (kN e))) E = some (.ins ca.Efforts dx (efs G S F N A e)):=by rw [upd_ne nEF]; exact ob
  refine ⟨_,rfl,E,ca.Efforts,dx,_,_,rfl,ob,T.k_Efforts.cl,T.k_Efforts.no 2,ef2,F,rfl,.inl ⟨fnd,.inl hA.fd⟩,_,rfl,E,ca.Efforts,dx,_,_,rfl,ob,T.k_Efforts.cl,T.k_Efforts.no 5,ef5,fnd,kN e,hA.fd,rfl,?a,?b⟩
  case' a =>
    intro v ev
    obtain ⟨M,rfl,_,_,hM⟩:=hEf.fok.val ev
    refine ⟨_,rfl,E,ca.Efforts,dx,_,_,rfl,ob1,T.k_Efforts.cl,T.k_Efforts.no 3,ef3,_,rfl,M,N,rfl,rfl,?_⟩
    have hX:=eff_fresh hEf hSI hM
    generalize M - (M &&& N) = X at hX |-
  case' b =>
    intro ev
    have hM:Gd.Is g 0 (FdAt g fnd e):=Gd.Is.zero.mono fun p _ => ⟨fun z => z.elim,fun ⟨M',z,_⟩ => by rw [ev] at z; cases z⟩
    have eH:H = upd H F (.dK (dropK fnd (kN e))):=by rw [drop_id ev,upd_self hA.fd]
    refine ⟨_,rfl,E,ca.Efforts,dx,_,_,rfl,ob,T.k_Efforts.cl,T.k_Efforts.no 3,ef3,_,rfl,0,N,rfl,rfl,?_⟩
    have hX:=eff_fresh hEf hSI hM
    generalize 0 - (0 &&& N) = X at hX |-
    rw [show (H:Hp) = upd H F (.dK (dropK fnd (kN e))) from eH]
    clear eH
  all_goals
    have hok1:=hEf.fok.drop
    have hl1:=drop_len (kN e) fnd
    have hfd1:∀ c p,Gd.Fit g p -> (FdAt g (dropK fnd (kN e)) c p ↔ c ≠ e /\ FdAt g fnd c p):=fun c p _ => fd_drop c p
    have hF1:upd H F (.dK (dropK fnd (kN e))) F = some (.dK (dropK fnd (kN e))):=upd_same
    have hA1:upd H F (.dK (dropK fnd (kN e))) A = some (.dK st):=by rw [upd_ne (Ne.symm hA.dFA)]; exact hA.sa
    have hk1:∀ b o,b ≠ F -> H b = some o -> upd H F (.dK (dropK fnd (kN e))) b = some o:=fun b o nb z => by rw [upd_ne nb]; exact z
    generalize upd H F (.dK (dropK fnd (kN e))) = H1 at ob1 hF1 hA1 hk1 |-
    refine ⟨_,rfl,_,_,rfl,rfl,_,rfl,ite2 (fun e0 => ?_) (fun e0 => ?_)⟩
    . have e0:(!decide (((X:Nat):Int) = 0)) = true:=e0
      have h0:X ≠ 0:=fun z => by
        rw [z] at e0
        simp at e0
      refine ⟨_,rfl,E,ca.Efforts,dx,_,_,rfl,ob1,T.k_Efforts.cl,T.k_Efforts.no 3,ef3,_,rfl,N,X,rfl,rfl,dx,_,ob1,(by show 6 < 1000; decide),?_⟩
      have ob2:upd H1 E (.ins ca.Efforts dx (putF "settled" (.int ((N ||| X:Nat):Int)) (efs G S F N A e))) E = some (.ins ca.Efforts dx (efs G S F (N ||| X) A e)):=upd_same
      have hk2:∀ b o,b ≠ E -> b ≠ F -> H b = some o -> upd H1 E (.ins ca.Efforts dx (putF "settled" (.int ((N ||| X:Nat):Int)) (efs G S F N A e))) b = some o:=fun b o n1 n2 z => by rw [upd_ne n1]; exact hk1 b o n2 z
      have hF2:upd H1 E (.ins ca.Efforts dx (putF "settled" (.int ((N ||| X:Nat):Int)) (efs G S F N A e))) F = some (.dK (dropK fnd (kN e))):=by rw [upd_ne (Ne.symm nEF)]; exact hF1
      have hA2:upd H1 E (.ins ca.Efforts dx (putF "settled" (.int ((N ||| X:Nat):Int)) (efs G S F N A e))) A = some (.dK st):=by rw [upd_ne (Ne.symm hA.dEA)]; exact hA1
      generalize upd H1 E (.ins ca.Efforts dx (putF "settled" (.int ((N ||| X:Nat):Int)) (efs G S F N A e))) = H3 at ob2 hk2 hF2 hA2 |-
      have hstl:st.length < sizeLine:=line_lt (by have:=hEf.sl; omega)
      refine ⟨_,rfl,_,rfl,E,ca.Efforts,dx,_,_,rfl,ob2,T.k_Efforts.cl,T.k_Efforts.no 4,ef4,_,rfl,E,ca.Efforts,dx,_,_,rfl,ob2,T.k_Efforts.cl,T.k_Efforts.no 5,ef5,A,_,rfl,DPut.k (k:=kN e) hA2 hstl,?_⟩
      have ob4:upd H3 A (.dK (putK st (kN e) (.int (X:Nat)))) E = some (.ins ca.Efforts dx (efs G S F (N ||| X) A e)):=by rw [upd_ne hA.dEA]; exact ob2
      have hk4:But3 E F A H (upd H3 A (.dK (putK st (kN e) (.int (X:Nat))))):=fun b o n1 n2 n3 z => by rw [upd_ne n3]; exact hk2 b o n1 n2 z
      have hF4:upd H3 A (.dK (putK st (kN e) (.int (X:Nat)))) F = some (.dK (dropK fnd (kN e))):=by rw [upd_ne hA.dFA]; exact hF2
      have hA4:upd H3 A (.dK (putK st (kN e) (.int (X:Nat)))) A = some (.dK (putK st (kN e) (.int (X:Nat)))):=upd_same
      generalize upd H3 A (.dK (putK st (kN e) (.int (X:Nat)))) = H4 at ob4 hk4 hF4 hA4 |-
      have s4:Same H2 H4:=fun b o z => hk4 b o (ne_of_none z hA.nE) (ne_of_none z hA.nF) (ne_of_none z hA.nA) (hA.same _ _ z)
      refine ⟨_,rfl,E,dx,_,rfl,ob4,(by kernel_rfl),_,rfl,E,F,A,G,S,dx,g,q,ss,e,e + 255,N ||| X,X,_,rfl,ob4,nEF,hF4,hA.gr.keep s4,hA.str.keep s4,hA.rin,hX,hok1.mono (Nat.le_refl _) hEf.ll,Nat.le_refl _,by have:=hEf.fl; omega,fun H5 fnd5 hk5 hF5 hok5 hl5 hfd5 => ?_⟩
      have ob5:=hk5 _ _ nEF ob4
      obtain ⟨hE5,hcnt⟩:=eff_step1 hEf hSI hsl hX h0 hl1 hfd1 hok5 hl5 hfd5
      refine ⟨_,rfl,E,ca.Efforts,dx,_,_,rfl,ob5,T.k_Efforts.cl,T.k_Efforts.no 5,ef5,_,_,rfl,rfl,dx,_,ob5,(by show 6 < 1000; decide),?_⟩
      refine k _ (e + 255) (N ||| X) fnd5 _ (fun b o n1 n2 n3 z => ?_) ⟨fun b o z => ?_,hA.nE,hA.nF,hA.nA,nEF,hA.dEA,hA.dFA,hA.gr,hA.str,hA.rin,hA.fit,⟨dx,upd_same⟩,?_,?_,hE5⟩ (mu_less1 hcnt)
      . rw [upd_ne n1]
        exact hk5 b o n2 (hk4 b o n1 n2 n3 z)
      . have n1:=ne_of_none z hA.nE
        rw [upd_ne n1]
        exact hk5 b o (ne_of_none z hA.nF) (s4 _ _ z)
      . rw [upd_ne (Ne.symm nEF)]
        exact hF5
      . rw [upd_ne (Ne.symm hA.dEA)]
        exact hk5 _ _ (Ne.symm hA.dFA) hA4
    . have h0:X = 0:=by
        refine Classical.byContradiction fun z => e0 ?_
        show (!decide (((X:Nat):Int) = 0)) = true
        rw [decide_eq_false (by omega)]
        rfl
      have hE5:=eff_step0 hEf hSI (hX.none.mp h0) hok1 hl1 hfd1
      refine ⟨_,rfl,E,ca.Efforts,dx,_,_,rfl,ob1,T.k_Efforts.cl,T.k_Efforts.no 5,ef5,_,_,rfl,rfl,dx,_,ob1,(by show 6 < 1000; decide),?_⟩
      refine k _ L N _ st (fun b o n1 n2 n3 z => ?_) ⟨fun b o z => ?_,hA.nE,hA.nF,hA.nA,nEF,hA.dEA,hA.dFA,hA.gr,hA.str,hA.rin,hA.fit,⟨dx,upd_same⟩,?_,?_,hE5⟩ (mu_less0 heL)
      . rw [upd_ne n1]
        exact hk1 b o n2 z
      . rw [upd_ne (ne_of_none z hA.nE)]
        exact hk1 b o (ne_of_none z hA.nF) (hA.same _ _ z)
      . rw [upd_ne (Ne.symm nEF)]
        exact hF1
      . rw [upd_ne (Ne.symm hA.dEA)]
        exact hA1
theorem c_38 (T:Txt K mg ca):CalleeM P w K mg base CX0 5 ca.Efforts "look_further" ["self"] (sp_38 K ca):=CalleeM.of T.d_38 fun _ _ D => ok_38 T D
theorem sc_39 : FnScope ["self", "rod", "hand"] ["self", "rod", "hand"] (defScope t_39) := ⟨rfl, rfl, rfl, by decide +kernel, rfl, by decide +kernel, by decide +kernel⟩
theorem ok_39 (T : Txt K mg ca) (D : InitAt K mg "Tours" ca.Tours "Tours.__init__" t_39 ["self", "rod", "hand"] f fd) : FnOk P w K mg base CX0 5 f fd ["self", "rod", "hand"] (sp_39 K ca) := by
  refine D.fn.ok sc_39 (fun vs H Q E h => ?_) (fun cdv A outer s H vs Q E hr h => ?_)
  . obtain ⟨To,dx,a,b,g,hd,rfl,hTo,hs,hl,hR,hW,hb,hb0,hb7,hbl,hSI,k⟩:=h
    rfl
  obtain ⟨To,dx,a,b,g,hd,rfl,hTo,hs,hl,hR,hW,hb,hb0,hb7,hbl,hSI,k⟩:=h
  refine ⟨_,(pss_cons (ps_fld (pv 0) (pv 1) rfl)
      (pss_cons (ps_fld (pv 0) (pe_c (c_5 T) hr (by decide) rfl (pa_cons (pv 2) pa_nil)) rfl)
      (pss_cons (ps_fld (pv 0) (pe_c (c_30 T) hr (by decide) rfl (pa_cons (pv 1) pa_nil)) rfl)
      (pss_cons (ps_fld (pv 0) (pe_mk (c_32 T) hr (by decide) rfl (pa_cons (pv 1) pa_nil)) rfl)
      (pss_cons (ps_fld (pv 0) pe_dnewK rfl)
      (pss_one (ps_fld (pv 0) pe_dnewT rfl))))))),?_⟩
  refine ⟨_,rfl,_,rfl,To,ca.Tours,dx,_,rfl,hTo,T.k_Tours.cl,T.k_Tours.no 0,(by show 0 < 1000; decide),?_⟩
  have ho1:upd H To (.ins ca.Tours dx (putF "rod" (.ref a) [])) To = some (.ins ca.Tours dx [("rod",.ref a)]):=upd_same
  have k1:∀ c o,c ≠ To -> H c = some o -> upd H To (.ins ca.Tours dx (putF "rod" (.ref a) [])) c = some o:=fun c o nc e => by rw [upd_ne nc]; exact e
  have hs1:=SqL.keepI hTo hs k1
  have hb1:=SqL.keepI hTo hb k1
  generalize upd H To (.ins ca.Tours dx (putF "rod" (.ref a) [])) = H1 at ho1 k1 hs1 hb1 |-
  refine ⟨_,rfl,b,hd,rfl,hb1,hb0,hb7,hbl,fun H2 S as ⟨s2,nS⟩ hS hls => ?_⟩
  have ho2:=s2 _ _ ho1
  refine ⟨_,rfl,To,ca.Tours,dx,_,rfl,ho2,T.k_Tours.cl,T.k_Tours.no 1,(by show 1 < 1000; decide),?_⟩
  have ho3 : upd H2 To (.ins ca.Tours dx (putF "strokes" (.ref S) [("rod", .ref a)])) To = some (.ins ca.Tours dx [("rod", .ref a), ("strokes", .ref S)]) := upd_same
  have k3:∀ c o,c ≠ To -> H2 c = some o -> upd H2 To (.ins ca.Tours dx (putF "strokes" (.ref S) [("rod",.ref a)])) c = some o:=fun c o nc e => by rw [upd_ne nc]; exact e
  have hs3:=SqL.keepI ho2 (s2.seq hs1) k3
  have hS3:=k3 _ _ (ne_of hS ho2 (by intro z; cases z)) hS
  have hls3:=hls.keepI ho2 k3
  have kk3:∀ c o,c ≠ To -> H c = some o -> upd H2 To (.ins ca.Tours dx (putF "strokes" (.ref S) [("rod",.ref a)])) c = some o:=fun c o nc e => k3 c o nc (s2 _ _ (k1 c o nc e))
  generalize upd H2 To (.ins ca.Tours dx (putF "strokes" (.ref S) [("rod",.ref a)])) = H3 at ho3 hs3 hS3 hls3 kk3 |-
  refine ⟨_,rfl,a,g,rfl,hs3,hl,hR,fun H4 f kvs ⟨s4,nf⟩ hf hFo hkeys => ?_⟩
  have ho4:=s4 _ _ ho3
  refine ⟨_,rfl,To,ca.Tours,dx,_,rfl,ho4,T.k_Tours.cl,T.k_Tours.no 2,(by show 2 < 1000; decide),?_⟩
  have ho5 : upd H4 To (.ins ca.Tours dx (putF "forms" (.ref f) [("rod", .ref a), ("strokes", .ref S)])) To = some (.ins ca.Tours dx [("rod", .ref a), ("strokes", .ref S), ("forms", .ref f)]) := upd_same
  have k5 : ∀ c o, c ≠ To -> H4 c = some o -> upd H4 To (.ins ca.Tours dx (putF "forms" (.ref f) [("rod", .ref a), ("strokes", .ref S)])) c = some o := fun c o nc e => by rw [upd_ne nc]; exact e
  have hs5:=SqL.keepI ho4 (s4.seq hs3) k5
  have hS5:=k5 _ _ (ne_of (s4 _ _ hS3) ho4 (by intro z; cases z)) (s4 _ _ hS3)
  have hls5:=(hls3.keep s4).keepI ho4 k5
  have hf5:=k5 _ _ (ne_of hf ho4 (by intro z; cases z)) hf
  have hFo5:=forms_keepI ho4 hFo k5
  have kk5 : ∀ c o, c ≠ To -> H c = some o -> upd H4 To (.ins ca.Tours dx (putF "forms" (.ref f) [("rod", .ref a), ("strokes", .ref S)])) c = some o := fun c o nc e => k5 c o nc (s4 _ _ (kk3 c o nc e))
  generalize upd H4 To (.ins ca.Tours dx (putF "forms" (.ref f) [("rod", .ref a), ("strokes", .ref S)])) = H5 at ho5 hs5 hS5 hls5 hf5 hFo5 kk5 |-
  refine ⟨_,rfl,fun G dg nG ndg neG => ?_⟩
  have s5:Same H5 (upd (upd H5 dg (.own G)) G (.ins ca.Ground dg [])):=Same.new (Same.new (Same.refl H5) ndg) (by rw [upd_ne (Ne.symm neG)]; exact nG)
  refine ⟨G,dg,a,g,rfl,upd_same,s5.seq hs5,hl,hR,fun H6 k6 hG6 => ⟨rfl,?_⟩⟩
  have s6:Same H5 H6:=fun c o e => k6 c o (ne_of_none e nG) (s5 _ _ e)
  have nGT:G ≠ To:=Ne.symm (ne_of_none ho5 nG)
  have ho6:=s6 _ _ ho5
  refine ⟨_,rfl,To,ca.Tours,dx,_,rfl,ho6,T.k_Tours.cl,T.k_Tours.no 3,(by show 3 < 1000; decide),?_⟩
  have ho7 : upd H6 To (.ins ca.Tours dx (putF "ground" (.ref G) [("rod", .ref a), ("strokes", .ref S), ("forms", .ref f)])) To = some (.ins ca.Tours dx [("rod", .ref a), ("strokes", .ref S), ("forms", .ref f), ("ground", .ref G)]) := upd_same
  have k7 : ∀ c o, c ≠ To -> H6 c = some o -> upd H6 To (.ins ca.Tours dx (putF "ground" (.ref G) [("rod", .ref a), ("strokes", .ref S), ("forms", .ref f)])) c = some o := fun c o nc e => by rw [upd_ne nc]; exact e
  have hs7:=SqL.keepI ho6 (s6.seq hs5) k7
  have hS7:=k7 _ _ (ne_of (s6 _ _ hS5) ho6 (by intro z; cases z)) (s6 _ _ hS5)
  have hls7:=(hls5.keep s6).keepI ho6 k7
  have hf7:=k7 _ _ (ne_of (s6 _ _ hf5) ho6 (by intro z; cases z)) (s6 _ _ hf5)
  have hFo7:=forms_keepI ho6 (forms_keep hFo5 s6) k7
  have hG7:=hG6.keepI ho6 nGT k7
  have kk7 : ∀ c o, c ≠ To -> H c = some o -> upd H6 To (.ins ca.Tours dx (putF "ground" (.ref G) [("rod", .ref a), ("strokes", .ref S), ("forms", .ref f)])) c = some o := fun c o nc e => k7 c o nc (s6 _ _ (kk5 c o nc e))
  generalize upd H6 To (.ins ca.Tours dx (putF "ground" (.ref G) [("rod", .ref a), ("strokes", .ref S), ("forms", .ref f)])) = H7 at ho7 hs7 hS7 hls7 hf7 hFo7 hG7 kk7 |-
  intro D hD7
  have nDT:To ≠ D:=ne_of_none ho7 hD7
  have ho8 : upd H7 D (.dK []) To = some (.ins ca.Tours dx [("rod", .ref a), ("strokes", .ref S), ("forms", .ref f), ("ground", .ref G)]) := by rw [upd_ne nDT]; exact ho7
  refine ⟨_,rfl,To,ca.Tours,dx,_,rfl,ho8,T.k_Tours.cl,T.k_Tours.no 4,(by show 4 < 1000; decide),?_⟩
  have ho9 : upd (upd H7 D (.dK [])) To (.ins ca.Tours dx (putF "efforts" (.ref D) [("rod", .ref a), ("strokes", .ref S), ("forms", .ref f), ("ground", .ref G)])) To = some (.ins ca.Tours dx [("rod", .ref a), ("strokes", .ref S), ("forms", .ref f), ("ground", .ref G), ("efforts", .ref D)]) := upd_same
  have hD9 : upd (upd H7 D (.dK [])) To (.ins ca.Tours dx (putF "efforts" (.ref D) [("rod", .ref a), ("strokes", .ref S), ("forms", .ref f), ("ground", .ref G)])) D = some (.dK []) := by rw [upd_ne (Ne.symm nDT)]; exact upd_same
  have k9 : ∀ c o, c ≠ To -> H7 c = some o -> upd (upd H7 D (.dK [])) To (.ins ca.Tours dx (putF "efforts" (.ref D) [("rod", .ref a), ("strokes", .ref S), ("forms", .ref f), ("ground", .ref G)])) c = some o := fun c o nc e => by rw [upd_ne nc, upd_ne (ne_of_none e hD7)]; exact e
  generalize upd (upd H7 D (.dK [])) To (.ins ca.Tours dx (putF "efforts" (.ref D) [("rod", .ref a), ("strokes", .ref S), ("forms", .ref f), ("ground", .ref G)])) = H9 at ho9 hD9 k9 |-
  intro W hW9
  have nWT:To ≠ W:=ne_of_none ho9 hW9
  have nDW:D ≠ W:=ne_of_none hD9 hW9
  have ho10 : upd H9 W (.dT []) To = some (.ins ca.Tours dx [("rod", .ref a), ("strokes", .ref S), ("forms", .ref f), ("ground", .ref G), ("efforts", .ref D)]) := by rw [upd_ne nWT]; exact ho9
  refine ⟨_,rfl,To,ca.Tours,dx,_,rfl,ho10,T.k_Tours.cl,T.k_Tours.no 5,(by show 5 < 1000; decide),?_⟩
  have ho11 : upd (upd H9 W (.dT [])) To (.ins ca.Tours dx (putF "told" (.ref W) [("rod", .ref a), ("strokes", .ref S), ("forms", .ref f), ("ground", .ref G), ("efforts", .ref D)])) To = some (.ins ca.Tours dx (tfs a S f G D W)) := upd_same
  have hD11 : upd (upd H9 W (.dT [])) To (.ins ca.Tours dx (putF "told" (.ref W) [("rod", .ref a), ("strokes", .ref S), ("forms", .ref f), ("ground", .ref G), ("efforts", .ref D)])) D = some (.dK []) := by rw [upd_ne (Ne.symm nDT), upd_ne nDW]; exact hD9
  have hW11 : upd (upd H9 W (.dT [])) To (.ins ca.Tours dx (putF "told" (.ref W) [("rod", .ref a), ("strokes", .ref S), ("forms", .ref f), ("ground", .ref G), ("efforts", .ref D)])) W = some (.dT []) := by rw [upd_ne (Ne.symm nWT)]; exact upd_same
  have k11 : ∀ c o, c ≠ To -> H7 c = some o -> upd (upd H9 W (.dT [])) To (.ins ca.Tours dx (putF "told" (.ref W) [("rod", .ref a), ("strokes", .ref S), ("forms", .ref f), ("ground", .ref G), ("efforts", .ref D)])) c = some o := fun c o nc e => by rw [upd_ne nc, upd_ne (ne_of_none (k9 c o nc e) hW9)]; exact k9 c o nc e
  generalize upd (upd H9 W (.dT [])) To (.ins ca.Tours dx (putF "told" (.ref W) [("rod", .ref a), ("strokes", .ref S), ("forms", .ref f), ("ground", .ref G), ("efforts", .ref D)])) = HF at ho11 hD11 hW11 k11 |-
  have kS:∀ c o,c ≠ To -> H7 c = some o -> (fun c => if c = D \/ c = W then none else HF c:Hp) c = some o:=fun c o nc e => by
    show (if c = D \/ c = W then none else HF c) = some o
    rw [if_neg (fun z => z.elim (ne_of_none e hD7) (ne_of_none (k9 c o nc e) hW9))]
    exact k11 c o nc e
  have hSto:(fun c => if c = D \/ c = W then none else HF c:Hp) To = some (.ins ca.Tours dx (tfs a S f G D W)):=by
    show (if To = D \/ To = W then none else HF To) = _
    rw [if_neg (fun z => z.elim nDT nWT)]
    exact ho11
  have hsl:=groups_7 hb0 hb7 hbl
  refine k HF (fun c => if c = D \/ c = W then none else HF c) D W (fun c o nc e => k11 c o nc (kk7 c o nc e)) fun Z => ⟨fun c => if c = D then 1000 else 1001,[],[],⟨⟨dx,a,S,f,G,kvs,hSto,SqL.keepI ho7 hs7 kS,⟨as,kS _ _ (ne_of hS7 ho7 (by intro z; cases z)) hS7,hls7.keepI ho7 kS,hSI,hsl⟩,kS _ _ (ne_of hf7 ho7 (by intro z; cases z)) hf7,forms_keepI ho7 hFo7 kS,hG7.keepI ho7 nGT kS,hl,hR,hW⟩,fun c o e => ?_,if_pos (.inl rfl),if_pos (.inr rfl),if_pos rfl,if_neg (Ne.symm nDW),hD11,hW11,fun y v e => (by cases e),fun x y v e => (by cases e),fun x y e => (by cases e)⟩,Nat.le_refl _,Nat.le_refl _⟩
  have e:(if c = D \/ c = W then none else HF c) = some o:=e
  split at e
  . cases e
  . exact e
theorem c_39 (T : Txt K mg ca) : CalleeI P w K mg base 5 "Tours" ca.Tours ["self", "rod", "hand"] (sp_39 K ca) := CalleeI.of T.d_39 fun _ _ D => ok_39 T D
theorem sc_40 : FnScope ["self", "pushed", "left", "efforts", "number", "stroke", "aims"] ["self", "pushed", "left", "efforts"] (defScope t_40) := ⟨rfl, rfl, rfl, by decide +kernel, rfl, by decide +kernel, by decide +kernel⟩
theorem ok_40 (T : Txt K mg ca) (D : MethAt K ca.Tours "first_act" "Tours.first_act" t_40 ["self", "pushed", "left", "efforts"] f fd) : FnOk P w K mg base CX0 5 f fd ["self", "pushed", "left", "efforts"] (sp_40 K ca) := by
  refine D.fn.ok sc_40 (fun vs H Q E h => ?_) (fun cdv A outer s H vs Q E hr h => ?_)
  . obtain ⟨To,D,W,a,E,F,A,G,S,g,p,q,ss,c,e,L,N,fnd,st,H2,rfl,hT,hE,hp,hF,hfar,hc0,hce,k⟩:=h
    rfl
  obtain ⟨To,D,W,a,E,F,A,G,S,g,p,q,ss,c,e,L,N,fnd,st,H2,rfl,hT,hE,hp,hF,hfar,hc0,hce,k⟩:=h
  refine ⟨_,(pss_cons (ps_for PassesOwn.never rfl (pi_enum rfl T.n_enumerate (pa_cons (pe_fld (pv 0) rfl) pa_nil)) (pg_tup rfl (pgs_cons (pg_name (i:=4) sc_40.nd rfl (by first | exact Or.inl rfl | exact Or.inr rfl)) (pgs_cons (pg_name (i:=5) sc_40.nd rfl (by first | exact Or.inl rfl | exact Or.inr rfl)) pgs_nil)))
        (pss_cons (ps_set (i:=6) sc_40.nd rfl (by first | exact Or.inl rfl | exact Or.inr rfl) (pe_m T.k_Efforts.cl (c_12 T) hr (by decide) pass0 (pv 3) (pa_cons (pe_op op_sub (pv 2) (pe_c (c_8 T) hr (by decide) rfl (pa_cons (pv 5) pa_nil))) pa_nil)))
        (pss_one (ps_if (pt_cmp (pc_neI (pe_op op_andN (pe_m T.k_Ground.cl (c_33 T) hr (by decide) pass0 (pe_fld (pv 0) rfl) (pa_cons (pv 6) (pa_cons (pv 5) pa_nil))) (pe_m T.k_Ground.cl (c_13 T) hr (by decide) pass0 (pe_fld (pv 0) rfl) (pa_cons (pv 1) pa_nil))) pe_int))
          (pss_one (ps_ret (pe_op op_catT (pe_tup (pa_cons (pv 4) pa_nil)) (pe_m T.k_Tours.cl (c_36 T) hr (by decide) pass0 (pv 0) (pa_cons (pv 1) (pa_cons (pv 5) (pa_cons (pv 6) pa_nil)))))))
          pss_nil))))
      (pss_one (ps_ret pe_non))),?_⟩
  obtain ⟨dx,r,St,f,Gt,kvs,hTo,hr,hSt,hf,hFo,hG,h7,hR,hW⟩:=id hT
  obtain ⟨dg,sg,rg,ag,hG1,_⟩:=id hG
  obtain ⟨as,hS1,hls,hSI,hsl⟩:=id hSt
  obtain ⟨dxE,obE⟩:=hE.ob
  refine ⟨_,rfl,To,ca.Tours,dx,_,_,rfl,hTo,T.k_Tours.cl,T.k_Tours.no 1,tf1,St,_,rfl,SqL.of hS1,for_enum (a:=St) (xs:=as.map V.ref) (fun i σ H' => ∃ v4 v5 v6:Option V,σ = [some (.ref To),some (.ref a),some (.int (c:Nat)),some (.ref E),v4,v5,v6] /\ Same H H' /\ ∀ (j:Nat) (s:List Nat),j < i -> ss[j]? = some s -> ∀ n k u d,Rm.stroke3 (Rm.bsOf g) p s n k = some u -> c = s.getD 6 0 + d -> ¬ Pd.Far3 g ss q u d)
    ⟨none,none,none,rfl,Same.refl H,fun j s h => absurd h (Nat.not_lt_zero _)⟩ (fun i σ H' _ ⟨_,_,_,_,h,_⟩ => h.seq (SqL.of hS1)) ?_ ?_⟩
  . rintro i x T' σ H1 hi hT' ⟨v4,v5,v6,rfl,s1,hno⟩
    obtain ⟨b,hb,rfl⟩:=map_at hi
    obtain ⟨s,hs⟩:=at_len hls.1.symm hb
    have hsI:=hSI s (List.mem_of_getElem? hs)
    have s2:Same H (upd H1 T' (.tup [.int (i:Nat),.ref b])):=Same.new s1 hT'
    refine ⟨T',_,rfl,SqT.of upd_same,rfl,_,_,rfl,_,_,rfl,rfl,?_⟩
    generalize upd H1 T' (.tup [.int (i:Nat),.ref b]) = H3 at s2 |-
    have hNb:NL K H3 b s:=s2.seq (hls.2 i b s hb hs)
    refine ⟨_,rfl,E,dxE,_,rfl,s2 _ _ obE,(by kernel_rfl),_,rfl,_,rfl,b,s,rfl,hNb,hsI.1,_,_,rfl,rfl,E,F,A,G,S,g,q,ss,e,L,N,fnd,st,H2,_,rfl,hE.keep s2,by omega,fun M hM => ?_⟩
    refine ⟨_,rfl,To,ca.Tours,dx,_,_,rfl,s2 _ _ hTo,T.k_Tours.cl,T.k_Tours.no 3,tf3,Gt,dg,_,rfl,s2 _ _ hG1,(by kernel_rfl),_,rfl,_,rfl,Gt,b,g,s,M,_,rfl,hG.keep s2,hR,hNb,hsI,hM,fun M2 H4 hM2 s4 => ?_⟩
    have s24:=s2.trans s4
    refine ⟨_,rfl,To,ca.Tours,dx,_,_,rfl,s24 _ _ hTo,T.k_Tours.cl,T.k_Tours.no 3,tf3,Gt,dg,_,rfl,s24 _ _ hG1,(by kernel_rfl),_,rfl,Gt,a,g,p,rfl,hG.keep s24,s24.seq hp,hF,hR,fun H5 s5 => ?_⟩
    have s25:=s24.trans s5
    refine ⟨M2,1 <<< Gd.pl g p,rfl,rfl,_,_,rfl,rfl,_,rfl,ite2 (fun e2 => ?_) (fun e2 => ?_)⟩
    . have e2:(!decide (((M2 &&& (1 <<< Gd.pl g p):Nat):Int) = 0)) = true:=e2
      have h2:M2 &&& (1 <<< Gd.pl g p) ≠ 0:=fun z => by
        rw [z] at e2
        simp at e2
      have hStr:=(hM2.meets hF).mp h2
      refine ⟨_,rfl,(by show 1 <= sizeLine; decide),fun t1 ht1 => ?_⟩
      have s6:Same H (upd H5 t1 (.tup [.int (i:Nat)])):=Same.new s25 ht1
      have ht2:upd H5 t1 (.tup [.int (i:Nat)]) t1 = some (.tup [.int (i:Nat)]):=upd_same
      have hNb6:NL K (upd H5 t1 (.tup [.int (i:Nat)])) b s:=(Same.new (s4.trans s5) ht1).seq hNb
      generalize upd H5 t1 (.tup [.int (i:Nat)]) = H6 at s6 ht2 hNb6 |-
      refine ⟨_,rfl,To,dx,_,rfl,s6 _ _ hTo,(by kernel_rfl),_,rfl,_,rfl,_,rfl,To,D,W,a,b,g,p,s,ss,M,_,rfl,hT.keep s6,s6.seq hp,hF,hNb6,hsI,hM,hStr,fun n k' u H7 t hu hSu hless s7 ht => ?_⟩
      obtain ⟨d,ed,hd⟩:=hSu
      obtain ⟨i',hi1,hi2,hi3⟩:=Gd.first_at (c:=c) (d:=d) hSI hs hu (by omega) hd (fun x hlt v e' hh => by
        obtain ⟨s',k1,k2,k3,k4⟩:=hh
        rcases hlt with h | ⟨h,h'⟩
        . exact hno x.1 s' h k1 x.2.1 x.2.2 v e' k2 k3 k4
        . have h:x.1 = i:=h
          rw [h,hs] at k1
          cases k1
          refine hless x.2.1 x.2.2 v h' k2 ⟨e',?_,k4⟩
          omega)
      refine ⟨t1,t,_,_,rfl,rfl,SqT.of (s7 _ _ ht2),SqT.of ht,by simp,(by show 1 + 2 <= sizeLine; decide),fun z => (by cases z),fun _ P hP => ?_⟩
      exact k i n k' i' d u _ P hi1 hi2 hi3 (Same.new (s6.trans s7) hP) upd_same
    . refine ⟨_,_,_,rfl,s25,fun j s' hj ej n k' u d hu hcd hd => ?_⟩
      by_cases z:j = i
      . subst z
        rw [hs] at ej
        cases ej
        refine e2 ?_
        have:=(hM2.meets hF).mpr ⟨n,k',u,hu,d,by omega,hd⟩
        show (!decide (((M2 &&& (1 <<< Gd.pl g p):Nat):Int) = 0)) = true
        rw [decide_eq_false (by omega)]
        rfl
      . exact hno j s' (by omega) ej n k' u d hu hcd hd
  . rintro σ H1 ⟨v4,v5,v6,rfl,s1,hno⟩
    exfalso
    obtain ⟨u,w,d,h1,h2,h3,h4⟩:=Gd.far_step hSI hfar hc0
    obtain ⟨x,_,s',k1,k2,k3⟩:=h1
    refine hno x.1 s' ?_ k1 x.2.1 x.2.2 u d k2 (by omega) h2
    rw [List.length_map,hls.1]
    exact (List.getElem?_eq_some_iff.mp k1).1
theorem c_40 (T : Txt K mg ca) : CalleeM P w K mg base CX0 5 ca.Tours "first_act" ["self", "pushed", "left", "efforts"] (sp_40 K ca) := CalleeM.of T.d_40 fun _ _ D => ok_40 T D
theorem sc_41 : FnScope ["make", "place", "rod", "rule"] ["make"] (defScope t_41) := ⟨rfl, rfl, rfl, by decide +kernel, rfl, by decide +kernel, by decide +kernel⟩
theorem ok_41 (T : Txt K mg ca) (D : DefAt K mg "make_fault" t_41 ["make"] f fd) : FnOk P w K mg base CX0 5 f fd ["make"] (sp_41 K) := by
  refine D.fn.ok sc_41 (fun vs H Q E h => ?_) (fun cdv A outer s H vs Q E hr h => ?_)
  . obtain ⟨a,l,rfl,hs,hl,kN,kS⟩:=h
    rfl
  obtain ⟨a,l,rfl,hs,hl,kN,kS⟩:=h
  refine ⟨_,(pss_cons (ps_if (PW.pt (pw_or (pt_cmp (pc_neI (pe_op op_mod (pe_callB (len_s K) (by rfl) T.n_len bt_len (pa_cons (pv 0) pa_nil)) (pe_gi rfl T.v_NUMBERS_A_ROD)) pe_int)) (pw_or1 (pt_not (pt_chain op_le op_le pe_int (pe_op op_fdiv (pe_callB (len_s K) (by rfl) T.n_len bt_len (pa_cons (pv 0) pa_nil)) (pe_gi rfl T.v_NUMBERS_A_ROD)) (pe_gi rfl T.v_MOST_RODS))))))
        (pss_one (ps_ret (pe_lst (pa_cons (pe_gi rfl T.v_MAKE_LENGTH_RULE) (pa_cons pe_int pa_nil)))))
        pss_nil)
      (pss_cons (ps_for PassesOwn.never rfl (pi_enum rfl T.n_enumerate (pa_cons (pe_c (c_0 T) hr (by decide) rfl (pa_cons (pv 0) pa_nil)) pa_nil)) (pg_tup rfl (pgs_cons (pg_name (i:=1) sc_41.nd rfl (by first | exact Or.inl rfl | exact Or.inr rfl)) (pgs_cons (pg_name (i:=2) sc_41.nd rfl (by first | exact Or.inl rfl | exact Or.inr rfl)) pgs_nil)))
        (pss_cons (ps_set (i:=3) sc_41.nd rfl (by first | exact Or.inl rfl | exact Or.inr rfl) (pe_c (c_37 T) hr (by decide) rfl (pa_cons (pv 2) pa_nil)))
        (pss_one (ps_if (pt_cmp (pc_notN (pv 3)))
          (pss_one (ps_ret (pe_lst (pa_cons (pv 3) (pa_cons (pv 1) pa_nil)))))
          pss_nil))))
      (pss_one (ps_ret pe_non)))),?_⟩
  have bad:¬ Mm.MakeLen l -> ∀ p,H p = none -> Q (.ref p) (upd H p (.lst [.int 1,.int 0])):=fun h p hp => kS 1 0 (Mm.make_len h) _ p (Same.new (Same.refl H) hp) upd_same
  have ll:=vi_len l
  refine ⟨_,rfl,a,_,rfl,.inl hs,_,_,rfl,rfl,(by show (0:Int) < 7; decide),_,_,rfl,rfl,_,rfl,ite2 (fun e => ?_) (fun e => ?_)⟩
  . refine ⟨(by show 2 <= sizeLine; decide),fun p hp => bad (fun z => ?_) p hp⟩
    have e:(!decide (((((nz l).map V.int).length:Nat):Int) % 7 = 0)) = true:=e
    rw [ll,decide_eq_true (by have:=z.1; omega)] at e
    cases e
  . have e:l.length % 7 = 0:=by
      refine Classical.byContradiction fun z => e ?_
      show (!decide (((((nz l).map V.int).length:Nat):Int) % 7 = 0)) = true
      rw [ll,decide_eq_false (by omega)]
      rfl
    refine ⟨_,rfl,a,_,rfl,.inl hs,_,_,rfl,rfl,⟨by decide,by decide⟩,_,_,rfl,rfl,_,rfl,ite2 (fun e1 => ?_) (fun e1 => ⟨_,rfl,?_⟩)⟩
    . have e1:=of_decide_eq_true e1
      rw [ll] at e1
      refine ⟨_,_,rfl,rfl,_,rfl,ite2 (fun e2 => ?_) (fun e2 => ?_)⟩
      . refine ⟨(by show 2 <= sizeLine; decide),fun p hp => bad (fun z => ?_) p hp⟩
        have e2:(!decide (((((nz l).map V.int).length:Nat):Int) / 7 <= 64)) = true:=e2
        rw [ll,decide_eq_true (by have:=z.2.2; omega)] at e2
        cases e2
      . have e2:l.length / 7 <= 64:=by
          refine Classical.byContradiction fun z => e2 ?_
          show (!decide (((((nz l).map V.int).length:Nat):Int) / 7 <= 64)) = true
          rw [ll,decide_eq_false (by omega)]
          rfl
        have hL:Mm.MakeLen l:=⟨e,by omega,by omega⟩
        refine ⟨_,rfl,a,l,rfl,hs,e,hl,fun H1 p1 gas s1 hp1 hgas => ⟨p1,_,rfl,SqL.of hp1,for_enum (a:=p1) (xs:=gas.map V.ref) (fun i σ H' => ∃ (v1 v2 v3:Option V),σ = [some (.ref a),v1,v2,v3] /\ Same H1 H' /\ ∀ j,j < i -> Na.rodWrong (Mm.grp 7 l j) = 0)
          ⟨none,none,none,rfl,Same.refl H1,fun j hj => by omega⟩ (fun i σ H' _ ⟨_,_,_,_,s2,_⟩ => s2.seq (SqL.of hp1)) ?_ ?_⟩⟩
        . rintro i y p σ H' hi hp ⟨v1,v2,v3,rfl,s2,hg⟩
          obtain ⟨ra,hra,rfl⟩:=map_at hi
          have hil:i < (Na.groups 7 l).length:=by
            have:=(List.getElem?_eq_some_iff.mp hra).1
            rw [hgas.1] at this
            exact this
          obtain ⟨g,hgg⟩:∃ g,(Na.groups 7 l)[i]? = some g:=⟨_,List.getElem?_eq_getElem hil⟩
          obtain ⟨hi7,eg⟩:=(Mm.groups_at (by decide) e).mp hgg
          have hg7:g.length = 7:=by rw [eg]; exact grp_len hi7
          have s3:Same H' (upd H' p (.tup [.int (i:Nat),.ref ra])):=Same.new (Same.refl H') hp
          have s13:=s2.trans s3
          refine ⟨p,_,rfl,SqT.of upd_same,rfl,_,_,rfl,_,_,rfl,rfl,?_⟩
          refine ⟨_,rfl,ra,g,rfl,s13.seq (hgas.2 i ra g hra hgg),hg7,fun e0 H4 s4 => ?_,fun w ew hw0 H4 s4 => ?_⟩
          . refine ⟨_,rfl,_,rfl,iteF ⟨_,_,_,rfl,s13.trans s4,fun j hj => ?_⟩⟩
            by_cases z:j = i
            . rw [z,<- eg]
              exact e0
            . exact hg j (by omega)
          . refine ⟨_,rfl,_,rfl,iteT ?_⟩
            refine ⟨_,rfl,_,rfl,(by show 2 <= sizeLine; decide),fun p5 hp5 => kS w i ?_ _ p5 (Same.new ((s1.trans s13).trans s4) hp5) upd_same⟩
            rw [Mm.make_bad hL hi7 (by rw [<- eg,ew]; exact hw0) hg,<- eg,ew]
        . rintro σ H' ⟨v1,v2,v3,rfl,s2,hg⟩
          rw [List.length_map,hgas.1,Mm.groups_is (by decide) e,List.length_map,List.length_range] at hg
          exact kN _ (Mm.make_ok hL hg) _ (s1.trans s2)
    . refine ⟨(by show 2 <= sizeLine; decide),fun p hp => bad (fun z => e1 (decide_eq_true ?_)) p hp⟩
      rw [ll]
      have:=z.1
      have:=z.2.1
      omega
theorem c_41 (T:Txt K mg ca):Callee P w K mg base 5 "make_fault" ["make"] (sp_41 K):=Callee.of T.d_41 fun _ _ D => ok_41 T D
theorem sc_42 : FnScope ["self", "standing", "effort", "standings"] ["self", "standing"] (defScope t_42) := ⟨rfl, rfl, rfl, by decide +kernel, rfl, by decide +kernel, by decide +kernel⟩
theorem ok_42 (T : Txt K mg ca) (D : MethAt K ca.Efforts "effort_from" "Efforts.effort_from" t_42 ["self", "standing"] f fd) : FnOk P w K mg base CX0 6 f fd ["self", "standing"] (sp_42 K ca) := by
  refine D.fn.ok sc_42 (fun vs H Q E h => ?_) (fun cdv A outer s H vs Q E hr h => ?_)
  . obtain ⟨E,F,A,G,S,g,q,p,ss,e,L,N,fnd,st,H2,rfl,hA,hp,k⟩:=h
    rfl
  obtain ⟨E,F,A,G,S,g,q,p,ss,e,L,N,fnd,st,H2,rfl,hA,hp,k⟩:=h
  refine ⟨_,(pss_cons (ps_while PassesOwn.never (PW.pt (pw_and (pt_cmp (pc_eqI (pe_op op_andN (pe_fld (pv 0) rfl) (pv 1)) pe_int)) (pw_and1 (pt_cmp (pc_gt (pe_callB call_lenD (by rfl) T.n_len bt_len (pa_cons (pe_fld (pv 0) rfl) pa_nil)) pe_int)))))
        (pss_one (ps_expr (pe_m0 T.k_Efforts.cl (c_38 T) hr (by decide) pass0 (pv 0)))))
      (pss_cons (ps_lock (ps_for PassesOwn.never rfl (pi_items (pe_fld (pv 0) rfl)) (pg_tup rfl (pgs_cons (pg_name (i:=2) sc_42.nd rfl (by first | exact Or.inl rfl | exact Or.inr rfl)) (pgs_cons (pg_name (i:=3) sc_42.nd rfl (by first | exact Or.inl rfl | exact Or.inr rfl)) pgs_nil)))
        (pss_one (ps_if (pt_cmp (pc_neI (pe_op op_andN (pv 3) (pv 1)) pe_int))
          (pss_one (ps_ret (pv 2)))
          pss_nil))))
      (pss_one (ps_ret pe_non)))),?_⟩
  obtain ⟨asS,hS1,hls,hSI,hsl⟩:=id hA.str
  refine ⟨fun m σ H' => ∃ (e L N:Nat) (fnd st:List (Key × V)),σ = [some (.ref E),some (.int ((1 <<< Gd.pl g p:Nat):Int)),none,none] /\ But3 E F A H H' /\ EffAt K ca.Efforts ca.Ground H2 H' E F A G S g ss q e L N fnd st /\ m = mu g e L N,⟨_,e,L,N,fnd,st,rfl,But3.of (Same.refl H),hA,rfl⟩,?_⟩
  clear hA
  rintro m σ H1 ⟨e,L,N,fnd,st,rfl,b1,hA,rfl⟩
  obtain ⟨dx,ob⟩:=hA.ob
  refine ⟨_,rfl,E,ca.Efforts,dx,_,_,rfl,ob,T.k_Efforts.cl,T.k_Efforts.no 3,ef3,_,rfl,N,1 <<< Gd.pl g p,rfl,rfl,_,_,rfl,rfl,_,rfl,ite2 (fun e0 => ⟨_,rfl,E,ca.Efforts,dx,_,_,rfl,ob,T.k_Efforts.cl,T.k_Efforts.no 2,ef2,F,fnd,rfl,hA.fd,_,_,rfl,rfl,_,rfl,ite2 (fun e1 => ?go) (fun e1 => ?r1)⟩) (fun e0 => iteF ?r2)⟩
  case go =>
    have e1:=of_decide_eq_true e1
    have hne:fnd ≠ []:=fun z => by
      rw [z] at e1
      simp at e1
    refine ⟨fun σ' H' => ∃ (e' L' N':Nat) (fnd' st':List (Key × V)),σ' = [some (.ref E),some (.int ((1 <<< Gd.pl g p:Nat):Int)),none,none] /\ But3 E F A H H' /\ EffAt K ca.Efforts ca.Ground H2 H' E F A G S g ss q e' L' N' fnd' st' /\ mu g e' L' N' < mu g e L N,fun σ' H' ⟨e',L',N',fnd',st',h1,h2,h3,h4⟩ => ⟨_,h4,e',L',N',fnd',st',h1,h2,h3,rfl⟩,?_⟩
    exact ⟨_,rfl,E,dx,_,rfl,ob,(by kernel_rfl),E,F,A,G,S,g,q,ss,e,L,N,fnd,st,H2,rfl,hA,hne,fun H' L' N' fnd' st' b2 hA' hm => ⟨e + 1,L',N',fnd',st',rfl,b1.trans b2,hA',hm⟩⟩
  case' r1 =>
    have h0:fnd = []:=by
      cases fnd with
      | nil => rfl
      | cons x r => exact absurd (decide_eq_true (by simp only [List.length_cons]; omega)) e1
    have hc:∀ c,Pd.Far3 g ss q p c -> c < e:=fun c z => eff_all hA.eff hSI hA.fit h0 c p hp z
  case' r2 =>
    have h0:N &&& (1 <<< Gd.pl g p) ≠ 0:=fun z => e0 (decide_eq_true (by show ((N &&& (1 <<< Gd.pl g p):Nat):Int) = 0; rw [z]; rfl))
    obtain ⟨c0,hc0,z0⟩:=(hA.eff.set.meets hp).mp h0
    have hc:∀ c,Pd.Far3 g ss q p c -> c < e:=fun c z => by have:=Pd.far_one z z0; omega
  all_goals
    refine ⟨A,.dK st,hA.sa,True.intro,fun od => ?_⟩
    have obL:upd H1 A (.frz od (.dK st)) E = some (.ins ca.Efforts dx (efs G S F N A e)):=by rw [upd_ne hA.dEA]; exact ob
    refine ⟨_,rfl,E,ca.Efforts,dx,_,_,rfl,obL,T.k_Efforts.cl,T.k_Efforts.no 4,ef4,A,od,st,rfl,upd_same,for_items (d:=A) (od:=od) (kvs:=st) (fun i σ H' => ∃ v2 v3:Option V,σ = [some (.ref E),some (.int ((1 <<< Gd.pl g p:Nat):Int)),v2,v3] /\ (∀ b o,b ≠ A -> H1 b = some o -> H' b = some o) /\ H' A = some (.frz od (.dK st)) /\ ∀ (j c:Nat) (v:V),j < i -> st[j]? = some (kN c,v) -> ¬ Pd.Far3 g ss q p c)
      ⟨none,none,rfl,fun b o nb z => by rw [upd_ne nb]; exact z,upd_same,fun j c v h => absurd h (Nat.not_lt_zero _)⟩ (fun i σ H' _ ⟨_,_,_,_,h,_⟩ => h) ?_ ?_⟩
    . rintro i kk v T' σ H' hi hT ⟨v2,v3,rfl,hk,hfr,hno⟩
      obtain ⟨c,M,ekv,hc',hM⟩:=hA.eff.sk _ (List.mem_of_getElem? hi)
      obtain ⟨rfl,rfl⟩:=Prod.mk.inj ekv
      have nTA:A ≠ T':=ne_of_none hfr hT
      have hk':∀ b o,b ≠ A -> H1 b = some o -> upd H' T' (.tup [kV (kN c),.int (M:Nat)]) b = some o:=fun b o nb z => by rw [upd_ne (ne_of_none (hk b o nb z) hT)]; exact hk b o nb z
      have hfr':upd H' T' (.tup [kV (kN c),.int (M:Nat)]) A = some (.frz od (.dK st)):=by rw [upd_ne nTA]; exact hfr
      refine ⟨T',_,rfl,SqT.of upd_same,rfl,_,_,rfl,_,_,rfl,rfl,?_⟩
      refine ⟨_,rfl,_,rfl,M,1 <<< Gd.pl g p,rfl,rfl,_,_,rfl,rfl,_,rfl,ite2 (fun e2 => ?_) (fun e2 => ?_)⟩
      . have e2:(!decide (((M &&& (1 <<< Gd.pl g p):Nat):Int) = 0)) = true:=e2
        have h2:M &&& (1 <<< Gd.pl g p) ≠ 0:=fun z => by
          rw [z] at e2
          simp at e2
        have z:=(hM.meets hp).mp h2
        refine ⟨_,rfl,hfr',?_⟩
        exact (k _ e L N fnd st (fun b o n1 n2 n3 z => by rw [upd_ne n3]; exact hk' b o n3 (b1 b o n1 n2 n3 z)) (hA.back hk')).2 c z hc'
      . have h2:¬ Pd.Far3 g ss q p c:=fun y => by
          refine e2 ?_
          have:=(hM.meets hp).mpr y
          show (!decide (((M &&& (1 <<< Gd.pl g p):Nat):Int) = 0)) = true
          rw [decide_eq_false (by omega)]
          rfl
        refine ⟨_,_,rfl,hk',hfr',fun j c' v' hj ej => ?_⟩
        by_cases y:j = i
        . subst y
          rw [hi] at ej
          have:=kN_inj (Prod.mk.inj (Option.some.inj ej)).1
          rw [<- this]
          exact h2
        . exact hno j c' v' (by omega) ej
    . rintro σ H' ⟨v2,v3,rfl,hk,hfr,hno⟩
      refine ⟨hfr,?_⟩
      refine (k _ e L N fnd st (fun b o n1 n2 n3 z => by rw [upd_ne n3]; exact hk b o n3 (b1 b o n1 n2 n3 z)) (hA.back hk)).1 fun c hw => ?_
      obtain ⟨c',hc'⟩:=Pd.far_exists hw
      have hlt:=hc c' hc'
      cases ev:valV st (kN c') with
      | none => exact hA.eff.comp c' hlt ev p hp hc'
      | some v =>
        obtain ⟨j,hj⟩:=List.getElem?_of_mem (val_mem ev)
        exact hno j c' v (List.getElem?_eq_some_iff.mp hj).1 hj hc'
theorem c_42 (T : Txt K mg ca) : CalleeM P w K mg base CX0 6 ca.Efforts "effort_from" ["self", "standing"] (sp_42 K ca) := CalleeM.of T.d_42 fun _ _ D => ok_42 T D
theorem sc_43 : FnScope ["self", "start", "efforts", "left", "pushed", "acts", "act", "stroke"] ["self", "start", "efforts"] (defScope t_43) := ⟨rfl, rfl, rfl, by decide +kernel, rfl, by decide +kernel, by decide +kernel⟩
theorem ok_43 (T : Txt K mg ca) (D : MethAt K ca.Tours "follow" "Tours.follow" t_43 ["self", "start", "efforts"] f fd) : FnOk P w K mg base CX0 7 f fd ["self", "start", "efforts"] (sp_43 K ca) := by
  refine D.fn.ok sc_43 (fun vs H Q E h => ?_) (fun cdv A outer s H vs Q E hr h => ?_)
  . obtain ⟨To,D,W,a,E,F,A,G,S,g,p,q,ss,e,L,N,fnd,st,H2,rfl,hT,hE,hp,hF,k⟩:=h
    rfl
  obtain ⟨To,D,W,a,E,F,A,G,S,g,p,q,ss,e,L,N,fnd,st,H2,rfl,hT,hE,hp,hF,k⟩:=h
  refine ⟨_,(pss_cons (ps_set (i:=3) sc_43.nd rfl (by first | exact Or.inl rfl | exact Or.inr rfl) (pe_m T.k_Efforts.cl (c_42 T) hr (by decide) pass0 (pv 2) (pa_cons (pe_m T.k_Ground.cl (c_13 T) hr (by decide) pass0 (pe_fld (pv 0) rfl) (pa_cons (pv 1) pa_nil)) pa_nil)))
      (pss_cons (ps_if (pt_cmp (pc_isN (pv 3)))
        (pss_one (ps_ret pe_non))
        pss_nil)
      (pss_cons (ps_set (i:=4) sc_43.nd rfl (by first | exact Or.inl rfl | exact Or.inr rfl) (pv 1))
      (pss_cons (ps_set (i:=5) sc_43.nd rfl (by first | exact Or.inl rfl | exact Or.inr rfl) (pe_lst pa_nil))
      (pss_cons (ps_while PassesOwn.never (PW.pt (pw_and (pt_cmp (pc_gt (pv 3) pe_int)) (pw_and1 (pt_cmp (pc_le (pe_callB (len_s K) (by rfl) T.n_len bt_len (pa_cons (pv 5) pa_nil)) (pe_gi rfl T.v_MOST_STEPS))))))
        (pss_cons (ps_set (i:=6) sc_43.nd rfl (by first | exact Or.inl rfl | exact Or.inr rfl) (pe_m T.k_Tours.cl (c_40 T) hr (by decide) pass0 (pv 0) (pa_cons (pv 4) (pa_cons (pv 3) (pa_cons (pv 2) pa_nil)))))
        (pss_cons (ps_set (i:=7) sc_43.nd rfl (by first | exact Or.inl rfl | exact Or.inr rfl) (pe_ix (ix_l K) (pe_fld (pv 0) rfl) (pe_ix (ix_t K) (pv 6) pe_int (fun _ _ => rfl)) (fun _ _ => rfl)))
        (pss_cons (ps_expr (pe_bm PySem.F.plainAttrs_list PySem.F.slot_list_append PySem.F.type_list_append mt_append (pv 5) (pa_cons (pv 6) pa_nil)))
        (pss_cons (ps_aug (i:=3) sc_43.nd rfl (by first | exact Or.inl rfl | exact Or.inr rfl) (pe_c (c_8 T) hr (by decide) rfl (pa_cons (pv 7) pa_nil)) ip_sub)
        (pss_one (ps_set (i:=4) sc_43.nd rfl (by first | exact Or.inl rfl | exact Or.inr rfl) (pe_c (c_31 T) hr (by decide) rfl (pa_cons (pe_fld (pv 0) rfl) (pa_cons (pv 4) (pa_cons (pv 7) (pa_cons (pe_ix (ix_t K) (pv 6) pe_int (fun _ _ => rfl)) (pa_cons (pe_ix (ix_t K) (pv 6) pe_int (fun _ _ => rfl)) pa_nil)))))))))))))
      (pss_one (ps_ret (pv 5)))))))),?_⟩
  have hT0:=hT.keep hE.same
  obtain ⟨dx,r,St,f,Gt,kvs,hTo,hr,hSt,hf,hFo,hG,h7,hR,hW⟩:=id hT0
  obtain ⟨dg,sg,rg,ag,hG1,_⟩:=id hG
  obtain ⟨dxE,obE⟩:=hE.ob
  refine ⟨_,rfl,E,dxE,_,rfl,obE,(by kernel_rfl),_,rfl,To,ca.Tours,dx,_,_,rfl,hTo,T.k_Tours.cl,T.k_Tours.no 3,tf3,Gt,dg,_,rfl,hG1,(by kernel_rfl),_,rfl,Gt,a,g,p,rfl,hG,hp,hF,hR,fun H1 s1 => ?_⟩
  refine ⟨E,F,A,G,S,g,q,p,ss,e,L,N,fnd,st,H2,rfl,hE.keep s1,hF,fun H3 e3 L3 N3 fnd3 st3 b3 hE3 => ⟨fun hno => ?_,fun c hc hce => ?_⟩⟩
  . exact ⟨_,rfl,_,rfl,iteT ((k H3 e3 L3 N3 fnd3 st3 ((But3.of s1).trans b3) hE3).1 hno)⟩
  have hp3:NL K H3 a p:=(hE.keep s1).seq b3 (s1.seq hp)
  have hT3:=hT.keep hE3.same
  clear hTo hr hSt hf hFo hG hG1 hT0
  obtain ⟨dx,r,St,f,Gt,kvs,hTo,hr,hSt,hf,hFo,hG,_⟩:=id hT3
  obtain ⟨as,hS1,hls,hSI,hsl⟩:=id hSt
  refine ⟨_,rfl,_,rfl,iteF ?_⟩
  refine ⟨_,rfl,?_⟩
  refine ⟨(by show 0 <= sizeLine; decide),fun Ac hAc => ?_⟩
  have s4:∀ o,Same H3 (upd H3 Ac o):=fun o => Same.new (Same.refl H3) hAc
  refine ⟨fun m σ H' => ∃ (c':Nat) (b:Addr) (u:List Nat) (ts:List Addr) (l:List Rm.Step) (v6 v7:Option V),σ = [some (.ref To),some (.ref a),some (.ref E),some (.int (c':Nat)),some (.ref b),some (.ref Ac),v6,v7] /\ Same H3 H' /\ H' Ac = some (.lst (ts.map V.ref)) /\ StepsAt H' ts l /\ NL K H' b u /\ Gd.Fit g u /\ Pd.Far3 g ss q u c' /\ c' < e3 /\ (∀ l',Pd.First3 g ss q u c' l' -> Pd.First3 g ss q p c (l ++ l')) /\ l.length <= 11 /\ c' = m,
    ⟨_,c,a,p,[],[],none,none,rfl,s4 _,upd_same,⟨rfl,fun j t s e1 => by simp at e1⟩,(s4 _).seq hp3,hF,hc,hce,fun l' h => h,by simp,rfl⟩,?_⟩
  rintro m σ H' ⟨c',b,u,ts,l,v6,v7,rfl,s5,hL5,hst5,hb5,hu,hfu,hce',hfst,hl11,rfl⟩
  have lenE:(((ts.map V.ref).length:Nat):Int) = (l.length:Int):=by rw [List.length_map,hst5.1]
  refine ⟨_,rfl,_,_,rfl,rfl,_,rfl,ite2 (fun e0 => ⟨_,rfl,Ac,_,rfl,.inl (SqL.of hL5),_,_,rfl,rfl,_,rfl,ite2 (fun e1 => ?go) (fun e1 => ?r1)⟩) (fun e0 => iteF ?r2)⟩
  case go =>
    have e0:=of_decide_eq_true e0
    have e1:=of_decide_eq_true e1
    rw [lenE] at e1
    have hc0:c' ≠ 0:=by omega
    have hl10:l.length <= 10:=by omega
    refine ⟨fun σ' H' => ∃ (d:Nat) (b:Addr) (u:List Nat) (ts:List Addr) (l:List Rm.Step) (v6 v7:Option V),σ' = [some (.ref To),some (.ref a),some (.ref E),some (.int (d:Nat)),some (.ref b),some (.ref Ac),v6,v7] /\ Same H3 H' /\ H' Ac = some (.lst (ts.map V.ref)) /\ StepsAt H' ts l /\ NL K H' b u /\ Gd.Fit g u /\ Pd.Far3 g ss q u d /\ d < e3 /\ (∀ l',Pd.First3 g ss q u d l' -> Pd.First3 g ss q p c (l ++ l')) /\ l.length <= 11 /\ d < c',fun σ' H' ⟨d,b,u,ts,l,v6,v7,h1,h2,h3,h4,h5,h6,h7,h8,h9,h10,h11⟩ => ⟨d,h11,d,b,u,ts,l,v6,v7,h1,h2,h3,h4,h5,h6,h7,h8,h9,h10,rfl⟩,?_⟩
    refine ⟨_,rfl,To,dx,_,rfl,s5 _ _ hTo,(by kernel_rfl),_,rfl,_,rfl,_,rfl,To,D,W,b,E,F,A,G,S,g,u,q,ss,c',e3,L3,N3,fnd3,st3,H2,rfl,hT3.keep s5,hE3.keep s5,hb5,hu,hfu,hc0,hce',fun j n k' i d v H6 t hact hhit hnoe s6 ht => ?_⟩
    obtain ⟨s,hs,hv,ecd,hfd⟩:=id hhit
    have hs:ss[j]? = some s:=hs
    have hv:Rm.stroke3 (Rm.bsOf g) u s n k' = some v:=hv
    have hsI:=hSI s (List.mem_of_getElem? hs)
    have hcost:1 <= s.getD 6 0:=hsI.2.2.2.2.2.1
    obtain ⟨sb,hsb⟩:=at_len hls.1 hs
    have s56:=s5.trans s6
    refine ⟨_,rfl,To,ca.Tours,dx,_,_,rfl,s56 _ _ hTo,T.k_Tours.cl,T.k_Tours.no 1,tf1,_,rfl,t,_,_,_,rfl,rfl,SqT.of ht,atI_nat (j:=0) rfl,St,_,_,_,rfl,rfl,s56.seq (SqL.of hS1),at_r hsb,?_⟩
    have hL6:=s6 _ _ hL5
    refine ⟨_,rfl,.inl ⟨rfl,_,SqL.of hL6⟩,_,rfl,Ac,_,_,rfl,rfl,hL6,line_lt (by rw [List.length_map,hst5.1]; omega),?_⟩
    have tupA:∀ x xs,H6 x = some (.tup xs) -> upd H6 Ac (.lst (ts.map V.ref ++ [.ref t])) x = some (.tup xs):=fun x xs z => by rw [upd_ne (ne_of z hL6 (by intro y; cases y))]; exact z
    have hL7:upd H6 Ac (.lst (ts.map V.ref ++ [.ref t])) Ac = some (.lst ((ts ++ [t]).map V.ref)):=by rw [upd_same,List.map_append]; rfl
    have ht7:=tupA _ _ ht
    have hst7:=steps_snoc (s:=(j,n,k')) (t:=t) (hst5.keep s6) tupA ht7
    have s37:Same H3 (upd H6 Ac (.lst (ts.map V.ref ++ [.ref t]))):=Same.put s56 hAc
    have hb7:NL K (upd H6 Ac (.lst (ts.map V.ref ++ [.ref t]))) b u:=SqL.keepL hL6 (s6.seq hb5) (by
      intro z
      have h3:=hu.1
      match u,h3,ts,z with
      | [_,_,_],_,[],z => cases z
      | [_,_,_],_,_ :: _,z => cases z)
    generalize upd H6 Ac (.lst (ts.map V.ref ++ [.ref t])) = H7 at hL7 ht7 hst7 s37 hb7 |-
    refine ⟨_,rfl,_,rfl,sb,s,rfl,s37.seq (hls.2 j sb s hsb hs),hsI.1,_,_,rfl,rfl,?_⟩
    refine ⟨_,rfl,To,ca.Tours,dx,_,_,rfl,s37 _ _ hTo,T.k_Tours.cl,T.k_Tours.no 0,tf0,_,rfl,_,rfl,_,rfl,t,_,_,_,rfl,rfl,SqT.of ht7,atI_nat (j:=1) rfl,_,rfl,t,_,_,_,rfl,rfl,SqT.of ht7,atI_nat (j:=2) rfl,r,b,sb,g,u,s,n,k',rfl,s37.seq hr,h7,hb7,hu.1,s37.seq (hls.2 j sb s hsb hs),hsI,fun z => ?_,fun v' ev H8 w s8 hw => ?_⟩
    . rw [hv] at z
      cases z
    . rw [hv] at ev
      cases ev
      refine ⟨d,w,v,ts ++ [t],l ++ [(j,n,k')],some (.ref t),some (.ref sb),?_,s37.trans s8,s8 _ _ hL7,hst7.keep s8,SqL.of hw,Gd.stroke_fit hsI hu hv,hfd,by omega,fun l' hl' => ?_,by rw [List.length_append]; simp only [List.length_cons,List.length_nil]; omega,by omega⟩
      . show [some (V.ref To),some (.ref a),some (.ref E),some (.int (((c':Nat):Int) - ((s.getD 6 0:Nat):Int))),some (.ref w),some (.ref Ac),some (.ref t),some (.ref sb)] = _
        rw [show ((c':Nat):Int) - ((s.getD 6 0:Nat):Int) = ((d:Nat):Int) by have:c' = s.getD 6 0 + d:=ecd; omega]
      . rw [List.append_assoc]
        exact hfst _ (.more hc0 hact hhit hnoe hl')
  case' r1 =>
    have hx:∃ lf,Pd.First3 g ss q p c lf /\ lf.take 11 = l:=by
      have e1:¬ l.length <= 10:=fun z => e1 (decide_eq_true (by rw [lenE]; omega))
      obtain ⟨l',hl'⟩:=Gd.first_exists hSI c' u hu hfu
      refine ⟨l ++ l',hfst l' hl',?_⟩
      rw [List.take_append_of_le_length (by omega),List.take_of_length_le (by omega)]
  case' r2 =>
    have hx:∃ lf,Pd.First3 g ss q p c lf /\ lf.take 11 = l:=by
      have e0:c' = 0:=by
        refine Classical.byContradiction fun z => e0 (decide_eq_true (by omega))
      subst e0
      have:=hfst [] .done
      rw [List.append_nil] at this
      exact ⟨l,this,List.take_of_length_le (by omega)⟩
  all_goals
    obtain ⟨lf,h1,h2⟩:=hx
    refine ⟨_,rfl,?_⟩
    exact (k H' e3 L3 N3 fnd3 st3 (((But3.of s1).trans b3).trans (But3.of s5)) (hE3.keep s5)).2 c lf Ac ts hc h1 ((((LKeep.of s1).trans ((hE.keep s1).lk b3))).free' hAc) hL5 (by rw [h2]; exact hst5)
theorem c_43 (T : Txt K mg ca) : CalleeM P w K mg base CX0 7 ca.Tours "follow" ["self", "start", "efforts"] (sp_43 K ca) := CalleeM.of T.d_43 fun _ _ D => ok_43 T D
theorem sc_44 : FnScope ["self", "x", "goal"] ["self", "x", "goal"] (defScope t_44) := ⟨rfl, rfl, rfl, by decide +kernel, rfl, by decide +kernel, by decide +kernel⟩
theorem ok_44 (T : Txt K mg ca) (D : MethAt K ca.Tours "first_tour" "Tours.first_tour" t_44 ["self", "x", "goal"] f fd) : FnOk P w K mg base CX0 8 f fd ["self", "x", "goal"] (sp_44 K ca) := by
  refine D.fn.ok sc_44 (fun vs H Q E h => ?_) (fun cdv A outer s H vs Q E hr h => ?_)
  . obtain ⟨To,D,W,Z,g,ss,m,x,y,H2,rfl,hT,⟨zs,hZ⟩,hm,hx,hy,k⟩:=h
    rfl
  obtain ⟨To,D,W,Z,g,ss,m,x,y,H2,rfl,hT,⟨zs,hZ⟩,hm,hx,hy,k⟩:=h
  have hu:=hu_of hr
  refine ⟨_,(pss_cons (ps_if (pt_cmp (pc_dnotin hu (pv 2) (pe_fld (pv 0) rfl)) rfl)
        (pss_one (ps_dput hu (pe_fld (pv 0) rfl) (pv 2) (pe_mk (c_11 T) hr (by decide) rfl (pa_cons (pe_fld (pv 0) rfl) (pa_cons (pe_fld (pv 0) rfl) (pa_cons (pe_m T.k_Ground.cl (c_13 T) hr (by decide) pass0 (pe_fld (pv 0) rfl) (pa_cons (pe_dget hu (pe_fld (pv 0) rfl) (pv 2) (fun _ _ => rfl)) pa_nil)) pa_nil)))) rfl))
        pss_nil)
      (pss_cons (ps_if (pt_cmp (pc_dnotin hu (pe_tup (pa_cons (pv 1) (pa_cons (pv 2) pa_nil))) (pe_fld (pv 0) rfl)) rfl)
        (pss_one (ps_dput hu (pe_fld (pv 0) rfl) (pe_tup (pa_cons (pv 1) (pa_cons (pv 2) pa_nil))) (pe_m T.k_Tours.cl (c_43 T) hr (by decide) pass0 (pv 0) (pa_cons (pe_dget hu (pe_fld (pv 0) rfl) (pv 1) (fun _ _ => rfl)) (pa_cons (pe_dget hu (pe_fld (pv 0) rfl) (pv 2) (fun _ _ => rfl)) pa_nil))) rfl))
        pss_nil)
      (pss_one (ps_ret (pe_dget hu (pe_fld (pv 0) rfl) (pe_tup (pa_cons (pv 1) (pa_cons (pv 2) pa_nil))) (fun _ _ => rfl)))))),?_⟩
  obtain ⟨o,effs,told,hX,hle,hlt⟩:=hT
  obtain ⟨dx,r,St,f,G,kvs,hTo2,hr2,hSt2,hf2,hFo2,hG2,h7,hR,hWh⟩:=id hX.fix
  have hy20:y < 1000:=by have:=hR.1.2; omega
  have hFx:=form_fit hR hWh hx
  have hFy:=form_fit hR hWh hy
  obtain ⟨dg,sg,rg,ag,hG1,_⟩:=id hG2
  obtain ⟨fy,hfy,hfly⟩:=form_get hR hWh hFo2 hy
  obtain ⟨fx,hfx,hflx⟩:=form_get hR hWh hFo2 hx
  have getf:∀ {H':Hp} {d:Nat} {q:Addr},Same H2 H' -> valV kvs (kN d) = some (.ref q) -> DGet H' f (.int (d:Nat)) (some (.ref q)):=fun {H' d q} s e => by
    have:=DGet.k (k:=kN d) (s _ _ hf2)
    rw [e] at this
    exact this
  refine ⟨_,rfl,_,rfl,To,ca.Tours,dx,_,_,rfl,hX.same _ _ hTo2,T.k_Tours.cl,T.k_Tours.no 4,tf4,D,_,rfl,DGet.k (k:=kN y) hX.hD,_,rfl,?_⟩
  cases hev:valV effs (kN y) with
  | none => ?c1
  | some v1 => ?c2
  case' c2 =>
    refine iteF ?_
    obtain ⟨H1,o1,effs1,hX1,hv1,hl1,lk1,eH⟩:∃ (H1:Hp) (o1:Addr -> Nat) (effs1:List (Key × V)),TourX K ca.Tours ca.Efforts ca.Ground H2 H1 To D W g ss Z o1 effs1 told /\ valV effs1 (kN y) = some v1 /\ effs1.length <= m + 1 /\ LKeep H H1 /\ H1 = H:=⟨H,o,effs,hX,hev,by omega,LKeep.of (Same.refl H),rfl⟩
    rw [<- eH]
    clear eH
  case' c1 =>
    refine iteT ?_
    refine ⟨_,rfl,To,ca.Tours,dx,_,_,rfl,hX.same _ _ hTo2,T.k_Tours.cl,T.k_Tours.no 3,tf3,_,rfl,To,ca.Tours,dx,_,_,rfl,hX.same _ _ hTo2,T.k_Tours.cl,T.k_Tours.no 1,tf1,_,rfl,To,ca.Tours,dx,_,_,rfl,hX.same _ _ hTo2,T.k_Tours.cl,T.k_Tours.no 3,tf3,G,dg,_,rfl,hX.same _ _ hG1,(by kernel_rfl),_,rfl,To,ca.Tours,dx,_,_,rfl,hX.same _ _ hTo2,T.k_Tours.cl,T.k_Tours.no 2,tf2,_,rfl,f,.ref fy,rfl,getf hX.same hfy,G,fy,g,Rm.formR g y,rfl,hG2.keep hX.same,SqL.of (hX.same _ _ hfly),hFy,hR,fun H3 s3 => ?_⟩
    intro E dE nE ndE neE
    have s4:Same H3 (upd (upd H3 dE (.own E)) E (.ins ca.Efforts dE [])):=Same.new (Same.new (Same.refl H3) ndE) (by rw [upd_ne (Ne.symm neE)]; exact nE)
    refine ⟨E,dE,G,St,g,Rm.formR g y,ss,H2,rfl,upd_same,hX.same.trans (s3.trans s4),(hX.same.trans s3).free nE,hG2,hSt2,hR,hFy,fun H5 F A e L N fnd st k5 nF nA hE5 => ⟨rfl,?_⟩⟩
    have s5:Same H H5:=fun c u e => k5 c u (ne_of_none (s3 _ _ e) nE) (s4 _ _ (s3 _ _ e))
    have fr:∀ {c:Addr},upd (upd H3 dE (.own E)) E (.ins ca.Efforts dE []) c = none -> H c = none:=fun {c} e => (s3.trans s4).free e
    obtain ⟨o1,hX1⟩:=hX.new hy20 hev (s3.free nE) (fr nF) (fr nA) s5 hE5
    refine ⟨_,rfl,To,ca.Tours,dx,_,_,rfl,s5 _ _ (hX.same _ _ hTo2),T.k_Tours.cl,T.k_Tours.no 4,tf4,_,rfl,D,_,rfl,DPut.k (k:=kN y) (s5 _ _ hX.hD) (line_lt (by omega)),?_⟩
    obtain ⟨H1,o1,effs1,v1,hX1,hv1,hl1,lk1,eH⟩:∃ (H1:Hp) (o1:Addr -> Nat) (effs1:List (Key × V)) (v1:V),TourX K ca.Tours ca.Efforts ca.Ground H2 H1 To D W g ss Z o1 effs1 told /\ valV effs1 (kN y) = some v1 /\ effs1.length <= m + 1 /\ LKeep H H1 /\ H1 = upd H5 D (.dK (putK effs (kN y) (.ref E))):=⟨_,o1,_,.ref E,hX1,by rw [valV_put,if_pos rfl],by have:=put_len effs (kN y) (.ref E); omega,(LKeep.of s5).trans (LKeep.put (s5 _ _ hX.hD) rfl),rfl⟩
    rw [<- eH]
    clear eH
  all_goals
    obtain ⟨_,E,F,A,G',S',e,L,N,fnd,st,rfl,ho,hE⟩:=hX1.eo y v1 hv1
    refine ⟨_,rfl,_,rfl,(by show 2 <= sizeLine; decide),fun kt hkt => ?_⟩
    have sk:Same H1 (upd H1 kt (.tup [.int (x:Nat),.int (y:Nat)])):=Same.new (Same.refl H1) hkt
    have hkt3:upd H1 kt (.tup [.int (x:Nat),.int (y:Nat)]) kt = some (.tup ((keyN [x,y]).map kV)):=upd_same
    have hX3:=hX1.keep sk
    have hE3:=hE.keep sk
    have lk3:=lk1.trans (LKeep.of sk)
    generalize upd H1 kt (.tup [.int (x:Nat),.int (y:Nat)]) = H3 at hkt3 hX3 hE3 lk3 |-
    refine ⟨_,rfl,To,ca.Tours,dx,_,_,rfl,hX3.same _ _ hTo2,T.k_Tours.cl,T.k_Tours.no 5,tf5,W,_,rfl,DGet.t (k:=keyN [x,y]) hX3.hW hkt3,_,rfl,?_⟩
    cases hev2:valV told (keyN [x,y]) with
    | none => ?_
    | some v2 => ?_
    rotate_left
    refine iteF ?_
    obtain ⟨H5,told5,v5,hX5,hv5,hl5,lk5,eH⟩:∃ (H5:Hp) (told5:List (List Key × V)) (v5:V),TourX K ca.Tours ca.Efforts ca.Ground H2 H5 To D W g ss Z o1 effs1 told5 /\ valV told5 (keyN [x,y]) = some v5 /\ told5.length <= m + 1 /\ LKeep H H5 /\ H5 = H3:=⟨H3,told,v2,hX3,hev2,by omega,lk3,rfl⟩
    rw [<- eH]
    clear eH
    rotate_left
    focus
      refine iteT ?_
      have getE:DGet H3 D (.int (y:Nat)) (some (.ref E)):=by
        have:=DGet.k (k:=kN y) hX3.hD
        rw [hv1] at this
        exact this
      refine ⟨_,rfl,To,dx,_,rfl,hX3.same _ _ hTo2,(by kernel_rfl),_,rfl,To,ca.Tours,dx,_,_,rfl,hX3.same _ _ hTo2,T.k_Tours.cl,T.k_Tours.no 2,tf2,_,rfl,f,.ref fx,rfl,getf hX3.same hfx,_,rfl,To,ca.Tours,dx,_,_,rfl,hX3.same _ _ hTo2,T.k_Tours.cl,T.k_Tours.no 4,tf4,_,rfl,D,.ref E,rfl,getE,To,D,W,fx,E,F,A,G',S',g,Rm.formR g x,Rm.formR g y,ss,e,L,N,fnd,st,H2,rfl,hX3.fix,hE3,SqL.of (hX3.same _ _ hflx),hFx,fun H4 e4 L4 N4 fnd4 st4 b4 hE4 => ⟨fun hno => ?_,fun c l t ts hc hfi hnt ht hst => ?_⟩⟩
      obtain ⟨v2,⟨hV,hvZ⟩,ev2⟩:∃ v2,(TourV H4 g ss x y v2 /\ v2 ≠ .ref Z) /\ v2 = V.non:=⟨_,⟨.inl ⟨rfl,hno⟩,by intro z; cases z⟩,rfl⟩
      rw [<- ev2]
      clear ev2
      rotate_left
      obtain ⟨v2,⟨hV,hvZ⟩,ev2⟩:∃ v2,(TourV H4 g ss x y v2 /\ v2 ≠ .ref Z) /\ v2 = V.ref t:=⟨_,⟨.inr ⟨t,ts,c,l,rfl,hc,hfi,ht,hst⟩,fun z => by cases z; exact hnt _ rfl (lk3 _ _ hZ rfl)⟩,rfl⟩
      rw [<- ev2]
      clear ev2
      all_goals
        have hX4:=hX3.went hv1 ho hE3 b4 hE4
        have lk4:=lk3.trans (hE3.lk b4)
        refine ⟨_,rfl,To,ca.Tours,dx,_,_,rfl,hX4.same _ _ hTo2,T.k_Tours.cl,T.k_Tours.no 5,tf5,_,rfl,_,rfl,(by show 2 <= sizeLine; decide),fun k2 hk2 => ?_⟩
        have sk2:Same H4 (upd H4 k2 (.tup [.int (x:Nat),.int (y:Nat)])):=Same.new (Same.refl H4) hk2
        have hk22:upd H4 k2 (.tup [.int (x:Nat),.int (y:Nat)]) k2 = some (.tup ((keyN [x,y]).map kV)):=upd_same
        have hX4:=hX4.keep sk2
        have hV:=(LKeep.of sk2).tour hV
        have lk4:=lk4.trans (LKeep.of sk2)
        generalize upd H4 k2 (.tup [.int (x:Nat),.int (y:Nat)]) = H6 at hk22 hX4 hV lk4 |-
        refine ⟨W,_,rfl,DPut.t (k:=keyN [x,y]) hX4.hW hk22 (line_lt (by omega)),?_⟩
        obtain ⟨H5,told5,v5,hX5,hv5,hl5,lk5,eH⟩:∃ (H5:Hp) (told5:List (List Key × V)) (v5:V),TourX K ca.Tours ca.Efforts ca.Ground H2 H5 To D W g ss Z o1 effs1 told5 /\ valV told5 (keyN [x,y]) = some v5 /\ told5.length <= m + 1 /\ LKeep H H5 /\ H5 = upd H6 W (.dT (putK told (keyN [x,y]) v2)):=⟨_,_,v2,hX4.tell hV hvZ,by rw [valV_put,if_pos rfl],by have:=put_len told (keyN [x,y]) v2; omega,lk4.trans (LKeep.put hX4.hW rfl),rfl⟩
        rw [<- eH]
        clear eH
    all_goals
      refine ⟨_,rfl,To,ca.Tours,dx,_,_,rfl,hX5.same _ _ hTo2,T.k_Tours.cl,T.k_Tours.no 5,tf5,_,rfl,_,rfl,(by show 2 <= sizeLine; decide),fun k3 hk3 => ?_⟩
      have sk3:Same H5 (upd H5 k3 (.tup [.int (x:Nat),.int (y:Nat)])):=Same.new (Same.refl H5) hk3
      have hget:=DGet.t (k:=keyN [x,y]) (b:=k3) (sk3 _ _ hX5.hW) upd_same
      rw [hv5] at hget
      exact ⟨W,v5,rfl,hget,k v5 _ ⟨o1,effs1,told5,hX5.keep sk3,hl1,hl5⟩ (lk5.trans (LKeep.of sk3)) ((LKeep.of sk3).tour (hX5.to_ x y v5 hv5))⟩
theorem c_44 (T : Txt K mg ca) : CalleeM P w K mg base CX0 8 ca.Tours "first_tour" ["self", "x", "goal"] (sp_44 K ca) := CalleeM.of T.d_44 fun _ _ D => ok_44 T D
theorem placed_len (w:Nat) (o:Bool) (l:List Rm.Step):(Pd.placed w o l).length = l.length + (if o = true then 1 else 0):=by
  unfold Pd.placed
  by_cases z:o = true
  . rw [if_pos z,if_pos z]
    by_cases y:w = 0
    . rw [if_pos y,List.length_cons]
    . rw [if_neg y,List.length_append]
      rfl
  . rw [if_neg z,if_neg z]
    rfl
theorem stepsK_of {K:PySem.W.Frag} {H:Hp} {ts:List Addr} {st:List Rm.Step} (h:StepsAt H ts st):StepsK K H ts st:=⟨h.1,fun j t s e1 e2 => SqT.of (h.2 j t s e1 e2)⟩
theorem stepsK_app {K:PySem.W.Frag} {H:Hp} {ts ts':List Addr} {st st':List Rm.Step} (h:StepsK K H ts st) (h':StepsK K H ts' st'):StepsK K H (ts ++ ts') (st ++ st'):=by
  refine ⟨by rw [List.length_append,List.length_append,h.1,h'.1],fun j t s e1 e2 => ?_⟩
  by_cases c:j < ts.length
  . rw [List.getElem?_append_left c] at e1
    rw [List.getElem?_append_left (by rw [<- h.1]; exact c)] at e2
    exact h.2 j t s e1 e2
  . rw [List.getElem?_append_right (by omega)] at e1
    rw [List.getElem?_append_right (by rw [<- h.1]; omega),<- h.1] at e2
    exact h'.2 _ t s e1 e2
theorem sc_45 : FnScope ["tours", "where", "op", "d", "x", "due", "ratio", "acts", "carries"] ["tours", "where", "op", "d", "x"] (defScope t_45) := ⟨rfl, rfl, rfl, by decide +kernel, rfl, by decide +kernel, by decide +kernel⟩
theorem ok_45 (T : Txt K mg ca) (D : DefAt K mg "best_steps" t_45 ["tours", "where", "op", "d", "x"] f fd) : FnOk P w K mg base (Ex.CX2 P w) 9 f fd ["tours", "where", "op", "d", "x"] (sp_45 K ca) := by
  refine Ex.okX2 D.fn sc_45 (fun vs H Q E h => ?_) (fun cdv A outer s H vs Q E hr h => ?_)
  . obtain ⟨To,D,W,Z,g,ss,m,w,op,d,x,ho,H2,rfl,hT,hZ,hm,hop,hd,hx,kN,kT,kS⟩:=h
    rfl
  obtain ⟨To,D,W,Z,g,ss,m,w,op,d,x,ho,H2,rfl,hT,hZ,hm,hop,hd,hx,kN,kT,kS⟩:=h
  refine ⟨_,(pss_cons (ps_set (i:=5) sc_45.nd rfl (by first | exact Or.inl rfl | exact Or.inr rfl) (pe_c (c_9 T) hr (by decide) rfl (pa_cons (pv 2) (pa_cons (pv 3) (pa_cons (pv 4) pa_nil)))))
      (pss_cons (ps_set (i:=6) sc_45.nd rfl (by first | exact Or.inl rfl | exact Or.inr rfl) (pe_c (c_1 T) hr (by decide) rfl (pa_cons (pe_fld (pv 0) rfl) pa_nil)))
      (pss_cons (ps_set (i:=7) sc_45.nd rfl (by first | exact Or.inl rfl | exact Or.inr rfl) (pe_m T.k_Tours.cl (c_44 T) hr (by decide) pass0 (pv 0) (pa_cons (pv 4) (pa_cons (pe_op op_mod (pv 5) (pv 6)) pa_nil))))
      (pss_cons (ps_if (pt_cmp (pc_isN (pv 7)))
        (pss_one (ps_raiseE (c_15 T) Ex.body_cx2 hr (by decide) rfl rfl (by decide) (pa_cons (pv 2) (pa_cons (pv 3) (pa_cons (pv 4) pa_nil)))))
        pss_nil)
      (pss_cons (ps_set (i:=8) sc_45.nd rfl (by first | exact Or.inl rfl | exact Or.inr rfl) (pe_op op_rep (pe_lst (pa_cons (pe_gt rfl T.v_CARRY) pa_nil)) (pe_c (c_10 T) hr (by decide) rfl (pa_cons (pv 5) (pa_cons (pv 6) pa_nil)))))
      (pss_cons (ps_if (pt_cmp (pc_gt (pe_op op_add (pe_callB (len_s K) (by rfl) T.n_len bt_len (pa_cons (pv 7) pa_nil)) (pe_callB (len_s K) (by rfl) T.n_len bt_len (pa_cons (pv 8) pa_nil))) (pe_gi rfl T.v_MOST_STEPS)))
        (pss_one (ps_raiseE (c_16 T) Ex.body_cx2 hr (by decide) rfl rfl (by decide) (pa_cons (pv 2) (pa_cons (pv 3) (pa_cons (pv 4) pa_nil)))))
        pss_nil)
      (pss_cons (ps_if (pt_cmp (pc_eqI (pv 1) (pe_gi rfl T.v_CARRY_FIRST)))
        (pss_one (ps_ret (pe_op op_cat (pv 8) (pv 7))))
        pss_nil)
      (pss_one (ps_ret (pe_op op_cat (pv 7) (pv 8))))))))))),?_⟩
  obtain ⟨o,effs,told,hX,_⟩:=id hT
  obtain ⟨dx,r,St,f,G,kvs,hTo2,hr2,hSt2,hf2,hFo2,hG2,h7,hR,hWh⟩:=id hX.fix
  obtain ⟨as,hS1,hls,hSI,hsl⟩:=id hSt2
  have hq0:0 < g.getD 0 0:=by omega
  have haf:=Rm.after_lt (op:=op) (q:=g.getD 0 0) (d:=d) (x:=x) hq0
  refine ⟨_,rfl,_,rfl,_,rfl,op,d,x,rfl,fun eo => ?c1,fun eo => ?c2⟩
  case' c1 => rw [show (x:Int) + (d:Int) = dueI op d x by unfold dueI; rw [if_pos eo]]
  case' c2 => rw [show (x:Int) - (d:Int) = dueI op d x by unfold dueI; rw [if_neg eo]]
  all_goals
    refine ⟨_,rfl,To,ca.Tours,dx,_,_,rfl,hX.same _ _ hTo2,T.k_Tours.cl,T.k_Tours.no 0,tf0,r,g,rfl,hX.same.seq hr2,h7,?_⟩
    refine ⟨_,rfl,To,dx,_,rfl,hX.same _ _ hTo2,(by kernel_rfl),_,rfl,_,rfl,_,rfl,_,_,rfl,rfl,(by omega),To,D,W,Z,g,ss,m,x,Na.after op (g.getD 0 0) d x,H2,by show [V.ref To,V.int (x:Nat),V.int (dueI op d x % ((g.getD 0 0:Nat):Int))] = _; rw [due_after hd],hT,hZ,hm,hx,haf,fun v H1 hT1 lk1 hV => ?_⟩
    rcases hV with ⟨rfl,hno⟩ | ⟨t,ts,c,l,rfl,hc,hfi,ht,hst⟩
    . refine ⟨_,rfl,_,rfl,iteT ?_⟩
      refine ⟨_,rfl,_,rfl,_,rfl,fun xx hxx => ⟨xx,op,d,x,rfl,upd_same,fun H3 dd h3 nd hH => ⟨rfl,dd,h3,kN (Pd.rule_no hR hWh hSI hx hno) _ dd hH⟩⟩⟩
    . have hrule:=Pd.rule_yes (o:=ho) (w:=w) hR hWh hSI hx hc hfi
      have hin:=Pd.placed_in hfi w (Na.over op (g.getD 0 0) d x)
      have hpl:=placed_len w (Na.over op (g.getD 0 0) d x) l
      refine ⟨_,rfl,_,rfl,iteF ?_⟩
      refine fun cr hcr => ⟨(by show 1 <= sizeLine; decide),fun cl hcl => ?_⟩
      refine ⟨_,rfl,_,rfl,_,_,rfl,?_⟩
      rw [due_over hx]
      have s3:Same H1 (upd H1 cl (.lst [.ref cr])):=Same.new (Same.refl H1) hcl
      refine ⟨cl,_,_,rfl,rfl,upd_same,by split <;> decide,by split <;> decide,line_of (by split <;> simp),fun cs hcs => ?_⟩
      have s4:Same H1 (upd (upd H1 cl (.lst [.ref cr])) cs (.lst (List.replicate (((if Na.over op (g.getD 0 0) d x = true then 1 else 0:Nat):Int)).toNat [V.ref cr]).flatten)):=s3.trans (Same.new (Same.refl _) hcs)
      have hcs4:upd (upd H1 cl (.lst [.ref cr])) cs (.lst (List.replicate (((if Na.over op (g.getD 0 0) d x = true then 1 else 0:Nat):Int)).toNat [V.ref cr]).flatten) cs = some (.lst ((List.replicate (if Na.over op (g.getD 0 0) d x = true then 1 else 0) cr).map V.ref)):=by
        rw [upd_same,Int.toNat_natCast]
        congr 2
        split <;> rfl
      generalize upd (upd H1 cl (.lst [.ref cr])) cs (.lst (List.replicate (((if Na.over op (g.getD 0 0) d x = true then 1 else 0:Nat):Int)).toNat [V.ref cr]).flatten) = H4 at s4 hcs4 |-
      have ht4:=s4 _ _ ht
      have hst4:=hst.keep s4
      have hcr4:=Same.seqT s4 hcr
      have lt:(ts.map V.ref).length = min 11 l.length:=by rw [List.length_map,hst.1,List.length_take]
      refine ⟨_,rfl,t,_,rfl,.inl (SqL.of ht4),_,rfl,cs,_,rfl,.inl (SqL.of hcs4),_,_,rfl,rfl,_,_,rfl,rfl,_,rfl,ite2 (fun e1 => ?_) (fun e1 => ?_)⟩
      . have e1:=of_decide_eq_true e1
        rw [lt,List.length_map,List.length_replicate] at e1
        refine ⟨_,rfl,_,rfl,_,rfl,fun xx hxx => ⟨xx,op,d,x,rfl,upd_same,fun H3 dd h3 nd hH => ⟨rfl,dd,h3,kT _ hrule ?_ _ dd hH⟩⟩⟩
        rw [List.length_map,hpl]
        omega
      . have e1:¬ (10:Int) < (((min 11 l.length:Nat):Int) + (((if Na.over op (g.getD 0 0) d x = true then 1 else 0:Nat):Nat):Int)):=fun z => e1 (decide_eq_true (by rw [lt,List.length_map,List.length_replicate]; exact z))
        have hl10:l.length <= 10 /\ l.length + (if Na.over op (g.getD 0 0) d x = true then 1 else 0) <= 10:=by omega
        rw [List.take_of_length_le (by omega)] at hst4
        have nl:¬ 10 < (Pd.placed w (Na.over op (g.getD 0 0) d x) l).length:=by rw [hpl]; omega
        have hcK:StepsK K H4 (List.replicate (if Na.over op (g.getD 0 0) d x = true then 1 else 0) cr) (List.replicate (if Na.over op (g.getD 0 0) d x = true then 1 else 0) (0,0,0)):=⟨by rw [List.length_replicate,List.length_replicate],fun j t' s' e2 e3 => by
          have h2:=List.eq_of_mem_replicate (List.mem_of_getElem? e2)
          have h3:=List.eq_of_mem_replicate (List.mem_of_getElem? e3)
          rw [h2,h3]
          exact hcr4⟩
        have hT4:TourAt K ca.Tours ca.Efforts ca.Ground H2 H4 To D W g ss Z (m + 1):=by
          obtain ⟨o',ef',to',x1,x2,x3⟩:=hT1
          exact ⟨o',ef',to',x1.keep s4,x2,x3⟩
        refine ⟨_,rfl,_,_,rfl,rfl,_,rfl,ite2 (fun e2 => ?_) (fun e2 => ?_)⟩
        . have e2:=of_decide_eq_true e2
          have hw:w = 0:=by omega
          refine ⟨_,rfl,_,rfl,cs,t,_,_,rfl,rfl,hcs4,ht4,line_of (by rw [lt,List.length_map,List.length_replicate]; omega),fun p hp => ?_⟩
          have s5:Same H4 (upd H4 p (.lst ((List.replicate (if Na.over op (g.getD 0 0) d x = true then 1 else 0) cr).map V.ref ++ ts.map V.ref))):=Same.new (Same.refl H4) hp
          refine kS _ _ p (List.replicate (if Na.over op (g.getD 0 0) d x = true then 1 else 0) cr ++ ts) hrule nl hin ?_ ((lk1.trans (LKeep.of s4)).free' hp) (by rw [upd_same,List.map_append]) ?_ ((lk1.trans (LKeep.of s4)).trans (LKeep.of s5))
          . obtain ⟨o',ef',to',x1,x2,x3⟩:=hT4
            exact ⟨o',ef',to',x1.keep s5,x2,x3⟩
          . have:=stepsK_app hcK (stepsK_of (K:=K) hst4)
            have e3:Pd.placed w (Na.over op (g.getD 0 0) d x) l = List.replicate (if Na.over op (g.getD 0 0) d x = true then 1 else 0) (0,0,0) ++ l:=by
              unfold Pd.placed
              rw [if_pos hw]
              split <;> rfl
            rw [e3]
            exact this.keep s5
        . have hw:¬ w = 0:=fun z => e2 (decide_eq_true (by omega))
          refine ⟨_,rfl,_,rfl,t,cs,_,_,rfl,rfl,ht4,hcs4,line_of (by rw [lt,List.length_map,List.length_replicate]; omega),fun p hp => ?_⟩
          have s5:Same H4 (upd H4 p (.lst (ts.map V.ref ++ (List.replicate (if Na.over op (g.getD 0 0) d x = true then 1 else 0) cr).map V.ref))):=Same.new (Same.refl H4) hp
          refine kS _ _ p (ts ++ List.replicate (if Na.over op (g.getD 0 0) d x = true then 1 else 0) cr) hrule nl hin ?_ ((lk1.trans (LKeep.of s4)).free' hp) (by rw [upd_same,List.map_append]) ?_ ((lk1.trans (LKeep.of s4)).trans (LKeep.of s5))
          . obtain ⟨o',ef',to',x1,x2,x3⟩:=hT4
            exact ⟨o',ef',to',x1.keep s5,x2,x3⟩
          . have:=stepsK_app (stepsK_of (K:=K) hst4) hcK
            have e3:Pd.placed w (Na.over op (g.getD 0 0) d x) l = l ++ List.replicate (if Na.over op (g.getD 0 0) d x = true then 1 else 0) (0,0,0):=by
              unfold Pd.placed
              rw [if_neg hw]
              split
              . rfl
              . exact (List.append_nil _).symm
            rw [e3]
            exact this.keep s5
theorem c_45 (T : Txt K mg ca) : CalleeX2 P w K mg base 9 "best_steps" ["tours", "where", "op", "d", "x"] (sp_45 K ca) := CalleeX2.of T.d_45 fun _ _ D => ok_45 T D
theorem drop_at {α:Type} {l:List α} {i:Nat} {x:α} (h:l[i]? = some x):l.drop i = x :: l.drop (i + 1):=by
  obtain ⟨h1,h2⟩:=List.getElem?_eq_some_iff.mp h
  rw [List.drop_eq_getElem_cons h1,h2]
def casX (q op d k:Nat):List (Nat × (Nat × Nat)):=((List.range q).drop k).map fun x => (op,d,x)
def casD (q op j:Nat):List (Nat × (Nat × Nat)):=((List.range' 1 (q - 1)).drop j).flatMap fun d => casX q op d 0
def casO (q i:Nat):List (Nat × (Nat × Nat)):=(([0,1]:List Nat).drop i).flatMap fun op => casD q op 0
theorem cas_all (g:List Nat):Na.cases (Na.rodOf g) = casO (g.getD 0 0) 0:=Pd.cases_eq g
theorem casX_at {q op d k:Nat} (h:k < q):casX q op d k = (op,d,k) :: casX q op d (k + 1):=by
  unfold casX
  rw [drop_at (List.getElem?_range h),List.map_cons]
theorem casX_end (q op d:Nat):casX q op d q = []:=by
  unfold casX
  rw [List.drop_eq_nil_of_le (by rw [List.length_range]; exact Nat.le_refl _)]
  rfl
theorem casD_at {q op j:Nat} (h:j < q - 1):casD q op j = casX q op (1 + j) 0 ++ casD q op (j + 1):=by
  unfold casD
  rw [drop_at (x:=1 + j) (by rw [List.getElem?_range' h]; simp),List.flatMap_cons]
theorem casD_end (q op:Nat):casD q op (q - 1) = []:=by
  unfold casD
  rw [List.drop_eq_nil_of_le (by rw [List.length_range']; exact Nat.le_refl _)]
  rfl
theorem casO_at {q i op:Nat} (h:([0,1]:List Nat)[i]? = some op):casO q i = casD q op 0 ++ casO q (i + 1):=by
  unfold casO
  rw [drop_at h,List.flatMap_cons]
theorem row_len (op d x:Nat) (l:List Rm.Step):(Pd.row3 op d x l).length = 4 + 3 * l.length:=by
  unfold Pd.row3
  rw [List.length_append]
  have:∀ l:List Rm.Step,(l.flatMap fun s => [s.1,s.2.1,s.2.2]).length = 3 * l.length:=fun l => by
    induction l with
    | nil => rfl
    | cons s l ih =>
      rw [List.flatMap_cons,List.length_append,ih,List.length_cons]
      simp only [List.length_cons,List.length_nil]
      omega
  rw [this]
  rfl
theorem nz_app (l m:List Nat):(nz l).map V.int ++ (nz m).map V.int = (nz (l ++ m)).map V.int:=by
  unfold nz BkNeutral.ints
  rw [List.map_append,List.map_append]
structure RS (K:PySem.W.Frag) (C Ce Cg:Addr) (H2 H:Hp) (To D W L a tp:Addr) (g:List Nat) (ss:List (List Nat)) (acc:List Nat) (n:Nat):Prop where
  tour:TourAt K C Ce Cg H2 H To D W g ss L n
  told:H L = some (lstN acc)
  rod:∀ zs,NL K (upd H L (.lst zs)) a g
  tup:SqT K H tp [.int 0,.int 1]
  len:acc.length <= 34 * n
theorem RS.rd {K:PySem.W.Frag} {C Ce Cg:Addr} {H2 H:Hp} {To D W L a tp:Addr} {g:List Nat} {ss:List (List Nat)} {acc:List Nat} {n:Nat} (r:RS K C Ce Cg H2 H To D W L a tp g ss acc n):NL K H a g:=by
  have:=r.rod ((nz acc).map V.int)
  rw [upd_self r.told] at this
  exact this
theorem LKeep.upd {H H':Hp} (s:LKeep H H') (L:Addr) (o:HO):LKeep (upd H L o) (L2.upd H' L o):=fun b u e hu => by
  by_cases z:b = L
  . subst z
    rw [upd_same] at e |-
    exact e
  . rw [upd_ne z] at e |-
    exact s b u e hu
theorem TourAt.le {K:PySem.W.Frag} {C Ce Cg:Addr} {H2 H:Hp} {T D W Z:Addr} {g:List Nat} {ss:List (List Nat)} {m n:Nat} (h:TourAt K C Ce Cg H2 H T D W g ss Z m) (hn:m <= n):TourAt K C Ce Cg H2 H T D W g ss Z n:=by
  obtain ⟨o,ef,to,h1,h2,h3⟩:=h
  exact ⟨o,ef,to,h1,by omega,by omega⟩
theorem sc_46 : FnScope ["rod", "where", "hand", "tours", "told", "op", "d", "x", "steps", "step"] ["rod", "where", "hand"] (defScope t_46) := ⟨rfl, rfl, rfl, by decide +kernel, rfl, by decide +kernel, by decide +kernel⟩
theorem ok_46 (T : Txt K mg ca) (D : DefAt K mg "best_rules" t_46 ["rod", "where", "hand"] f fd) : FnOk P w K mg base (Ex.CX2 P w) 10 f fd ["rod", "where", "hand"] (sp_46 K ca) := by
  refine Ex.okX2 D.fn sc_46 (fun vs H Q E h => ?_) (fun cdv A outer s H vs Q E hr h => ?_)
  . obtain ⟨a,b,g,hd,w,rfl,hs,h7,hR,hW,hb,hb0,hb7,hbl,hSI,kN,kT,kS⟩:=h
    rfl
  obtain ⟨a,b,g,hd,w,rfl,hs,h7,hR,hW,hb,hb0,hb7,hbl,hSI,kN,kT,kS⟩:=h
  refine ⟨_,(pss_cons (ps_set (i:=3) sc_46.nd rfl (by first | exact Or.inl rfl | exact Or.inr rfl) (pe_mk (c_39 T) hr (by decide) rfl (pa_cons (pv 0) (pa_cons (pv 2) pa_nil))))
      (pss_cons (ps_set (i:=4) sc_46.nd rfl (by first | exact Or.inl rfl | exact Or.inr rfl) (pe_lst pa_nil))
      (pss_cons (ps_for PassesOwn.leaving rfl (pi_tup (pe_tup (pa_cons (pe_gi rfl T.v_ADD) (pa_cons (pe_gi rfl T.v_TAKE_AWAY) pa_nil)))) (pg_name (i:=5) sc_46.nd rfl (by first | exact Or.inl rfl | exact Or.inr rfl))
        (pss_one (ps_for PassesOwn.leaving rfl (pi_range2 rfl T.n_range (pa_cons pe_int (pa_cons (pe_c (c_1 T) hr (by decide) rfl (pa_cons (pv 0) pa_nil)) pa_nil))) (pg_name (i:=6) sc_46.nd rfl (by first | exact Or.inl rfl | exact Or.inr rfl))
          (pss_one (ps_for PassesOwn.leaving rfl (pi_range1 rfl T.n_range (pa_cons (pe_c (c_1 T) hr (by decide) rfl (pa_cons (pv 0) pa_nil)) pa_nil)) (pg_name (i:=7) sc_46.nd rfl (by first | exact Or.inl rfl | exact Or.inr rfl))
            (pss_cons (ps_set (i:=8) sc_46.nd rfl (by first | exact Or.inl rfl | exact Or.inr rfl) (pe_cX2 (c_45 T) hr (by decide) rfl (Ex.pass2 Ex.body_cx2) (pa_cons (pv 3) (pa_cons (pv 1) (pa_cons (pv 5) (pa_cons (pv 6) (pa_cons (pv 7) pa_nil)))))))
            (pss_cons (ps_expr (pe_bm PySem.F.plainAttrs_list PySem.F.slot_list_extend PySem.F.type_list_extend mt_extend (pv 4) (pa_cons (pe_lst (pa_cons (pv 5) (pa_cons (pv 6) (pa_cons (pv 7) (pa_cons (pe_callB (len_s K) (by rfl) T.n_len bt_len (pa_cons (pv 8) pa_nil)) pa_nil))))) pa_nil)))
            (pss_one (ps_for PassesOwn.leaving rfl (pi_list (pv 8)) (pg_name (i:=9) sc_46.nd rfl (by first | exact Or.inl rfl | exact Or.inr rfl))
              (pss_one (ps_expr (pe_bm PySem.F.plainAttrs_list PySem.F.slot_list_extend PySem.F.type_list_extend mt_extendT (pv 4) (pa_cons (pv 9) pa_nil)))))))))))))
      (pss_one (ps_ret (pv 4)))))),?_⟩
  have hq:=hR.1
  refine ⟨_,rfl,_,rfl,fun To dT nT ndT neT => ?_⟩
  have s0:Same H (upd (upd H dT (.own To)) To (.ins ca.Tours dT [])):=Same.new (Same.new (Same.refl H) ndT) (by rw [upd_ne (Ne.symm neT)]; exact nT)
  refine ⟨To,dT,a,b,g,hd,rfl,upd_same,s0.seq hs,h7,hR,hW,s0.seq hb,hb0,hb7,hbl,hSI,fun H1 H2 D W k1 hT1 => ⟨rfl,?_⟩⟩
  have s1:Same H H1:=fun c o e => k1 c o (ne_of_none e nT) (s0 _ _ e)
  have sm1:Same H2 H1:=by
    obtain ⟨_,_,_,x,_⟩:=hT1 0
    exact x.same
  refine ⟨(by show 0 <= sizeLine; decide),fun L hL => ?_⟩
  have hL2:H2 L = none:=sm1.free hL
  have s3:Same H1 (upd H1 L (.lst [])):=Same.new (Same.refl H1) hL
  have hL3:upd H1 L (.lst []) L = some (lstN []):=upd_same
  generalize upd H1 L (.lst []) = H3 at s3 hL3 |-
  refine ⟨(by show 2 <= sizeLine; decide),fun tp htp => ?_⟩
  have s4:Same H3 (upd H3 tp (.tup [.int 0,.int 1])):=Same.new (Same.refl H3) htp
  have htp4:upd H3 tp (.tup [.int 0,.int 1]) tp = some (.tup [.int 0,.int 1]):=upd_same
  have s14:=s3.trans s4
  generalize hss:Na.groups 7 (hd.drop 1) = ss at *
  generalize hho:hd.getD 0 0 = ho at *
  have start:RS K ca.Tours ca.Efforts ca.Ground H2 (upd H3 tp (.tup [.int 0,.int 1])) To D W L a tp g ss [] 0:=⟨(hT1 L).keep s14,s4 _ _ hL3,fun zs => (Same.put (s1.trans s14) (s1.free hL)).seq hs,SqT.of htp4,Nat.le_refl _⟩
  have tot0:An.tellB (Na.bestBook (Na.rodOf g) ⟨ho,ss.map Na.strokeOf⟩ w) = Pd.tellFrom (Na.rodOf g) ⟨ho,ss.map Na.strokeOf⟩ w [] (casO (g.getD 0 0) 0):=by rw [Pd.tell_start,cas_all]
  generalize upd H3 tp (.tup [.int 0,.int 1]) = H5 at start |-
  refine ⟨tp,rfl,⟨_,start.tup⟩,for_tup (a:=tp) (xs:=[.int 0,.int 1]) (fun i σ H' => ∃ (v5 v6 v7 v8 v9:Option V) (acc:List Nat),σ = [some (.ref a),some (.int (w:Nat)),some (.ref b),some (.ref To),some (.ref L),v5,v6,v7,v8,v9] /\ RS K ca.Tours ca.Efforts ca.Ground H2 H' To D W L a tp g ss acc (400 * i) /\ An.tellB (Na.bestBook (Na.rodOf g) ⟨ho,ss.map Na.strokeOf⟩ w) = Pd.tellFrom (Na.rodOf g) ⟨ho,ss.map Na.strokeOf⟩ w acc (casO (g.getD 0 0) i))
    ⟨none,none,none,none,none,[],rfl,start,tot0⟩ (fun i σ H' _ ⟨_,_,_,_,_,_,_,r,_⟩ => r.tup) ?_ ?_⟩
  . rintro i x σ H6 hi ⟨v5,v6,v7,v8,v9,acc,rfl,r6,tot6⟩
    obtain ⟨op,hop,ho1,rfl⟩:∃ op:Nat,[0,1][i]? = some op /\ op <= 1 /\ x = .int (op:Nat):=by
      match i,hi with
      | 0,hi => exact ⟨0,rfl,by decide,(Option.some.inj hi).symm⟩
      | 1,hi => exact ⟨1,rfl,by decide,(Option.some.inj hi).symm⟩
    have hi2:i < 2:=(List.getElem?_eq_some_iff.mp hop).1
    rw [casO_at hop] at tot6
    refine ⟨_,rfl,a,g,rfl,r6.rd,h7,_,_,rfl,⟨by decide,by decide,by omega,by omega⟩,for_range (fun j σ H' => ∃ (v6 v7 v8 v9:Option V) (acc:List Nat),σ = [some (.ref a),some (.int (w:Nat)),some (.ref b),some (.ref To),some (.ref L),some (.int (op:Nat)),v6,v7,v8,v9] /\ RS K ca.Tours ca.Efforts ca.Ground H2 H' To D W L a tp g ss acc (400 * i + 20 * j) /\ An.tellB (Na.bestBook (Na.rodOf g) ⟨ho,ss.map Na.strokeOf⟩ w) = Pd.tellFrom (Na.rodOf g) ⟨ho,ss.map Na.strokeOf⟩ w acc (casD (g.getD 0 0) op j ++ casO (g.getD 0 0) (i + 1)))
      ⟨_,_,_,_,acc,rfl,r6,tot6⟩ ?_ ?_⟩
    . rintro j σ H7 hj ⟨v6,v7,v8,v9,acc,rfl,r7,tot7⟩
      have hj:j < g.getD 0 0 - 1:=by omega
      rw [casD_at hj,List.append_assoc] at tot7
      refine ⟨_,rfl,a,g,rfl,r7.rd,h7,_,rfl,by omega,by omega,for_range (fun k σ H' => ∃ (v7 v8 v9:Option V) (acc:List Nat),σ = [some (.ref a),some (.int (w:Nat)),some (.ref b),some (.ref To),some (.ref L),some (.int (op:Nat)),some (.int (1 + (j:Int))),v7,v8,v9] /\ RS K ca.Tours ca.Efforts ca.Ground H2 H' To D W L a tp g ss acc (400 * i + 20 * j + k) /\ An.tellB (Na.bestBook (Na.rodOf g) ⟨ho,ss.map Na.strokeOf⟩ w) = Pd.tellFrom (Na.rodOf g) ⟨ho,ss.map Na.strokeOf⟩ w acc (casX (g.getD 0 0) op (1 + j) k ++ (casD (g.getD 0 0) op (j + 1) ++ casO (g.getD 0 0) (i + 1))))
        ⟨_,_,_,acc,rfl,r7,tot7⟩ ?_ ?_⟩
      . rintro k σ H8 hk ⟨v7,v8,v9,acc,rfl,r8,tot8⟩
        have hk:k < g.getD 0 0:=by omega
        rw [casX_at hk,List.cons_append] at tot8
        rw [Int.zero_add,show 1 + (j:Int) = ((1 + j:Nat):Int) by omega]
        have hal:=r8.len
        refine ⟨_,rfl,_,rfl,_,rfl,_,rfl,_,rfl,To,D,W,L,g,ss,400 * i + 20 * j + k,w,op,1 + j,k,ho,H2,rfl,r8.tour,⟨_,r8.told⟩,by omega,ho1,by omega,hk,fun e H' dd hH => kN _ (tot8.trans (Pd.tell_none e)) (Nat.le_refl 3) H' dd hH,fun n e hn H' dd hH => kT _ (tot8.trans (Pd.tell_long e hn)) (Nat.le_refl 3) H' dd hH,fun l H9 t ts e nl hin hT9 hnt ht hts lk => ?_⟩
        have tot9:=tot8.trans (Pd.tell_more e (by rw [List.length_map]; exact nl))
        rw [Pd.nums3 hin] at tot9
        have hL9:=lk _ _ r8.told rfl
        have ntL:t ≠ L:=fun z => hnt _ rfl (z ▸ r8.told)
        have hlenE:(((ts.map V.ref).length:Nat):Int) = ((l.length:Nat):Int):=by rw [List.length_map,hts.1]
        refine ⟨_,rfl,.inl ⟨rfl,_,SqL.of hL9⟩,_,rfl,_,rfl,_,rfl,_,rfl,t,_,rfl,.inl (SqL.of ht),(by show 4 <= sizeLine; decide),fun e4 he4 => ?_⟩
        rw [hlenE]
        have s10:Same H9 (upd H9 e4 (.lst [.int (op:Nat),.int ((1 + j:Nat):Int),.int (k:Nat),.int (l.length:Nat)])):=Same.new (Same.refl H9) he4
        have he10:upd H9 e4 (.lst [.int (op:Nat),.int ((1 + j:Nat):Int),.int (k:Nat),.int (l.length:Nat)]) e4 = some (lstN [op,1 + j,k,l.length]):=upd_same
        generalize upd H9 e4 (.lst [.int (op:Nat),.int ((1 + j:Nat):Int),.int (k:Nat),.int (l.length:Nat)]) = H10 at s10 he10 |-
        have hL10:=s10 _ _ hL9
        refine ⟨L,e4,_,_,rfl,rfl,hL10,he10,line_of (by rw [vi_len,vi_len]; simp only [List.length_cons,List.length_nil]; omega),?_⟩
        rw [nz_app]
        have ht11:∀ o,upd H10 L o t = some (.lst (ts.map V.ref)):=fun o => by rw [upd_ne ntL]; exact s10 _ _ ht
        refine ⟨_,rfl,t,rfl,⟨_,SqL.of (ht11 _)⟩,for_list (a:=t) (xs:=ts.map V.ref) (fun z σ H' => ∃ (v9:Option V),σ = [some (.ref a),some (.int (w:Nat)),some (.ref b),some (.ref To),some (.ref L),some (.int (op:Nat)),some (.int ((1 + j:Nat):Int)),some (.int (k:Nat)),some (.ref t),v9] /\ H' = upd H10 L (lstN (acc ++ [op,1 + j,k,l.length] ++ (l.take z).flatMap fun s => [s.1,s.2.1,s.2.2])))
          ⟨_,rfl,by rw [List.take_zero]; simp⟩ (fun z σ H' _ ⟨_,_,e⟩ => by rw [e]; exact SqL.of (ht11 _)) ?_ ?_⟩
        . rintro z x σ H' hz ⟨v9,rfl,rfl⟩
          obtain ⟨tt,htt,rfl⟩:=map_at hz
          obtain ⟨s,hs'⟩:=at_len hts.1.symm htt
          have hSq:=hts.2 z tt s htt hs'
          have hzl:z < l.length:=(List.getElem?_eq_some_iff.mp hs').1
          have fl:((l.take z).flatMap fun s => [s.1,s.2.1,s.2.2]).length <= 30:=by
            have:=row_len op (1 + j) k (l.take z)
            unfold Pd.row3 at this
            rw [List.length_append,List.length_take] at this
            simp only [List.length_cons,List.length_nil] at this
            omega
          refine ⟨_,rfl,.inl ⟨rfl,_,SqL.of upd_same⟩,_,rfl,L,tt,_,_,rfl,rfl,upd_same,SqT.keepL hL10 (Same.seqT s10 hSq),line_of (by rw [vi_len,List.length_append,List.length_append]; simp only [List.length_cons,List.length_nil]; omega),?_⟩
          refine ⟨_,rfl,?_⟩
          rw [upd_upd,take_snoc hs',List.flatMap_append,<- List.append_assoc]
          exact congrArg (fun z => upd H10 L (.lst z)) (nz_app (acc ++ [op,1 + j,k,l.length] ++ (l.take z).flatMap fun s => [s.1,s.2.1,s.2.2]) [s.1,s.2.1,s.2.2])
        . rintro σ H' ⟨v9,rfl,rfl⟩
          rw [List.length_map,hts.1,List.take_length,List.append_assoc]
          refine ⟨some (.int (k:Nat)),some (.ref t),v9,acc ++ Pd.row3 op (1 + j) k l,?_,⟨?_,upd_same,?_,?_,?_⟩,tot9⟩
          . rw [show ((1 + j:Nat):Int) = 1 + (j:Int) by omega]
          . exact (hT9.keep s10).grow hL2 hL10
          . intro zs
            rw [upd_upd]
            exact ((lk.trans (LKeep.of s10)).upd L _).seq (r8.rod zs)
          . exact SqT.keepL hL10 ((lk.trans (LKeep.of s10)).seqT r8.tup)
          . rw [List.length_append,row_len]
            omega
      . rintro σ H8 ⟨v7,v8,v9,acc,rfl,r8,tot8⟩
        have en:((g.getD 0 0:Nat):Int).toNat = g.getD 0 0:=Int.toNat_natCast _
        rw [en] at tot8 r8
        rw [casX_end,List.nil_append] at tot8
        refine ⟨_,_,_,_,acc,rfl,⟨r8.tour.le (by omega),r8.told,r8.rod,r8.tup,?_⟩,tot8⟩
        have:=r8.len
        omega
    . rintro σ H7 ⟨v6,v7,v8,v9,acc,rfl,r7,tot7⟩
      have en:(((g.getD 0 0:Nat):Int) - 1).toNat = g.getD 0 0 - 1:=by omega
      rw [en] at tot7 r7
      rw [casD_end,List.nil_append] at tot7
      refine ⟨_,_,_,_,_,acc,rfl,⟨r7.tour.le (by omega),r7.told,r7.rod,r7.tup,?_⟩,tot7⟩
      have:=r7.len
      omega
  . rintro σ H6 ⟨v5,v6,v7,v8,v9,acc,rfl,r6,tot6⟩
    refine ⟨_,rfl,kS acc H6 L ?_ ?_ r6.told⟩
    . rw [tot6]
      exact Pd.tell_end
    . have:=r6.len
      simp only [List.length_cons,List.length_nil] at this
      omega
theorem c_46 (T : Txt K mg ca) : CalleeX2 P w K mg base 10 "best_rules" ["rod", "where", "hand"] (sp_46 K ca) := CalleeX2.of T.d_46 fun _ _ D => ok_46 T D
theorem sc_47 : FnScope ["rod", "where", "make", "hand", "fault", "rods", "rules", "refused"] ["rod", "where", "make", "hand"] (defScope t_47) := ⟨rfl, rfl, rfl, by decide +kernel, rfl, by decide +kernel, by decide +kernel⟩
theorem ok_47 (T : Txt K mg ca) (D : DefAt K mg "best" t_47 ["rod", "where", "make", "hand"] f fd) : FnOk P w K mg base CX0 11 f fd ["rod", "where", "make", "hand"] (sp_47 K) := by
  refine D.fn.ok sc_47 (fun vs H Q E h => ?_) (fun cdv A outer s H vs Q E hr h => ?_)
  . obtain ⟨a,b,i,w,m,hd,rfl,hm,hml,hb,hbl,k⟩:=h
    rfl
  obtain ⟨a,b,i,w,m,hd,rfl,hm,hml,hb,hbl,k⟩:=h
  refine ⟨_,(pss_cons (ps_set (i:=4) sc_47.nd rfl (by first | exact Or.inl rfl | exact Or.inr rfl) (pe_c (c_17 T) hr (by decide) rfl (pa_cons (pe_lst (pa_cons (pe_c (c_41 T) hr (by decide) rfl (pa_cons (pv 2) pa_nil)) (pa_cons (pe_c (c_34 T) hr (by decide) rfl (pa_cons (pv 3) pa_nil)) pa_nil))) pa_nil)))
      (pss_cons (ps_if (pt_cmp (pc_notN (pv 4)))
        (pss_one (ps_ret (pe_op op_cat (pe_lst (pa_cons (pe_un un_neg pe_int) pa_nil)) (pv 4))))
        pss_nil)
      (pss_cons (ps_set (i:=5) sc_47.nd rfl (by first | exact Or.inl rfl | exact Or.inr rfl) (pe_c (c_0 T) hr (by decide) rfl (pa_cons (pv 2) pa_nil)))
      (pss_cons (ps_if (PW.pt (pw_or (pt_cmp (pc_ge (pv 0) (pe_callB (len_s K) (by rfl) T.n_len bt_len (pa_cons (pv 5) pa_nil)))) (pw_or1 (pt_cmp (pc_gt (pv 1) pe_int)))))
        (pss_one (ps_ret (pe_lst (pa_cons (pe_un un_neg pe_int) pa_nil))))
        pss_nil)
      (pss_cons (Ex.ps_try2 rfl rfl (fun _ _ => (pss_one (ps_set (i:=6) sc_47.nd rfl (by first | exact Or.inl rfl | exact Or.inr rfl) (pe_cX2 (c_46 T) hr (by decide) rfl Ex.passT2 (pa_cons (pe_ix (ix_l K) (pv 5) (pv 0) (fun _ _ => rfl)) (pa_cons (pv 1) (pa_cons (pv 3) pa_nil)))))))
        (Ex.phs2_cons (fun _ => (Ex.ph_as (i:=7) sc_47.nd rfl rfl rfl T.g_NoActsLeadThere T.eq_NoActsLeadThere (fun _ _ => (pss_one (ps_ret (pe_op op_cat (pe_lst (pa_cons (pe_un un_neg pe_int) pa_nil)) (pe_fldXE T.d_15 (by simp) hb_head (pv 7) rfl))))) (by first | exact Or.inl rfl | exact Or.inr rfl) (by first | exact Or.inl rfl | exact Or.inr rfl)))
        (Ex.phs2_cons (fun _ => (Ex.ph_no2 rfl T.g_NoActsLeadThere T.ne_TooManySteps_NoActsLeadThere (Ex.ph_as (i:=7) sc_47.nd rfl rfl rfl T.g_TooManySteps T.eq_TooManySteps (fun _ _ => (pss_one (ps_ret (pe_op op_cat (pe_lst (pa_cons (pe_un un_neg pe_int) pa_nil)) (pe_fldXE T.d_16 (by simp) hb_head (pv 7) rfl))))) (by first | exact Or.inl rfl | exact Or.inr rfl) (by first | exact Or.inl rfl | exact Or.inr rfl))))
        Ex.phs2_nil)))
      (pss_one (ps_ret (pe_op op_cat (pe_lst (pa_cons pe_int pa_nil)) (pv 6))))))))),?_⟩
  refine ⟨_,rfl,a,m,rfl,hm,hml,fun x e1 H1 s1 => ?_,fun r1 i1 e1 H1 p1 s1 hp1 => ?_⟩
  . refine ⟨_,rfl,b,hd,rfl,s1.seq hb,hbl,fun y e2 H2 s2 => ?_,fun r2 i2 e2 H2 p2 s2 hp2 => ?_⟩
    . refine ⟨(by show 2 <= sizeLine; decide),fun l hl' => ⟨l,_,rfl,SqL.of upd_same,?_⟩⟩
      refine ⟨_,rfl,_,rfl,iteF ?_⟩
      have s3:Same H (upd H2 l (.lst [.non,.non])):=Same.new (s1.trans s2) hl'
      generalize upd H2 l (.lst [.non,.non]) = H3 at s3 |-
      have mk:=make_parts e1
      have hp:=hand_parts e2
      have hgl:=groups_le mk.1 hml
      refine ⟨_,rfl,a,m,rfl,s3.seq hm,mk.1,hml,fun H4 p as s4 hp4 hls => ?_⟩
      have elen:(((as.map V.ref).length:Nat):Int) = (((Na.groups 7 m).length:Nat):Int):=by rw [List.length_map,hls.1]
      refine ⟨_,rfl,_,rfl,p,_,rfl,.inl (SqL.of hp4),_,_,rfl,rfl,_,rfl,ite2 (fun e3 => iteT ?c1) (fun e3 => ⟨_,rfl,_,_,rfl,rfl,_,rfl,ite2 (fun e4 => ?c2) (fun e4 => ?c3)⟩)⟩
      case' c1 => have hno:(Na.groups 7 m).length <= i \/ 1 < w:=.inl (by have:=of_decide_eq_true e3; rw [elen] at this; omega)
      case' c2 => have hno:(Na.groups 7 m).length <= i \/ 1 < w:=.inr (by have:=of_decide_eq_true e4; omega)
      case' c3 =>
        have hi:i < (Na.groups 7 m).length:=Classical.byContradiction fun z => e3 (decide_eq_true (by rw [elen]; omega))
        have hw:¬ 1 < w:=fun z => e4 (decide_eq_true (by omega))
        obtain ⟨g,hg⟩:∃ g,(Na.groups 7 m)[i]? = some g:=⟨_,List.getElem?_eq_getElem hi⟩
        obtain ⟨gb,hgb⟩:=at_len hls.1 hg
        obtain ⟨g7,gR,gW⟩:=mk.2.1 g (List.mem_of_getElem? hg)
        have hans:=An.best_ok (w:=w) e1 e2 (show x[i]? = some (Na.rodOf g) by rw [mk.2.2,List.getElem?_map,hg]; rfl) hw
        rw [hp.2.2.2] at hans
        have s34:=s3.trans s4
        refine ⟨_,rfl,_,rfl,p,_,_,_,rfl,rfl,SqL.of hp4,at_r hgb,_,rfl,_,rfl,gb,b,g,hd,w,rfl,hls.2 i gb g hgb hg,g7,gR,gW,s34.seq hb,hp.1,hp.2.1,hbl,hp.2.2.1,fun l el hl3 H5 dx hH => ?d1,fun l el hl3 H5 dx hH => ?d2,fun l H5 p5 el hlen hp5 => ?d3⟩
        case d3 =>
          refine ⟨(by show 1 <= sizeLine; decide),fun l1 hl1 => ⟨_,rfl,l1,p5,_,_,rfl,rfl,upd_same,(by rw [upd_ne (ne_of_none hp5 hl1)]; exact hp5),line_of (by rw [vi_len]; simp only [List.length_cons,List.length_nil]; omega),fun r hr => k _ r ?_⟩⟩
          rw [hans,el]
          exact upd_same
        case d1 =>
          refine ⟨(ca.NoActsLeadThere,_),List.mem_cons_self ..,rfl,fun σ' ea hσ hea => ?_⟩
          obtain ⟨pp,h1,h2⟩:=hH
          match σ',hσ with
          | [_,_,_,_,_,_,_,_],_ =>
            have n1:dx ≠ ea:=ne_of_none h1 hea
            have n2:pp ≠ ea:=ne_of_none h2 hea
            refine ⟨_,rfl,(by show 1 <= sizeLine; decide),fun l1 hl1 => ?_⟩
            have s6:∀ u,Same (upd H5 ea (Ex.exAt ca.NoActsLeadThere (some dx) ea)) (upd (upd H5 ea (Ex.exAt ca.NoActsLeadThere (some dx) ea)) l1 u):=fun u => Same.new (Same.refl _) hl1
            refine ⟨_,rfl,ea,dx,_,_,rfl,s6 _ _ _ upd_same,s6 _ _ _ (by rw [upd_ne n1]; exact h1),rfl,l1,pp,_,_,rfl,rfl,upd_same,s6 _ _ _ (by rw [upd_ne n2]; exact h2),line_of (by rw [vi_len]; simp only [List.length_cons,List.length_nil]; omega),fun r hr => k _ r ?_⟩
            rw [hans,el]
            exact upd_same
        case d2 =>
          refine ⟨(ca.TooManySteps,_),List.mem_cons_of_mem _ (List.mem_cons_self ..),rfl,fun σ' ea hσ hea => ?_⟩
          obtain ⟨pp,h1,h2⟩:=hH
          match σ',hσ with
          | [_,_,_,_,_,_,_,_],_ =>
            have n1:dx ≠ ea:=ne_of_none h1 hea
            have n2:pp ≠ ea:=ne_of_none h2 hea
            refine ⟨_,rfl,(by show 1 <= sizeLine; decide),fun l1 hl1 => ?_⟩
            have s6:∀ u,Same (upd H5 ea (Ex.exAt ca.TooManySteps (some dx) ea)) (upd (upd H5 ea (Ex.exAt ca.TooManySteps (some dx) ea)) l1 u):=fun u => Same.new (Same.refl _) hl1
            refine ⟨_,rfl,ea,dx,_,_,rfl,s6 _ _ _ upd_same,s6 _ _ _ (by rw [upd_ne n1]; exact h1),rfl,l1,pp,_,_,rfl,rfl,upd_same,s6 _ _ _ (by rw [upd_ne n2]; exact h2),line_of (by rw [vi_len]; simp only [List.length_cons,List.length_nil]; omega),fun r hr => k _ r ?_⟩
            rw [hans,el]
            exact upd_same
      all_goals
        refine ⟨_,rfl,(by show 1 <= sizeLine; decide),fun r hr => k _ r ?_⟩
        rw [An.best_no1 e1 e2 (by rw [mk.2.2,List.length_map]; exact hno)]
        exact upd_same
    . refine ⟨(by show 2 <= sizeLine; decide),fun l hl' => ⟨l,_,rfl,SqL.of upd_same,?_⟩⟩
      refine ⟨_,rfl,_,rfl,iteT ?_⟩
      have hp:∀ o,upd H2 l o p2 = some (.lst [.int (r2:Nat),.int (i2:Nat)]):=fun o => Same.new (Same.refl H2) hl' _ _ hp2
      refine ⟨_,rfl,(by show 1 <= sizeLine; decide),fun l7 hl7 => ⟨_,rfl,l7,p2,_,[.int (r2:Nat),.int (i2:Nat)],rfl,rfl,upd_same,(by rw [upd_ne (ne_of_none (hp _) hl7)]; exact hp _),(by show 1 + 2 <= sizeLine; decide),fun r hr' => k _ r ?_⟩⟩
      rw [An.best_hand e1 e2]
      exact upd_same
  . refine ⟨_,rfl,b,hd,rfl,s1.seq hb,hbl,fun y e2 H2 s2 => ?_,fun r2 i2 e2 H2 p2 s2 hp2 => ?_⟩
    all_goals
      refine ⟨(by show 2 <= sizeLine; decide),fun l hl' => ⟨l,_,rfl,SqL.of upd_same,?_⟩⟩
      refine ⟨_,rfl,_,rfl,iteT ?_⟩
      have hp:∀ o,upd H2 l o p1 = some (.lst [.int (r1:Nat),.int (i1:Nat)]):=fun o => Same.new (Same.refl H2) hl' _ _ (s2 _ _ hp1)
      refine ⟨_,rfl,(by show 1 <= sizeLine; decide),fun l7 hl7 => ⟨_,rfl,l7,p1,_,[.int (r1:Nat),.int (i1:Nat)],rfl,rfl,upd_same,(by rw [upd_ne (ne_of_none (hp _) hl7)]; exact hp _),(by show 1 + 2 <= sizeLine; decide),fun r hr' => k _ r ?_⟩⟩
      rw [An.best_make e1]
      exact upd_same
theorem c_47 (T : Txt K mg ca) : Callee P w K mg base 11 "best" ["rod", "where", "make", "hand"] (sp_47 K) := Callee.of T.d_47 fun _ _ D => ok_47 T D
end
theorem txt_mk {K:PySem.W.Frag} {h:Heap} {mg:Str -> Option Value} (X:K.In h) (G:h.Ns mainGlobals mg)
    {i_ADD:Tok}
    {p_CARRY:Addr} {od_CARRY:Option Addr} {n_CARRY:Nat} {sl_CARRY:Array (Option Value)} {i0_CARRY i1_CARRY i2_CARRY:Tok}
    {i_CARRY_FIRST:Tok}
    {i_DECKS:Tok}
    {i_DIGITS_RULE:Tok}
    {i_HAND_RULE:Tok}
    {i_HIGHEST_COST:Tok}
    {i_HIGHEST_DIRECTION:Tok}
    {i_HIGHEST_RATIO:Tok}
    {i_HIGHEST_WORTH:Tok}
    {i_HIGHEST_WORTH_TOGETHER:Tok}
    {i_LOWEST_RATIO:Tok}
    {i_MAKE_LENGTH_RULE:Tok}
    {i_MOST_BEADS:Tok}
    {i_MOST_RODS:Tok}
    {i_MOST_STEPS:Tok}
    {i_MOST_STROKES:Tok}
    {i_NUMBERS_A_ROD:Tok}
    {i_NUMBERS_A_STROKE:Tok}
    {i_ROD_RULE:Tok}
    {i_STROKE_RULE:Tok}
    {i_TAKE_AWAY:Tok}
    {i_TO_THE_BEAM:Tok}
    {i_WORTH_TOGETHER_RULE:Tok}
    {C_Efforts:Addr}
    {C_Ground:Addr}
    {C_Tours:Addr}
    {C_NoActsLeadThere:Addr}
    {C_TooManySteps:Addr}
    {cd_NoActsLeadThere:_}
    {cd_TooManySteps:_}
    {f_0:Addr} {od_0 an_0:Option Addr} {sl_0:Array (Option Value)} {oc_0 kV_0 dc_0 pm_0 cd_0 ct_0:Value}
    {f_1:Addr} {od_1 an_1:Option Addr} {sl_1:Array (Option Value)} {oc_1 kV_1 dc_1 pm_1 cd_1 ct_1:Value}
    {f_2:Addr} {od_2 an_2:Option Addr} {sl_2:Array (Option Value)} {oc_2 kV_2 dc_2 pm_2 cd_2 ct_2:Value}
    {f_3:Addr} {od_3 an_3:Option Addr} {sl_3:Array (Option Value)} {oc_3 kV_3 dc_3 pm_3 cd_3 ct_3:Value}
    {f_4:Addr} {od_4 an_4:Option Addr} {sl_4:Array (Option Value)} {oc_4 kV_4 dc_4 pm_4 cd_4 ct_4:Value}
    {f_5:Addr} {od_5 an_5:Option Addr} {sl_5:Array (Option Value)} {oc_5 kV_5 dc_5 pm_5 cd_5 ct_5:Value}
    {f_6:Addr} {od_6 an_6:Option Addr} {sl_6:Array (Option Value)} {oc_6 kV_6 dc_6 pm_6 cd_6 ct_6:Value}
    {f_7:Addr} {od_7 an_7:Option Addr} {sl_7:Array (Option Value)} {oc_7 kV_7 dc_7 pm_7 cd_7 ct_7:Value}
    {f_8:Addr} {od_8 an_8:Option Addr} {sl_8:Array (Option Value)} {oc_8 kV_8 dc_8 pm_8 cd_8 ct_8:Value}
    {f_9:Addr} {od_9 an_9:Option Addr} {sl_9:Array (Option Value)} {oc_9 kV_9 dc_9 pm_9 cd_9 ct_9:Value}
    {f_10:Addr} {od_10 an_10:Option Addr} {sl_10:Array (Option Value)} {oc_10 kV_10 dc_10 pm_10 cd_10 ct_10:Value}
    {f_11:Addr} {od_11 an_11:Option Addr} {sl_11:Array (Option Value)} {oc_11 kV_11 dc_11 pm_11 cd_11 ct_11:Value}
    {f_12:Addr} {od_12 an_12:Option Addr} {sl_12:Array (Option Value)} {oc_12 kV_12 dc_12 pm_12 cd_12 ct_12:Value}
    {f_13:Addr} {od_13 an_13:Option Addr} {sl_13:Array (Option Value)} {oc_13 kV_13 dc_13 pm_13 cd_13 ct_13:Value}
    {f_14:Addr} {od_14 an_14:Option Addr} {sl_14:Array (Option Value)} {oc_14 kV_14 dc_14 pm_14 cd_14 ct_14:Value}
    {f_15:Addr} {od_15 an_15:Option Addr} {sl_15:Array (Option Value)} {oc_15 kV_15 dc_15 pm_15 cd_15 ct_15:Value}
    {nm_NoActsLeadThere q_NoActsLeadThere:Str} {N_NoActsLeadThere:Addr} {bs_NoActsLeadThere:List Value} {sn_NoActsLeadThere:List Str} {sub_NoActsLeadThere:List Value} {ab_NoActsLeadThere:Bool} {col_NoActsLeadThere:Option Bool} {dd_NoActsLeadThere:Option Addr} {k0_NoActsLeadThere k1_NoActsLeadThere k2_NoActsLeadThere k3_NoActsLeadThere k5_NoActsLeadThere:Option Value}
    {f_16:Addr} {od_16 an_16:Option Addr} {sl_16:Array (Option Value)} {oc_16 kV_16 dc_16 pm_16 cd_16 ct_16:Value}
    {nm_TooManySteps q_TooManySteps:Str} {N_TooManySteps:Addr} {bs_TooManySteps:List Value} {sn_TooManySteps:List Str} {sub_TooManySteps:List Value} {ab_TooManySteps:Bool} {col_TooManySteps:Option Bool} {dd_TooManySteps:Option Addr} {k0_TooManySteps k1_TooManySteps k2_TooManySteps k3_TooManySteps k5_TooManySteps:Option Value}
    {f_17:Addr} {od_17 an_17:Option Addr} {sl_17:Array (Option Value)} {oc_17 kV_17 dc_17 pm_17 cd_17 ct_17:Value}
    {f_18:Addr} {od_18 an_18:Option Addr} {sl_18:Array (Option Value)} {oc_18 kV_18 dc_18 pm_18 cd_18 ct_18:Value}
    {f_19:Addr} {od_19 an_19:Option Addr} {sl_19:Array (Option Value)} {oc_19 kV_19 dc_19 pm_19 cd_19 ct_19:Value}
    {f_20:Addr} {od_20 an_20:Option Addr} {sl_20:Array (Option Value)} {oc_20 kV_20 dc_20 pm_20 cd_20 ct_20:Value}
    {f_21:Addr} {od_21 an_21:Option Addr} {sl_21:Array (Option Value)} {oc_21 kV_21 dc_21 pm_21 cd_21 ct_21:Value}
    {f_22:Addr} {od_22 an_22:Option Addr} {sl_22:Array (Option Value)} {oc_22 kV_22 dc_22 pm_22 cd_22 ct_22:Value}
    {f_23:Addr} {od_23 an_23:Option Addr} {sl_23:Array (Option Value)} {oc_23 kV_23 dc_23 pm_23 cd_23 ct_23:Value}
    {f_24:Addr} {od_24 an_24:Option Addr} {sl_24:Array (Option Value)} {oc_24 kV_24 dc_24 pm_24 cd_24 ct_24:Value}
    {f_25:Addr} {od_25 an_25:Option Addr} {sl_25:Array (Option Value)} {oc_25 kV_25 dc_25 pm_25 cd_25 ct_25:Value}
    {f_26:Addr} {od_26 an_26:Option Addr} {sl_26:Array (Option Value)} {oc_26 kV_26 dc_26 pm_26 cd_26 ct_26:Value}
    {f_27:Addr} {od_27 an_27:Option Addr} {sl_27:Array (Option Value)} {oc_27 kV_27 dc_27 pm_27 cd_27 ct_27:Value}
    {f_28:Addr} {od_28 an_28:Option Addr} {sl_28:Array (Option Value)} {oc_28 kV_28 dc_28 pm_28 cd_28 ct_28:Value}
    {f_29:Addr} {od_29 an_29:Option Addr} {sl_29:Array (Option Value)} {oc_29 kV_29 dc_29 pm_29 cd_29 ct_29:Value}
    {f_30:Addr} {od_30 an_30:Option Addr} {sl_30:Array (Option Value)} {oc_30 kV_30 dc_30 pm_30 cd_30 ct_30:Value}
    {f_31:Addr} {od_31 an_31:Option Addr} {sl_31:Array (Option Value)} {oc_31 kV_31 dc_31 pm_31 cd_31 ct_31:Value}
    {f_32:Addr} {od_32 an_32:Option Addr} {sl_32:Array (Option Value)} {oc_32 kV_32 dc_32 pm_32 cd_32 ct_32:Value}
    {f_33:Addr} {od_33 an_33:Option Addr} {sl_33:Array (Option Value)} {oc_33 kV_33 dc_33 pm_33 cd_33 ct_33:Value}
    {f_34:Addr} {od_34 an_34:Option Addr} {sl_34:Array (Option Value)} {oc_34 kV_34 dc_34 pm_34 cd_34 ct_34:Value}
    {f_35:Addr} {od_35 an_35:Option Addr} {sl_35:Array (Option Value)} {oc_35 kV_35 dc_35 pm_35 cd_35 ct_35:Value}
    {f_36:Addr} {od_36 an_36:Option Addr} {sl_36:Array (Option Value)} {oc_36 kV_36 dc_36 pm_36 cd_36 ct_36:Value}
    {f_37:Addr} {od_37 an_37:Option Addr} {sl_37:Array (Option Value)} {oc_37 kV_37 dc_37 pm_37 cd_37 ct_37:Value}
    {f_38:Addr} {od_38 an_38:Option Addr} {sl_38:Array (Option Value)} {oc_38 kV_38 dc_38 pm_38 cd_38 ct_38:Value}
    {f_39:Addr} {od_39 an_39:Option Addr} {sl_39:Array (Option Value)} {oc_39 kV_39 dc_39 pm_39 cd_39 ct_39:Value}
    {f_40:Addr} {od_40 an_40:Option Addr} {sl_40:Array (Option Value)} {oc_40 kV_40 dc_40 pm_40 cd_40 ct_40:Value}
    {f_41:Addr} {od_41 an_41:Option Addr} {sl_41:Array (Option Value)} {oc_41 kV_41 dc_41 pm_41 cd_41 ct_41:Value}
    {f_42:Addr} {od_42 an_42:Option Addr} {sl_42:Array (Option Value)} {oc_42 kV_42 dc_42 pm_42 cd_42 ct_42:Value}
    {f_43:Addr} {od_43 an_43:Option Addr} {sl_43:Array (Option Value)} {oc_43 kV_43 dc_43 pm_43 cd_43 ct_43:Value}
    {f_44:Addr} {od_44 an_44:Option Addr} {sl_44:Array (Option Value)} {oc_44 kV_44 dc_44 pm_44 cd_44 ct_44:Value}
    {f_45:Addr} {od_45 an_45:Option Addr} {sl_45:Array (Option Value)} {oc_45 kV_45 dc_45 pm_45 cd_45 ct_45:Value}
    {f_46:Addr} {od_46 an_46:Option Addr} {sl_46:Array (Option Value)} {oc_46 kV_46 dc_46 pm_46 cd_46 ct_46:Value}
    {f_47:Addr} {od_47 an_47:Option Addr} {sl_47:Array (Option Value)} {oc_47 kV_47 dc_47 pm_47 cd_47 ct_47:Value}
    (h_ADD:nsIn K mainGlobals "ADD" = some (some (.int 0 i_ADD)))
    (h_CARRY : nsIn K mainGlobals "CARRY" = some (some (.ref p_CARRY))) (l_CARRY : K.lookup p_CARRY = some ⟨.type "tuple", od_CARRY, .seq #[.int 0 i0_CARRY, .int 0 i1_CARRY, .int 0 i2_CARRY] n_CARRY, sl_CARRY⟩)
    (h_CARRY_FIRST:nsIn K mainGlobals "CARRY_FIRST" = some (some (.int 0 i_CARRY_FIRST)))
    (h_DECKS:nsIn K mainGlobals "DECKS" = some (some (.int 3 i_DECKS)))
    (h_DIGITS_RULE:nsIn K mainGlobals "DIGITS_RULE" = some (some (.int 4 i_DIGITS_RULE)))
    (h_HAND_RULE:nsIn K mainGlobals "HAND_RULE" = some (some (.int 6 i_HAND_RULE)))
    (h_HIGHEST_COST:nsIn K mainGlobals "HIGHEST_COST" = some (some (.int 255 i_HIGHEST_COST)))
    (h_HIGHEST_DIRECTION:nsIn K mainGlobals "HIGHEST_DIRECTION" = some (some (.int 2 i_HIGHEST_DIRECTION)))
    (h_HIGHEST_RATIO:nsIn K mainGlobals "HIGHEST_RATIO" = some (some (.int 20 i_HIGHEST_RATIO)))
    (h_HIGHEST_WORTH:nsIn K mainGlobals "HIGHEST_WORTH" = some (some (.int 63 i_HIGHEST_WORTH)))
    (h_HIGHEST_WORTH_TOGETHER:nsIn K mainGlobals "HIGHEST_WORTH_TOGETHER" = some (some (.int 255 i_HIGHEST_WORTH_TOGETHER)))
    (h_LOWEST_RATIO:nsIn K mainGlobals "LOWEST_RATIO" = some (some (.int 2 i_LOWEST_RATIO)))
    (h_MAKE_LENGTH_RULE:nsIn K mainGlobals "MAKE_LENGTH_RULE" = some (some (.int 1 i_MAKE_LENGTH_RULE)))
    (h_MOST_BEADS:nsIn K mainGlobals "MOST_BEADS" = some (some (.int 15 i_MOST_BEADS)))
    (h_MOST_RODS:nsIn K mainGlobals "MOST_RODS" = some (some (.int 64 i_MOST_RODS)))
    (h_MOST_STEPS:nsIn K mainGlobals "MOST_STEPS" = some (some (.int 10 i_MOST_STEPS)))
    (h_MOST_STROKES:nsIn K mainGlobals "MOST_STROKES" = some (some (.int 32 i_MOST_STROKES)))
    (h_NUMBERS_A_ROD:nsIn K mainGlobals "NUMBERS_A_ROD" = some (some (.int 7 i_NUMBERS_A_ROD)))
    (h_NUMBERS_A_STROKE:nsIn K mainGlobals "NUMBERS_A_STROKE" = some (some (.int 7 i_NUMBERS_A_STROKE)))
    (h_ROD_RULE:nsIn K mainGlobals "ROD_RULE" = some (some (.int 2 i_ROD_RULE)))
    (h_STROKE_RULE:nsIn K mainGlobals "STROKE_RULE" = some (some (.int 7 i_STROKE_RULE)))
    (h_TAKE_AWAY:nsIn K mainGlobals "TAKE_AWAY" = some (some (.int 1 i_TAKE_AWAY)))
    (h_TO_THE_BEAM:nsIn K mainGlobals "TO_THE_BEAM" = some (some (.int 1 i_TO_THE_BEAM)))
    (h_WORTH_TOGETHER_RULE:nsIn K mainGlobals "WORTH_TOGETHER_RULE" = some (some (.int 3 i_WORTH_TOGETHER_RULE)))
    (h_enumerate:nsIn K mainGlobals "enumerate" = some none)
    (h_len:nsIn K mainGlobals "len" = some none)
    (h_list:nsIn K mainGlobals "list" = some none)
    (h_max:nsIn K mainGlobals "max" = some none)
    (h_min:nsIn K mainGlobals "min" = some none)
    (h_range:nsIn K mainGlobals "range" = some none)
    (h_sum:nsIn K mainGlobals "sum" = some none)
    (aC_Efforts:nsIn K mainGlobals "Efforts" = some (some (.ref C_Efforts)))
    (aC_Ground:nsIn K mainGlobals "Ground" = some (some (.ref C_Ground)))
    (aC_Tours:nsIn K mainGlobals "Tours" = some (some (.ref C_Tours)))
    (aC_NoActsLeadThere:nsIn K mainGlobals "NoActsLeadThere" = some (some (.ref C_NoActsLeadThere)))
    (aC_TooManySteps:nsIn K mainGlobals "TooManySteps" = some (some (.ref C_TooManySteps)))
    (pg_Efforts:plainGet K C_Efforts Str.empty = true) (hd_Efforts:hasDictIn K C_Efforts = true) (po_Efforts:plainOver K C_Efforts = true) (sa_Efforts:findIn K (.ref C_Efforts) "__setattr__" = some (some (.builtin "object.__setattr__"))) (mk_Efforts:makesIn K C_Efforts = true) (kc_Efforts:keepIn K (.ref C_Efforts) = true)
    (na_Efforts_ground:findIn K (.ref C_Efforts) "ground" = some none)
    (na_Efforts_strokes:findIn K (.ref C_Efforts) "strokes" = some none)
    (na_Efforts_found:findIn K (.ref C_Efforts) "found" = some none)
    (na_Efforts_settled:findIn K (.ref C_Efforts) "settled" = some none)
    (na_Efforts_settled_at:findIn K (.ref C_Efforts) "settled_at" = some none)
    (na_Efforts_effort:findIn K (.ref C_Efforts) "effort" = some none)
    (pg_Ground:plainGet K C_Ground Str.empty = true) (hd_Ground:hasDictIn K C_Ground = true) (po_Ground:plainOver K C_Ground = true) (sa_Ground:findIn K (.ref C_Ground) "__setattr__" = some (some (.builtin "object.__setattr__"))) (mk_Ground:makesIn K C_Ground = true) (kc_Ground:keepIn K (.ref C_Ground) = true)
    (na_Ground_strides:findIn K (.ref C_Ground) "strides" = some none)
    (na_Ground_room:findIn K (.ref C_Ground) "room" = some none)
    (pg_Tours:plainGet K C_Tours Str.empty = true) (hd_Tours:hasDictIn K C_Tours = true) (po_Tours:plainOver K C_Tours = true) (sa_Tours:findIn K (.ref C_Tours) "__setattr__" = some (some (.builtin "object.__setattr__"))) (mk_Tours:makesIn K C_Tours = true) (kc_Tours:keepIn K (.ref C_Tours) = true)
    (na_Tours_rod:findIn K (.ref C_Tours) "rod" = some none)
    (na_Tours_strokes:findIn K (.ref C_Tours) "strokes" = some none)
    (na_Tours_forms:findIn K (.ref C_Tours) "forms" = some none)
    (na_Tours_ground:findIn K (.ref C_Tours) "ground" = some none)
    (na_Tours_efforts:findIn K (.ref C_Tours) "efforts" = some none)
    (na_Tours_told:findIn K (.ref C_Tours) "told" = some none)
    (sb_NoActsLeadThere : subIn K (.ref C_NoActsLeadThere) (.type "BaseException") = some true) (cl_NoActsLeadThere : clsIn K C_NoActsLeadThere = some cd_NoActsLeadThere) (ty_NoActsLeadThere : typeIn K (.ref C_NoActsLeadThere) = some (.type "type")) (eq_NoActsLeadThere : subIn K (.ref C_NoActsLeadThere) (.ref C_NoActsLeadThere) = some true)
    (ne_NoActsLeadThere_TooManySteps:subIn K (.ref C_NoActsLeadThere) (.ref C_TooManySteps) = some false)
    (sb_TooManySteps : subIn K (.ref C_TooManySteps) (.type "BaseException") = some true) (cl_TooManySteps : clsIn K C_TooManySteps = some cd_TooManySteps) (ty_TooManySteps : typeIn K (.ref C_TooManySteps) = some (.type "type")) (eq_TooManySteps : subIn K (.ref C_TooManySteps) (.ref C_TooManySteps) = some true)
    (ne_TooManySteps_NoActsLeadThere:subIn K (.ref C_TooManySteps) (.ref C_NoActsLeadThere) = some false)
    (a_0 : nsIn K mainGlobals "rods_of" = some (some (.ref f_0))) (l_0 : K.lookup f_0 = some ⟨oc_0, od_0, .func (fnOf "rods_of" "rods_of" (defArgs t_0) (defBody t_0) (defScope t_0) .none kV_0 dc_0 pm_0 an_0 cd_0 ct_0), sl_0⟩) (e_0 : codeIn K cd_0 "rods_of" = true) (k_0 : keepIn K (.ref f_0) = true)
    (a_1 : nsIn K mainGlobals "ratio_of" = some (some (.ref f_1))) (l_1 : K.lookup f_1 = some ⟨oc_1, od_1, .func (fnOf "ratio_of" "ratio_of" (defArgs t_1) (defBody t_1) (defScope t_1) .none kV_1 dc_1 pm_1 an_1 cd_1 ct_1), sl_1⟩) (e_1 : codeIn K cd_1 "ratio_of" = true) (k_1 : keepIn K (.ref f_1) = true)
    (a_2 : nsIn K mainGlobals "beads_of" = some (some (.ref f_2))) (l_2 : K.lookup f_2 = some ⟨oc_2, od_2, .func (fnOf "beads_of" "beads_of" (defArgs t_2) (defBody t_2) (defScope t_2) .none kV_2 dc_2 pm_2 an_2 cd_2 ct_2), sl_2⟩) (e_2 : codeIn K cd_2 "beads_of" = true) (k_2 : keepIn K (.ref f_2) = true)
    (a_3 : nsIn K mainGlobals "worth_of" = some (some (.ref f_3))) (l_3 : K.lookup f_3 = some ⟨oc_3, od_3, .func (fnOf "worth_of" "worth_of" (defArgs t_3) (defBody t_3) (defScope t_3) .none kV_3 dc_3 pm_3 an_3 cd_3 ct_3), sl_3⟩) (e_3 : codeIn K cd_3 "worth_of" = true) (k_3 : keepIn K (.ref f_3) = true)
    (a_4 : nsIn K mainGlobals "goes_before" = some (some (.ref f_4))) (l_4 : K.lookup f_4 = some ⟨oc_4, od_4, .func (fnOf "goes_before" "goes_before" (defArgs t_4) (defBody t_4) (defScope t_4) .none kV_4 dc_4 pm_4 an_4 cd_4 ct_4), sl_4⟩) (e_4 : codeIn K cd_4 "goes_before" = true) (k_4 : keepIn K (.ref f_4) = true)
    (a_5 : nsIn K mainGlobals "strokes_of" = some (some (.ref f_5))) (l_5 : K.lookup f_5 = some ⟨oc_5, od_5, .func (fnOf "strokes_of" "strokes_of" (defArgs t_5) (defBody t_5) (defScope t_5) .none kV_5 dc_5 pm_5 an_5 cd_5 ct_5), sl_5⟩) (e_5 : codeIn K cd_5 "strokes_of" = true) (k_5 : keepIn K (.ref f_5) = true)
    (a_6 : nsIn K mainGlobals "first_part" = some (some (.ref f_6))) (l_6 : K.lookup f_6 = some ⟨oc_6, od_6, .func (fnOf "first_part" "first_part" (defArgs t_6) (defBody t_6) (defScope t_6) .none kV_6 dc_6 pm_6 an_6 cd_6 ct_6), sl_6⟩) (e_6 : codeIn K cd_6 "first_part" = true) (k_6 : keepIn K (.ref f_6) = true)
    (a_7 : nsIn K mainGlobals "second_part" = some (some (.ref f_7))) (l_7 : K.lookup f_7 = some ⟨oc_7, od_7, .func (fnOf "second_part" "second_part" (defArgs t_7) (defBody t_7) (defScope t_7) .none kV_7 dc_7 pm_7 an_7 cd_7 ct_7), sl_7⟩) (e_7 : codeIn K cd_7 "second_part" = true) (k_7 : keepIn K (.ref f_7) = true)
    (a_8 : nsIn K mainGlobals "cost_of" = some (some (.ref f_8))) (l_8 : K.lookup f_8 = some ⟨oc_8, od_8, .func (fnOf "cost_of" "cost_of" (defArgs t_8) (defBody t_8) (defScope t_8) .none kV_8 dc_8 pm_8 an_8 cd_8 ct_8), sl_8⟩) (e_8 : codeIn K cd_8 "cost_of" = true) (k_8 : keepIn K (.ref f_8) = true)
    (a_9 : nsIn K mainGlobals "due_on" = some (some (.ref f_9))) (l_9 : K.lookup f_9 = some ⟨oc_9, od_9, .func (fnOf "due_on" "due_on" (defArgs t_9) (defBody t_9) (defScope t_9) .none kV_9 dc_9 pm_9 an_9 cd_9 ct_9), sl_9⟩) (e_9 : codeIn K cd_9 "due_on" = true) (k_9 : keepIn K (.ref f_9) = true)
    (a_10 : nsIn K mainGlobals "carries_due" = some (some (.ref f_10))) (l_10 : K.lookup f_10 = some ⟨oc_10, od_10, .func (fnOf "carries_due" "carries_due" (defArgs t_10) (defBody t_10) (defScope t_10) .none kV_10 dc_10 pm_10 an_10 cd_10 ct_10), sl_10⟩) (e_10 : codeIn K cd_10 "carries_due" = true) (k_10 : keepIn K (.ref f_10) = true)
    (a_11 : findIn K (.ref C_Efforts) "__init__" = some (some (.ref f_11))) (i_11 : isFn K (.ref f_11) = true) (l_11 : K.lookup f_11 = some ⟨oc_11, od_11, .func (fnOf "__init__" "Efforts.__init__" (defArgs t_11) (defBody t_11) (defScope t_11) .none kV_11 dc_11 pm_11 an_11 cd_11 ct_11), sl_11⟩) (e_11 : codeIn K cd_11 "Efforts.__init__" = true) (k_11 : keepIn K (.ref f_11) = true)
    (a_12 : findIn K (.ref C_Efforts) "at" = some (some (.ref f_12))) (i_12 : isFn K (.ref f_12) = true) (l_12 : K.lookup f_12 = some ⟨oc_12, od_12, .func (fnOf "at" "Efforts.at" (defArgs t_12) (defBody t_12) (defScope t_12) .none kV_12 dc_12 pm_12 an_12 cd_12 ct_12), sl_12⟩) (e_12 : codeIn K cd_12 "Efforts.at" = true) (k_12 : keepIn K (.ref f_12) = true)
    (a_13 : findIn K (.ref C_Ground) "only" = some (some (.ref f_13))) (i_13 : isFn K (.ref f_13) = true) (l_13 : K.lookup f_13 = some ⟨oc_13, od_13, .func (fnOf "only" "Ground.only" (defArgs t_13) (defBody t_13) (defScope t_13) .none kV_13 dc_13 pm_13 an_13 cd_13 ct_13), sl_13⟩) (e_13 : codeIn K cd_13 "Ground.only" = true) (k_13 : keepIn K (.ref f_13) = true)
    (a_14 : findIn K (.ref C_Ground) "ahead_of_beads" = some (some (.ref f_14))) (i_14 : isFn K (.ref f_14) = true) (l_14 : K.lookup f_14 = some ⟨oc_14, od_14, .func (fnOf "ahead_of_beads" "Ground.ahead_of_beads" (defArgs t_14) (defBody t_14) (defScope t_14) .none kV_14 dc_14 pm_14 an_14 cd_14 ct_14), sl_14⟩) (e_14 : codeIn K cd_14 "Ground.ahead_of_beads" = true) (k_14 : keepIn K (.ref f_14) = true)
    (kc_NoActsLeadThere : keepIn K (.ref C_NoActsLeadThere) = true) (lc_NoActsLeadThere : K.lookup C_NoActsLeadThere = some (excClassObj nm_NoActsLeadThere q_NoActsLeadThere C_NoActsLeadThere N_NoActsLeadThere bs_NoActsLeadThere Ex.bmE true sn_NoActsLeadThere sub_NoActsLeadThere ab_NoActsLeadThere col_NoActsLeadThere dd_NoActsLeadThere k0_NoActsLeadThere k1_NoActsLeadThere k2_NoActsLeadThere k3_NoActsLeadThere k5_NoActsLeadThere "Exception.__new__")) (ns_NoActsLeadThere : nsOkIn K N_NoActsLeadThere = true) (a_15 : nsIn K N_NoActsLeadThere "__init__" = some (some (.ref f_15)))
    (no0_NoActsLeadThere:nsIn K N_NoActsLeadThere "__setattr__" = some none)
    (no1_NoActsLeadThere:nsIn K N_NoActsLeadThere "__getattribute__" = some none)
    (no2_NoActsLeadThere:nsIn K N_NoActsLeadThere "__getattr__" = some none)
    (no3_NoActsLeadThere:nsIn K N_NoActsLeadThere "head" = some none)
    (i_15 : isFn K (.ref f_15) = true) (l_15 : K.lookup f_15 = some ⟨oc_15, od_15, .func (fnOf "__init__" "NoActsLeadThere.__init__" (defArgs t_15) (defBody t_15) (defScope t_15) .none kV_15 dc_15 pm_15 an_15 cd_15 ct_15), sl_15⟩) (e_15 : codeIn K cd_15 "NoActsLeadThere.__init__" = true) (k_15 : keepIn K (.ref f_15) = true)
    (kc_TooManySteps : keepIn K (.ref C_TooManySteps) = true) (lc_TooManySteps : K.lookup C_TooManySteps = some (excClassObj nm_TooManySteps q_TooManySteps C_TooManySteps N_TooManySteps bs_TooManySteps Ex.bmE true sn_TooManySteps sub_TooManySteps ab_TooManySteps col_TooManySteps dd_TooManySteps k0_TooManySteps k1_TooManySteps k2_TooManySteps k3_TooManySteps k5_TooManySteps "Exception.__new__")) (ns_TooManySteps : nsOkIn K N_TooManySteps = true) (a_16 : nsIn K N_TooManySteps "__init__" = some (some (.ref f_16)))
    (no0_TooManySteps:nsIn K N_TooManySteps "__setattr__" = some none)
    (no1_TooManySteps:nsIn K N_TooManySteps "__getattribute__" = some none)
    (no2_TooManySteps:nsIn K N_TooManySteps "__getattr__" = some none)
    (no3_TooManySteps:nsIn K N_TooManySteps "head" = some none)
    (i_16 : isFn K (.ref f_16) = true) (l_16 : K.lookup f_16 = some ⟨oc_16, od_16, .func (fnOf "__init__" "TooManySteps.__init__" (defArgs t_16) (defBody t_16) (defScope t_16) .none kV_16 dc_16 pm_16 an_16 cd_16 ct_16), sl_16⟩) (e_16 : codeIn K cd_16 "TooManySteps.__init__" = true) (k_16 : keepIn K (.ref f_16) = true)
    (a_17 : nsIn K mainGlobals "first_fault" = some (some (.ref f_17))) (l_17 : K.lookup f_17 = some ⟨oc_17, od_17, .func (fnOf "first_fault" "first_fault" (defArgs t_17) (defBody t_17) (defScope t_17) .none kV_17 dc_17 pm_17 an_17 cd_17 ct_17), sl_17⟩) (e_17 : codeIn K cd_17 "first_fault" = true) (k_17 : keepIn K (.ref f_17) = true)
    (a_18 : nsIn K mainGlobals "deck_can_be" = some (some (.ref f_18))) (l_18 : K.lookup f_18 = some ⟨oc_18, od_18, .func (fnOf "deck_can_be" "deck_can_be" (defArgs t_18) (defBody t_18) (defScope t_18) .none kV_18 dc_18 pm_18 an_18 cd_18 ct_18), sl_18⟩) (e_18 : codeIn K cd_18 "deck_can_be" = true) (k_18 : keepIn K (.ref f_18) = true)
    (a_19 : nsIn K mainGlobals "hand_can_be" = some (some (.ref f_19))) (l_19 : K.lookup f_19 = some ⟨oc_19, od_19, .func (fnOf "hand_can_be" "hand_can_be" (defArgs t_19) (defBody t_19) (defScope t_19) .none kV_19 dc_19 pm_19 an_19 cd_19 ct_19), sl_19⟩) (e_19 : codeIn K cd_19 "hand_can_be" = true) (k_19 : keepIn K (.ref f_19) = true)
    (a_20 : nsIn K mainGlobals "part_can_be" = some (some (.ref f_20))) (l_20 : K.lookup f_20 = some ⟨oc_20, od_20, .func (fnOf "part_can_be" "part_can_be" (defArgs t_20) (defBody t_20) (defScope t_20) .none kV_20 dc_20 pm_20 an_20 cd_20 ct_20), sl_20⟩) (e_20 : codeIn K cd_20 "part_can_be" = true) (k_20 : keepIn K (.ref f_20) = true)
    (a_21 : nsIn K mainGlobals "worth_together" = some (some (.ref f_21))) (l_21 : K.lookup f_21 = some ⟨oc_21, od_21, .func (fnOf "worth_together" "worth_together" (defArgs t_21) (defBody t_21) (defScope t_21) .none kV_21 dc_21 pm_21 an_21 cd_21 ct_21), sl_21⟩) (e_21 : codeIn K cd_21 "worth_together" = true) (k_21 : keepIn K (.ref f_21) = true)
    (a_22 : nsIn K mainGlobals "forms_with_deck" = some (some (.ref f_22))) (l_22 : K.lookup f_22 = some ⟨oc_22, od_22, .func (fnOf "forms_with_deck" "forms_with_deck" (defArgs t_22) (defBody t_22) (defScope t_22) .none kV_22 dc_22 pm_22 an_22 cd_22 ct_22), sl_22⟩) (e_22 : codeIn K cd_22 "forms_with_deck" = true) (k_22 : keepIn K (.ref f_22) = true)
    (a_23 : nsIn K mainGlobals "behind_part" = some (some (.ref f_23))) (l_23 : K.lookup f_23 = some ⟨oc_23, od_23, .func (fnOf "behind_part" "behind_part" (defArgs t_23) (defBody t_23) (defScope t_23) .none kV_23 dc_23 pm_23 an_23 cd_23 ct_23), sl_23⟩) (e_23 : codeIn K cd_23 "behind_part" = true) (k_23 : keepIn K (.ref f_23) = true)
    (a_24 : findIn K (.ref C_Ground) "ahead_of_part" = some (some (.ref f_24))) (i_24 : isFn K (.ref f_24) = true) (l_24 : K.lookup f_24 = some ⟨oc_24, od_24, .func (fnOf "ahead_of_part" "Ground.ahead_of_part" (defArgs t_24) (defBody t_24) (defScope t_24) .none kV_24 dc_24 pm_24 an_24 cd_24 ct_24), sl_24⟩) (e_24 : codeIn K cd_24 "Ground.ahead_of_part" = true) (k_24 : keepIn K (.ref f_24) = true)
    (a_25 : nsIn K mainGlobals "strides_of" = some (some (.ref f_25))) (l_25 : K.lookup f_25 = some ⟨oc_25, od_25, .func (fnOf "strides_of" "strides_of" (defArgs t_25) (defBody t_25) (defScope t_25) .none kV_25 dc_25 pm_25 an_25 cd_25 ct_25), sl_25⟩) (e_25 : codeIn K cd_25 "strides_of" = true) (k_25 : keepIn K (.ref f_25) = true)
    (a_26 : nsIn K mainGlobals "room_on_deck" = some (some (.ref f_26))) (l_26 : K.lookup f_26 = some ⟨oc_26, od_26, .func (fnOf "room_on_deck" "room_on_deck" (defArgs t_26) (defBody t_26) (defScope t_26) .none kV_26 dc_26 pm_26 an_26 cd_26 ct_26), sl_26⟩) (e_26 : codeIn K cd_26 "room_on_deck" = true) (k_26 : keepIn K (.ref f_26) = true)
    (a_27 : nsIn K mainGlobals "second_numbers" = some (some (.ref f_27))) (l_27 : K.lookup f_27 = some ⟨oc_27, od_27, .func (fnOf "second_numbers" "second_numbers" (defArgs t_27) (defBody t_27) (defScope t_27) .none kV_27 dc_27 pm_27 an_27 cd_27 ct_27), sl_27⟩) (e_27 : codeIn K cd_27 "second_numbers" = true) (k_27 : keepIn K (.ref f_27) = true)
    (a_28 : nsIn K mainGlobals "rod_can_be" = some (some (.ref f_28))) (l_28 : K.lookup f_28 = some ⟨oc_28, od_28, .func (fnOf "rod_can_be" "rod_can_be" (defArgs t_28) (defBody t_28) (defScope t_28) .none kV_28 dc_28 pm_28 an_28 cd_28 ct_28), sl_28⟩) (e_28 : codeIn K cd_28 "rod_can_be" = true) (k_28 : keepIn K (.ref f_28) = true)
    (a_29 : nsIn K mainGlobals "stroke_can_be" = some (some (.ref f_29))) (l_29 : K.lookup f_29 = some ⟨oc_29, od_29, .func (fnOf "stroke_can_be" "stroke_can_be" (defArgs t_29) (defBody t_29) (defScope t_29) .none kV_29 dc_29 pm_29 an_29 cd_29 ct_29), sl_29⟩) (e_29 : codeIn K cd_29 "stroke_can_be" = true) (k_29 : keepIn K (.ref f_29) = true)
    (a_30 : nsIn K mainGlobals "digit_forms" = some (some (.ref f_30))) (l_30 : K.lookup f_30 = some ⟨oc_30, od_30, .func (fnOf "digit_forms" "digit_forms" (defArgs t_30) (defBody t_30) (defScope t_30) .none kV_30 dc_30 pm_30 an_30 cd_30 ct_30), sl_30⟩) (e_30 : codeIn K cd_30 "digit_forms" = true) (k_30 : keepIn K (.ref f_30) = true)
    (a_31 : nsIn K mainGlobals "behind_act" = some (some (.ref f_31))) (l_31 : K.lookup f_31 = some ⟨oc_31, od_31, .func (fnOf "behind_act" "behind_act" (defArgs t_31) (defBody t_31) (defScope t_31) .none kV_31 dc_31 pm_31 an_31 cd_31 ct_31), sl_31⟩) (e_31 : codeIn K cd_31 "behind_act" = true) (k_31 : keepIn K (.ref f_31) = true)
    (a_32 : findIn K (.ref C_Ground) "__init__" = some (some (.ref f_32))) (i_32 : isFn K (.ref f_32) = true) (l_32 : K.lookup f_32 = some ⟨oc_32, od_32, .func (fnOf "__init__" "Ground.__init__" (defArgs t_32) (defBody t_32) (defScope t_32) .none kV_32 dc_32 pm_32 an_32 cd_32 ct_32), sl_32⟩) (e_32 : codeIn K cd_32 "Ground.__init__" = true) (k_32 : keepIn K (.ref f_32) = true)
    (a_33 : findIn K (.ref C_Ground) "ahead_of_stroke" = some (some (.ref f_33))) (i_33 : isFn K (.ref f_33) = true) (l_33 : K.lookup f_33 = some ⟨oc_33, od_33, .func (fnOf "ahead_of_stroke" "Ground.ahead_of_stroke" (defArgs t_33) (defBody t_33) (defScope t_33) .none kV_33 dc_33 pm_33 an_33 cd_33 ct_33), sl_33⟩) (e_33 : codeIn K cd_33 "Ground.ahead_of_stroke" = true) (k_33 : keepIn K (.ref f_33) = true)
    (a_34 : nsIn K mainGlobals "hand_fault" = some (some (.ref f_34))) (l_34 : K.lookup f_34 = some ⟨oc_34, od_34, .func (fnOf "hand_fault" "hand_fault" (defArgs t_34) (defBody t_34) (defScope t_34) .none kV_34 dc_34 pm_34 an_34 cd_34 ct_34), sl_34⟩) (e_34 : codeIn K cd_34 "hand_fault" = true) (k_34 : keepIn K (.ref f_34) = true)
    (a_35 : findIn K (.ref C_Efforts) "find_ahead_of" = some (some (.ref f_35))) (i_35 : isFn K (.ref f_35) = true) (l_35 : K.lookup f_35 = some ⟨oc_35, od_35, .func (fnOf "find_ahead_of" "Efforts.find_ahead_of" (defArgs t_35) (defBody t_35) (defScope t_35) .none kV_35 dc_35 pm_35 an_35 cd_35 ct_35), sl_35⟩) (e_35 : codeIn K cd_35 "Efforts.find_ahead_of" = true) (k_35 : keepIn K (.ref f_35) = true)
    (a_36 : findIn K (.ref C_Tours) "first_beads" = some (some (.ref f_36))) (i_36 : isFn K (.ref f_36) = true) (l_36 : K.lookup f_36 = some ⟨oc_36, od_36, .func (fnOf "first_beads" "Tours.first_beads" (defArgs t_36) (defBody t_36) (defScope t_36) .none kV_36 dc_36 pm_36 an_36 cd_36 ct_36), sl_36⟩) (e_36 : codeIn K cd_36 "Tours.first_beads" = true) (k_36 : keepIn K (.ref f_36) = true)
    (a_37 : nsIn K mainGlobals "rule_broken" = some (some (.ref f_37))) (l_37 : K.lookup f_37 = some ⟨oc_37, od_37, .func (fnOf "rule_broken" "rule_broken" (defArgs t_37) (defBody t_37) (defScope t_37) .none kV_37 dc_37 pm_37 an_37 cd_37 ct_37), sl_37⟩) (e_37 : codeIn K cd_37 "rule_broken" = true) (k_37 : keepIn K (.ref f_37) = true)
    (a_38 : findIn K (.ref C_Efforts) "look_further" = some (some (.ref f_38))) (i_38 : isFn K (.ref f_38) = true) (l_38 : K.lookup f_38 = some ⟨oc_38, od_38, .func (fnOf "look_further" "Efforts.look_further" (defArgs t_38) (defBody t_38) (defScope t_38) .none kV_38 dc_38 pm_38 an_38 cd_38 ct_38), sl_38⟩) (e_38 : codeIn K cd_38 "Efforts.look_further" = true) (k_38 : keepIn K (.ref f_38) = true)
    (a_39 : findIn K (.ref C_Tours) "__init__" = some (some (.ref f_39))) (i_39 : isFn K (.ref f_39) = true) (l_39 : K.lookup f_39 = some ⟨oc_39, od_39, .func (fnOf "__init__" "Tours.__init__" (defArgs t_39) (defBody t_39) (defScope t_39) .none kV_39 dc_39 pm_39 an_39 cd_39 ct_39), sl_39⟩) (e_39 : codeIn K cd_39 "Tours.__init__" = true) (k_39 : keepIn K (.ref f_39) = true)
    (a_40 : findIn K (.ref C_Tours) "first_act" = some (some (.ref f_40))) (i_40 : isFn K (.ref f_40) = true) (l_40 : K.lookup f_40 = some ⟨oc_40, od_40, .func (fnOf "first_act" "Tours.first_act" (defArgs t_40) (defBody t_40) (defScope t_40) .none kV_40 dc_40 pm_40 an_40 cd_40 ct_40), sl_40⟩) (e_40 : codeIn K cd_40 "Tours.first_act" = true) (k_40 : keepIn K (.ref f_40) = true)
    (a_41 : nsIn K mainGlobals "make_fault" = some (some (.ref f_41))) (l_41 : K.lookup f_41 = some ⟨oc_41, od_41, .func (fnOf "make_fault" "make_fault" (defArgs t_41) (defBody t_41) (defScope t_41) .none kV_41 dc_41 pm_41 an_41 cd_41 ct_41), sl_41⟩) (e_41 : codeIn K cd_41 "make_fault" = true) (k_41 : keepIn K (.ref f_41) = true)
    (a_42 : findIn K (.ref C_Efforts) "effort_from" = some (some (.ref f_42))) (i_42 : isFn K (.ref f_42) = true) (l_42 : K.lookup f_42 = some ⟨oc_42, od_42, .func (fnOf "effort_from" "Efforts.effort_from" (defArgs t_42) (defBody t_42) (defScope t_42) .none kV_42 dc_42 pm_42 an_42 cd_42 ct_42), sl_42⟩) (e_42 : codeIn K cd_42 "Efforts.effort_from" = true) (k_42 : keepIn K (.ref f_42) = true)
    (a_43 : findIn K (.ref C_Tours) "follow" = some (some (.ref f_43))) (i_43 : isFn K (.ref f_43) = true) (l_43 : K.lookup f_43 = some ⟨oc_43, od_43, .func (fnOf "follow" "Tours.follow" (defArgs t_43) (defBody t_43) (defScope t_43) .none kV_43 dc_43 pm_43 an_43 cd_43 ct_43), sl_43⟩) (e_43 : codeIn K cd_43 "Tours.follow" = true) (k_43 : keepIn K (.ref f_43) = true)
    (a_44 : findIn K (.ref C_Tours) "first_tour" = some (some (.ref f_44))) (i_44 : isFn K (.ref f_44) = true) (l_44 : K.lookup f_44 = some ⟨oc_44, od_44, .func (fnOf "first_tour" "Tours.first_tour" (defArgs t_44) (defBody t_44) (defScope t_44) .none kV_44 dc_44 pm_44 an_44 cd_44 ct_44), sl_44⟩) (e_44 : codeIn K cd_44 "Tours.first_tour" = true) (k_44 : keepIn K (.ref f_44) = true)
    (a_45 : nsIn K mainGlobals "best_steps" = some (some (.ref f_45))) (l_45 : K.lookup f_45 = some ⟨oc_45, od_45, .func (fnOf "best_steps" "best_steps" (defArgs t_45) (defBody t_45) (defScope t_45) .none kV_45 dc_45 pm_45 an_45 cd_45 ct_45), sl_45⟩) (e_45 : codeIn K cd_45 "best_steps" = true) (k_45 : keepIn K (.ref f_45) = true)
    (a_46 : nsIn K mainGlobals "best_rules" = some (some (.ref f_46))) (l_46 : K.lookup f_46 = some ⟨oc_46, od_46, .func (fnOf "best_rules" "best_rules" (defArgs t_46) (defBody t_46) (defScope t_46) .none kV_46 dc_46 pm_46 an_46 cd_46 ct_46), sl_46⟩) (e_46 : codeIn K cd_46 "best_rules" = true) (k_46 : keepIn K (.ref f_46) = true)
    (a_47 : nsIn K mainGlobals "best" = some (some (.ref f_47))) (l_47 : K.lookup f_47 = some ⟨oc_47, od_47, .func (fnOf "best" "best" (defArgs t_47) (defBody t_47) (defScope t_47) .none kV_47 dc_47 pm_47 an_47 cd_47 ct_47), sl_47⟩) (e_47 : codeIn K cd_47 "best" = true) (k_47 : keepIn K (.ref f_47) = true)
    : Txt K mg ⟨C_Efforts,C_Ground,C_Tours,C_NoActsLeadThere,C_TooManySteps⟩ :=
  ⟨(⟨⟨pg_Efforts,hd_Efforts,po_Efforts,sa_Efforts⟩,mg_of X G aC_Efforts,na_Efforts_ground,na_Efforts_strokes,na_Efforts_found,na_Efforts_settled,na_Efforts_settled_at,na_Efforts_effort,trivial⟩),
    (⟨⟨pg_Ground,hd_Ground,po_Ground,sa_Ground⟩,mg_of X G aC_Ground,na_Ground_strides,na_Ground_room,trivial⟩),
    (⟨⟨pg_Tours,hd_Tours,po_Tours,sa_Tours⟩,mg_of X G aC_Tours,na_Tours_rod,na_Tours_strokes,na_Tours_forms,na_Tours_ground,na_Tours_efforts,na_Tours_told,trivial⟩),
    (mg_of X G aC_NoActsLeadThere),
    (Ex.exm_of sb_NoActsLeadThere cl_NoActsLeadThere ty_NoActsLeadThere eq_NoActsLeadThere),
    (Ex.exm_of sb_TooManySteps cl_TooManySteps ty_TooManySteps ne_NoActsLeadThere_TooManySteps),
    (mg_of X G aC_TooManySteps),
    (Ex.exm_of sb_TooManySteps cl_TooManySteps ty_TooManySteps eq_TooManySteps),
    (Ex.exm_of sb_NoActsLeadThere cl_NoActsLeadThere ty_NoActsLeadThere ne_TooManySteps_NoActsLeadThere),
    (⟨_,mg_of X G h_ADD⟩),
    (⟨p_CARRY,mg_of X G h_CARRY,fun _ => .inr ⟨_,_,_,l_CARRY,rfl,rfl,(by show 3 <= sizeLine; decide),(.cons ⟨i0_CARRY,rfl⟩ (.cons ⟨i1_CARRY,rfl⟩ (.cons ⟨i2_CARRY,rfl⟩ .nil)))⟩⟩),
    (⟨_,mg_of X G h_CARRY_FIRST⟩),
    (⟨_,mg_of X G h_DECKS⟩),
    (⟨_,mg_of X G h_DIGITS_RULE⟩),
    (⟨_,mg_of X G h_HAND_RULE⟩),
    (⟨_,mg_of X G h_HIGHEST_COST⟩),
    (⟨_,mg_of X G h_HIGHEST_DIRECTION⟩),
    (⟨_,mg_of X G h_HIGHEST_RATIO⟩),
    (⟨_,mg_of X G h_HIGHEST_WORTH⟩),
    (⟨_,mg_of X G h_HIGHEST_WORTH_TOGETHER⟩),
    (⟨_,mg_of X G h_LOWEST_RATIO⟩),
    (⟨_,mg_of X G h_MAKE_LENGTH_RULE⟩),
    (⟨_,mg_of X G h_MOST_BEADS⟩),
    (⟨_,mg_of X G h_MOST_RODS⟩),
    (⟨_,mg_of X G h_MOST_STEPS⟩),
    (⟨_,mg_of X G h_MOST_STROKES⟩),
    (⟨_,mg_of X G h_NUMBERS_A_ROD⟩),
    (⟨_,mg_of X G h_NUMBERS_A_STROKE⟩),
    (⟨_,mg_of X G h_ROD_RULE⟩),
    (⟨_,mg_of X G h_STROKE_RULE⟩),
    (⟨_,mg_of X G h_TAKE_AWAY⟩),
    (⟨_,mg_of X G h_TO_THE_BEAM⟩),
    (⟨_,mg_of X G h_WORTH_TOGETHER_RULE⟩),
    (mg_none_of X G h_enumerate),
    (mg_none_of X G h_len),
    (mg_none_of X G h_list),
    (mg_none_of X G h_max),
    (mg_none_of X G h_min),
    (mg_none_of X G h_range),
    (mg_none_of X G h_sum),
    (DefAt.mk' X G a_0 l_0 e_0 k_0 fun _ _ _ _ _ _ us hl => match us,hl with | [_],_ => rfl),
    (DefAt.mk' X G a_1 l_1 e_1 k_1 fun _ _ _ _ _ _ us hl => match us,hl with | [_],_ => rfl),
    (DefAt.mk' X G a_2 l_2 e_2 k_2 fun _ _ _ _ _ _ us hl => match us,hl with | [_,_],_ => rfl),
    (DefAt.mk' X G a_3 l_3 e_3 k_3 fun _ _ _ _ _ _ us hl => match us,hl with | [_,_],_ => rfl),
    (DefAt.mk' X G a_4 l_4 e_4 k_4 fun _ _ _ _ _ _ us hl => match us,hl with | [_,_],_ => rfl),
    (DefAt.mk' X G a_5 l_5 e_5 k_5 fun _ _ _ _ _ _ us hl => match us,hl with | [_],_ => rfl),
    (DefAt.mk' X G a_6 l_6 e_6 k_6 fun _ _ _ _ _ _ us hl => match us,hl with | [_],_ => rfl),
    (DefAt.mk' X G a_7 l_7 e_7 k_7 fun _ _ _ _ _ _ us hl => match us,hl with | [_],_ => rfl),
    (DefAt.mk' X G a_8 l_8 e_8 k_8 fun _ _ _ _ _ _ us hl => match us,hl with | [_],_ => rfl),
    (DefAt.mk' X G a_9 l_9 e_9 k_9 fun _ _ _ _ _ _ us hl => match us,hl with | [_,_,_],_ => rfl),
    (DefAt.mk' X G a_10 l_10 e_10 k_10 fun _ _ _ _ _ _ us hl => match us,hl with | [_,_],_ => rfl),
    (InitAt.mk' X G aC_Efforts mk_Efforts kc_Efforts a_11 i_11 l_11 e_11 k_11 fun _ _ _ _ _ _ us hl => match us,hl with | [_,_,_,_],_ => rfl),
    (MethAt.mk' a_12 i_12 l_12 e_12 k_12 fun _ _ _ _ _ _ us hl => match us,hl with | [_,_],_ => rfl),
    (MethAt.mk' a_13 i_13 l_13 e_13 k_13 fun _ _ _ _ _ _ us hl => match us,hl with | [_,_],_ => rfl),
    (MethAt.mk' a_14 i_14 l_14 e_14 k_14 fun _ _ _ _ _ _ us hl => match us,hl with | [_,_,_,_,_],_ => rfl),
    (EInitAt.mk' X G aC_NoActsLeadThere kc_NoActsLeadThere lc_NoActsLeadThere ns_NoActsLeadThere a_15 (by intro a ha; simp only [List.cons_append,List.nil_append,List.mem_cons,List.not_mem_nil,or_false] at ha; rcases ha with rfl | rfl | rfl | rfl <;> assumption) i_15 l_15 e_15 k_15 fun _ _ _ _ _ _ us hl => match us,hl with | [_,_,_,_],_ => rfl),
    (EInitAt.mk' X G aC_TooManySteps kc_TooManySteps lc_TooManySteps ns_TooManySteps a_16 (by intro a ha; simp only [List.cons_append,List.nil_append,List.mem_cons,List.not_mem_nil,or_false] at ha; rcases ha with rfl | rfl | rfl | rfl <;> assumption) i_16 l_16 e_16 k_16 fun _ _ _ _ _ _ us hl => match us,hl with | [_,_,_,_],_ => rfl),
    (DefAt.mk' X G a_17 l_17 e_17 k_17 fun _ _ _ _ _ _ us hl => match us,hl with | [_],_ => rfl),
    (DefAt.mk' X G a_18 l_18 e_18 k_18 fun _ _ _ _ _ _ us hl => match us,hl with | [_,_],_ => rfl),
    (DefAt.mk' X G a_19 l_19 e_19 k_19 fun _ _ _ _ _ _ us hl => match us,hl with | [_],_ => rfl),
    (DefAt.mk' X G a_20 l_20 e_20 k_20 fun _ _ _ _ _ _ us hl => match us,hl with | [_],_ => rfl),
    (DefAt.mk' X G a_21 l_21 e_21 k_21 fun _ _ _ _ _ _ us hl => match us,hl with | [_],_ => rfl),
    (DefAt.mk' X G a_22 l_22 e_22 k_22 fun _ _ _ _ _ _ us hl => match us,hl with | [_,_,_],_ => rfl),
    (DefAt.mk' X G a_23 l_23 e_23 k_23 fun _ _ _ _ _ _ us hl => match us,hl with | [_,_,_,_],_ => rfl),
    (MethAt.mk' a_24 i_24 l_24 e_24 k_24 fun _ _ _ _ _ _ us hl => match us,hl with | [_,_,_],_ => rfl),
    (DefAt.mk' X G a_25 l_25 e_25 k_25 fun _ _ _ _ _ _ us hl => match us,hl with | [_],_ => rfl),
    (DefAt.mk' X G a_26 l_26 e_26 k_26 fun _ _ _ _ _ _ us hl => match us,hl with | [_,_,_],_ => rfl),
    (DefAt.mk' X G a_27 l_27 e_27 k_27 fun _ _ _ _ _ _ us hl => match us,hl with | [_],_ => rfl),
    (DefAt.mk' X G a_28 l_28 e_28 k_28 fun _ _ _ _ _ _ us hl => match us,hl with | [_],_ => rfl),
    (DefAt.mk' X G a_29 l_29 e_29 k_29 fun _ _ _ _ _ _ us hl => match us,hl with | [_],_ => rfl),
    (DefAt.mk' X G a_30 l_30 e_30 k_30 fun _ _ _ _ _ _ us hl => match us,hl with | [_],_ => rfl),
    (DefAt.mk' X G a_31 l_31 e_31 k_31 fun _ _ _ _ _ _ us hl => match us,hl with | [_,_,_,_,_],_ => rfl),
    (InitAt.mk' X G aC_Ground mk_Ground kc_Ground a_32 i_32 l_32 e_32 k_32 fun _ _ _ _ _ _ us hl => match us,hl with | [_,_],_ => rfl),
    (MethAt.mk' a_33 i_33 l_33 e_33 k_33 fun _ _ _ _ _ _ us hl => match us,hl with | [_,_,_],_ => rfl),
    (DefAt.mk' X G a_34 l_34 e_34 k_34 fun _ _ _ _ _ _ us hl => match us,hl with | [_],_ => rfl),
    (MethAt.mk' a_35 i_35 l_35 e_35 k_35 fun _ _ _ _ _ _ us hl => match us,hl with | [_,_],_ => rfl),
    (MethAt.mk' a_36 i_36 l_36 e_36 k_36 fun _ _ _ _ _ _ us hl => match us,hl with | [_,_,_,_],_ => rfl),
    (DefAt.mk' X G a_37 l_37 e_37 k_37 fun _ _ _ _ _ _ us hl => match us,hl with | [_],_ => rfl),
    (MethAt.mk' a_38 i_38 l_38 e_38 k_38 fun _ _ _ _ _ _ us hl => match us,hl with | [_],_ => rfl),
    (InitAt.mk' X G aC_Tours mk_Tours kc_Tours a_39 i_39 l_39 e_39 k_39 fun _ _ _ _ _ _ us hl => match us,hl with | [_,_,_],_ => rfl),
    (MethAt.mk' a_40 i_40 l_40 e_40 k_40 fun _ _ _ _ _ _ us hl => match us,hl with | [_,_,_,_],_ => rfl),
    (DefAt.mk' X G a_41 l_41 e_41 k_41 fun _ _ _ _ _ _ us hl => match us,hl with | [_],_ => rfl),
    (MethAt.mk' a_42 i_42 l_42 e_42 k_42 fun _ _ _ _ _ _ us hl => match us,hl with | [_,_],_ => rfl),
    (MethAt.mk' a_43 i_43 l_43 e_43 k_43 fun _ _ _ _ _ _ us hl => match us,hl with | [_,_,_],_ => rfl),
    (MethAt.mk' a_44 i_44 l_44 e_44 k_44 fun _ _ _ _ _ _ us hl => match us,hl with | [_,_,_],_ => rfl),
    (DefAt.mk' X G a_45 l_45 e_45 k_45 fun _ _ _ _ _ _ us hl => match us,hl with | [_,_,_,_,_],_ => rfl),
    (DefAt.mk' X G a_46 l_46 e_46 k_46 fun _ _ _ _ _ _ us hl => match us,hl with | [_,_,_],_ => rfl),
    (DefAt.mk' X G a_47 l_47 e_47 k_47 fun _ _ _ _ _ _ us hl => match us,hl with | [_,_,_,_],_ => rfl)⟩
end Bg
namespace PySem.W.Fast
def tw13379080365058651113:=()
def tw13203489932617420088:=()
def tw17431381005651043679:=()
def tw12532264206527315140:=()
def tw12040861115014151838:=()
def tw7451493386191496026:=()
def tw15594117592140532589:=()
def tw5529106379791770312:=()
def tw17960870905177141104:=()
def tw4668528267157173030:=()
def tw9818851499866073630:=()
def tw4378873808640420604:=()
def tw16365660544268239974:=()
def tw12093696607406716280:=()
def tw1390712786622930067:=()
def tw4350029703003806623:=()
def tw13409661702284082357:=()
def tw224560186465873933:=()
def tw4714373660830167836:=()
def tw10111910350752148193:=()
def tw836533362829129131:=()
def tw6705299253394996649:=()
def tw15149988041844181717:=()
def tw3055108522752330835:=()
def tw4997540607864021450:=()
def tw9401439526418332671:=()
def tw18214000145540922446:=()
def tw7172997132569772642:=()
def tw11350369292246864492:=()
def tw12237296327892675601:=()
def tw10652083839838807342:=()
def tw7306161978258093588:=()
def tw5170099131421248762:=()
def tw8553231579763656421:=()
def tw15070285724900420211:=()
def tw8462866024640570475:=()
def tw5351073108370437818:=()
def tw7844401451046147675:=()
def tw5908594802065120988:=()
def tw1702663979939810298:=()
def tw8047759924607997971:=()
def tw4602860100526064154:=()
def tw10572310838404114158:=()
def tw3149065576363907675:=()
def tw18229858100946258439:=()
def tw14673835499909424629:=()
def tw9620116483050292814:=()
def tw7850095693637324084:=()
def tw1773263583456991737:=()
def tw3124405957066787423:=()
def tw1833604573668476308:=()
def tw8516143636244225132:=()
def tw11632779844276874219:=()
def tw13767207629841667358:=()
def tw10304253547406555034:=()
def tw4277721339679587535:=()
def tw15904695843323750417:=()
def tw15452832719567867767:=()
def tw6492984288164355108:=()
def tw13796386572274209836:=()
def tw7930714041451978110:=()
def tw6085702350331542550:=()
def tw6231529780704436441:=()
def tw4522277413604498067:=()
def tw10155959486889159392:=()
def tw3024260455630991487:=()
def tw16637631363222849005:=()
def tw489782934450338232:=()
def tw11424474724536596689:=()
def tw2444783877433715386:=()
def tw2285457444213900735:=()
def tw11207589930799028672:=()
def tw7331842304474381900:=()
def tw17211647280275136132:=()
def tw10672331476558427477:=()
def tw6971569013060673923:=()
def tw12676558597162082772:=()
def tw10638603400823919202:=()
def tw3035829843653618076:=()
def tw15547776308889361922:=()
def tw7104718108008655242:=()
def tw14553140511311724928:=()
def tw1980090253271150783:=()
def tw8646456981670690145:=()
def tw16030362302328587276:=()
def tw17899548275206313180:=()
def tw17450840351402672896:=()
def tw3623603841222153143:=()
def tw14880487810946828554:=()
def tw13559996500433267507:=()
def tw8947153052945374745:=()
def tw5654035565847615515:=()
def tw5937602240264422325:=()
def tw9326465377997418000:=()
def tw7671586161579480780:=()
def tw16417146265560387765:=()
def tw5650715852226259914:=()
def tw15923898729347667666:=()
def tw8468648649775482105:=()
def tw15769055757540860666:=()
def tw4042691335699368066:=()
def tw16511091157386482313:=()
def tw6033839978325817748:=()
def tw5017186591824589237:=()
def tw2247366063650719129:=()
def tw8249083881973686673:=()
def tw5870443457164460154:=()
def tw2769683242376967659:=()
def tw11984968328513420943:=()
def tw15485304086621726452:=()
def tw5897634478761577834:=()
def tw15204293812099487941:=()
def tw17157817081407574595:=()
def tw14894286080152556028:=()
def tw15739129008937299412:=()
def tw13757254383437347584:=()
end PySem.W.Fast
open PySem PySem.W PyProof.Rows
set_option maxRecDepth 100000 in
set_option maxHeartbeats 0 in
theorem PySem.Challenge.cw_abacusbooks_s04_best_holds : PySem.Challenge.rw_abacusbooks_s04_best.Holds := by
  w_on; k_headS; (case hw => exact ⟨[.int 0,.int 0,.list [],.list []],by decide +kernel,by decide +kernel⟩)
  k_fillS
  refine L2.walk_specK (r := PySem.Challenge.rw_abacusbooks_s04_best) (k := 11) (CX := L2.CX0) (ps := ["rod", "where", "make", "hand"]) (sp := Bg.sp_47) (by decide +kernel) rfl rfl ⟨rfl, by decide, by decide⟩ (fun w h Y => PySem.W.kIn_of Y) ?F ?S (fun _ _ _ _ z => z)
  case F =>
    intro w mg fa h Y KX G hmg
    obtain ⟨ca,T⟩:∃ ca,Bg.Txt (L2.KOf KX) mg ca:=by
      dsimp only [L2.KOf]
      refine' ⟨_,Bg.txt_mk KX G ?h_ADD ?h_CARRY ?l_CARRY ?h_CARRY_FIRST ?h_DECKS ?h_DIGITS_RULE ?h_HAND_RULE ?h_HIGHEST_COST ?h_HIGHEST_DIRECTION ?h_HIGHEST_RATIO ?h_HIGHEST_WORTH ?h_HIGHEST_WORTH_TOGETHER ?h_LOWEST_RATIO ?h_MAKE_LENGTH_RULE ?h_MOST_BEADS ?h_MOST_RODS ?h_MOST_STEPS ?h_MOST_STROKES ?h_NUMBERS_A_ROD ?h_NUMBERS_A_STROKE ?h_ROD_RULE ?h_STROKE_RULE ?h_TAKE_AWAY ?h_TO_THE_BEAM ?h_WORTH_TOGETHER_RULE ?h_enumerate ?h_len ?h_list ?h_max ?h_min ?h_range ?h_sum ?aC_Efforts ?aC_Ground ?aC_Tours ?aC_NoActsLeadThere ?aC_TooManySteps ?pg_Efforts ?hd_Efforts ?po_Efforts ?sa_Efforts ?mk_Efforts ?kc_Efforts ?na_Efforts_ground ?na_Efforts_strokes ?na_Efforts_found ?na_Efforts_settled ?na_Efforts_settled_at ?na_Efforts_effort ?pg_Ground ?hd_Ground ?po_Ground ?sa_Ground ?mk_Ground ?kc_Ground ?na_Ground_strides ?na_Ground_room ?pg_Tours ?hd_Tours ?po_Tours ?sa_Tours ?mk_Tours ?kc_Tours ?na_Tours_rod ?na_Tours_strokes ?na_Tours_forms ?na_Tours_ground ?na_Tours_efforts ?na_Tours_told ?sb_NoActsLeadThere ?cl_NoActsLeadThere ?ty_NoActsLeadThere ?eq_NoActsLeadThere ?ne_NoActsLeadThere_TooManySteps ?sb_TooManySteps ?cl_TooManySteps ?ty_TooManySteps ?eq_TooManySteps ?ne_TooManySteps_NoActsLeadThere ?a_0 ?l_0 ?e_0 ?k_0 ?a_1 ?l_1 ?e_1 ?k_1 ?a_2 ?l_2 ?e_2 ?k_2 ?a_3 ?l_3 ?e_3 ?k_3 ?a_4 ?l_4 ?e_4 ?k_4 ?a_5 ?l_5 ?e_5 ?k_5 ?a_6 ?l_6 ?e_6 ?k_6 ?a_7 ?l_7 ?e_7 ?k_7 ?a_8 ?l_8 ?e_8 ?k_8 ?a_9 ?l_9 ?e_9 ?k_9 ?a_10 ?l_10 ?e_10 ?k_10 ?a_11 ?i_11 ?l_11 ?e_11 ?k_11 ?a_12 ?i_12 ?l_12 ?e_12 ?k_12 ?a_13 ?i_13 ?l_13 ?e_13 ?k_13 ?a_14 ?i_14 ?l_14 ?e_14 ?k_14 ?kc_NoActsLeadThere ?lc_NoActsLeadThere ?ns_NoActsLeadThere ?a_15 ?no0_NoActsLeadThere ?no1_NoActsLeadThere ?no2_NoActsLeadThere ?no3_NoActsLeadThere ?i_15 ?l_15 ?e_15 ?k_15 ?kc_TooManySteps ?lc_TooManySteps ?ns_TooManySteps ?a_16 ?no0_TooManySteps ?no1_TooManySteps ?no2_TooManySteps ?no3_TooManySteps ?i_16 ?l_16 ?e_16 ?k_16 ?a_17 ?l_17 ?e_17 ?k_17 ?a_18 ?l_18 ?e_18 ?k_18 ?a_19 ?l_19 ?e_19 ?k_19 ?a_20 ?l_20 ?e_20 ?k_20 ?a_21 ?l_21 ?e_21 ?k_21 ?a_22 ?l_22 ?e_22 ?k_22 ?a_23 ?l_23 ?e_23 ?k_23 ?a_24 ?i_24 ?l_24 ?e_24 ?k_24 ?a_25 ?l_25 ?e_25 ?k_25 ?a_26 ?l_26 ?e_26 ?k_26 ?a_27 ?l_27 ?e_27 ?k_27 ?a_28 ?l_28 ?e_28 ?k_28 ?a_29 ?l_29 ?e_29 ?k_29 ?a_30 ?l_30 ?e_30 ?k_30 ?a_31 ?l_31 ?e_31 ?k_31 ?a_32 ?i_32 ?l_32 ?e_32 ?k_32 ?a_33 ?i_33 ?l_33 ?e_33 ?k_33 ?a_34 ?l_34 ?e_34 ?k_34 ?a_35 ?i_35 ?l_35 ?e_35 ?k_35 ?a_36 ?i_36 ?l_36 ?e_36 ?k_36 ?a_37 ?l_37 ?e_37 ?k_37 ?a_38 ?i_38 ?l_38 ?e_38 ?k_38 ?a_39 ?i_39 ?l_39 ?e_39 ?k_39 ?a_40 ?i_40 ?l_40 ?e_40 ?k_40 ?a_41 ?l_41 ?e_41 ?k_41 ?a_42 ?i_42 ?l_42 ?e_42 ?k_42 ?a_43 ?i_43 ?l_43 ?e_43 ?k_43 ?a_44 ?i_44 ?l_44 ?e_44 ?k_44 ?a_45 ?l_45 ?e_45 ?k_45 ?a_46 ?l_46 ?e_46 ?k_46 ?a_47 ?l_47 ?e_47 ?k_47⟩
      (case h_ADD => k_is); (case h_CARRY => k_is); (case l_CARRY => k_is); (case h_CARRY_FIRST => k_is); (case h_DECKS => k_is); (case h_DIGITS_RULE => k_is)
      (case h_HAND_RULE => k_is); (case h_HIGHEST_COST => k_is); (case h_HIGHEST_DIRECTION => k_is); (case h_HIGHEST_RATIO => k_is); (case h_HIGHEST_WORTH => k_is); (case h_HIGHEST_WORTH_TOGETHER => k_is)
      (case h_LOWEST_RATIO => k_is); (case h_MAKE_LENGTH_RULE => k_is); (case h_MOST_BEADS => k_is); (case h_MOST_RODS => k_is); (case h_MOST_STEPS => k_is); (case h_MOST_STROKES => k_is)
      (case h_NUMBERS_A_ROD => k_is); (case h_NUMBERS_A_STROKE => k_is); (case h_ROD_RULE => k_is); (case h_STROKE_RULE => k_is); (case h_TAKE_AWAY => k_is); (case h_TO_THE_BEAM => k_is)
      (case h_WORTH_TOGETHER_RULE => k_is); (case h_enumerate => k_is); (case h_len => k_is); (case h_list => k_is); (case h_max => k_is); (case h_min => k_is)
      (case h_range => k_is); (case h_sum => k_is); (case aC_Efforts => k_is); (case aC_Ground => k_is); (case aC_Tours => k_is); (case aC_NoActsLeadThere => k_is)
      (case aC_TooManySteps => k_is); (case pg_Efforts => k_is); (case hd_Efforts => k_is); (case po_Efforts => k_is); (case sa_Efforts => k_is); (case mk_Efforts => k_is)
      (case kc_Efforts => k_is); (case na_Efforts_ground => k_is); (case na_Efforts_strokes => k_is); (case na_Efforts_found => k_is); (case na_Efforts_settled => k_is); (case na_Efforts_settled_at => k_is)
      (case na_Efforts_effort => k_is); (case pg_Ground => k_is); (case hd_Ground => k_is); (case po_Ground => k_is); (case sa_Ground => k_is); (case mk_Ground => k_is)
      (case kc_Ground => k_is); (case na_Ground_strides => k_is); (case na_Ground_room => k_is); (case pg_Tours => k_is); (case hd_Tours => k_is); (case po_Tours => k_is)
      (case sa_Tours => k_is); (case mk_Tours => k_is); (case kc_Tours => k_is); (case na_Tours_rod => k_is); (case na_Tours_strokes => k_is); (case na_Tours_forms => k_is)
      (case na_Tours_ground => k_is); (case na_Tours_efforts => k_is); (case na_Tours_told => k_is); (case sb_NoActsLeadThere => k_is); (case cl_NoActsLeadThere => k_is); (case ty_NoActsLeadThere => k_is)
      (case eq_NoActsLeadThere => k_is); (case ne_NoActsLeadThere_TooManySteps => k_is); (case sb_TooManySteps => k_is); (case cl_TooManySteps => k_is); (case ty_TooManySteps => k_is); (case eq_TooManySteps => k_is)
      (case ne_TooManySteps_NoActsLeadThere => k_is); (case a_0 => k_is); (case l_0 => k_is); (case e_0 => k_is); (case k_0 => k_is); (case a_1 => k_is)
      (case l_1 => k_is); (case e_1 => k_is); (case k_1 => k_is); (case a_2 => k_is); (case l_2 => k_is); (case e_2 => k_is)
      (case k_2 => k_is); (case a_3 => k_is); (case l_3 => k_is); (case e_3 => k_is); (case k_3 => k_is); (case a_4 => k_is)
      (case l_4 => k_is); (case e_4 => k_is); (case k_4 => k_is); (case a_5 => k_is); (case l_5 => k_is); (case e_5 => k_is)
      (case k_5 => k_is); (case a_6 => k_is); (case l_6 => k_is); (case e_6 => k_is); (case k_6 => k_is); (case a_7 => k_is)
      (case l_7 => k_is); (case e_7 => k_is); (case k_7 => k_is); (case a_8 => k_is); (case l_8 => k_is); (case e_8 => k_is)
      (case k_8 => k_is); (case a_9 => k_is); (case l_9 => k_is); (case e_9 => k_is); (case k_9 => k_is); (case a_10 => k_is)
      (case l_10 => k_is); (case e_10 => k_is); (case k_10 => k_is); (case a_11 => k_is); (case i_11 => k_is); (case l_11 => k_is)
      (case e_11 => k_is); (case k_11 => k_is); (case a_12 => k_is); (case i_12 => k_is); (case l_12 => k_is); (case e_12 => k_is)
      (case k_12 => k_is); (case a_13 => k_is); (case i_13 => k_is); (case l_13 => k_is); (case e_13 => k_is); (case k_13 => k_is)
      (case a_14 => k_is); (case i_14 => k_is); (case l_14 => k_is); (case e_14 => k_is); (case k_14 => k_is); (case kc_NoActsLeadThere => k_is)
      (case lc_NoActsLeadThere => k_is); (case ns_NoActsLeadThere => kernel_rfl); (case a_15 => k_is); (case no0_NoActsLeadThere => k_is); (case no1_NoActsLeadThere => k_is); (case no2_NoActsLeadThere => k_is)
      (case no3_NoActsLeadThere => k_is); (case i_15 => k_is); (case l_15 => k_is); (case e_15 => k_is); (case k_15 => k_is); (case kc_TooManySteps => k_is)
      (case lc_TooManySteps => k_is); (case ns_TooManySteps => kernel_rfl); (case a_16 => k_is); (case no0_TooManySteps => k_is); (case no1_TooManySteps => k_is); (case no2_TooManySteps => k_is)
      (case no3_TooManySteps => k_is); (case i_16 => k_is); (case l_16 => k_is); (case e_16 => k_is); (case k_16 => k_is); (case a_17 => k_is)
      (case l_17 => k_is); (case e_17 => k_is); (case k_17 => k_is); (case a_18 => k_is); (case l_18 => k_is); (case e_18 => k_is)
      (case k_18 => k_is); (case a_19 => k_is); (case l_19 => k_is); (case e_19 => k_is); (case k_19 => k_is); (case a_20 => k_is)
      (case l_20 => k_is); (case e_20 => k_is); (case k_20 => k_is); (case a_21 => k_is); (case l_21 => k_is); (case e_21 => k_is)
      (case k_21 => k_is); (case a_22 => k_is); (case l_22 => k_is); (case e_22 => k_is); (case k_22 => k_is); (case a_23 => k_is)
      (case l_23 => k_is); (case e_23 => k_is); (case k_23 => k_is); (case a_24 => k_is); (case i_24 => k_is); (case l_24 => k_is)
      (case e_24 => k_is); (case k_24 => k_is); (case a_25 => k_is); (case l_25 => k_is); (case e_25 => k_is); (case k_25 => k_is)
      (case a_26 => k_is); (case l_26 => k_is); (case e_26 => k_is); (case k_26 => k_is); (case a_27 => k_is); (case l_27 => k_is)
      (case e_27 => k_is); (case k_27 => k_is); (case a_28 => k_is); (case l_28 => k_is); (case e_28 => k_is); (case k_28 => k_is)
      (case a_29 => k_is); (case l_29 => k_is); (case e_29 => k_is); (case k_29 => k_is); (case a_30 => k_is); (case l_30 => k_is)
      (case e_30 => k_is); (case k_30 => k_is); (case a_31 => k_is); (case l_31 => k_is); (case e_31 => k_is); (case k_31 => k_is)
      (case a_32 => k_is); (case i_32 => k_is); (case l_32 => k_is); (case e_32 => k_is); (case k_32 => k_is); (case a_33 => k_is)
      (case i_33 => k_is); (case l_33 => k_is); (case e_33 => k_is); (case k_33 => k_is); (case a_34 => k_is); (case l_34 => k_is)
      (case e_34 => k_is); (case k_34 => k_is); (case a_35 => k_is); (case i_35 => k_is); (case l_35 => k_is); (case e_35 => k_is)
      (case k_35 => k_is); (case a_36 => k_is); (case i_36 => k_is); (case l_36 => k_is); (case e_36 => k_is); (case k_36 => k_is)
      (case a_37 => k_is); (case l_37 => k_is); (case e_37 => k_is); (case k_37 => k_is); (case a_38 => k_is); (case i_38 => k_is)
      (case l_38 => k_is); (case e_38 => k_is); (case k_38 => k_is); (case a_39 => k_is); (case i_39 => k_is); (case l_39 => k_is)
      (case e_39 => k_is); (case k_39 => k_is); (case a_40 => k_is); (case i_40 => k_is); (case l_40 => k_is); (case e_40 => k_is)
      (case k_40 => k_is); (case a_41 => k_is); (case l_41 => k_is); (case e_41 => k_is); (case k_41 => k_is); (case a_42 => k_is)
      (case i_42 => k_is); (case l_42 => k_is); (case e_42 => k_is); (case k_42 => k_is); (case a_43 => k_is); (case i_43 => k_is)
      (case l_43 => k_is); (case e_43 => k_is); (case k_43 => k_is); (case a_44 => k_is); (case i_44 => k_is); (case l_44 => k_is)
      (case e_44 => k_is); (case k_44 => k_is); (case a_45 => k_is); (case l_45 => k_is); (case e_45 => k_is); (case k_45 => k_is)
      (case a_46 => k_is); (case l_46 => k_is); (case e_46 => k_is); (case k_46 => k_is); (case a_47 => k_is); (case l_47 => k_is)
      (case e_47 => k_is); (case k_47 => k_is)
    obtain ⟨f,fd,D⟩:=T.d_47
    have e:=hmg.symm.trans D.mg
    cases e
    exact ⟨fd,fun s us hu => .of_eq (D.ba us hu),fun base _ _ => Bg.ok_47 T D⟩
  case S =>
    intro K H xs a hO hwi hask hx
    obtain ⟨i,w,m,hd,u⟩:=a
    have hw2:(Codec.inInt 0 4294967295 i && (Codec.inInt 0 4294967295 w && ((Codec.inLen 0 500 m && m.all (Codec.inInt 0 4294967295)) && ((Codec.inLen 0 300 hd && hd.all (Codec.inInt 0 4294967295)) && true)))) = true:=hwi
    simp only [Bool.and_eq_true] at hw2
    obtain ⟨o1,o2,⟨m1,m2⟩,⟨h1,h2⟩,_⟩:=hw2
    have o1:(0:Int) <= i:=(Codec.inInt_iff.mp o1).1
    have o2:(0:Int) <= w:=(Codec.inInt_iff.mp o2).1
    obtain ⟨i,rfl⟩:∃ n:Nat,i = (n:Int):=⟨Int.toNat i,(Int.toNat_of_nonneg o1).symm⟩
    obtain ⟨w,rfl⟩:∃ n:Nat,w = (n:Int):=⟨Int.toNat w,(Int.toNat_of_nonneg o2).symm⟩
    have hm0:∀ x ∈ m,0 <= x:=fun x hx => (Codec.inInt_iff.mp (List.all_eq_true.mp m2 x hx)).1
    have hh0:∀ x ∈ hd,0 <= x:=fun x hx => (Codec.inInt_iff.mp (List.all_eq_true.mp h2 x hx)).1
    have em:BkNeutral.ints (BkNeutral.nats m) = m:=Rm.ints_nats hm0
    have eh:BkNeutral.ints (BkNeutral.nats hd) = hd:=Rm.ints_nats hh0
    cases hx with
    | cons x1 r1 =>
      cases r1 with
      | cons x2 r2 =>
        cases r2 with
        | cons x3 r3 =>
          cases r3 with
          | cons x4 r4 =>
            cases r4
            cases x1
            cases x2
            cases x3 with
            | lst s1 d1 =>
              cases x4 with
              | lst s2 d2 =>
                have e1:=L2.ints_dw m _ d1
                have e2:=L2.ints_dw hd _ d2
                subst e1 e2
                refine ⟨_,_,i,w,BkNeutral.nats m,BkNeutral.nats hd,rfl,?_,?_,?_,?_,fun H' p hp => ?_⟩
                . show L2.SqL K H _ ((BkNeutral.ints (BkNeutral.nats m)).map L2.V.int)
                  rw [em]
                  exact s1
                . rw [Bm.nats_len]
                  exact (Codec.inNat_iff.mp m1).2
                . show L2.SqL K H _ ((BkNeutral.ints (BkNeutral.nats hd)).map L2.V.int)
                  rw [eh]
                  exact s2
                . rw [Bm.nats_len]
                  exact (Codec.inNat_iff.mp h1).2
                . show L2.Dw K H' (.ref p) (WData.list ((PyYqacca.best i w m hd).map WData.int))
                  have hp:H' p = some (.lst ((PyYqacca.best i w (BkNeutral.ints (BkNeutral.nats m)) (BkNeutral.ints (BkNeutral.nats hd))).map L2.V.int)):=hp
                  rw [em,eh] at hp
                  exact .lst (L2.SqL.of hp) (L2.dw_ints _)
#print axioms PySem.Challenge.cw_abacusbooks_s04_best_holds
