import PyProof.Rows.All
import Wide.All
import OpenK.AllK
import Wide.FinOn
import Lean
import PyProof.EqAt
import PyProof.EqKinds
import PyProof.TupleCall
import PySem.Challenge.RW_wellkind_k09_read_is_strict
set_option Elab.async false
set_option linter.all false
set_option maxRecDepth 100000
namespace L2
open PySem PySem.Spec PyProof.Rows
abbrev Key := Sum Int Str
def keyIs : Key → Value → Bool
  | .inl k,v => Value.isInt k v
  | .inr x,v => Value.isStrOf x v
def keyH (w : World) : Key → Int
  | .inl k => hashInt k
  | .inr x => hashStr w x
theorem keyIs_shape : ∀ {k : Key} {v : Value}, keyIs k v = true → (∃ i t, k = Sum.inl i ∧ v = Value.int i t) ∨ (∃ x t, k = Sum.inr x ∧ v = Value.str x t)
  | .inl i, v, h => by
    obtain ⟨t, e⟩ := Value.isInt_shape (k := i) (v := v) h
    exact .inl ⟨i, t, rfl, e⟩
  | .inr x, v, h => by
    obtain ⟨t, e⟩ := Value.isStrOf_shape (x := x) (v := v) h
    exact .inr ⟨x, t, rfl, e⟩
theorem keyIs_int (i : Int) (t : Tok) : keyIs (.inl i) (.int i t) = true := by simp [keyIs,Value.isInt]
theorem keyIs_str (x : Str) (t : Tok) : keyIs (.inr x) (.str x t) = true := by simp [keyIs,Value.isStrOf]
theorem key_ll (a b : Int) : decide ((Sum.inl a : Key) = Sum.inl b) = (a == b) := by
  by_cases e : a = b
  · subst e; simp
  · have h : ¬ (Sum.inl a : Key) = Sum.inl b := fun q => e (Sum.inl.inj q)
    rw [decide_eq_false h]
    exact (beq_eq_false_iff_ne.mpr e).symm
theorem key_rr (a b : Str) : decide ((Sum.inr a : Key) = Sum.inr b) = decide (a = b) := by
  by_cases e : a = b
  · subst e; simp
  · have h : ¬ (Sum.inr a : Key) = Sum.inr b := fun q => e (Sum.inr.inj q)
    rw [decide_eq_false h,decide_eq_false e]
theorem key_lr (a : Int) (b : Str) : decide ((Sum.inl a : Key) = Sum.inr b) = false := decide_eq_false (fun q => nomatch q)
theorem key_rl (a : Str) (b : Int) : decide ((Sum.inr a : Key) = Sum.inl b) = false := decide_eq_false (fun q => nomatch q)
def mixKind (prog : Program) (w : World) : PySem.KeyKind prog w Key where
  is := keyIs
  hash := keyH w
  inj := fun v a b ha hb => by
    rcases keyIs_shape ha with ⟨i,t,rfl,rfl⟩ | ⟨x,t,rfl,rfl⟩
    · rcases keyIs_shape hb with ⟨j,u,rfl,e⟩ | ⟨y,u,rfl,e⟩
      · injection e with e1 _; rw [e1]
      · exact nomatch e
    · rcases keyIs_shape hb with ⟨j,u,rfl,e⟩ | ⟨y,u,rfl,e⟩
      · exact nomatch e
      · injection e with e1 _; rw [e1]
  byValue := fun k v h => by
    rcases keyIs_shape h with ⟨i,t,rfl,rfl⟩ | ⟨x,t,rfl,rfl⟩ <;> rfl
  pyHash := fun hv h => by
    rcases keyIs_shape hv with ⟨i,t,rfl,rfl⟩ | ⟨x,t,rfl,rfl⟩
    · exact wpAny_pyHash_int h
    · exact wpAny_pyHash_str h
  eqBool := fun hu hv h => by
    rcases keyIs_shape hu with ⟨i,t,rfl,rfl⟩ | ⟨x,t,rfl,rfl⟩
    · rcases keyIs_shape hv with ⟨j,u,rfl,rfl⟩ | ⟨y,u,rfl,rfl⟩
      · rw [key_ll] at h; exact wpAny_eqBool_int h
      · rw [key_lr] at h; exact SeqAt.EqAt.int_str i t y u _ _ _ _ h
    · rcases keyIs_shape hv with ⟨j,u,rfl,rfl⟩ | ⟨y,u,rfl,rfl⟩
      · rw [key_rl] at h; exact SeqAt.EqAt.str_int x t j u _ _ _ _ h
      · rw [key_rr] at h; exact wpAny_eqBool_str h
  «strs» := fun k x t v h => by
    rcases keyIs_shape h with ⟨i,u,rfl,e⟩ | ⟨y,u,rfl,e⟩
    · exact nomatch e
    · injection e with e1 _
      subst e1
      cases v <;> rfl
theorem mixKind_int (prog : Program) (w : World) (i : Int) (t : Tok) : (mixKind prog w).is (.inl i) (.int i t) = true := keyIs_int i t
theorem mixKind_str (prog : Program) (w : World) (x : Str) (t : Tok) : (mixKind prog w).is (.inr x) (.str x t) = true := keyIs_str x t
end L2
namespace L2
open PySem PySem.Spec PyProof.Rows
inductive V where
  | non | bl (b : Bool) | int (i : Int) | str (x : Str) | byt (b : Array UInt8) | flt (b : UInt64) | ref (a : Addr) | ty (n : String)
  deriving DecidableEq
def RelV : V → Value → Prop
  | .non,u => u = Value.none
  | .bl b,u => u = Value.bool b
  | .int i,u => ∃ t,u = Value.int i t
  | .str x,u => ∃ t,u = Value.str x t
  | .byt b,u => ∃ t,u = Value.bytes b t
  | .flt b,u => ∃ t,u = Value.float b t
  | .ref a,u => u = Value.ref a
  | .ty n,u => u = Value.type n
abbrev Vals : List V → List Value → Prop := Paired RelV
theorem Vals.length {xs : List V} {us : List Value} (r : Vals xs us) : xs.length = us.length := Paired.length r
theorem Vals.get : ∀ {xs : List V} {us : List Value} {i : Nat} {x : V}, Vals xs us → xs[i]? = some x → ∃ u, us[i]? = some u ∧ RelV x u
  | _, _, _, _, .nil, e => by simp at e
  | _, _, 0, _, .cons r _, e => by simp at e; subst e; exact ⟨_, rfl, r⟩
  | _, _, i + 1, x, .cons _ t, e => by
    obtain ⟨u, h1, h2⟩ := Vals.get (i := i) (x := x) t (by simpa using e)
    exact ⟨u, by simpa using h1, h2⟩
theorem Vals.set {x : V} {u : Value} (r : RelV x u) : ∀ {xs : List V} {us : List Value} (i : Nat),Vals xs us → Vals (xs.set i x) (us.set i u)
  | _,_,_,.nil => .nil
  | _,_,0,.cons _ t => .cons r t
  | _,_,i + 1,.cons q t => .cons q (Vals.set r i t)
theorem Vals.append : ∀ {xs ys : List V} {us ws : List Value},Vals xs us → Vals ys ws → Vals (xs ++ ys) (us ++ ws)
  | _,_,_,_,.nil,s => s
  | _,_,_,_,.cons r t,s => .cons r (Vals.append t s)
theorem Vals.take : ∀ {xs : List V} {us : List Value} (n : Nat),Vals xs us → Vals (xs.take n) (us.take n)
  | _,_,0,_ => .nil
  | _,_,_ + 1,.nil => .nil
  | _,_,n + 1,.cons r t => .cons r (Vals.take n t)
theorem Vals.drop : ∀ {xs : List V} {us : List Value} (n : Nat),Vals xs us → Vals (xs.drop n) (us.drop n)
  | _,_,0,r => r
  | _,_,_ + 1,.nil => .nil
  | _,_,n + 1,.cons _ t => Vals.drop n t
def RelO : Option V → Option Value → Prop
  | some v,some u => RelV v u
  | none,none => True
  | _,_ => False
def KV {κ : Type} : List (κ × V) → List (κ × Value) → Prop := Paired fun (p : κ × V) (q : κ × Value) => p.1 = q.1 ∧ RelV p.2 q.2
def kV : Key → V
  | .inl i => .int i
  | .inr x => .str x
inductive HO where
  /-- a list -/
  | lst (xs : List V)
  /-- a tuple (never changes) -/
  | tup (xs : List V)
  /-- a dict whose keys are ints and texts; one whose keys are tuples of ints and texts (the empty one is both) -/
  | dK (kvs : List (Key × V)) | dT (kvs : List (List Key × V))
  /-- a set of ints: its members,its size -/
  | set (S : Int → Bool) (n : Nat)
  /-- an instance of the class at C,its dict at dx,its attributes -/
  | ins (C dx : Addr) (fs : List (Str × V))
  /-- the dict of the instance at x -/
  | own (x : Addr)
  /-- the dict of an exception -/
  | xd (fs : List (Str × V))
  /-- a bound method,f of x -/
  | met (f x : Addr)
  /-- a range object lo,lo + 1,.. below hi -/
  | rng (lo hi : Int)
  /-- a thing that is known to the object (the script; a dict while a loop walks it): read,never written while it is so -/
  | frz (o : Obj) (u : HO)
  /-- a code object's table -/
  | tbl (ps : Array Value)
  /-- any other thing,by what is true of its one object (a def of one's own: SetO a S n := HO.ext fun h => ..) -/
  | ext (φ : Heap → Prop)
abbrev Hp := Addr → Option HO
def upd (H : Hp) (a : Addr) (o : HO) : Hp := fun b => if b = a then some o else H b
theorem upd_same {H : Hp} {a : Addr} {o : HO} : upd H a o a = some o := by unfold upd; rw [if_pos rfl]
theorem upd_ne {H : Hp} {a b : Addr} {o : HO} (h : b ≠ a) : upd H a o b = H b := by unfold upd; rw [if_neg h]
theorem ne_of {H : Hp} {a b : Addr} {o u : HO} (h : H a = some o) (h' : H b = some u) (d : o ≠ u) : a ≠ b := by
  intro e; subst e; rw [h] at h'; exact d (Option.some.inj h')
theorem ne_of_none {H : Hp} {a b : Addr} {o : HO} (h : H a = some o) (h' : H b = none) : a ≠ b := by
  intro e; subst e; rw [h] at h'; cases h'
section
variable (P : Program) (w : World)
def ObjOk (H : Hp) (h : Heap) (a : Addr) : HO → Prop
  | .lst xs => xs.length ≤ sizeLine ∧ ∃ (its : List Value) (n : Nat),Vals xs its ∧ h.get? a = some { cls := .type "list",data := .seq its.toArray n }
  | .tup xs => xs.length ≤ sizeLine ∧ ∃ its : List Value,Vals xs its ∧ IsTup h a its.toArray
  | .dK kvs => kvs.length ≤ sizeLine ∧ (a == sysModules) = false ∧ ∃ vs,KV kvs vs ∧ h.DictOf (mixKind P w) a vs
  | .dT kvs => kvs.length ≤ sizeLine ∧ (a == sysModules) = false ∧ ∃ xs : List (List Key × Addr × Value),
      Paired (fun (p : List Key × V) (q : List Key × Addr × Value) => p.1 = q.1 ∧ H q.2.1 = some (.tup (p.1.map kV)) ∧ RelV p.2 q.2.2) kvs xs ∧
      ∃ o es ep,h.get? a = some o ∧ o.ExactDict ∧ o.data = .dict es ep ∧ es.toList = xs.map (entryOfKey (tupleKind (mixKind P w))) ∧ (xs.map (·.1)).Nodup
  | .set S n => h.SetOf (intKind P w) a S n
  | .ins C dx fs => H dx = some (.own a) ∧ fs.length ≤ 1000 ∧ dx ≠ a ∧ h.get? a = some (PySem.W.instObj C dx) ∧
      ∃ mA,h.Ns1 dx mA ∧ (∀ f,RelO (fs.lookup f) (mA f)) ∧ PySem.Within mA (fs.map (·.1))
  | .own _ => ∃ o,h.get? a = some o
  | .xd fs => ∃ mA,h.Ns1 a mA ∧ ∀ f,RelO (fs.lookup f) (mA f)
  | .rng lo hi => ∃ t u v,h.get? a = some { cls := .type "range",data := .fields #[.int lo t,.int hi u,.int 1 v] }
  | .frz o u => h.get? a = some o ∧ ObjOk H h a u
  | .tbl ps => h.get? a = some { cls := .none,data := .fields ps }
  | .met f x => h.get? a = some (PySem.W.methodObj (.ref f) (.ref x))
  | .ext φ => φ h ∧ (∃ o,h.get? a = some o) ∧ ∀ h1 h2 : Heap,φ h1 → (∀ o,h1.get? a = some o → h2.get? a = some o) → φ h2
def HOk (H : Hp) (h : Heap) : Prop := ∀ a o,H a = some o → ObjOk P w H h a o
end
section
variable {P : Program} {w : World} {H H' : Hp} {h h' : Heap} {a : Addr} {o : HO}
theorem ObjOk.lt (x : ObjOk P w H h a o) : a < h.objs.size := by
  cases o with
  | lst xs => obtain ⟨_,_,_,_,e⟩ := x; exact Heap.lt_size e
  | tup xs => obtain ⟨_,_,_,p⟩ := x; exact p.lt
  | dK kvs => obtain ⟨_,_,_,_,o,_,_,e,_⟩ := x; exact Heap.lt_size e
  | dT kvs => obtain ⟨_,_,_,_,o,_,_,e,_⟩ := x; exact Heap.lt_size e
  | set S n => obtain ⟨o,_,_,_,e,_⟩ := x; exact Heap.lt_size e
  | ins C dx fs => obtain ⟨_,_,_,e,_⟩ := x; exact Heap.lt_size e
  | own y => obtain ⟨_,e⟩ := x; exact Heap.lt_size e
  | xd fs => obtain ⟨_,⟨_,_,_,e,_⟩,_⟩ := x; exact Heap.lt_size e
  | rng lo hi => obtain ⟨_,_,_,e⟩ := x; exact Heap.lt_size e
  | frz ob u => obtain ⟨e,_⟩ := x; exact Heap.lt_size e
  | tbl ps => exact Heap.lt_size (show h.get? a = some _ from x)
  | met f y => exact Heap.lt_size (show h.get? a = some _ from x)
  | ext φ => obtain ⟨_,⟨_,e⟩,_⟩ := x; exact Heap.lt_size e
theorem Paired.mapP {α β : Type} {F G : α → β → Prop} : ∀ {l₁ : List α} {l₂ : List β},Paired F l₁ l₂ → (∀ a b,F a b → G a b) → Paired G l₁ l₂
  | _,_,.nil,_ => .nil
  | _,_,.cons r t,f => .cons (f _ _ r) (Paired.mapP t f)
theorem ObjOk.stay (x : ObjOk P w H h a o) (k : ∀ b u, (b = a ∨ H b = some (.own a)) → h.get? b = some u → h'.get? b = some u)
    (ho : ∀ b, H b = some (.own a) → H' b = some (.own a)) (ht : ∀ b xs, H b = some (.tup xs) → H' b = some (.tup xs)) : ObjOk P w H' h' a o := by
  induction o with
  | lst xs => obtain ⟨z, its, n, r, e⟩ := x; exact ⟨z, its, n, r, k _ _ (.inl rfl) e⟩
  | tup xs => obtain ⟨z, its, r, ob, e, c⟩ := x; exact ⟨z, its, r, ob, k _ _ (.inl rfl) e, c⟩
  | dK kvs => obtain ⟨z, y, vs, r, ob, es, ep, e, c⟩ := x; exact ⟨z, y, vs, r, ob, es, ep, k _ _ (.inl rfl) e, c⟩
  | dT kvs =>
    obtain ⟨z, y, xs, r, ob, es, ep, e, c⟩ := x
    exact ⟨z, y, xs, Paired.mapP r fun p q z => ⟨z.1, ht _ _ z.2.1, z.2.2⟩, ob, es, ep, k _ _ (.inl rfl) e, c⟩
  | set S n => obtain ⟨ob, es, ep, t, e, c⟩ := x; exact ⟨ob, es, ep, t, k _ _ (.inl rfl) e, c⟩
  | ins C dx fs =>
    obtain ⟨d, z, ne, e, mA, ⟨od, es, ep, e2, c⟩, r⟩ := x
    exact ⟨ho _ d, z, ne, k _ _ (.inl rfl) e, mA, ⟨od, es, ep, k _ _ (.inr d) e2, c⟩, r⟩
  | own y => obtain ⟨ob, e⟩ := x; exact ⟨ob, k _ _ (.inl rfl) e⟩
  | xd fs => obtain ⟨mA, ⟨od, es, ep, e, c⟩, r⟩ := x; exact ⟨mA, ⟨od, es, ep, k _ _ (.inl rfl) e, c⟩, r⟩
  | rng lo hi => obtain ⟨t, u, v, e⟩ := x; exact ⟨t, u, v, k _ _ (.inl rfl) e⟩
  | frz ob u ih => obtain ⟨e, q⟩ := x; exact ⟨k _ _ (.inl rfl) e, ih q⟩
  | tbl ps =>
    have e : h.get? a = some { cls := .none, data := .fields ps } := x
    show h'.get? a = some { cls := .none, data := .fields ps }
    exact k a _ (.inl rfl) e
  | met f y =>
    have e : h.get? a = some (PySem.W.methodObj (.ref f) (.ref y)) := x
    show h'.get? a = some (PySem.W.methodObj (.ref f) (.ref y))
    exact k a _ (.inl rfl) e
  | ext φ => obtain ⟨p, ⟨o, e⟩, st⟩ := x; exact ⟨st _ _ p fun o q => k _ _ (.inl rfl) q, ⟨o, k _ _ (.inl rfl) e⟩, st⟩
theorem HOk.lt (x : HOk P w H h) (e : H a = some o) : a < h.objs.size := (x a o e).lt
theorem HOk.fresh (x : HOk P w H h) (e : h.objs.size ≤ a) : H a = none := by
  cases q : H a with
  | none => rfl
  | some u => exact absurd (Nat.lt_of_lt_of_le (x.lt q) e) (Nat.lt_irrefl _)
theorem HOk.kept (x : HOk P w H h) (k : ∀ b u,h.get? b = some u → h'.get? b = some u) : HOk P w H h' := fun a o e =>
  (x a o e).stay (fun b u _ q => k b u q) (fun _ q => q) fun _ _ q => q
theorem HOk.laid (x : HOk P w H h) (k : ∀ b u,h.get? b = some u → h'.get? b = some u) (hp : h.objs.size ≤ a) (new : ObjOk P w (upd H a o) h' a o) : HOk P w (upd H a o) h' := fun b u e => by
  have hn := x.fresh hp
  by_cases hb : b = a
  · subst hb; rw [upd_same] at e; cases e; exact new
  · rw [upd_ne hb] at e
    exact (x b u e).stay (fun c v _ q => k c v q) (fun c q => by rw [upd_ne (ne_of_none q hn)]; exact q) fun c xs q => by rw [upd_ne (ne_of_none q hn)]; exact q
end
def Rd (H : Hp) (a : Addr) (u : HO) : Prop := H a = some u ∨ ∃ o,H a = some (.frz o u)
theorem Rd.ok {P : Program} {w : World} {H : Hp} {h : Heap} {a : Addr} {u : HO} (r : Rd H a u) (x : HOk P w H h) : ObjOk P w H h a u := by
  rcases r with r | ⟨o,r⟩
  · exact x a u r
  · obtain ⟨_,q⟩ := x a _ r
    exact q
def Mut : Option HO → Prop
  | some (.lst _) => True
  | some (.dK _) => True
  | some (.dT _) => True
  | some (.set _ _) => True
  | some (.ins _ _ _) => True
  | some (.ext _) => True
  | _ => False
section
variable {P : Program} {w : World} {H : Hp} {h h' : Heap} {x e : Addr} {o' : HO}
theorem HOk.write (ok : HOk P w H h) (mu : Mut (H x)) (he : e = x ∨ H e = some (.own x)) (k : ∀ b u,b ≠ e → h.get? b = some u → h'.get? b = some u) (heo : ∃ u,h'.get? e = some u)
    (new : ObjOk P w (upd H x o') h' x o') : HOk P w (upd H x o') h' := fun b u q => by
  have nown : ∀ c y,H c = some (.own y) → c ≠ x := fun c y r z => by subst z; rw [r] at mu; exact mu
  have ntup : ∀ c xs,H c = some (.tup xs) → c ≠ x := fun c xs r z => by subst z; rw [r] at mu; exact mu
  by_cases hb : b = x
  · subst hb; rw [upd_same] at q; cases q; exact new
  · rw [upd_ne hb] at q
    by_cases hbe : b = e
    · have q' : H b = some (.own x) := by
        rcases he with z | z
        · exact absurd (hbe.trans z) hb
        · rw [hbe]; exact z
      rw [q] at q'; cases q'
      obtain ⟨v,hv⟩ := heo
      exact ⟨v,by rw [hbe]; exact hv⟩
    · refine (ok b u q).stay (fun c v hc r => k c v ?_ r) (fun c r => by rw [upd_ne (nown c b r)]; exact r) fun c xs r => by rw [upd_ne (ntup c xs r)]; exact r
      rcases hc with rfl | hc
      · exact hbe
      · rintro rfl
        rcases he with z | z
        · exact nown c b hc z
        · rw [hc] at z; cases z; exact hb rfl
end
structure Un (fs ex : List Addr) (H H' : Hp) (h h' : Heap) : Prop where
  keep : ∀ b o,h.get? b = some o → H b = none → b ∉ fs → b ∉ ex → h'.get? b = some o
  slot : ∀ b o,h.get? b = some o → H b = none → b ∈ fs → b ∉ ex → ∃ sl,h'.get? b = some { o with slots := sl }
  free : ∀ b o,h.get? b = some o → H b = none → b ∉ ex → H' b = none
  there : ∀ b o,h.get? b = some o → b ∉ ex → ∃ o',h'.get? b = some o'
  tups : ∀ b xs,H b = some (.tup xs) → H' b = some (.tup xs)
  frzs : ∀ b o u,H b = some (.frz o u) → H' b = some (.frz o u)
  tbls : ∀ b ps,H b = some (.tbl ps) → ∃ more,H' b = some (.tbl (ps ++ more))
section
variable {fs fs' ex ex' : List Addr} {H H1 H2 : Hp} {h h1 h2 h' : Heap} {a x e : Addr} {o : HO}
theorem Un.any (u : Un fs ex H H1 h h1) {b : Addr} {ob : Obj} (q : h.get? b = some ob) (n : H b = none) (hx : b ∉ ex) : ∃ sl,h1.get? b = some { ob with slots := sl } := by
  by_cases hb : b ∈ fs
  · exact u.slot b ob q n hb hx
  · exact ⟨ob.slots,u.keep b ob q n hb hx⟩
theorem Un.trans (a : Un fs ex H H1 h h1) (b : Un fs ex H1 H2 h1 h2) : Un fs ex H H2 h h2 where
  keep := fun c ob q n hc hx => b.keep c ob (a.keep c ob q n hc hx) (a.free c ob q n hx) hc hx
  slot := fun c ob q n hc hx => by
    obtain ⟨sl,e1⟩ := a.slot c ob q n hc hx
    obtain ⟨sl',e2⟩ := b.slot c _ e1 (a.free c ob q n hx) hc hx
    exact ⟨sl',e2⟩
  free := fun c ob q n hx => by
    obtain ⟨o',e1⟩ := a.there c ob q hx
    exact b.free c o' e1 (a.free c ob q n hx) hx
  there := fun c ob q hx => by
    obtain ⟨o',e1⟩ := a.there c ob q hx
    exact b.there c o' e1 hx
  tups := fun c xs q => b.tups c xs (a.tups c xs q)
  frzs := fun c ob xs q => b.frzs c ob xs (a.frzs c ob xs q)
  tbls := fun c ps q => by
    obtain ⟨m1,e1⟩ := a.tbls c ps q
    obtain ⟨m2,e2⟩ := b.tbls c _ e1
    exact ⟨m1 ++ m2,by rw [e2,Array.append_assoc]⟩
theorem Un.kept (k : ∀ b u,h.get? b = some u → h'.get? b = some u) : Un fs ex H H h h' :=
  ⟨fun b ob q _ _ _ => k b ob q,fun b ob q _ _ _ => ⟨ob.slots,k b ob q⟩,fun _ _ _ n _ => n,fun b ob q _ => ⟨ob,k b ob q⟩,fun _ _ q => q,fun _ _ _ q => q,fun _ ps q => ⟨#[],by rw [q]; simp⟩⟩
theorem Un.refl : Un fs ex H H h h := Un.kept fun _ _ q => q
theorem Un.laid (k : ∀ b u,h.get? b = some u → h'.get? b = some u) (hp : h.objs.size ≤ a) (hn : H a = none) : Un fs ex H (upd H a o) h h' where
  keep := fun b u q _ _ _ => k b u q
  slot := fun b u q _ _ _ => ⟨u.slots,k b u q⟩
  free := fun b u q n _ => by rw [upd_ne (Nat.ne_of_lt (Nat.lt_of_lt_of_le (Heap.lt_size q) hp))]; exact n
  there := fun b u q _ => ⟨u,k b u q⟩
  tups := fun b xs q => by rw [upd_ne (ne_of_none q hn)]; exact q
  frzs := fun b u xs q => by rw [upd_ne (ne_of_none q hn)]; exact q
  tbls := fun b ps q => ⟨#[],by rw [upd_ne (ne_of_none q hn),q]; simp⟩
theorem Un.write (mu : Mut (H x)) (he : e = x ∨ H e = some (.own x)) (k : ∀ b u,b ≠ e → h.get? b = some u → h'.get? b = some u) (heo : ∃ u,h'.get? e = some u) : Un fs ex H (upd H x o) h h' := by
  have hx : ∀ b,H b = none → b ≠ x := fun b n z => by subst z; rw [n] at mu; exact mu
  have hb : ∀ b,H b = none → b ≠ e := fun b n z => by
    subst z
    rcases he with r | r
    · exact hx b n r
    · rw [n] at r; cases r
  have hm : ∀ b u,H b = some u → ¬ Mut (some u) → b ≠ x := fun b u q nm z => by subst z; rw [q] at mu; exact nm mu
  refine ⟨fun b u q n _ _ => k b u (hb b n) q,fun b u q n _ _ => ⟨u.slots,k b u (hb b n) q⟩,fun b u q n _ => by rw [upd_ne (hx b n)]; exact n,fun b u q _ => ?_,
    fun b xs q => by rw [upd_ne (hm b _ q fun z => z)]; exact q,fun b u xs q => by rw [upd_ne (hm b _ q fun z => z)]; exact q,fun b ps q => ⟨#[],by rw [upd_ne (hm b _ q fun z => z),q]; simp⟩⟩
  by_cases hbe : b = e
  · subst hbe; exact heo
  · exact ⟨u,k b u hbe q⟩
theorem Un.mono (u : Un fs ex H H1 h h1) (hs : ∀ b ∈ fs,b ∈ fs') (hx : ∀ b ∈ ex,b ∈ ex') : Un fs' ex' H H1 h h1 :=
  ⟨fun b ob q n hb he => u.keep b ob q n (fun z => hb (hs b z)) fun z => he (hx b z),fun _ _ q n _ he => u.any q n fun z => he (hx _ z),fun b ob q n he => u.free b ob q n fun z => he (hx b z),fun b ob q he => u.there b ob q fun z => he (hx b z),u.tups,u.frzs,u.tbls⟩
end
def trk (h : Heap) (H : Hp) : List Addr := (List.range h.objs.size).filter fun a => (H a).isSome
def hidT (h : Heap) (H : Hp) : Heap := PySem.W.hideAll h (trk h H)
theorem hidT_size (h : Heap) (H : Hp) : (hidT h H).objs.size = h.objs.size := PySem.W.hideAll_size _ _
theorem hidT_get {h : Heap} {H : Hp} {b : Addr} {o : Obj} (e : h.get? b = some o) (n : H b = none) : (hidT h H).get? b = some o :=
  PySem.W.hideAll_get _ e fun hm => by
    have q : (H b).isSome = true := (List.mem_filter.mp hm).2
    rw [n] at q; simp at q
theorem of_hidT {h : Heap} {H : Hp} {b : Addr} {o : Obj} (e : (hidT h H).get? b = some o) : h.get? b = some o ∧ H b = none := by
  have e' : h.get? b = some o := PySem.W.of_hideAll (trk h H) e
  refine ⟨e', ?_⟩
  cases q : H b with
  | none => rfl
  | some x =>
    have hm : b ∈ trk h H := List.mem_filter.mpr ⟨List.mem_range.mpr (Heap.lt_size e'), by simp [q]⟩
    have z : (hidT h H).get? b = none := PySem.W.hideAll_none (trk h H) hm
    rw [z] at e; cases e
end L2
namespace L2
open PySem PySem.Spec PyProof.Rows
structure Mod (K : PySem.W.Frag) (mg : Str → Option Value) (base : Heap) : Prop where
  kin : K.In base
  glob : base.Ns mainGlobals mg
  blt : ∃ mb,base.Ns builtinsNs mb ∧ ∀ x : Str,x ≠ "__name__" → mb x = bootBuiltins x
  nolimit : base.NoLimit
structure Cx where
  prog : Program
  w : World
  K : PySem.W.Frag
  mg : Str → Option Value
  base : Heap
  A : Around
  N : List Str
  s₀ : Shared
  H₀ : Hp
  env : Env
  outer : List Env
  stack : List Env
  ex : List Addr
  fn : Str → Bool
  calm : Bool
  pn : List (Addr × Obj)
  xe : Value → Shared → Prop
def frs (l : List Env) : List Addr := l.filterMap (·.frame)
abbrev Cx.fs (X : Cx) : List Addr := frs X.outer
def Vis (sc : Scope) (x : Str) : Prop := sc.names.lookup x = some .local ∨ sc.names.lookup x = some .cell ∨ sc.names.lookup x = some .free
def Loc (sc : Scope) (x : Str) : Prop := sc.names.lookup x = some .local ∨ sc.names.lookup x = some .cell
def Look (env : Env) (h : Heap) (m : Str → Option Value) (x : Str) (u : Value) : Prop :=
  (env.kindOf x = some .local ∧ m x = some u) ∨ ((env.kindOf x = some .cell ∨ env.kindOf x = some .free) ∧ ∃ c,env.cells.lookup x = some c ∧ h.IsCell c (some u))
structure Cx.Ok (X : Cx) : Prop where
  mod : Mod X.K X.mg X.base
  kind : X.env.scope.kind = .function
  glob : X.env.globals = mainGlobals
  blt : X.env.builtins = builtinsNs
  above : X.s₀.heap.objs.size ≤ X.env.locals
  inj : ∀ x y c,X.env.cells.lookup x = some c → X.env.cells.lookup y = some c → x = y
  has : ∀ x,(X.env.kindOf x = some .cell ∨ X.env.kindOf x = some .free) → ∃ c,X.env.cells.lookup x = some c
  cab : ∀ x c,X.fn x = true → X.env.cells.lookup x = some c → X.s₀.heap.objs.size ≤ c
  hd : X.calm = true → X.A.handled = none
  frames : X.A.frames = some X.stack
  stk : X.stack = X.outer ∨ (X.stack = X.env :: X.outer ∧ X.env.frame = some X.env.locals)
  exf : ∀ b ∈ X.ex,b ≠ X.env.locals ∧ ∀ x c,X.env.cells.lookup x = some c → c ≠ b
  bs : ∀ b o,X.base.get? b = some o → X.s₀.heap.get? b = some o ∧ X.H₀ b = none
  bsz : X.base.objs.size ≤ X.s₀.heap.objs.size
  noex : ∀ b o,X.base.get? b = some o → b ∉ X.ex
  exfs : ∀ b ∈ X.ex,b ∉ X.fs
  funs : X.s₀.heap.FunFrames X.base X.outer
  frf : ∀ b ∈ X.fs,X.H₀ b = none
structure Inv (X : Cx) (pins : List (Addr × Obj)) (σ : List (Option V)) (H : Hp) (s : Shared) : Prop where
  ok : X.Ok
  os : s.os = X.s₀.os
  bare : AllBare s.gens
  base : Un X.fs X.ex X.H₀ H X.s₀.heap s.heap
  loc : ∃ m,s.heap.Ns X.env.locals m ∧ ∀ (i : Nat) (x : Str) (v : V),X.N[i]? = some x → σ[i]? = some (some v) → Vis X.env.scope x → ∃ u,RelV v u ∧ Look X.env s.heap m x u
  cell : ∀ x c,X.env.cells.lookup x = some c → ∃ v,s.heap.IsCell c v
  free : H X.env.locals = none
  freeC : ∀ x c,X.env.cells.lookup x = some c → H c = none
  pin : ∀ p ∈ X.pn ++ pins,s.heap.get? p.1 = some p.2 ∧ H p.1 = none ∧ p.1 ≠ X.env.locals ∧ p.1 ∉ X.fs ∧ ∀ v,p.2.data ≠ .cell v
  hok : HOk X.prog X.w H s.heap
  len : σ.length = X.N.length
section
variable {X : Cx} {pins : List (Addr × Obj)} {σ : List (Option V)} {H H' : Hp} {s : Shared} {h' : Heap}
theorem Cx.Ok.nofr (ok : X.Ok) {b : Addr} {o : Obj} (e : X.base.get? b = some o) : b ∉ X.fs := fun hb => by
  have := (ok.funs.mem hb).1
  rw [e] at this; cases this
theorem Inv.bs (I : Inv X pins σ H s) : ∀ b o,X.base.get? b = some o → s.heap.get? b = some o ∧ H b = none := fun b o e =>
  ⟨I.base.keep b o (I.ok.bs b o e).1 (I.ok.bs b o e).2 (I.ok.nofr e) (I.ok.noex b o e),I.base.free b o (I.ok.bs b o e).1 (I.ok.bs b o e).2 (I.ok.noex b o e)⟩
theorem Inv.bk (I : Inv X pins σ H s) : ∀ b o,X.base.get? b = some o → s.heap.get? b = some o := fun b o e => (I.bs b o e).1
theorem Inv.mod (I : Inv X pins σ H s) : Mod X.K X.mg X.base := I.ok.mod
theorem Inv.kIn (I : Inv X pins σ H s) : X.K.In s.heap := I.ok.mod.kin.keeps I.bk
theorem Inv.lt (I : Inv X pins σ H s) : X.env.locals < s.heap.objs.size := let ⟨_,hn,_⟩ := I.loc; hn.lt
theorem Inv.sz (I : Inv X pins σ H s) : X.s₀.heap.objs.size ≤ s.heap.objs.size := Nat.le_trans I.ok.above (Nat.le_of_lt I.lt)
theorem Inv.nofs (I : Inv X pins σ H s) {a : Addr} (h : s.heap.objs.size ≤ a) : a ∉ X.fs := fun hb => by
  obtain ⟨_,o,ho,_⟩ := I.ok.funs.mem hb
  exact absurd (Nat.lt_of_lt_of_le (Heap.lt_size ho) (Nat.le_trans I.sz h)) (Nat.lt_irrefl _)
theorem Inv.cne (I : Inv X pins σ H s) : ∀ x c,X.env.cells.lookup x = some c → c ≠ X.env.locals := fun x c e z => by
  obtain ⟨v,o,ho,hd⟩ := I.cell x c e
  obtain ⟨m,⟨o',es,ep,ho',hd',_⟩,_⟩ := I.loc
  rw [z,ho'] at ho; cases ho; rw [hd'] at hd; cases hd
theorem Inv.funs (I : Inv X pins σ H s) : s.heap.FunFrames X.base X.outer := by
  have all : ∀ (l : List Env), (∀ b ∈ frs l, b ∈ X.fs) → X.s₀.heap.FunFrames X.base l → s.heap.FunFrames X.base l := by
    intro l
    induction l with
    | nil => intro _ _; trivial
    | cons env r ih =>
      intro hs hl
      obtain ⟨hk, ⟨L, o, hf, hn, ho, hd⟩, hr⟩ := hl
      have hL : L ∈ X.fs := hs L (by unfold frs; rw [List.filterMap_cons, hf]; exact List.mem_cons_self)
      obtain ⟨sl, e⟩ := I.base.slot L o ho (I.ok.frf L hL) hL fun z => I.ok.exfs L z hL
      exact ⟨hk, ⟨L, _, hf, hn, e, hd⟩, ih (fun b hb => hs b (by unfold frs; rw [List.filterMap_cons, hf]; exact List.mem_cons_of_mem _ hb)) hr⟩
  exact all X.outer (fun _ hb => hb) I.ok.funs
theorem Inv.stack (I : Inv X pins σ H s) : s.heap.FunFrames X.base X.stack := by
  rcases I.ok.stk with e | ⟨e,hf⟩
  · rw [e]; exact I.funs
  · rw [e]
    obtain ⟨m,hn,_⟩ := I.loc
    refine .cons (by rw [I.ok.kind]; decide) hf hn ?_ I.funs
    exact Heap.get?_none_of_le (Nat.le_trans I.ok.bsz I.ok.above)
theorem Inv.stkSub (I : Inv X pins σ H s) : ∀ b ∈ frs X.stack,b ∈ X.env.locals :: X.fs := fun b hb => by
  rcases I.ok.stk with e | ⟨e,hf⟩
  · rw [e] at hb; exact List.mem_cons_of_mem _ hb
  · rw [e] at hb
    unfold frs at hb
    rw [List.filterMap_cons,hf] at hb
    exact hb
theorem Inv.stkFree (I : Inv X pins σ H s) : ∀ b ∈ frs X.stack,H b = none := fun b hb => by
  rcases List.mem_cons.mp (I.stkSub b hb) with e | hb
  · rw [e]; exact I.free
  · obtain ⟨_,o,ho,_⟩ := I.ok.funs.mem hb
    exact I.base.free b o ho (I.ok.frf b hb) fun z => I.ok.exfs b z hb
theorem Inv.step {g' : Array GenState} {t' : Nat} {d' : Drawn} {ch : List Addr} (I : Inv X pins σ H s)
    (hch : ∀ b ∈ ch,(b ∈ X.ex ∨ X.s₀.heap.objs.size ≤ b) ∧ b ≠ X.env.locals ∧ (∀ x c,X.env.cells.lookup x = some c → c ≠ b) ∧ ∀ p ∈ X.pn ++ pins,p.1 ≠ b)
    (keep : ∀ b o,b ≠ X.env.locals → b ∉ X.fs → b ∉ ch → s.heap.get? b = some o → H b = none → h'.get? b = some o)
    (slot : ∀ b o,b ≠ X.env.locals → b ∈ X.fs → b ∉ ch → s.heap.get? b = some o → H b = none → ∃ sl,h'.get? b = some { o with slots := sl }) (free : ∀ b o,b ∉ ch → s.heap.get? b = some o → H b = none → H' b = none)
    (there : ∀ b o,b ∉ ch → s.heap.get? b = some o → ∃ o',h'.get? b = some o')
    (tups : ∀ b xs,H b = some (.tup xs) → H' b = some (.tup xs)) (frzs : ∀ b o u,H b = some (.frz o u) → H' b = some (.frz o u)) (tbls : ∀ b ps,H b = some (.tbl ps) → ∃ more,H' b = some (.tbl (ps ++ more)))
    (ns : ∀ m,s.heap.Ns X.env.locals m → h'.Ns X.env.locals m) (hok : HOk X.prog X.w H' h') (hg : AllBare g') :
    Inv X pins σ H' { s with heap := h',gens := g',drawn := d',toks := t' } := by
  have neL : ∀ b o,X.s₀.heap.get? b = some o → b ≠ X.env.locals := fun b o e => Nat.ne_of_lt (Nat.lt_of_lt_of_le (Heap.lt_size e) I.ok.above)
  have neC : ∀ b o,X.s₀.heap.get? b = some o → b ∉ X.ex → b ∉ ch := fun b o e hx hb => by
    rcases (hch b hb).1 with z | z
    · exact hx z
    · exact absurd (Nat.lt_of_lt_of_le (Heap.lt_size e) z) (Nat.lt_irrefl _)
  have cellK : ∀ x c,X.env.cells.lookup x = some c → ∀ v,s.heap.IsCell c v → h'.IsCell c v := fun x c e v ⟨o,ho,hd⟩ => by
    have nch : c ∉ ch := fun z => (hch c z).2.2.1 x c e rfl
    by_cases hc : c ∈ X.fs
    · obtain ⟨sl,q⟩ := slot c o (I.cne x c e) hc nch ho (I.freeC x c e)
      exact ⟨_,q,hd⟩
    · exact ⟨o,keep c o (I.cne x c e) hc nch ho (I.freeC x c e),hd⟩
  refine ⟨I.ok,I.os,hg,⟨fun b o e n hb hx => ?_,fun b o e n hb hx => ?_,fun b o e n hx => ?_,fun b o e hx => ?_,fun b xs e => tups b xs (I.base.tups b xs e),fun b o xs e => frzs b o xs (I.base.frzs b o xs e),fun b ps e => ?_⟩,?_,fun x c e => ?_,?_,fun x c e => ?_,fun p hp => ?_,hok,I.len⟩
  · exact keep b o (neL b o e) hb (neC b o e hx) (I.base.keep b o e n hb hx) (I.base.free b o e n hx)
  · obtain ⟨sl,e1⟩ := I.base.slot b o e n hb hx
    obtain ⟨sl',e2⟩ := slot b _ (neL b o e) hb (neC b o e hx) e1 (I.base.free b o e n hx)
    exact ⟨sl',e2⟩
  · obtain ⟨o',e1⟩ := I.base.there b o e hx
    exact free b o' (neC b o e hx) e1 (I.base.free b o e n hx)
  · obtain ⟨o',e1⟩ := I.base.there b o e hx
    exact there b o' (neC b o e hx) e1
  · obtain ⟨m1,e1⟩ := I.base.tbls b ps e
    obtain ⟨m2,e2⟩ := tbls b _ e1
    exact ⟨m1 ++ m2,by rw [e2,Array.append_assoc]⟩
  · obtain ⟨m,hn,hl⟩ := I.loc
    refine ⟨m,ns m hn,fun i x v e1 e2 e3 => ?_⟩
    obtain ⟨u,r,l⟩ := hl i x v e1 e2 e3
    refine ⟨u,r,?_⟩
    rcases l with l | ⟨k,c,e,z⟩
    · exact .inl l
    · exact .inr ⟨k,c,e,cellK x c e _ z⟩
  · obtain ⟨v,z⟩ := I.cell x c e
    exact ⟨v,cellK x c e v z⟩
  · obtain ⟨m,⟨o,_,_,ho,_⟩,_⟩ := I.loc
    exact free _ o (fun z => (hch _ z).2.1 rfl) ho I.free
  · obtain ⟨v,o,ho,hd⟩ := I.cell x c e
    exact free c o (fun z => (hch c z).2.2.1 x c e rfl) ho (I.freeC x c e)
  · obtain ⟨e,n,ne,nf,d⟩ := I.pin p hp
    have nch : p.1 ∉ ch := fun z => (hch p.1 z).2.2.2 p hp rfl
    exact ⟨keep p.1 p.2 ne nf nch e n,free p.1 p.2 nch e n,ne,nf,d⟩
theorem Inv.un {t' : Nat} (I : Inv X pins σ H s) (u : Un X.fs [] H H' s.heap h') (hok : HOk X.prog X.w H' h') : Inv X pins σ H' { s with heap := h',toks := t' } := by
  obtain ⟨m,⟨o,es,ep,ho,r⟩,_⟩ := id I.loc
  obtain ⟨sl,hL⟩ := u.any ho I.free (by simp)
  exact I.step (g' := s.gens) (d' := s.drawn) (ch := []) (fun _ z => nomatch z) (fun b o _ hb _ e n => u.keep b o e n hb (by simp)) (fun b o _ hb _ e n => u.slot b o e n hb (by simp)) (fun b o _ e n => u.free b o e n (by simp)) (fun b o _ e => u.there b o e (by simp)) u.tups u.frzs u.tbls (fun m' hm => by
    obtain ⟨o',es',ep',ho',r'⟩ := hm
    rw [ho] at ho'; cases ho'
    exact ⟨_,es',ep',hL,r'⟩) hok I.bare
theorem Inv.call {g' : Array GenState} {t' : Nat} {d' : Drawn} {ch : List Addr} (I : Inv X pins σ H s) (u : Un (frs X.stack) ch H H' s.heap h') (hok : HOk X.prog X.w H' h') (hg : AllBare g')
    (hch : ∀ b ∈ ch,(b ∈ X.ex ∨ X.s₀.heap.objs.size ≤ b) ∧ b ≠ X.env.locals ∧ (∀ x c,X.env.cells.lookup x = some c → c ≠ b) ∧ ∀ p ∈ X.pn ++ pins,p.1 ≠ b) :
    Inv X pins σ H' { s with heap := h',gens := g',drawn := d',toks := t' } := by
  obtain ⟨m,⟨o,es,ep,ho,r⟩,_⟩ := id I.loc
  obtain ⟨sl,hL⟩ := u.any ho I.free fun z => (hch _ z).2.1 rfl
  exact I.step (ch := ch) hch (fun b o hL hb hc e n => u.keep b o e n (fun z => (List.mem_cons.mp (I.stkSub b z)).elim hL hb) hc) (fun b o _ _ hc e n => u.any e n hc) (fun b o hc e n => u.free b o e n hc) (fun b o hc e => u.there b o e hc) u.tups u.frzs u.tbls (fun m' hm => by
    obtain ⟨o',es',ep',ho',r'⟩ := hm
    rw [ho] at ho'; cases ho'
    exact ⟨_,es',ep',hL,r'⟩) hok hg
theorem Inv.turned {t' : Nat} {it : Addr} (I : Inv X pins σ H s) (k : ∀ b o,b ≠ it → s.heap.get? b = some o → h'.get? b = some o) (hn : H it = none) (hL : it ≠ X.env.locals)
    (h1 : it ∈ X.ex ∨ X.s₀.heap.objs.size ≤ it) (h2 : ∀ x c,X.env.cells.lookup x = some c → c ≠ it) (h3 : ∀ p ∈ X.pn ++ pins,p.1 ≠ it) : Inv X pins σ H { s with heap := h',toks := t' } := by
  have nit : ∀ b u,H b = some u → b ≠ it := fun b u e z => by rw [z,hn] at e; cases e
  refine I.step (g' := s.gens) (d' := s.drawn) (ch := [it]) (fun b hb => ?_) (fun b o _ _ hc e _ => k b o (fun z => hc (by simp [z])) e) (fun b o _ _ hc e _ => ⟨o.slots,k b o (fun z => hc (by simp [z])) e⟩) (fun _ _ _ _ n => n)
    (fun b o hc e => ⟨o,k b o (fun z => hc (by simp [z])) e⟩) (fun _ _ e => e) (fun _ _ _ e => e) (fun b ps e => ⟨#[],by rw [e]; simp⟩) (fun m hm => ?_) (fun b u e => ?_) I.bare
  · have e : b = it := by simpa using hb
    subst e
    exact ⟨h1,hL,h2,h3⟩
  · obtain ⟨o,es,ep,ho,r⟩ := hm
    exact ⟨o,es,ep,k _ o (Ne.symm hL) ho,r⟩
  · refine (I.hok b u e).stay (fun c v hc q => k c v ?_ q) (fun _ q => q) fun _ _ q => q
    rcases hc with z | z
    · rw [z]; exact nit b u e
    · exact nit c _ z
theorem Inv.tok (I : Inv X pins σ H s) (t : Nat) : Inv X pins σ H { s with toks := t } := I.un (h' := s.heap) (t' := t) Un.refl I.hok
theorem Inv.kept {t' : Nat} (I : Inv X pins σ H s) (k : ∀ b u,s.heap.get? b = some u → h'.get? b = some u) : Inv X pins σ H { s with heap := h',toks := t' } := I.un (Un.kept k) (I.hok.kept k)
theorem Inv.laid {a : Addr} {o : HO} {t' : Nat} (I : Inv X pins σ H s) (k : ∀ b u,s.heap.get? b = some u → h'.get? b = some u) (hp : s.heap.objs.size ≤ a) (new : ObjOk X.prog X.w (upd H a o) h' a o) :
    Inv X pins σ (upd H a o) { s with heap := h',toks := t' } := I.un (Un.laid k hp (I.hok.fresh hp)) (I.hok.laid k hp new)
theorem Inv.write {x e : Addr} {o : HO} {t' : Nat} (I : Inv X pins σ H s) (mu : Mut (H x)) (he : e = x ∨ H e = some (.own x)) (k : ∀ b u,b ≠ e → s.heap.get? b = some u → h'.get? b = some u) (heo : ∃ u,h'.get? e = some u)
    (new : ObjOk X.prog X.w (upd H x o) h' x o) : Inv X pins σ (upd H x o) { s with heap := h',toks := t' } := I.un (Un.write mu he k heo) (I.hok.write mu he k heo new)
theorem Inv.pins_of {pins' : List (Addr × Obj)} (I : Inv X pins σ H s) (h : ∀ p ∈ pins',s.heap.get? p.1 = some p.2 ∧ H p.1 = none ∧ p.1 ≠ X.env.locals ∧ p.1 ∉ X.fs ∧ ∀ v,p.2.data ≠ .cell v) : Inv X pins' σ H s :=
  ⟨I.ok,I.os,I.bare,I.base,I.loc,I.cell,I.free,I.freeC,fun p hp => (List.mem_append.mp hp).elim (fun z => I.pin p (List.mem_append_left _ z)) (h p),I.hok,I.len⟩
theorem nodup_ix {N : List Str} (hN : N.Nodup) {i j : Nat} {x : Str} (a : N[i]? = some x) (b : N[j]? = some x) : i = j := by
  obtain ⟨h1,e1⟩ := List.getElem?_eq_some_iff.mp a
  obtain ⟨h2,e2⟩ := List.getElem?_eq_some_iff.mp b
  exact (List.getElem_inj hN).mp (e1.trans e2.symm)
theorem store_ok2 {M : Model} {A : Around} {E : Value → Shared → Prop} {i : Nat} {x : Str} {v : V} {u : Value} {Q : Unit → Shared → Prop} (I : Inv X pins σ H s) (hN : X.N.Nodup) (hi : X.N[i]? = some x) (hx : Loc X.env.scope x) (r : RelV v u)
    (h : ∀ s',Inv X pins (σ.set i (some v)) H s' → (∃ a,Heap.SameBut a s.heap s'.heap ∧ (a = X.env.locals ∨ X.env.cells.lookup x = some a)) → Q () s') (hf : X.fn x = true ∨ X.env.scope.names.lookup x = some .local := by first | exact .inl rfl | exact .inr rfl | assumption) : wpAny M A (storeName X.env x u) Q E s := by
  obtain ⟨m,hn,hl⟩ := id I.loc
  have hcls : (X.env.scope.kind == .class || (X.env.scope.kind == .module && X.env.locals != X.env.globals)) = false := by rw [I.ok.kind]; rfl
  have hiσ : i < σ.length := by rw [I.len]; exact (List.getElem?_eq_some_iff.mp hi).1
  have cne := I.cne
  have tracked : ∀ {a : Addr} {h' : Heap},(∃ o,s.heap.get? a = some o ∧ H a = none) → Heap.SameBut a s.heap h' → HOk X.prog X.w H h' := fun {a h'} ha hs b ob e => by
    obtain ⟨_,_,hfree⟩ := ha
    refine (I.hok b ob e).stay (fun c w' hc q => (hs.2 c ?_).trans q) (fun _ q => q) fun _ _ q => q
    rintro rfl
    rcases hc with rfl | hc
    · rw [hfree] at e; cases e
    · rw [hfree] at hc; cases hc
  rcases hx with hk | hk
  · refine wpAny_storeName_local hk hn (fun h' hn' hs => ?_) hcls
    obtain ⟨oL,_,_,hoL,_⟩ := id hn
    refine h _ ⟨I.ok,I.os,I.bare,⟨fun b o e n hb hx => ?_,fun b o e n hb hx => ?_,I.base.free,fun b o e hx => ?_,I.base.tups,I.base.frzs,I.base.tbls⟩,⟨_,hn',fun j y v' e1 e2 e3 => ?_⟩,fun y c e => ?_,I.free,I.freeC,fun p hp => ?_,tracked ⟨oL,hoL,I.free⟩ hs,by simpa using I.len⟩ ⟨_,hs,.inl rfl⟩
    · exact (hs.2 b (Nat.ne_of_lt (Nat.lt_of_lt_of_le (Heap.lt_size e) I.ok.above))).trans (I.base.keep b o e n hb hx)
    · obtain ⟨sl,e1⟩ := I.base.slot b o e n hb hx
      exact ⟨sl,(hs.2 b (Nat.ne_of_lt (Nat.lt_of_lt_of_le (Heap.lt_size e) I.ok.above))).trans e1⟩
    · obtain ⟨o',e1⟩ := I.base.there b o e hx
      exact ⟨o',(hs.2 b (Nat.ne_of_lt (Nat.lt_of_lt_of_le (Heap.lt_size e) I.ok.above))).trans e1⟩
    · by_cases hj : j = i
      · subst hj
        rw [hi] at e1; cases e1
        rw [List.getElem?_set_self hiσ] at e2
        cases e2
        exact ⟨u,r,.inl ⟨hk,by simp⟩⟩
      · rw [List.getElem?_set_ne (Ne.symm hj)] at e2
        obtain ⟨u',r',q⟩ := hl j y v' e1 e2 e3
        refine ⟨u',r',?_⟩
        rcases q with ⟨k,e⟩ | ⟨k,c,e,z⟩
        · refine .inl ⟨k,?_⟩
          have : y ≠ x := fun e => hj (nodup_ix hN e1 (e ▸ hi))
          simp [this,e]
        · exact .inr ⟨k,c,e,z.sameBut hs (cne y c e)⟩
    · obtain ⟨w',z⟩ := I.cell y c e
      exact ⟨w',z.sameBut hs (cne y c e)⟩
    · obtain ⟨e,n,ne,nf,d⟩ := I.pin p hp
      exact ⟨(hs.2 p.1 ne).trans e,n,ne,nf,d⟩
  · have hfn : X.fn x = true := by
      rcases hf with z | z
      · exact z
      · rw [z] at hk; cases hk
    obtain ⟨c,hc⟩ := I.ok.has x (.inl hk)
    obtain ⟨w',z⟩ := I.cell x c hc
    refine wpAny_storeName_cell I.ok.kind hk hc z (fun h' hc' hs => ?_)
    obtain ⟨oc,hoc,hocd⟩ := id z
    refine h { s with heap := h' } ⟨I.ok,I.os,I.bare,⟨fun b o e n hb hx => ?_,fun b o e n hb hx => ?_,I.base.free,fun b o e hx => ?_,I.base.tups,I.base.frzs,I.base.tbls⟩,⟨m,hn.sameBut hs (Ne.symm (cne x c hc)),fun j y v' e1 e2 e3 => ?_⟩,fun y c' e => ?_,I.free,I.freeC,fun p hp => ?_,tracked ⟨oc,hoc,I.freeC x c hc⟩ hs,by simpa using I.len⟩ ⟨c,hs,.inr hc⟩
    · exact (hs.2 b (Nat.ne_of_lt (Nat.lt_of_lt_of_le (Heap.lt_size e) (I.ok.cab x c hfn hc)))).trans (I.base.keep b o e n hb hx)
    · obtain ⟨sl,e1⟩ := I.base.slot b o e n hb hx
      exact ⟨sl,(hs.2 b (Nat.ne_of_lt (Nat.lt_of_lt_of_le (Heap.lt_size e) (I.ok.cab x c hfn hc)))).trans e1⟩
    · obtain ⟨o',e1⟩ := I.base.there b o e hx
      exact ⟨o',(hs.2 b (Nat.ne_of_lt (Nat.lt_of_lt_of_le (Heap.lt_size e) (I.ok.cab x c hfn hc)))).trans e1⟩
    · by_cases hj : j = i
      · subst hj
        rw [hi] at e1; cases e1
        rw [List.getElem?_set_self hiσ] at e2
        cases e2
        exact ⟨u,r,.inr ⟨.inl hk,c,hc,hc'⟩⟩
      · rw [List.getElem?_set_ne (Ne.symm hj)] at e2
        obtain ⟨u',r',q⟩ := hl j y v' e1 e2 e3
        refine ⟨u',r',?_⟩
        rcases q with q | ⟨k,c',e,z'⟩
        · exact .inl q
        · refine .inr ⟨k,c',e,z'.sameBut hs ?_⟩
          rintro rfl
          exact hj (nodup_ix hN e1 (I.ok.inj _ _ _ e hc ▸ hi))
    · by_cases hcc : c' = c
      · subst hcc; exact ⟨_,hc'⟩
      · obtain ⟨w2,z2⟩ := I.cell y c' e
        exact ⟨w2,z2.sameBut hs hcc⟩
    · obtain ⟨e,n,ne,nf,d⟩ := I.pin p hp
      refine ⟨(hs.2 p.1 ?_).trans e,n,ne,nf,d⟩
      intro q
      rw [q,hoc] at e
      have q' : oc = p.2 := Option.some.inj e
      exact d w' (by rw [← q']; exact hocd)
theorem store_ok {M : Model} {A : Around} {E : Value → Shared → Prop} {i : Nat} {x : Str} {v : V} {u : Value} {Q : Unit → Shared → Prop} (I : Inv X pins σ H s) (hN : X.N.Nodup) (hi : X.N[i]? = some x) (hx : Loc X.env.scope x) (r : RelV v u)
    (h : ∀ s',Inv X pins (σ.set i (some v)) H s' → Q () s') (hf : X.fn x = true ∨ X.env.scope.names.lookup x = some .local := by first | exact .inl rfl | exact .inr rfl | assumption) : wpAny M A (storeName X.env x u) Q E s :=
  store_ok2 I hN hi hx r (fun s' I' _ => h s' I') hf
theorem Inv.call' {s' : Shared} {ch : List Addr} (I : Inv X pins σ H s) (ho : s'.os = s.os) (u : Un (frs X.stack) ch H H' s.heap s'.heap) (hok : HOk X.prog X.w H' s'.heap) (hg : AllBare s'.gens)
    (hch : ∀ b ∈ ch,(b ∈ X.ex ∨ X.s₀.heap.objs.size ≤ b) ∧ b ≠ X.env.locals ∧ (∀ x c,X.env.cells.lookup x = some c → c ≠ b) ∧ ∀ p ∈ X.pn ++ pins,p.1 ≠ b) : Inv X pins σ H' s' := by
  obtain ⟨h',g',d',t',o'⟩ := s'
  have e : o' = s.os := ho
  subst e
  exact I.call (g' := g') (t' := t') (d' := d') u hok hg hch
end
abbrev XK := Value → Option Addr → Hp → Prop
abbrev St := List (Option V)
abbrev VK := V → Hp → Prop
abbrev TE := St → Hp → VK → Prop
abbrev TT := St → Hp → (Bool → Hp → Prop) → Prop
abbrev TA := St → Hp → (List V → Hp → Prop) → Prop
structure Ends where
  nx : St → Hp → Prop
  rt : VK
  bk : St → Hp → Prop := fun _ _ => False
  ct : St → Hp → Prop := fun _ _ => False
abbrev TS := Ends → St → Hp → Prop
def EP (X : Cx) (pins : List (Addr × Obj)) (σ : St) (Q : VK) (u : Value) (s' : Shared) : Prop := ∃ v H',Inv X pins σ H' s' ∧ RelV v u ∧ Q v H'
def TP (X : Cx) (pins : List (Addr × Obj)) (σ : St) (Q : Bool → Hp → Prop) (b : Bool) (s' : Shared) : Prop := ∃ H',Inv X pins σ H' s' ∧ Q b H'
def AP (X : Cx) (pins : List (Addr × Obj)) (σ : St) (Q : List V → Hp → Prop) (us : List Value) (s' : Shared) : Prop := ∃ vs H',Inv X pins σ H' s' ∧ Vals vs us ∧ Q vs H'
def SP (X : Cx) (pins : List (Addr × Obj)) (D : Ends) (f : Flow) (s' : Shared) : Prop :=
  match f with
  | .next => ∃ σ' H',Inv X pins σ' H' s' ∧ D.nx σ' H'
  | .brk => ∃ σ' H',Inv X pins σ' H' s' ∧ D.bk σ' H'
  | .cont => ∃ σ' H',Inv X pins σ' H' s' ∧ D.ct σ' H'
  | .ret u => ∃ v σ' H',Inv X pins σ' H' s' ∧ RelV v u ∧ D.rt v H'
def PE (X : Cx) (e : Expr) (t : TE) : Prop :=
  ∀ (pins : List (Addr × Obj)) (s : Shared) (σ : St) (H : Hp) (Q : VK),Inv X pins σ H s → t σ H Q → wpAny (model X.prog X.w) X.A (eval e X.env) (EP X pins σ Q) X.xe s
def PT (X : Cx) (e : Expr) (t : TT) : Prop :=
  ∀ (pins : List (Addr × Obj)) (s : Shared) (σ : St) (H : Hp) (Q : Bool → Hp → Prop),Inv X pins σ H s → t σ H Q → wpAny (model X.prog X.w) X.A (isTrue e X.env (eval e X.env)) (TP X pins σ Q) X.xe s
def PW (X : Cx) (e : Expr) (t : TT) : Prop :=
  ∀ (whole : Sem Value) (pins : List (Addr × Obj)) (s : Shared) (σ : St) (H : Hp) (Q : Bool → Hp → Prop),Inv X pins σ H s → t σ H Q → wpAny (model X.prog X.w) X.A (isTrue e X.env whole) (TP X pins σ Q) X.xe s
theorem PW.pt {X : Cx} {e : Expr} {t : TT} (h : PW X e t) : PT X e t := h _
def PA (X : Cx) (es : List Expr) (t : TA) : Prop :=
  ∀ (pos : Pos) (pins : List (Addr × Obj)) (s : Shared) (σ : St) (H : Hp) (Q : List V → Hp → Prop),Inv X pins σ H s → t σ H Q → wpAny (model X.prog X.w) X.A (spliced (backTo pos (starEach es X.env))) (AP X pins σ Q) X.xe s
def PS (X : Cx) (st : Stmt) (t : TS) : Prop :=
  ∀ (pins : List (Addr × Obj)) (s : Shared) (σ : St) (H : Hp) (D : Ends),Inv X pins σ H s → t D σ H → wpAny (model X.prog X.w) X.A (exec st X.env) (SP X pins D) X.xe s
def PSs (X : Cx) (st : List Stmt) (t : TS) : Prop :=
  ∀ (pins : List (Addr × Obj)) (s : Shared) (σ : St) (H : Hp) (D : Ends),Inv X pins σ H s → t D σ H → wpAny (model X.prog X.w) X.A (execs st X.env) (SP X pins D) X.xe s
theorem thn {α : Type} {t : Sem α} {Q Q' : α → Shared → Prop} {M : Model} {A : Around} {E : Value → Shared → Prop} {s : Shared} (h : wpAny M A t Q E s) (hQ : ∀ a s,Q a s → Q' a s) : wpAny M A t Q' E s := wpAny_mono h hQ fun _ _ x => x
end L2
namespace L2
open PySem PySem.Spec PyProof.Rows
section
variable {X : Cx}
theorem bin {a b : Expr} {ta tb : TE} (ha : PE X a ta) (hb : PE X b tb) {pins : List (Addr × Obj)} {s : Shared} {σ : St} {H : Hp} {R : V → V → Hp → Prop} (I : Inv X pins σ H s) (h : ta σ H fun x H1 => tb σ H1 fun y H2 => R x y H2)
    {α : Type} {Q : α → Shared → Prop} {f : Value → Value → Sem α}
    (hf : ∀ v u s2 x y H2,Inv X pins σ H2 s2 → RelV x v → RelV y u → R x y H2 → wpAny (model X.prog X.w) X.A (f v u) Q X.xe s2) :
    wpAny (model X.prog X.w) X.A (eval a X.env) (fun v s₁ => wpAny (model X.prog X.w) X.A (eval b X.env) (fun u s₂ => wpAny (model X.prog X.w) X.A (f v u) Q X.xe s₂) X.xe s₁) X.xe s := by
  refine thn (ha pins s σ H _ I h) fun v s1 ⟨x,H1,I1,r1,q1⟩ => ?_
  refine thn (hb pins s1 σ H1 _ I1 q1) fun u s2 ⟨y,H2,I2,r2,q2⟩ => ?_
  exact hf v u s2 x y H2 I2 r1 r2 q2
def tVar (i : Nat) : TE := fun σ H Q => ∃ v,σ[i]? = some (some v) ∧ Q v H
def tC (v : V) : TE := fun _ H Q => Q v H
theorem pe_var {i : Nat} {x : Str} {pos : Pos} (hN : X.N[i]? = some x) (hv : Vis X.env.scope x) (hd : (x == ("__debug__" : Str)) = false := by decide) (hcd : (x == ("__classdict__" : Str)) = false := by decide) : PE X (.Name x pos) (tVar i) := by
  intro pins s σ H Q I h
  obtain ⟨v,e,h⟩ := h
  obtain ⟨m,hn,hl⟩ := I.loc
  obtain ⟨u,r,l⟩ := hl i x v hN e hv
  have fin : EP X pins σ Q u s := ⟨v,H,I,r,h⟩
  rcases l with ⟨hk,hm⟩ | ⟨hk,c,hc,hcell⟩
  · exact wpAny_Name (wpAny_loadName_local I.ok.kind hk hn hm fin) hd
  · rcases hk with hk | hk
    · exact wpAny_Name (wpAny_loadName_cell I.ok.kind hk hc hcell fin) hd
    · exact wpAny_Name (wpAny_loadName_free I.ok.kind hk hc hcell fin hcd) hd
theorem pe_int {i j pos} : PE X (.Constant (.int i) j pos) (tC (.int i)) := fun _ _ _ H _ I h => wpAny_Constant_int ⟨.int i,H,I.tok _,⟨_,rfl⟩,h⟩
theorem pe_bl {b j pos} : PE X (.Constant (.bool b) j pos) (tC (.bl b)) := fun _ _ _ H _ I h => Constant_bool ⟨.bl b,H,I,rfl,h⟩
theorem pe_non {j pos} : PE X (.Constant .none j pos) (tC .non) := fun _ _ _ H _ I h => Constant_none ⟨.non,H,I,rfl,h⟩
theorem pe_str {x j pos} : PE X (.Constant (.str x) j pos) (tC (.str x)) := fun _ _ _ H _ I h => Calls.Constant_str ⟨.str x,H,I.tok _,⟨_,rfl⟩,h⟩
def Gl (X : Cx) (x : Str) : Prop := X.env.kindOf x = some .globalImplicit
theorem ld_glob {E : Value → Shared → Prop} {pins : List (Addr × Obj)} {s : Shared} {σ : St} {H : Hp} {x : Str} {u : Value} {pos : Pos} {Q : Value → Shared → Prop} (I : Inv X pins σ H s) (hg : Gl X x) (hm : X.mg x = some u) (h : Q u s)
    (hd : (x == ("__debug__" : Str)) = false := by decide) : wpAny (model X.prog X.w) X.A (eval (.Name x pos) X.env) Q E s :=
  Calls.Name_function_global I.ok.kind hg (Calls.loadGlobal_global (by rw [I.ok.glob]; exact I.mod.glob.keeps I.bk) hm h) hd
theorem ld_blt {E : Value → Shared → Prop} {pins : List (Addr × Obj)} {s : Shared} {σ : St} {H : Hp} {x : Str} {u : Value} {pos : Pos} {Q : Value → Shared → Prop} (I : Inv X pins σ H s) (hg : Gl X x) (hm : X.mg x = none) (hv : bootBuiltins x = some u) (h : Q u s)
    (hn : x ≠ "__name__" := by decide) (hd : (x == ("__debug__" : Str)) = false := by decide) : wpAny (model X.prog X.w) X.A (eval (.Name x pos) X.env) Q E s := by
  obtain ⟨mb,h1,h2⟩ := I.mod.blt
  exact Calls.Name_function_global I.ok.kind hg (Calls.loadGlobal_builtin (by rw [I.ok.glob]; exact I.mod.glob.keeps I.bk) hm (by rw [I.ok.blt]; exact h1.keeps I.bk) ((h2 x hn).trans hv) h) hd
theorem pe_glob {x : Str} {v : V} {u : Value} {pos : Pos} (hg : Gl X x) (hm : X.mg x = some u) (r : RelV v u) (hd : (x == ("__debug__" : Str)) = false := by decide) : PE X (.Name x pos) (tC v) :=
  fun _ _ _ H _ I h => ld_glob I hg hm ⟨v,H,I,r,h⟩ hd
theorem pe_bltn {x : Str} {v : V} {u : Value} {pos : Pos} (hg : Gl X x) (hm : X.mg x = none) (hv : bootBuiltins x = some u) (r : RelV v u) (hn : x ≠ "__name__" := by decide) (hd : (x == ("__debug__" : Str)) = false := by decide) : PE X (.Name x pos) (tC v) :=
  fun _ _ _ H _ I h => ld_blt I hg hm hv ⟨v,H,I,r,h⟩ hn hd
variable {a b : Expr} {ta tb : TE} {pos : Pos}
def PC (X : Cx) (op : CmpOp) (a b : Expr) (t : TE) : Prop :=
  ∀ (pins : List (Addr × Obj)) (s : Shared) (σ : St) (H : Hp) (Q : VK),Inv X pins σ H s → t σ H Q →
    wpAny (model X.prog X.w) X.A (eval a X.env) (fun v s₁ => wpAny (model X.prog X.w) X.A (eval b X.env) (fun u s₂ => wpAny (model X.prog X.w) X.A (compareOp op v u) (EP X pins σ Q) X.xe s₂) X.xe s₁) X.xe s
def tB (t : TE) : TT := fun σ H Q => t σ H fun x H1 => ∃ c,x = .bl c ∧ Q c H1
theorem pt_cmp {op : CmpOp} {t : TE} (h : PC X op a b t) (h1 : behindInMarks op b = false := by first | exact nobehind _ (by decide) (by decide) | rfl) : PT X (.Compare a [op] [b] pos) (tB t) := by
  intro pins s σ H Q I hw
  refine wpAny_isTrue_Compare1 (thn (h pins s σ H _ I hw) fun v s1 h1 => thn h1 fun u s2 h2 => thn h2 fun c s3 ⟨x,H1,I1,r1,q1⟩ => ?_) h1
  obtain ⟨d,rfl,q⟩ := q1
  cases r1
  exact wpAny_truthy_bool ⟨H1,I1,q⟩
theorem pt_val {e : Expr} {t : TE} (h : PE X e t) (he : ∀ whole,isTrue e X.env whole = (do let v ← whole; standAt e.pos; holding [v] (truthy v)) := by intro _; rfl) : PT X e (tB t) := by
  intro pins s σ H Q I hw
  refine isTrue_plain (thn (h pins s σ H _ I hw) fun v s1 ⟨x,H1,I1,r1,q1⟩ => ?_) (he _)
  obtain ⟨d,rfl,q⟩ := q1
  cases r1
  exact wpAny_truthy_bool ⟨H1,I1,q⟩
variable {tA tB' : TT} {rest : List Expr}
def tAnd (t u : TT) : TT := fun σ H Q => t σ H fun c H1 => if c = true then u σ H1 Q else Q false H1
def tOr (t u : TT) : TT := fun σ H Q => t σ H fun c H1 => if c = true then Q true H1 else u σ H1 Q
def tNot (t : TT) : TT := fun σ H Q => t σ H fun c H1 => Q (!c) H1
theorem pw_and1 (ha : PT X a tA) : PW X (.BoolOp .And [a] pos) tA := by
  intro wh pins s σ H Q I h
  refine isTrue_and (thn (ha pins s σ H Q I h) fun c s1 e => ?_)
  cases c with
  | true => exact isTrue_and_nil e
  | false => exact e
theorem pw_or1 (ha : PT X a tA) : PW X (.BoolOp .Or [a] pos) tA := by
  intro wh pins s σ H Q I h
  refine isTrue_or (thn (ha pins s σ H Q I h) fun c s1 e => ?_)
  cases c with
  | false => exact isTrue_or_nil e
  | true => exact e
theorem pw_and (ha : PT X a tA) (hb : PW X (.BoolOp .And (b :: rest) pos) tB') : PW X (.BoolOp .And (a :: b :: rest) pos) (tAnd tA tB') := by
  intro wh pins s σ H Q I h
  refine isTrue_and (thn (ha pins s σ H _ I h) fun c s1 ⟨H1,I1,q1⟩ => ?_)
  cases c with
  | true => exact hb wh pins s1 σ H1 Q I1 q1
  | false => exact ⟨H1,I1,q1⟩
theorem pw_or (ha : PT X a tA) (hb : PW X (.BoolOp .Or (b :: rest) pos) tB') : PW X (.BoolOp .Or (a :: b :: rest) pos) (tOr tA tB') := by
  intro wh pins s σ H Q I h
  refine isTrue_or (thn (ha pins s σ H _ I h) fun c s1 ⟨H1,I1,q1⟩ => ?_)
  cases c with
  | true => exact ⟨H1,I1,q1⟩
  | false => exact hb wh pins s1 σ H1 Q I1 q1
theorem pt_not (ha : PT X a tA) : PT X (.UnaryOp .Not a pos) (tNot tA) := by
  intro pins s σ H Q I h
  exact isTrue_not (ha pins s σ H (fun c H1 => Q (!c) H1) I h)
def tAndV (ta tb : TE) : TE := fun σ H Q => ta σ H fun x H1 => ∃ c,x = .bl c ∧ if c = true then tb σ H1 Q else Q (.bl false) H1
def tOrV (ta tb : TE) : TE := fun σ H Q => ta σ H fun x H1 => ∃ c,x = .bl c ∧ if c = true then Q (.bl true) H1 else tb σ H1 Q
theorem pe_one {op} {t : TE} (h : PE X a t) : PE X (.BoolOp op [a] pos) t := fun pins s σ H Q I hw => BoolOp_one (h pins s σ H Q I hw)
theorem pe_and (ha : PE X a ta) (hb : PE X (.BoolOp .And (b :: rest) pos) tb) : PE X (.BoolOp .And (a :: b :: rest) pos) (tAndV ta tb) := by
  intro pins s σ H Q I h
  refine BoolOp_and (thn (ha pins s σ H _ I h) fun v s1 ⟨x,H1,I1,r1,q1⟩ => ?_)
  obtain ⟨c,rfl,q1⟩ := q1
  cases r1
  refine wpAny_truthy_bool ?_
  cases c with
  | true => exact hb pins s1 σ H1 Q I1 q1
  | false => exact ⟨.bl false,H1,I1,rfl,q1⟩
theorem pe_or (ha : PE X a ta) (hb : PE X (.BoolOp .Or (b :: rest) pos) tb) : PE X (.BoolOp .Or (a :: b :: rest) pos) (tOrV ta tb) := by
  intro pins s σ H Q I h
  refine BoolOp_or (thn (ha pins s σ H _ I h) fun v s1 ⟨x,H1,I1,r1,q1⟩ => ?_)
  obtain ⟨c,rfl,q1⟩ := q1
  cases r1
  refine wpAny_truthy_bool ?_
  cases c with
  | false => exact hb pins s1 σ H1 Q I1 q1
  | true => exact ⟨.bl true,H1,I1,rfl,q1⟩
def tIf (t : TT) (ta tb : TE) : TE := fun σ H Q => t σ H fun c H1 => if c = true then ta σ H1 Q else tb σ H1 Q
theorem pe_ifExp {c : Expr} (hc : PT X c tA) (ha : PE X a ta) (hb : PE X b tb) : PE X (.IfExp c a b pos) (tIf tA ta tb) := by
  intro pins s σ H Q I h
  refine wpAny_IfExp (thn (hc pins s σ H _ I h) fun d s1 ⟨H1,I1,q1⟩ => ?_)
  cases d with
  | true => exact ha pins s1 σ H1 Q I1 q1
  | false => exact hb pins s1 σ H1 Q I1 q1
end
end L2
namespace L2
open PySem PySem.Spec PyProof.Rows
def SqL (K : PySem.W.Frag) (H : Hp) (a : Addr) (xs : List V) : Prop :=
  Rd H a (.lst xs) ∨
    ∃ (o : Obj) (its : Array Value) (n : Nat),K.lookup a = some o ∧ o.cls = .type "list" ∧ o.dict = none ∧ o.data = .seq its n ∧ its.size ≤ sizeLine ∧ Vals xs its.toList
def SqT (K : PySem.W.Frag) (H : Hp) (a : Addr) (xs : List V) : Prop :=
  Rd H a (.tup xs) ∨
    ∃ (o : Obj) (its : Array Value) (n : Nat),K.lookup a = some o ∧ o.cls = .type "tuple" ∧ o.data = .seq its n ∧ its.size ≤ sizeLine ∧ Vals xs its.toList
def absV : Value → Option V
  | .none => some .non
  | .bool b => some (.bl b)
  | .int i _ => some (.int i)
  | .str x _ => some (.str x)
  | .bytes b _ => some (.byt b)
  | .float b _ => some (.flt b)
  | .ref a => some (.ref a)
  | .type n => some (.ty n)
  | _ => none
theorem RelV.abs {x : V} {u : Value} (r : RelV x u) : absV u = some x := by
  cases x with
  | non => cases r; rfl
  | bl _ => cases r; rfl
  | int _ => obtain ⟨t,rfl⟩ := r; rfl
  | str _ => obtain ⟨t,rfl⟩ := r; rfl
  | byt _ => obtain ⟨t,rfl⟩ := r; rfl
  | flt _ => obtain ⟨t,rfl⟩ := r; rfl
  | ref _ => cases r; rfl
  | ty _ => cases r; rfl
theorem RelV.inj {x y : V} {u : Value} (r : RelV x u) (q : RelV y u) : x = y := Option.some.inj (r.abs.symm.trans q.abs)
theorem Vals.inj : ∀ {xs ys : List V} {us : List Value},Vals xs us → Vals ys us → xs = ys
  | _,_,_,.nil,.nil => rfl
  | _,_,_,.cons r t,.cons r' t' => by rw [r.inj r',Vals.inj t t']
section
variable {X : Cx} {pins : List (Addr × Obj)} {σ : St} {H : Hp} {s : Shared} {a : Addr} {xs ys : List V}
theorem SqL.of {K : PySem.W.Frag} (h : H a = some (.lst xs)) : SqL K H a xs := .inl (.inl h)
theorem SqT.of {K : PySem.W.Frag} (h : H a = some (.tup xs)) : SqT K H a xs := .inl (.inl h)
theorem Inv.list (I : Inv X pins σ H s) (h : SqL X.K H a xs) : ∃ its : List Value,Vals xs its ∧ PlainL s.heap a its.toArray ∧ xs.length ≤ sizeLine := by
  rcases h with h | ⟨o,its,n,hk,hc,hd,hs,hz,r⟩
  · obtain ⟨z,its,n,r,e⟩ := h.ok I.hok
    exact ⟨its,r,⟨_,n,e,rfl,rfl,rfl⟩,z⟩
  · refine ⟨its.toList,r,⟨o,n,I.kIn a o hk,hc,hd,by simpa using hs⟩,?_⟩
    have e := r.length
    simp only [Array.length_toList] at e
    omega
theorem Inv.tuple (I : Inv X pins σ H s) (h : SqT X.K H a xs) : ∃ its : List Value,Vals xs its ∧ IsTup s.heap a its.toArray ∧ xs.length ≤ sizeLine := by
  rcases h with h | ⟨o,its,n,hk,hc,hs,hz,r⟩
  · obtain ⟨z,its,r,p⟩ := h.ok I.hok
    exact ⟨its,r,p,z⟩
  · refine ⟨its.toList,r,⟨o,I.kIn a o hk,hc,n,by simpa using hs⟩,?_⟩
    have e := r.length
    simp only [Array.length_toList] at e
    omega
theorem Inv.list_inj (I : Inv X pins σ H s) (h : SqL X.K H a xs) (h' : SqL X.K H a ys) : xs = ys := by
  obtain ⟨its,r,⟨o,n,e,_,_,d⟩,_⟩ := I.list h
  obtain ⟨its',r',⟨o',n',e',_,_,d'⟩,_⟩ := I.list h'
  rw [e] at e'; cases e'
  rw [d] at d'
  injection d' with d1 _
  have : its = its' := by simpa using congrArg Array.toList d1
  subst this
  exact r.inj r'
theorem Inv.tuple_inj (I : Inv X pins σ H s) (h : SqT X.K H a xs) (h' : SqT X.K H a ys) : xs = ys := by
  obtain ⟨its,r,⟨o,e,_,n,d⟩,_⟩ := I.tuple h
  obtain ⟨its',r',⟨o',e',_,n',d'⟩,_⟩ := I.tuple h'
  rw [e] at e'; cases e'
  rw [d] at d'
  injection d' with d1 _
  have : its = its' := by simpa using congrArg Array.toList d1
  subst this
  exact r.inj r'
end
abbrev Cx.wish (X : Cx) (E : Value → Shared → Prop) : Cx := { X with xe := E }
abbrev Cx.nox (X : Cx) : Cx := X.wish fun _ _ => False
theorem Cx.Ok.wish {X : Cx} (ok : X.Ok) (E : Value → Shared → Prop) : (X.wish E).Ok :=
  ⟨ok.mod,ok.kind,ok.glob,ok.blt,ok.above,ok.inj,ok.has,ok.cab,ok.hd,ok.frames,ok.stk,ok.exf,ok.bs,ok.bsz,ok.noex,ok.exfs,ok.funs,ok.frf⟩
theorem Cx.Ok.unwish {X : Cx} {E : Value → Shared → Prop} (ok : (X.wish E).Ok) : X.Ok :=
  ⟨ok.mod,ok.kind,ok.glob,ok.blt,ok.above,ok.inj,ok.has,ok.cab,ok.hd,ok.frames,ok.stk,ok.exf,ok.bs,ok.bsz,ok.noex,ok.exfs,ok.funs,ok.frf⟩
section
variable {X : Cx} {pins : List (Addr × Obj)} {σ : St} {H : Hp} {s : Shared} {E : Value → Shared → Prop}
theorem Inv.wish (I : Inv X pins σ H s) (E : Value → Shared → Prop) : Inv (X.wish E) pins σ H s := ⟨I.ok.wish E,I.os,I.bare,I.base,I.loc,I.cell,I.free,I.freeC,I.pin,I.hok,I.len⟩
theorem Inv.unwish (I : Inv (X.wish E) pins σ H s) : Inv X pins σ H s := ⟨I.ok.unwish,I.os,I.bare,I.base,I.loc,I.cell,I.free,I.freeC,I.pin,I.hok,I.len⟩
theorem SP.unwish {D : Ends} {f : Flow} {s' : Shared} (h : SP (X.wish E) pins D f s') : SP X pins D f s' := by
  cases f with
  | next => obtain ⟨σ',H',I,q⟩ := h; exact ⟨σ',H',I.unwish,q⟩
  | brk => obtain ⟨σ',H',I,q⟩ := h; exact ⟨σ',H',I.unwish,q⟩
  | cont => obtain ⟨σ',H',I,q⟩ := h; exact ⟨σ',H',I.unwish,q⟩
  | ret u => obtain ⟨v,σ',H',I,r,q⟩ := h; exact ⟨v,σ',H',I.unwish,r,q⟩
theorem PSs.nox {st : List Stmt} {t : TS} (h : PSs X.nox st t) : PSs X st t := fun pins s σ H D I hw =>
  wpAny_mono (h pins s σ H D (I.wish _) hw) (fun _ _ q => q.unwish) fun _ _ z => False.elim z
end
section
variable {X : Cx} {st : Stmt} {rest : List Stmt} {t u : TS} {e : Expr} {te : TE} {pos : Pos}
def tNext : TS := fun D σ H => D.nx σ H
def tSeq (t u : TS) : TS := fun D σ H => t { D with nx := u D } σ H
theorem pss_nil : PSs X [] tNext := fun _ _ σ H _ I h => wpAny_execs_nil ⟨σ,H,I,h⟩
theorem pss_cons (h1 : PS X st t) (h2 : PSs X rest u) : PSs X (st :: rest) (tSeq t u) := by
  intro pins s σ H D I h
  refine wpAny_execs_cons (thn (h1 pins s σ H { D with nx := u D } I h) fun f s1 q => ?_)
  cases f with
  | next =>
    obtain ⟨σ', H', I', q⟩ := q
    exact h2 pins s1 σ' H' D I' q
  | ret v => exact q
  | brk => exact q
  | cont => exact q
theorem pss_one (h1 : PS X st t) : PSs X [st] t := by
  intro pins s σ H D I h
  refine wpAny_execs_cons (thn (h1 pins s σ H D I h) fun f s1 q => ?_)
  cases f with
  | next => exact wpAny_execs_nil q
  | ret v => exact q
  | brk => exact q
  | cont => exact q
theorem Inv.quiet {pins : List (Addr × Obj)} {σ : St} {H : Hp} {s : Shared} (I : Inv X pins σ H s) : interactive X.env = false := by simp [interactive,I.ok.kind]
def tDrop (te : TE) : TS := fun D σ H => te σ H fun _ H1 => D.nx σ H1
theorem ps_expr (he : PE X e te) (hs : swapsWith e none pos.line X.env = pure false := by rfl) : PS X (.Expr e pos) (tDrop te) := by
  intro pins s σ H D I h
  exact wpAny_Expr_any (thn (he pins s σ H _ I h) fun v s1 ⟨x,H1,I1,r1,q1⟩ => ⟨σ,H1,I1,q1⟩) I.quiet hs
def tRet (te : TE) : TS := fun D σ H => te σ H D.rt
theorem ps_ret (he : PE X e te) : PS X (.Return (some e) pos) (tRet te) := by
  intro pins s σ H D I h
  exact wpAny_Return_some (thn (he pins s σ H _ I h) fun v s1 ⟨x,H1,I1,r1,q1⟩ => ⟨x,σ,H1,I1,r1,q1⟩)
def tIfS (c : TT) (t u : TS) : TS := fun D σ H => c σ H fun b H1 => if b = true then t D σ H1 else u D σ H1
theorem ps_if {c : Expr} {a b : List Stmt} {tc : TT} (hc : PT X c tc) (ha : PSs X a t) (hb : PSs X b u) : PS X (.If c a b pos) (tIfS tc t u) := by
  intro pins s σ H D I h
  refine wpAny_If (thn (hc pins s σ H _ I h) fun d s1 ⟨H1,I1,q1⟩ => ?_)
  cases d with
  | true => exact ha pins s1 σ H1 D I1 q1
  | false => exact hb pins s1 σ H1 D I1 q1
def tNever : TS := fun _ _ _ => False
theorem pss_never {sts : List Stmt} : PSs X sts tNever := fun _ _ _ _ _ _ h => h.elim
end
abbrev TG := V → St → Hp → (St → Hp → Prop) → Prop
abbrev TGs := List V → St → Hp → (St → Hp → Prop) → Prop
def PG (X : Cx) (target : Expr) (t : TG) : Prop :=
  ∀ (pins : List (Addr × Obj)) (s : Shared) (σ : St) (H : Hp) (v : V) (u : Value) (Q : St → Hp → Prop),Inv X pins σ H s → RelV v u → t v σ H Q →
    wpAny (model X.prog X.w) X.A (assign target X.env u) (fun _ s' => ∃ σ' H',Inv X pins σ' H' s' ∧ Q σ' H') X.xe s
def PGs (X : Cx) (ts : List Expr) (t : TGs) : Prop :=
  ∀ (pins : List (Addr × Obj)) (s : Shared) (σ : St) (H : Hp) (vs : List V) (us : List Value) (Q : St → Hp → Prop),Inv X pins σ H s → Vals vs us → t vs σ H Q →
    wpAny (model X.prog X.w) X.A (assignInOrder ((assignEach ts X.env).map (·.2)) us) (fun _ s' => ∃ σ' H',Inv X pins σ' H' s' ∧ Q σ' H') X.xe s
section
variable {X : Cx} {pos : Pos}
def gName (i : Nat) : TG := fun v σ H Q => Q (σ.set i (some v)) H
theorem pg_name {i : Nat} {x : Str} (hN : X.N.Nodup) (hi : X.N[i]? = some x) (hx : Loc X.env.scope x) (hf : X.fn x = true ∨ X.env.scope.names.lookup x = some .local := by first | exact .inl rfl | exact .inr rfl | assumption) : PG X (.Name x pos) (gName i) := by
  intro pins s σ H v u Q I r h
  exact wpAny_assign_Name (store_ok I hN hi hx r (fun s' I' => ⟨_,H,I',h⟩) hf)
def gNil : TGs := fun vs σ H Q => vs = [] ∧ Q σ H
def gCons (t : TG) (u : TGs) : TGs := fun vs σ H Q => ∃ v r,vs = v :: r ∧ t v σ H fun σ' H' => u r σ' H' Q
theorem pgs_nil : PGs X [] gNil := by
  intro pins s σ H vs us Q I r h
  obtain ⟨e,h⟩ := h
  subst e
  cases r
  exact assignInOrder_nil ⟨σ,H,I,h⟩
theorem pgs_cons {e : Expr} {es : List Expr} {t : TG} {u : TGs} (h1 : PG X e t) (h2 : PGs X es u)
    (hs : (assignEach (e :: es) X.env).map (·.2) = assign e X.env :: (assignEach es X.env).map (·.2) := by rfl) : PGs X (e :: es) (gCons t u) := by
  intro pins s σ H vs us Q I r h
  obtain ⟨v, vr, e1, h⟩ := h
  subst e1
  cases r with
  | cons r rr =>
    rw [hs]
    refine assignInOrder_cons (thn (h1 pins s σ H _ _ _ I r h) fun _ s1 ⟨σ1, H1, I1, q1⟩ => ?_)
    exact h2 pins s1 σ1 H1 _ _ Q I1 rr q1
def gTup (K : PySem.W.Frag) (n : Nat) (t : TGs) : TG := fun v σ H Q => ∃ a xs,v = .ref a ∧ SqT K H a xs ∧ xs.length = n ∧ t xs σ H Q
theorem pg_tup {es : List Expr} {k : Nat} {t : TGs} {n : Nat} (hc : X.calm = true) (h : PGs X es t)
    (hn : (assignEach es X.env).length = n := by rfl) (hst : (assignEach es X.env).findIdx? (·.1) = none := by rfl) : PG X (.Tuple es k pos) (gTup X.K n t) := by
  intro pins s σ H v u Q I r hw
  obtain ⟨a,xs,e1,hq,hl,hw⟩ := hw
  subst e1
  cases r
  obtain ⟨its,rv,ht,hz⟩ := I.tuple hq
  refine assign_Tuple_tuple (I.ok.hd hc) ht (by simp [hn,← hl,rv.length]) hst fun h' hx => ?_
  have I1 : Inv X pins σ H { s with heap := h' } := I.kept (t' := s.toks) fun b o e => hx b o (Nat.ne_of_lt (Heap.lt_size e)) e
  exact h pins _ σ H xs _ Q I1 (by simpa using rv) hw
def tAsg (te : TE) (g : TG) : TS := fun D σ H => te σ H fun x H1 => g x σ H1 D.nx
theorem ps_set {i : Nat} {x : Str} {e : Expr} {te : TE} {pos' : Pos} (hN : X.N.Nodup) (hi : X.N[i]? = some x) (hx : Loc X.env.scope x) (he : PE X e te) (hs : swapsWith e (some (.Name x pos')) pos.line X.env = pure false := by rfl) (hf : X.fn x = true ∨ X.env.scope.names.lookup x = some .local := by first | exact .inl rfl | exact .inr rfl | assumption) :
    PS X (.Assign [.Name x pos'] e pos) (tAsg te (gName i)) := by
  intro pins s σ H D I h
  refine wpAny_Assign_Name (thn (he pins s σ H _ I h) fun v s1 ⟨y,H1,I1,r1,q1⟩ => ?_) hs
  exact store_ok I1 hN hi hx r1 (fun s2 I2 => ⟨_,H1,I2,q1⟩) hf
end
section
variable {X : Cx} {pos : Pos}
def tWhile (c : TT) (tb : TS) : TS := fun D σ H => ∃ W : Nat → St → Hp → Prop,(∃ m,W m σ H) ∧ ∀ m σ H,W m σ H →
  c σ H fun b H1 => if b = true then ∃ N : St → Hp → Prop,(∀ σ' H',N σ' H' → ∃ m',m' < m ∧ W m' σ' H') ∧ tb { D with nx := N,ct := N,bk := D.nx } σ H1 else D.nx σ H1
theorem ps_while {c : Expr} {body : List Stmt} {tc : TT} {tb : TS} (hp : PassesOwn (model X.prog X.w) X.A X.env X.xe) (hc : PT X c tc) (hb : PSs X body tb) : PS X (.While c body [] pos) (tWhile tc tb) := by
  intro pins s σ H D I h
  obtain ⟨W, ⟨m0, w0⟩, turn⟩ := h
  refine wpAny_While (codeAny_whileLoop (fun n s' => ∃ σ' H', Inv X pins σ' H' s' ∧ W n σ' H') ?_ m0 ⟨σ, H, I, w0⟩)
  rintro n s1 ⟨σ1, H1, I1, w1⟩
  refine wpAny_passesOwn hp (thn (hc pins s1 σ1 H1 _ I1 (turn n σ1 H1 w1)) fun b s2 ⟨H2, I2, q2⟩ => ?_)
  cases b with
  | true =>
    obtain ⟨N, hN, q2⟩ := q2
    rw [if_pos rfl]
    refine wpAny_passesOwn hp (thn (hb pins s2 σ1 H2 _ I2 q2) fun f s3 q3 => ?_)
    cases f with
    | next =>
      obtain ⟨σ3, H3, I3, n3⟩ := q3
      obtain ⟨m', hm, w3⟩ := hN σ3 H3 n3
      exact ⟨m', hm, σ3, H3, I3, w3⟩
    | cont =>
      obtain ⟨σ3, H3, I3, n3⟩ := q3
      obtain ⟨m', hm, w3⟩ := hN σ3 H3 n3
      exact ⟨m', hm, σ3, H3, I3, w3⟩
    | brk => exact q3
    | ret v => exact q3
  | false =>
    rw [if_neg Bool.false_ne_true]
    exact wpAny_execs_nil ⟨σ1, H2, I2, q2⟩
end
structure It where
  go : Nat → Hp → Prop
  yld : Nat → Hp → V → Hp → Prop
  stop : Nat → Hp → Prop
def FpOk (X : Cx) (pins : List (Addr × Obj)) (H : Hp) (b : Addr) : Prop :=
  H b = none ∧ b ≠ X.env.locals ∧ b ∉ X.fs ∧ (b ∈ X.ex ∨ X.s₀.heap.objs.size ≤ b) ∧ (∀ x c,X.env.cells.lookup x = some c → c ≠ b) ∧ ∀ p ∈ X.pn ++ pins,p.1 ≠ b
theorem Inv.fpOk {X : Cx} {pins : List (Addr × Obj)} {σ : St} {H H' : Hp} {s : Shared} {b : Addr} (I : Inv X pins σ H s) (hb : s.heap.objs.size ≤ b) (hn : H' b = none) : FpOk X pins H' b := by
  refine ⟨hn,Nat.ne_of_gt (Nat.lt_of_lt_of_le I.lt hb),I.nofs hb,.inr (Nat.le_trans I.sz hb),fun x c e z => ?_,fun p hp z => ?_⟩
  · obtain ⟨v,q⟩ := I.cell x c e
    exact absurd (Nat.lt_of_lt_of_le q.lt (by rw [z]; exact hb)) (Nat.lt_irrefl _)
  · exact absurd (Nat.lt_of_lt_of_le (Heap.lt_size (I.pin p hp).1) (by rw [z]; exact hb)) (Nat.lt_irrefl _)
structure Turn (P : Program) (w : World) (K : PySem.W.Frag) (tg : Expr) (J : It) (fp : List Addr) (it : Addr) (tn : Nat → Heap → Prop) : Prop where
  mem : it ∈ fp
  obj : ∀ i h,tn i h → ∀ b ∈ fp,∃ o,h.get? b = some o ∧ ∀ v,o.data ≠ .cell v
  keep : ∀ i h h',tn i h → (∀ b ∈ fp,∀ o,h.get? b = some o → h'.get? b = some o) → tn i h'
  item : ∀ (X : Cx),X.prog = P → X.w = w → X.K = K → X.calm = true → ∀ (i : Nat) (pins : List (Addr × Obj)) (s : Shared) (σ : St) (H : Hp) (E : Value → Shared → Prop),Inv X pins σ H s → (∀ b ∈ fp,FpOk X pins H b) → tn i s.heap → J.go i H →
    wpAny (model P w) X.A (pyNext (.ref it)) (fun r s1 => ∃ u,r = some u ∧
      wpAny (model P w) X.A (letOwnedTupleGo tg (.ref it) u) (fun _ s2 => ∃ x H',Inv X pins σ H' s2 ∧ RelV x u ∧ J.yld i H x H' ∧ tn (i + 1) s2.heap ∧ ∀ b ∈ fp,H' b = none) E s1) E s
  done : ∀ (X : Cx),X.prog = P → X.w = w → X.K = K → X.calm = true → ∀ (i : Nat) (pins : List (Addr × Obj)) (s : Shared) (σ : St) (H : Hp) (E : Value → Shared → Prop),Inv X pins σ H s → (∀ b ∈ fp,FpOk X pins H b) → tn i s.heap → J.stop i H →
    wpAny (model P w) X.A (pyNext (.ref it)) (fun r s1 => r = none ∧ Inv X pins σ H s1) E s
  self : ∀ (A : Around) (i : Nat) (s : Shared) (Q : Value → Shared → Prop) (E : Value → Shared → Prop),tn i s.heap → Q (.ref it) s → wpAny (model P w) A (pyIter (.ref it)) Q E s
abbrev TI := St → Hp → (It → Hp → Prop) → Prop
def PIE (X : Cx) (pins : List (Addr × Obj)) (σ : St) (tg : Expr) (R : It → Hp → Prop) (itv : Value) (s2 : Shared) : Prop :=
  ∃ (it : Addr) (fp : List Addr) (tn : Nat → Heap → Prop) (J : It) (H' : Hp),itv = .ref it ∧ Inv X pins σ H' s2 ∧ Turn X.prog X.w X.K tg J fp it tn ∧ tn 0 s2.heap ∧ (∀ b ∈ fp,FpOk X pins H' b) ∧ R J H'
def PI (X : Cx) (tg iter : Expr) (wi : TI) : Prop :=
  ∀ (pins : List (Addr × Obj)) (s : Shared) (σ : St) (H : Hp) (R : It → Hp → Prop),Inv X pins σ H s → wi σ H R →
    wpAny (model X.prog X.w) X.A (eval iter X.env) (fun v s1 => wpAny (model X.prog X.w) X.A (pyIter v) (PIE X pins σ tg R) X.xe s1) X.xe s
theorem go_of {M : Model} {A : Around} {E : Value → Shared → Prop} {s : Shared} {tg : Expr} {it : Addr} {u : Value} {o : Obj} {n : String} {vs : Array Value} {Q : Unit → Shared → Prop} (ho : s.heap.get? it = some o) (hc : o.cls = .type n) (hd : o.data = .fields vs)
    (hn : ["enumerate","zip","dict_itemiterator","dict_reverseitemiterator","odict_iterator","itertools.zip_longest","itertools.pairwise"].contains n = false) (hQ : Q () s) : wpAny M A (letOwnedTupleGo tg (.ref it) u) Q E s := by
  unfold letOwnedTupleGo
  cases tg <;> first
    | exact wpAny_pure hQ
    | (cases u <;> first
        | exact wpAny_pure hQ
        | (refine wpAny_bind (wpAny_load ho ?_)
           rw [hc,hd]
           show wpAny M A (if (["enumerate","zip","dict_itemiterator","dict_reverseitemiterator","odict_iterator","itertools.zip_longest","itertools.pairwise"].contains n && vs[0]? == some (rawInt _)) = true then _ else _) Q E s
           rw [if_neg (by intro h; rw [hn,Bool.false_and] at h; cases h)]
           exact wpAny_pure hQ))
def Itl (K : PySem.W.Frag) (a : Addr) : It :=
  ⟨fun i H => ∃ xs x,SqL K H a xs ∧ xs[i]? = some x,fun i H x H' => H' = H ∧ ∀ xs,SqL K H a xs → xs[i]? = some x,fun i H => ∃ xs,SqL K H a xs ∧ xs.length ≤ i⟩
def Itt (K : PySem.W.Frag) (a : Addr) : It :=
  ⟨fun i H => ∃ xs x,SqT K H a xs ∧ xs[i]? = some x,fun i H x H' => H' = H ∧ ∀ xs,SqT K H a xs → xs[i]? = some x,fun i H => ∃ xs,SqT K H a xs ∧ xs.length ≤ i⟩
def Itr (lo : Int) (n : Nat) : It := ⟨fun i _ => i < n,fun i H x H' => H' = H ∧ x = .int (lo + i),fun i _ => n ≤ i⟩
theorem turn_list {P : Program} {w : World} {K : PySem.W.Frag} {tg : Expr} (a it : Addr) : Turn P w K tg (Itl K a) [it] it (fun i h => h.IsListIter it a i) where
  mem := by simp
  obj := fun i h st b hb => by
    have e : b = it := by simpa using hb
    subst e
    obtain ⟨o,e,c,d⟩ := st
    exact ⟨o,e,fun v z => by rw [d] at z; cases z⟩
  keep := fun i h h' st k => st.at fun o e => k it (by simp) o e
  item := by
    intro X hP hw hK hc i pins s σ H E I hf st hg
    subst hP hw hK
    obtain ⟨xs,x,hq,hx⟩ := hg
    obtain ⟨its,rv,p,hz⟩ := I.list hq
    obtain ⟨u,hu,ru⟩ := rv.get hx
    obtain ⟨f0,f1,f2,f3,f4,f5⟩ := hf it (by simp)
    refine wpAny_pyNext_list_item st p.isList (x := u) (by simpa using hu) fun h' st' sb => ?_
    have I1 : Inv X pins σ H { s with heap := h' } := I.turned (t' := s.toks) (fun b o hb e => (sb.2 b hb).trans e) f0 f1 f3 f4 f5
    obtain ⟨o,e,c,d⟩ := id st'
    exact ⟨u,rfl,go_of (s := { s with heap := h' }) e c d (by decide) ⟨x,H,I1,ru,⟨rfl,fun ys hy => by rw [I.list_inj hy hq]; exact hx⟩,st',fun b hb => (hf b hb).1⟩⟩
  done := by
    intro X hP hw hK hc i pins s σ H E I hf st hg
    subst hP hw hK
    obtain ⟨xs,hq,hx⟩ := hg
    obtain ⟨its,rv,p,hz⟩ := I.list hq
    obtain ⟨f0,f1,f2,f3,f4,f5⟩ := hf it (by simp)
    have hl := rv.length
    exact wpAny_pyNext_list_end (I.ok.hd hc) st p.isList (by simp; omega) fun h' eb => ⟨rfl,I.turned (t' := s.toks) (fun b o hb e => eb b o hb e) f0 f1 f3 f4 f5⟩
  self := fun _ _ _ _ _ st h => wpAny_pyIter_listiter st h
theorem turn_tuple {P : Program} {w : World} {K : PySem.W.Frag} {tg : Expr} (a it : Addr) : Turn P w K tg (Itt K a) [it] it (fun i h => h.IsTupleIter it a i) where
  mem := by simp
  obj := fun i h st b hb => by
    have e : b = it := by simpa using hb
    subst e
    obtain ⟨o,e,c,d⟩ := st
    exact ⟨o,e,fun v z => by rw [d] at z; cases z⟩
  keep := fun i h h' st k => st.at fun o e => k it (by simp) o e
  item := by
    intro X hP hw hK hc i pins s σ H E I hf st hg
    subst hP hw hK
    obtain ⟨xs,x,hq,hx⟩ := hg
    obtain ⟨its,rv,p,hz⟩ := I.tuple hq
    obtain ⟨u,hu,ru⟩ := rv.get hx
    obtain ⟨f0,f1,f2,f3,f4,f5⟩ := hf it (by simp)
    refine wpAny_pyNext_tuple_item st (show s.heap.IsTuple a its.toArray from p) (x := u) (by simpa using hu) fun h' st' sb => ?_
    have I1 : Inv X pins σ H { s with heap := h' } := I.turned (t' := s.toks) (fun b o hb e => (sb.2 b hb).trans e) f0 f1 f3 f4 f5
    obtain ⟨o,e,c,d⟩ := id st'
    exact ⟨u,rfl,go_of (s := { s with heap := h' }) e c d (by decide) ⟨x,H,I1,ru,⟨rfl,fun ys hy => by rw [I.tuple_inj hy hq]; exact hx⟩,st',fun b hb => (hf b hb).1⟩⟩
  done := by
    intro X hP hw hK hc i pins s σ H E I hf st hg
    subst hP hw hK
    obtain ⟨xs,hq,hx⟩ := hg
    obtain ⟨its,rv,p,hz⟩ := I.tuple hq
    obtain ⟨f0,f1,f2,f3,f4,f5⟩ := hf it (by simp)
    have hl := rv.length
    exact wpAny_pyNext_tuple_end (I.ok.hd hc) st (show s.heap.IsTuple a its.toArray from p) (by simp; omega) fun h' eb => ⟨rfl,I.turned (t' := s.toks) (fun b o hb e => eb b o hb e) f0 f1 f3 f4 f5⟩
  self := fun _ _ _ _ _ st h => wpAny_pyIter_tupleiter st h
theorem turn_range {P : Program} {w : World} {K : PySem.W.Frag} {tg : Expr} (it : Addr) (lo : Int) (n : Nat) : Turn P w K tg (Itr lo n) [it] it (fun i h => IsRangeIter h it (lo + (i : Nat) * 1) ((n : Int) - (i : Nat)) 1) where
  mem := by simp
  obj := fun i h st b hb => by
    have e : b = it := by simpa using hb
    subst e
    exact ⟨_,st,fun v z => by
      have z' : Data.fields _ = Data.cell v := z
      cases z'⟩
  keep := fun i h h' st k => k it (by simp) _ st
  item := by
    intro X hP hw hK hc i pins s σ H E I hf st hg
    subst hP hw hK
    obtain ⟨f0,f1,f2,f3,f4,f5⟩ := hf it (by simp)
    have W := Walks.range (prog := X.prog) (w := X.w) (I.ok.hd hc) it lo 1 n
    refine W.item i s _ _ hg st fun v h' tk hv st' kk => ?_
    obtain ⟨t,rfl⟩ := hv
    have I1 : Inv X pins σ H { s with heap := h',toks := tk } := I.turned (fun b o hb e => kk b o (by simpa using hb) e) f0 f1 f3 f4 f5
    refine ⟨_,rfl,go_of (s := { s with heap := h',toks := tk }) (n := "range_iterator") st' rfl rfl (by decide) ⟨.int (lo + i),H,I1,⟨t,?_⟩,⟨rfl,rfl⟩,st',fun b hb => (hf b hb).1⟩⟩
    rw [Int.mul_one]
  done := by
    intro X hP hw hK hc i pins s σ H E I hf st hg
    subst hP hw hK
    obtain ⟨f0,f1,f2,f3,f4,f5⟩ := hf it (by simp)
    exact wpAny_pyNext_range_end (I.ok.hd hc) st (by have : n ≤ i := hg; omega) fun h' eb => ⟨rfl,I.turned (t' := s.toks) (fun b o hb e => eb b o hb e) f0 f1 f3 f4 f5⟩
  self := fun _ _ _ _ _ st h => wpAny_pyIter_rangeiter st h
end L2
namespace L2
open PySem PySem.Spec PyProof.Rows
section
variable {X : Cx} {tg : Expr}
def iList (K : PySem.W.Frag) (tl : TE) : TI := fun σ H R => tl σ H fun x H1 => ∃ a,x = .ref a ∧ (∃ xs,SqL K H1 a xs) ∧ R (Itl K a) H1
def iTup (K : PySem.W.Frag) (tl : TE) : TI := fun σ H R => tl σ H fun x H1 => ∃ a,x = .ref a ∧ (∃ xs,SqT K H1 a xs) ∧ R (Itt K a) H1
theorem pi_list {l : Expr} {tl : TE} (hl : PE X l tl) : PI X tg l (iList X.K tl) := by
  intro pins s σ H R I h
  refine thn (hl pins s σ H _ I h) fun v s1 ⟨x,H1,I1,r1,q1⟩ => ?_
  obtain ⟨a,e,⟨xs,hq⟩,q⟩ := q1
  subst e
  cases r1
  obtain ⟨its,rv,p,hz⟩ := I1.list hq
  refine wpAny_pyIter_list p.isList ?_
  refine ⟨s1.heap.objs.size,[s1.heap.objs.size],_,_,H1,rfl,I1.kept (t' := s1.toks) fun b o e => Heap.get?_push_of_some _ e,turn_list a _,⟨_,Heap.get?_push_size _ rfl,rfl,rfl⟩,fun b hb => ?_,q⟩
  have e : b = s1.heap.objs.size := by simpa using hb
  subst e
  exact I1.fpOk (Nat.le_refl _) (I1.hok.fresh (Nat.le_refl _))
theorem pi_tup {l : Expr} {tl : TE} (hl : PE X l tl) : PI X tg l (iTup X.K tl) := by
  intro pins s σ H R I h
  refine thn (hl pins s σ H _ I h) fun v s1 ⟨x,H1,I1,r1,q1⟩ => ?_
  obtain ⟨a,e,⟨xs,hq⟩,q⟩ := q1
  subst e
  cases r1
  obtain ⟨its,rv,p,hz⟩ := I1.tuple hq
  refine wpAny_pyIter_tuple (show s1.heap.IsTuple a its.toArray from p) ?_
  refine ⟨s1.heap.objs.size,[s1.heap.objs.size],_,_,H1,rfl,I1.kept (t' := s1.toks) fun b o e => Heap.get?_push_of_some _ e,turn_tuple a _,⟨_,Heap.get?_push_size _ rfl,rfl,rfl⟩,fun b hb => ?_,q⟩
  have e : b = s1.heap.objs.size := by simpa using hb
  subst e
  exact I1.fpOk (Nat.le_refl _) (I1.hok.fresh (Nat.le_refl _))
theorem range_it {pins : List (Addr × Obj)} {σ : St} {H : Hp} {s : Shared} {R : It → Hp → Prop} {E : Value → Shared → Prop} {lo hi : Int} {t u v : Tok} {tk : Nat} (I : Inv X pins σ H s) (h1 : -(2 ^ 62) ≤ lo) (h2 : lo < 2 ^ 62) (h3 : -(2 ^ 62) ≤ hi) (h4 : hi < 2 ^ 62)
    (q : R (Itr lo (hi - lo).toNat) H) : wpAny (model X.prog X.w) X.A (pyIter (.ref s.heap.objs.size)) (PIE X pins σ tg R) E { s with heap := s.heap.push { cls := .type "range",data := .fields #[.int lo t,.int hi u,.int 1 v] },toks := tk } := by
  refine wpAny_pyIter_range (IsRange.new ..) (small_one h1 h2 h3 h4) ?_
  have I1 : Inv X pins σ H { s with heap := s.heap.push { cls := .type "range",data := .fields #[.int lo t,.int hi u,.int 1 v] },toks := tk } := I.kept fun b o e => Heap.get?_push_of_some _ e
  refine ⟨(s.heap.push { cls := .type "range",data := .fields #[.int lo t,.int hi u,.int 1 v] }).objs.size,[(s.heap.push { cls := .type "range",data := .fields #[.int lo t,.int hi u,.int 1 v] }).objs.size],_,_,H,rfl,
    I1.kept (t' := tk) fun b o e => Heap.get?_push_of_some _ e,turn_range _ lo (hi - lo).toNat,?_,fun b hb => ?_,q⟩
  · have e1 : lo + ((0 : Nat) : Int) * 1 = lo := by simp
    have e2 : (((hi - lo).toNat : Nat) : Int) - ((0 : Nat) : Int) = Builtin.Range.rangeSize lo hi 1 := by rw [rangeSize_one]; split <;> omega
    show IsRangeIter _ _ (lo + ((0 : Nat) : Int) * 1) ((((hi - lo).toNat : Nat) : Int) - ((0 : Nat) : Int)) 1
    rw [e1,e2]
    exact Heap.get?_push_size _ rfl
  · have e : b = (s.heap.push { cls := .type "range",data := .fields #[.int lo t,.int hi u,.int 1 v] }).objs.size := by simpa using hb
    subst e
    exact I1.fpOk (Nat.le_refl _) (I1.hok.fresh (Nat.le_refl _))
def iRng1 (ta : TA) : TI := fun σ H R => ta σ H fun vs H1 => ∃ j : Int,vs = [.int j] ∧ -(2 ^ 62) ≤ j ∧ j < 2 ^ 62 ∧ R (Itr 0 j.toNat) H1
theorem pi_range1 {a : Expr} {ta : TA} {p pos : Pos} (hg : Gl X "range") (hm : X.mg "range" = none) (ha : PA X [a] ta) (hs : starEach [a] X.env = [(false, eval a X.env)] := by rfl) : PI X tg (.Call (.Name "range" p) [a] [] pos) (iRng1 ta) := by
  intro pins s σ H R I h
  refine Call_ (ld_blt I hg hm boot_range (PyProof.Rows.callWith_type1 (thn (ha pos pins s σ H _ I h) fun us s1 ⟨vs, H1, I1, r1, q1⟩ => ?_) hs rfl))
  obtain ⟨j, e, q1, q2, q⟩ := q1
  subst e
  cases r1 with
  | cons r rr =>
    cases rr
    obtain ⟨t, rfl⟩ := r
    exact call_range_1 (range_it I1 (by omega) (by omega) q1 q2 (by simpa using q))
def tFor (wi : TI) (g : TG) (tb : TS) : TS := fun D σ H => wi σ H fun J H1 => ∃ W : Nat → Nat → St → Hp → Prop,(∃ m,W 0 m σ H1) ∧ ∀ i m σ H,W i m σ H →
  (J.stop i H ∧ D.nx σ H) ∨ (J.go i H ∧ ∃ N : St → Hp → Prop,(∀ σ' H',N σ' H' → ∃ m',m' < m ∧ W (i + 1) m' σ' H') ∧ ∀ x H',J.yld i H x H' → g x σ H' fun σ2 H2 => tb { D with nx := N,ct := N,bk := D.nx } σ2 H2)
def pinsAt (fp : List Addr) (h : Heap) : List (Addr × Obj) := fp.filterMap fun b => (h.get? b).map fun o => (b,o)
theorem mem_pinsAt {fp : List Addr} {h : Heap} {b : Addr} {o : Obj} (hb : b ∈ fp) (e : h.get? b = some o) : (b,o) ∈ pinsAt fp h := List.mem_filterMap.mpr ⟨b,hb,by rw [e]; rfl⟩
theorem of_pinsAt {fp : List Addr} {h : Heap} {p : Addr × Obj} (hp : p ∈ pinsAt fp h) : p.1 ∈ fp ∧ h.get? p.1 = some p.2 := by
  obtain ⟨b, hb, e⟩ := List.mem_filterMap.mp hp
  cases q : h.get? b with
  | none => rw [q] at e; cases e
  | some o =>
    rw [q] at e
    have e' : (b, o) = p := Option.some.inj e
    subst e'
    exact ⟨hb, q⟩
theorem Inv.pinned {pins : List (Addr × Obj)} {σ : St} {H : Hp} {s : Shared} {fp : List Addr} (I : Inv X pins σ H s) (hf : ∀ b ∈ fp,FpOk X pins H b) (ho : ∀ b ∈ fp,∃ o,s.heap.get? b = some o ∧ ∀ v,o.data ≠ .cell v) : Inv X (pins ++ pinsAt fp s.heap) σ H s :=
  I.pins_of fun p hp => (List.mem_append.mp hp).elim (fun z => I.pin p (List.mem_append_right _ z)) fun z => by
    obtain ⟨hb,e⟩ := of_pinsAt z
    obtain ⟨f0,f1,f2,_⟩ := hf p.1 hb
    obtain ⟨o,e',d⟩ := ho p.1 hb
    rw [e] at e'; cases e'
    exact ⟨e,f0,f1,f2,d⟩
theorem Inv.unpinned {pins pl : List (Addr × Obj)} {σ : St} {H : Hp} {s : Shared} (I : Inv X (pins ++ pl) σ H s) : Inv X pins σ H s := I.pins_of fun p hp => I.pin p (List.mem_append_right _ (List.mem_append_left _ hp))
theorem ps_for {iter : Expr} {body : List Stmt} {wi : TI} {g : TG} {tb : TS} {pos : Pos} (hp : PassesOwn (model X.prog X.w) X.A X.env X.xe) (hc : X.calm = true) (hi : PI X tg iter wi) (hg : PG X tg g) (hb : PSs X body tb)
    (hs : ∀ x,foldedSetIterable iter X.env x = pure x := by intro _; rfl) : PS X (.For tg iter body [] pos) (tFor wi g tb) := by
  intro pins s σ H D I h
  refine wpAny_For (thn (hi pins s σ H _ I h) fun v s1 h1 => thn h1 fun itv s2 h2 => ?_) hs
  obtain ⟨it,fp,tn,J,H2,e,I2,T,st2,f2,W,⟨m0,w0⟩,turn⟩ := h2
  subst e
  have stat : ∀ {H' : Hp},(∀ b ∈ fp,H' b = none) → ∀ b ∈ fp,FpOk X pins H' b := fun hn b hb => ⟨hn b hb,(f2 b hb).2⟩
  refine codeAny_forLoop_any (fun n s' => ∃ i σ' H',Inv X pins σ' H' s' ∧ tn i s'.heap ∧ (∀ b ∈ fp,H' b = none) ∧ W i n σ' H') ?_ m0 ⟨0,σ,H2,I2,st2,fun b hb => (f2 b hb).1,w0⟩
  rintro n s3 ⟨i,σ3,H3,I3,st3,fr3,w3⟩
  rcases turn i n σ3 H3 w3 with ⟨stop,qn⟩ | ⟨go,N,hN,step⟩
  · refine wpAny_passesOwn hp (thn (T.done X rfl rfl rfl hc i pins s3 σ3 H3 X.xe I3 (stat fr3) st3 stop) fun r s4 ⟨hr,I4⟩ => ?_)
    subst hr
    exact wpAny_execs_nil ⟨σ3,H3,I4,qn⟩
  · refine wpAny_passesOwn hp (thn (T.item X rfl rfl rfl hc i pins s3 σ3 H3 X.xe I3 (stat fr3) st3 go) fun r s4 ⟨u,hr,h4⟩ => ?_)
    subst hr
    refine wpAny_passesOwn hp (thn h4 fun _ s5 ⟨x,H5,I5,r5,y5,st5,fr5⟩ => ?_)
    have I5' := I5.pinned (stat fr5) (T.obj _ _ st5)
    refine wpAny_passesOwn hp (thn (hg _ s5 σ3 H5 x u _ I5' r5 (step x H5 y5)) fun _ s6 ⟨σ6,H6,I6,q6⟩ => ?_)
    refine wpAny_passesOwn hp (thn (hb _ s6 σ6 H6 _ I6 q6) fun f s7 q7 => ?_)
    have again : ∀ {σ7 : St} {H7 : Hp},Inv X (pins ++ pinsAt fp s5.heap) σ7 H7 s7 → N σ7 H7 → ∃ m,m < n ∧ ∃ i σ' H',Inv X pins σ' H' s7 ∧ tn i s7.heap ∧ (∀ b ∈ fp,H' b = none) ∧ W i m σ' H' := fun {σ7 H7} I7 n7 => by
      obtain ⟨m',hm,w7⟩ := hN σ7 H7 n7
      refine ⟨m',hm,i + 1,σ7,H7,I7.unpinned,T.keep _ _ _ st5 fun b hb o e => (I7.pin (b,o) (List.mem_append_right _ (List.mem_append_right _ (mem_pinsAt hb e)))).1,fun b hb => ?_,w7⟩
      obtain ⟨o,e,d⟩ := T.obj _ _ st5 b hb
      exact (I7.pin (b,o) (List.mem_append_right _ (List.mem_append_right _ (mem_pinsAt hb e)))).2.1
    cases f with
    | next => obtain ⟨σ7,H7,I7,n7⟩ := q7; exact again I7 n7
    | cont => obtain ⟨σ7,H7,I7,n7⟩ := q7; exact again I7 n7
    | brk => obtain ⟨σ7,H7,I7,q7⟩ := q7; exact ⟨σ7,H7,I7.unpinned,q7⟩
    | ret v => obtain ⟨x7,σ7,H7,I7,r7,q7⟩ := q7; exact ⟨x7,σ7,H7,I7.unpinned,r7,q7⟩
end
theorem for_list {K : PySem.W.Frag} {a : Addr} {xs : List V} {g : TG} {tb : TS} {D : Ends} {σ : St} {H : Hp} (Pv : Nat → St → Hp → Prop) (h0 : Pv 0 σ H) (hl : ∀ i σ H,i ≤ xs.length → Pv i σ H → SqL K H a xs)
    (hs : ∀ i x σ H,xs[i]? = some x → Pv i σ H → g x σ H fun σ2 H2 => tb { D with nx := Pv (i + 1),ct := Pv (i + 1),bk := D.nx } σ2 H2) (hd : ∀ σ H,Pv xs.length σ H → D.nx σ H) :
    ∃ W : Nat → Nat → St → Hp → Prop,(∃ m,W 0 m σ H) ∧ ∀ i m σ H,W i m σ H →
      ((Itl K a).stop i H ∧ D.nx σ H) ∨ ((Itl K a).go i H ∧ ∃ N : St → Hp → Prop,(∀ σ' H',N σ' H' → ∃ m',m' < m ∧ W (i + 1) m' σ' H') ∧ ∀ x H',(Itl K a).yld i H x H' → g x σ H' fun σ2 H2 => tb { D with nx := N,ct := N,bk := D.nx } σ2 H2) := by
  refine ⟨fun i m σ H => m = xs.length - i ∧ i ≤ xs.length ∧ Pv i σ H,⟨xs.length,by simp,Nat.zero_le _,h0⟩,?_⟩
  rintro i m σ H ⟨rfl,hi,p⟩
  have q := hl i σ H hi p
  by_cases hlt : i < xs.length
  · refine .inr ⟨⟨xs,xs[i],q,by simp [hlt]⟩,Pv (i + 1),fun σ' H' p' => ⟨xs.length - (i + 1),by omega,rfl,hlt,p'⟩,fun x H' y => ?_⟩
    obtain ⟨e,y⟩ := y
    subst e
    exact hs i x σ _ (y xs q) p
  · have e : i = xs.length := by omega
    subst e
    exact .inl ⟨⟨xs,q,Nat.le_refl _⟩,hd σ H p⟩
end L2
namespace L2
open PySem PySem.Spec PyProof.Rows
abbrev R2 := V → V → Hp → VK → Prop
def OpR (X : Cx) (f : Value → Value → Sem Value) (r : R2) : Prop :=
  ∀ (pins : List (Addr × Obj)) (s : Shared) (σ : St) (H : Hp) (x y : V) (v u : Value) (Q : VK),Inv X pins σ H s → RelV x v → RelV y u → r x y H Q →
    wpAny (model X.prog X.w) X.A (f v u) (EP X pins σ Q) X.xe s
def UnR (X : Cx) (f : Value → Sem Value) (r : V → Hp → VK → Prop) : Prop :=
  ∀ (pins : List (Addr × Obj)) (s : Shared) (σ : St) (H : Hp) (x : V) (v : Value) (Q : VK),Inv X pins σ H s → RelV x v → r x H Q →
    wpAny (model X.prog X.w) X.A (f v) (EP X pins σ Q) X.xe s
def CallR (X : Cx) (f : Value) (r : List V → Hp → VK → Prop) : Prop :=
  ∀ (pins : List (Addr × Obj)) (s : Shared) (σ : St) (H : Hp) (xs : List V) (us : List Value) (Q : VK),Inv X pins σ H s → Vals xs us → r xs H Q →
    wpAny (model X.prog X.w) X.A (call f us) (EP X pins σ Q) X.xe s
def TruR (X : Cx) (r : V → Hp → (Bool → Hp → Prop) → Prop) : Prop :=
  ∀ (pins : List (Addr × Obj)) (s : Shared) (σ : St) (H : Hp) (x : V) (v : Value) (Q : Bool → Hp → Prop),Inv X pins σ H s → RelV x v → r x H Q →
    wpAny (model X.prog X.w) X.A (truthy v) (TP X pins σ Q) X.xe s
def tOp (r : R2) (ta tb : TE) : TE := fun σ H Q => ta σ H fun x H1 => tb σ H1 fun y H2 => r x y H2 Q
def tUn (r : V → Hp → VK → Prop) (ta : TE) : TE := fun σ H Q => ta σ H fun x H1 => r x H1 Q
def rI (C : Int → Int → Prop) (g : Int → Int → V) : R2 := fun x y H Q => ∃ i j,x = .int i ∧ y = .int j ∧ C i j ∧ Q (g i j) H
def rI0 (g : Int → Int → V) : R2 := fun x y H Q => ∃ i j,x = .int i ∧ y = .int j ∧ Q (g i j) H
def rU (g : Int → V) : V → Hp → VK → Prop := fun x H Q => ∃ i,x = .int i ∧ Q (g i) H
section
variable {X : Cx} {a b c : Expr} {ta tb tc : TE} {pos : Pos}
theorem binT (ha : PE X a ta) (hb : PE X b tb) {pins : List (Addr × Obj)} {s : Shared} {σ : St} {H : Hp} {R : V → V → Hp → Prop} (I : Inv X pins σ H s)
    (h : ta σ H fun x H1 => tb σ H1 fun y H2 => R x y H2) {Q : Value → Shared → Prop} {f : Value → Value → Sem Value}
    (hf : ∀ v u s2 x y H2,Inv X pins σ H2 s2 → RelV x v → RelV y u → R x y H2 → wpAny (model X.prog X.w) X.A (f v u) Q X.xe s2) :
    wpAny (model X.prog X.w) X.A (eval a X.env) (fun v s₁ => wpAny (model X.prog X.w) X.A (eval b X.env) (fun u s₂ => wpAny (model X.prog X.w) X.A (f v u) Q X.xe s₂) X.xe s₁) X.xe s := by
  refine thn (ha pins s σ H _ I h) fun v s1 ⟨x,H1,I1,r1,q1⟩ => ?_
  refine thn (hb pins s1 σ H1 _ I1 q1) fun u s2 ⟨y,H2,I2,r2,q2⟩ => ?_
  exact hf v u s2 x y H2 I2 r1 r2 q2
theorem pe_op {op : Operator} {r : R2} (ho : OpR X (binaryOp op) r) (ha : PE X a ta) (hb : PE X b tb) : PE X (.BinOp a op b pos) (tOp r ta tb) := by
  intro pins s σ H Q I h
  exact wpAny_BinOp (binT ha hb I h fun v u s2 x y H2 I2 rx ry q => ho pins s2 σ H2 x y v u Q I2 rx ry q)
theorem pe_un {op : UnaryOp} {r : V → Hp → VK → Prop} (ho : UnR X (unaryOp op) r) (ha : PE X a ta) : PE X (.UnaryOp op a pos) (tUn r ta) := by
  intro pins s σ H Q I h
  exact UnaryOp_ (thn (ha pins s σ H _ I h) fun v s1 ⟨x,H1,I1,r1,q1⟩ => ho pins s1 σ H1 x v Q I1 r1 q1)
theorem opI {f : Value → Value → Sem Value} {C : Int → Int → Prop} {g : Int → Int → Int}
    (rule : ∀ (i j : Int) (t u : Tok) (s : Shared) (Q : Value → Shared → Prop) (E : Value → Shared → Prop),C i j → Q (.int (g i j) s.toks) { s with toks := s.toks + 1 } → wpAny (model X.prog X.w) X.A (f (.int i t) (.int j u)) Q E s) :
    OpR X f (rI C fun i j => .int (g i j)) := by
  intro pins s σ H x y v u Q I rx ry h
  obtain ⟨i,j,rfl,rfl,hc,q⟩ := h
  obtain ⟨t,rfl⟩ := rx
  obtain ⟨t',rfl⟩ := ry
  exact rule i j t t' s _ _ hc ⟨.int (g i j),H,I.tok _,⟨_,rfl⟩,q⟩
theorem opI0 {f : Value → Value → Sem Value} {g : Int → Int → Int}
    (rule : ∀ (i j : Int) (t u : Tok) (s : Shared) (Q : Value → Shared → Prop) (E : Value → Shared → Prop),Q (.int (g i j) s.toks) { s with toks := s.toks + 1 } → wpAny (model X.prog X.w) X.A (f (.int i t) (.int j u)) Q E s) :
    OpR X f (rI0 fun i j => .int (g i j)) := by
  intro pins s σ H x y v u Q I rx ry h
  obtain ⟨i,j,rfl,rfl,q⟩ := h
  obtain ⟨t,rfl⟩ := rx
  obtain ⟨t',rfl⟩ := ry
  exact rule i j t t' s _ _ ⟨.int (g i j),H,I.tok _,⟨_,rfl⟩,q⟩
theorem opB0 {f : Value → Value → Sem Value} {g : Int → Int → Bool}
    (rule : ∀ (i j : Int) (t u : Tok) (s : Shared) (Q : Value → Shared → Prop) (E : Value → Shared → Prop),Q (.bool (g i j)) s → wpAny (model X.prog X.w) X.A (f (.int i t) (.int j u)) Q E s) :
    OpR X f (rI0 fun i j => .bl (g i j)) := by
  intro pins s σ H x y v u Q I rx ry h
  obtain ⟨i,j,rfl,rfl,q⟩ := h
  obtain ⟨t,rfl⟩ := rx
  obtain ⟨t',rfl⟩ := ry
  exact rule i j t t' s _ _ ⟨.bl (g i j),H,I,rfl,q⟩
def CDiv (i j : Int) : Prop := 0 < j ∧ j < 1073741824
def CMul (i j : Int) : Prop := (-(2 ^ 64) < i ∧ i < 2 ^ 64) ∨ (-(2 ^ 64) < j ∧ j < 2 ^ 64)
theorem CMul.ok {i j : Int} (h : CMul i j) : IntMulOk i j := by
  rcases h with ⟨h1,h2⟩ | ⟨h1,h2⟩
  · exact .of_left (intBits_le_64 h1 h2)
  · exact .of_right (intBits_le_64 h1 h2)
theorem op_add : OpR X (binaryOp .Add) (rI0 fun i j => .int (i + j)) := opI0 fun _ _ _ _ _ _ _ q => add_int q
theorem op_sub : OpR X (binaryOp .Sub) (rI0 fun i j => .int (i - j)) := opI0 fun _ _ _ _ _ _ _ q => sub_int q
theorem op_mul : OpR X (binaryOp .Mult) (rI CMul fun i j => .int (i * j)) := opI fun _ _ _ _ _ _ _ hc q => mul_int q hc.ok
theorem op_fdiv : OpR X (binaryOp .FloorDiv) (rI CDiv fun i j => .int (i / j)) := opI fun i j _ _ _ _ _ hc q => by
  have h1 : (0 : Int) < j := hc.1
  have h2 : j < 1073741824 := hc.2
  exact floordiv_int (by omega) (by rw [Int.fdiv_eq_ediv_of_nonneg i (by omega)]; exact q) (.inl (PyProof.noPylong_small (by omega)))
theorem op_mod : OpR X (binaryOp .Mod) (rI (fun _ j => 0 < j) fun i j => .int (i % j)) := opI fun i j _ _ _ _ _ hc q => by
  have h1 : (0 : Int) < j := hc
  exact mod_int' (by omega) (by rw [Int.fmod_eq_emod_of_nonneg i (by omega)]; exact q)
theorem unI {f : Value → Sem Value} {g : Int → Int}
    (rule : ∀ (i : Int) (t : Tok) (s : Shared) (Q : Value → Shared → Prop) (E : Value → Shared → Prop),Q (.int (g i) s.toks) { s with toks := s.toks + 1 } → wpAny (model X.prog X.w) X.A (f (.int i t)) Q E s) :
    UnR X f (rU fun i => .int (g i)) := by
  intro pins s σ H x v Q I rx h
  obtain ⟨i,rfl,q⟩ := h
  obtain ⟨t,rfl⟩ := rx
  exact rule i t s _ _ ⟨.int (g i),H,I.tok _,⟨_,rfl⟩,q⟩
theorem un_neg : UnR X (unaryOp .USub) (rU fun i => .int (-i)) := unI fun _ _ _ _ _ q => neg_int q
end
def scal : V → V → Bool
  | .non,.non => true | .non,.int _ => true | .int _,.non => true | .non,.bl _ => true | .bl _,.non => true | .non,.str _ => true | .str _,.non => true
  | .int _,.int _ => true | .bl _,.bl _ => true | .str _,.str _ => true | .byt _,.byt _ => true
  | .int _,.str _ => true | .str _,.int _ => true | .bl _,.str _ => true | .str _,.bl _ => true
  | _,_ => false
def rEq : R2 := fun x y H Q => scal x y = true ∧ Q (.bl (decide (x = y))) H
def rNe : R2 := fun x y H Q => scal x y = true ∧ Q (.bl (!decide (x = y))) H
theorem dec_int {i j : Int} : decide (V.int i = V.int j) = (i == j) := by
  rw [Bool.eq_iff_iff]
  simp
theorem dec_bl {i j : Bool} : decide (V.bl i = V.bl j) = (i == j) := by
  rw [Bool.eq_iff_iff]
  simp
theorem dec_str {i j : Str} : decide (V.str i = V.str j) = (i == j) := by
  rw [Bool.eq_iff_iff]
  simp
theorem dec_byt {i j : Array UInt8} : decide (V.byt i = V.byt j) = (i.toList == j.toList) := by
  rw [Bool.eq_iff_iff]
  cases i
  cases j
  simp
section
variable {X : Cx} {a b c : Expr} {ta tb tc : TE} {pos : Pos}
theorem fin_bl {pins : List (Addr × Obj)} {σ : St} {H : Hp} {s : Shared} {Q : VK} {k k' : Bool} (I : Inv X pins σ H s) (q : Q (.bl k) H) (e : k = k') : EP X pins σ Q (.bool k') s := by
  subst e
  exact ⟨.bl k,H,I,rfl,q⟩
theorem op_eq : OpR X (compareOp .Eq) rEq := by
  intro pins s σ H x y v u Q I rx ry h
  obtain ⟨hs, q⟩ := h
  cases x with
  | non =>
    cases rx
    cases y with
    | non => cases ry; exact PySem.EqNone.eq_none_none (fin_bl I q (by simp))
    | bl j => cases ry; exact PySem.EqNone.eq_none_bool (fin_bl I q (by simp))
    | int j => obtain ⟨t', rfl⟩ := ry; exact PySem.EqNone.eq_none_int (fin_bl I q (by simp))
    | str j => obtain ⟨t', rfl⟩ := ry; exact PySem.EqNone.eq_none_str (fin_bl I q (by simp))
    | _ => exact absurd (show false = true from hs) Bool.false_ne_true
  | bl i =>
    cases rx
    cases y with
    | non => cases ry; exact PySem.EqNone.eq_bool_none (fin_bl I q (by simp))
    | bl j => cases ry; exact eq_bool (fin_bl I q dec_bl)
    | str j => obtain ⟨t', rfl⟩ := ry; exact PySem.EqMixed.eq_bool_str (fin_bl I q (by simp))
    | _ => exact absurd (show false = true from hs) Bool.false_ne_true
  | int i =>
    obtain ⟨t, rfl⟩ := rx
    cases y with
    | non => cases ry; exact PySem.EqNone.eq_int_none (fin_bl I q (by simp))
    | int j => obtain ⟨t', rfl⟩ := ry; exact eq_int (fin_bl I q dec_int)
    | str j => obtain ⟨t', rfl⟩ := ry; exact PySem.EqMixed.eq_int_str (fin_bl I q (by simp))
    | _ => exact absurd (show false = true from hs) Bool.false_ne_true
  | str i =>
    obtain ⟨t, rfl⟩ := rx
    cases y with
    | non => cases ry; exact PySem.EqNone.eq_str_none (fin_bl I q (by simp))
    | bl j => cases ry; exact PySem.EqMixed.eq_str_bool (fin_bl I q (by simp))
    | int j => obtain ⟨t', rfl⟩ := ry; exact PySem.EqMixed.eq_str_int (fin_bl I q (by simp))
    | str j => obtain ⟨t', rfl⟩ := ry; exact eq_str (fin_bl I q dec_str)
    | _ => exact absurd (show false = true from hs) Bool.false_ne_true
  | byt i =>
    obtain ⟨t, rfl⟩ := rx
    cases y with
    | byt j => obtain ⟨t', rfl⟩ := ry; exact PySem.W.eq_bytes (fin_bl I q dec_byt)
    | _ => exact absurd (show false = true from hs) Bool.false_ne_true
  | _ => cases y <;> exact absurd (show false = true from hs) Bool.false_ne_true
theorem op_ne : OpR X (compareOp .NotEq) rNe := by
  intro pins s σ H x y v u Q I rx ry h
  obtain ⟨hs, q⟩ := h
  cases x with
  | non =>
    cases rx
    cases y with
    | non => cases ry; exact PySem.EqNone.ne_none_none (fin_bl I q (by simp))
    | bl j => cases ry; exact PySem.EqNone.ne_none_bool (fin_bl I q (by simp))
    | int j => obtain ⟨t', rfl⟩ := ry; exact PySem.EqNone.ne_none_int (fin_bl I q (by simp))
    | str j => obtain ⟨t', rfl⟩ := ry; exact PySem.EqNone.ne_none_str (fin_bl I q (by simp))
    | _ => exact absurd (show false = true from hs) Bool.false_ne_true
  | bl i =>
    cases rx
    cases y with
    | non => cases ry; exact PySem.EqNone.ne_bool_none (fin_bl I q (by simp))
    | bl j => cases ry; exact ne_bool (fin_bl I q (congrArg not dec_bl))
    | str j => obtain ⟨t', rfl⟩ := ry; exact PySem.EqMixed.ne_bool_str (fin_bl I q (by simp))
    | _ => exact absurd (show false = true from hs) Bool.false_ne_true
  | int i =>
    obtain ⟨t, rfl⟩ := rx
    cases y with
    | non => cases ry; exact PySem.EqNone.ne_int_none (fin_bl I q (by simp))
    | int j => obtain ⟨t', rfl⟩ := ry; exact ne_int (fin_bl I q (congrArg not dec_int))
    | str j => obtain ⟨t', rfl⟩ := ry; exact PySem.EqMixed.ne_int_str (fin_bl I q (by simp))
    | _ => exact absurd (show false = true from hs) Bool.false_ne_true
  | str i =>
    obtain ⟨t, rfl⟩ := rx
    cases y with
    | non => cases ry; exact PySem.EqNone.ne_str_none (fin_bl I q (by simp))
    | bl j => cases ry; exact PySem.EqMixed.ne_str_bool (fin_bl I q (by simp))
    | int j => obtain ⟨t', rfl⟩ := ry; exact PySem.EqMixed.ne_str_int (fin_bl I q (by simp))
    | str j => obtain ⟨t', rfl⟩ := ry; exact ne_str (fin_bl I q (congrArg not dec_str))
    | _ => exact absurd (show false = true from hs) Bool.false_ne_true
  | byt i =>
    obtain ⟨t, rfl⟩ := rx
    cases y with
    | byt j => obtain ⟨t', rfl⟩ := ry; exact PySem.W.ne_bytes (fin_bl I q (congrArg not dec_byt))
    | _ => exact absurd (show false = true from hs) Bool.false_ne_true
  | _ => cases y <;> exact absurd (show false = true from hs) Bool.false_ne_true
theorem op_lt : OpR X (compareOp .Lt) (rI0 fun i j => .bl (decide (i < j))) := opB0 fun _ _ _ _ _ _ _ q => lt_int q
theorem op_gt : OpR X (compareOp .Gt) (rI0 fun i j => .bl (decide (j < i))) := opB0 fun _ _ _ _ _ _ _ q => gt_int q
theorem op_notN : OpR X (compareOp .IsNot) (fun x y H Q => y = .non ∧ Q (.bl (!decide (x = .non))) H) := by
  intro pins s σ H x y v u Q I rx ry h
  obtain ⟨rfl,q⟩ := h
  cases ry
  refine isnot_none_gen (fin_bl I q ?_)
  cases x <;> first
    | (cases rx; rfl)
    | (obtain ⟨t,rfl⟩ := rx; rfl)
theorem nomark (b : Expr) {op : CmpOp} (h : op ≠ .In := by decide) (h2 : op ≠ .NotIn := by decide) : behindInMarks op b = false := by
  have e1 : (op == CmpOp.In) = false := by cases op <;> first | rfl | exact absurd rfl h
  have e2 : (op == CmpOp.NotIn) = false := by cases op <;> first | rfl | exact absurd rfl h2
  cases b <;> simp [behindInMarks,e1,e2]
theorem pe_cmpR {op : CmpOp} {r : R2} (ho : OpR X (compareOp op) r) (ha : PE X a ta) (hb : PE X b tb) (hm : behindInMarks op b = false) : PE X (.Compare a [op] [b] pos) (tOp r ta tb) := by
  intro pins s σ H Q I h
  exact wpAny_Compare1 (binT ha hb I h fun v u s2 x y H2 I2 rx ry q => ho pins s2 σ H2 x y v u Q I2 rx ry q) hm
def tTest (t : TE) : TT := fun σ H Q => t σ H fun x H' => ∃ k,x = .bl k ∧ Q k H'
theorem pt_cmpR {op : CmpOp} {r : R2} (ho : OpR X (compareOp op) r) (ha : PE X a ta) (hb : PE X b tb) (hm : behindInMarks op b = false) : PT X (.Compare a [op] [b] pos) (tTest (tOp r ta tb)) := by
  intro pins s σ H Q I h
  refine wpAny_isTrue_Compare1 (thn (ha pins s σ H _ I h) fun v s1 ⟨x,H1,I1,r1,q1⟩ => thn (hb pins s1 σ H1 _ I1 q1) fun u s2 ⟨y,H2,I2,r2,q2⟩ =>
    thn (ho pins s2 σ H2 x y v u _ I2 r1 r2 q2) fun c s3 ⟨z,H3,I3,r3,k,e,q3⟩ => ?_) hm
  subst e
  cases r3
  exact wpAny_truthy_bool ⟨H3,I3,q3⟩
def TruV (K : PySem.W.Frag) (x : V) (H : Hp) (k : Bool) : Prop :=
  match x with
  | .non => k = false
  | .bl b => k = b
  | .int i => k = (i != 0)
  | .str y => y.length ≤ sizeLine ∧ k = ((y.length : Int) != 0)
  | .byt y => y.size ≤ sizeLine ∧ k = ((y.size : Int) != 0)
  | .ref p => (∃ xs,SqL K H p xs ∧ k = !xs.isEmpty) ∨ (∃ xs,SqT K H p xs ∧ k = !xs.isEmpty) ∨ ∃ kvs,H p = some (.dK kvs) ∧ k = !kvs.isEmpty
  | _ => False
theorem isEmpty_kv {κ : Type} {kvs : List (κ × V)} {vs : List (κ × Value)} (r : KV kvs vs) : (!vs.isEmpty) = !kvs.isEmpty := by
  cases r <;> rfl
theorem isEmpty_of {xs : List V} {its : List Value} (r : Vals xs its) : (!its.toArray.isEmpty) = !xs.isEmpty := by
  cases r <;> simp
theorem line63 : (sizeLine : Nat) < 2 ^ 63 := by rw [sizeLine_eq]; decide
theorem tru_ok : TruR X (fun x H Q => ∃ k, TruV X.K x H k ∧ Q k H) := by
  intro pins s σ H x v Q I rx h
  obtain ⟨k, e, q⟩ := h
  have hl := line63
  have hs : sizeLine = 16777216 := sizeLine_eq
  cases x with
  | non =>
    cases rx
    have e' : k = false := e
    subst e'
    exact truthy_none ⟨H, I, q⟩
  | bl b =>
    cases rx
    have e' : k = b := e
    subst e'
    exact wpAny_truthy_bool ⟨H, I, q⟩
  | int i =>
    obtain ⟨t, rfl⟩ := rx
    have e' : k = (i != 0) := e
    subst e'
    exact PySem.P.truthy_int ⟨H, I, q⟩
  | str y =>
    obtain ⟨t, rfl⟩ := rx
    obtain ⟨hy, e'⟩ : y.length ≤ sizeLine ∧ k = ((y.length : Int) != 0) := e
    subst e'
    exact PySem.P.truthy_str (by omega) ⟨H, I.tok _, q⟩
  | byt y =>
    obtain ⟨t, rfl⟩ := rx
    obtain ⟨hy, e'⟩ : y.size ≤ sizeLine ∧ k = ((y.size : Int) != 0) := e
    subst e'
    exact PySem.W.truthy_bytes (by omega) ⟨H, I.tok _, q⟩
  | ref p =>
    cases rx
    have e' : (∃ xs, SqL X.K H p xs ∧ k = !xs.isEmpty) ∨ (∃ xs, SqT X.K H p xs ∧ k = !xs.isEmpty) ∨ ∃ kvs, H p = some (.dK kvs) ∧ k = !kvs.isEmpty := e
    rcases e' with ⟨xs, hx, e'⟩ | ⟨xs, hx, e'⟩ | ⟨kvs, hx, e'⟩
    · subst e'
      obtain ⟨its, r, pl, hz⟩ := I.list hx
      have hlen := r.length
      exact wpAny_truthy_list pl.isList (by simp only [List.size_toArray]; omega) ⟨H, I.tok _, by rw [isEmpty_of r]; exact q⟩
    · subst e'
      obtain ⟨its, r, pl, hz⟩ := I.tuple hx
      have hlen := r.length
      exact truthy_tuple pl (by simp only [List.size_toArray]; omega) ⟨H, I.tok _, by rw [isEmpty_of r]; exact q⟩
    · subst e'
      obtain ⟨hz, hS, vs, r, m⟩ : kvs.length ≤ sizeLine ∧ (p == sysModules) = false ∧ ∃ vs, KV kvs vs ∧ s.heap.DictOf (mixKind X.prog X.w) p vs := I.hok p _ hx
      have hlen : kvs.length = vs.length := Paired.length r
      exact wpAny_truthy_dict hS m (by omega) ⟨H, I.tok _, by rw [isEmpty_kv r]; exact q⟩
  | _ => exact (show False from e).elim
theorem pt_truth (ha : PE X a ta) (he : ∀ whole,isTrue a X.env whole = (do let v ← whole; standAt a.pos; holding [v] (truthy v))) :
    PT X a (fun σ H Q => ta σ H fun x H' => ∃ k,TruV X.K x H' k ∧ Q k H') := by
  intro pins s σ H Q I h
  exact isTrue_plain (thn (ha pins s σ H _ I h) fun v s1 ⟨x,H1,I1,r1,q1⟩ => tru_ok pins s1 σ H1 x v Q I1 r1 q1) (he _)
theorem op_add_str : OpR X (binaryOp .Add) (fun x y H Q => ∃ i j,x = .str i ∧ y = .str j ∧ i.length + j.length ≤ sizeLine ∧ Q (.str (i ++ j)) H) := by
  intro pins s σ H x y v u Q I rx ry h
  obtain ⟨i,j,rfl,rfl,hz,q⟩ := h
  obtain ⟨t,rfl⟩ := rx
  obtain ⟨t',rfl⟩ := ry
  exact add_str (fun t' tk => ⟨.str (i ++ j),H,I.tok _,⟨_,rfl⟩,q⟩) hz
theorem vals1 {x : V} {us : List Value} (r : Vals [x] us) : ∃ u,us = [u] ∧ RelV x u := by
  cases r with
  | cons r1 r2 => cases r2; exact ⟨_,rfl,r1⟩
theorem vals2 {x y : V} {us : List Value} (r : Vals [x, y] us) : ∃ u w', us = [u, w'] ∧ RelV x u ∧ RelV y w' := by
  cases r with
  | cons r1 r2 =>
    cases r2 with
    | cons r3 r4 => cases r4; exact ⟨_, _, rfl, r1, r3⟩
theorem call_abs : CallR X (.builtin "abs") (fun xs H Q => ∃ i,xs = [.int i] ∧ Q (.int (if i < 0 then -i else i)) H) := by
  intro pins s σ H xs us Q I r h
  obtain ⟨i,rfl,q⟩ := h
  obtain ⟨u,rfl,t,rfl⟩ := vals1 r
  exact call_abs_int fun u tk => ⟨.int (if i < 0 then -i else i),H,I.tok _,⟨_,rfl⟩,q⟩
theorem call_str_int : CallR X (.type "str") (fun xs H Q => ∃ i,xs = [.int i] ∧ i.natAbs.log2 < 1920 ∧ Q (.str (toString i)) H) := by
  intro pins s σ H xs us Q I r h
  obtain ⟨i,rfl,hz,q⟩ := h
  obtain ⟨u,rfl,t,rfl⟩ := vals1 r
  exact PySem.P.str_of_int hz ⟨.str _,H,I.tok _,⟨_,rfl⟩,q⟩
end
end L2
namespace L2
open PySem PySem.Spec PyProof.Rows
structure ObjM (h : Heap) (x dx C : Addr) (mA : Str → Option Value) : Prop where
  obj : h.get? x = some (PySem.W.instObj C dx)
  ns : h.Ns1 dx mA
  ne : dx ≠ x
theorem lookIn_ns {h : Heap} {dx : Addr} {mA : Str → Option Value} (n : h.Ns1 dx mA) : ∃ od,h.get? dx = some od ∧ ∀ name,PySem.W.lookIn name od = some (mA name) := by
  obtain ⟨o,es,ep,ho,hd,hk,_,hm⟩ := n
  refine ⟨o,ho,fun name => ?_⟩
  have e := hm name
  unfold nsFind findBy at e
  rw [← Array.find?_toList] at e
  unfold PySem.W.lookIn
  rw [hd]
  dsimp only
  split
  · rename_i y q
    rw [q] at e
    exact congrArg some e
  · rename_i q
    rw [q] at e
    have a : es.toList.any (·.refKey) = false := by
      rw [List.any_eq_false]
      intro y hy
      obtain ⟨z,t,hkey⟩ := hk y (Array.mem_toList_iff.mp hy)
      simp [DictEntry.refKey,hkey]
    have a' : ¬ es.toList.any (·.refKey) = true := by rw [a]; exact Bool.false_ne_true
    rw [if_neg a']
    exact congrArg some e
theorem ObjM.look {h : Heap} {x dx C : Addr} {mA : Str → Option Value} (I : ObjM h x dx C mA) : ∃ od,PySem.W.InstAt h x (PySem.W.instObj C dx) C (some od) ∧ ∀ name,PySem.W.lookIn name od = some (mA name) :=
  let ⟨od,ho,hl⟩ := lookIn_ns I.ns
  ⟨od,⟨I.obj,rfl,rfl,ho⟩,hl⟩
section
variable {prog : Program} {w : World} {A : Around} {E : Value → Shared → Prop} {s : Shared} {K : PySem.W.Frag} {x dx C f : Addr} {mA : Str → Option Value} {name : Str} {v : Value}
end
section
variable {P : Program} {w : World} {H H' : Hp} {h h' : Heap} {a C dx : Addr} {fs fs' : List (Str × V)}
theorem ins_get (hok : HOk P w H h) (e : H a = some (.ins C dx fs)) : ∃ mA,ObjM h a dx C mA ∧ (∀ f,RelO (fs.lookup f) (mA f)) ∧ PySem.Within mA (fs.map (·.1)) ∧ fs.length ≤ 1000 ∧ H dx = some (.own a) := by
  obtain ⟨d,z,ne,ob,mA,n,r,q⟩ := (show ObjOk P w H h a (.ins C dx fs) from hok a _ e)
  exact ⟨mA,⟨ob,n,ne⟩,r,q,z,d⟩
end
structure Cls (K : PySem.W.Frag) (C : Addr) : Prop where
  pg : PySem.W.plainGet K C Str.empty = true
  hd : PySem.W.hasDictIn K C = true
  po : PySem.W.plainOver K C = true
  sa : PySem.W.findIn K (.ref C) "__setattr__" = some (some (.builtin "object.__setattr__"))
theorem Cls.get {K : PySem.W.Frag} {C : Addr} (c : Cls K C) (f : Str) : PySem.W.plainGet K C f = true := c.pg
section
variable {X : Cx} {pins : List (Addr × Obj)} {σ : St} {H : Hp} {s : Shared} {a C dx : Addr} {fs : List (Str × V)} {f : Str} {v : V} {A : Around} {E : Value → Shared → Prop}
end
section
variable {X : Cx} {o e value : Expr} {f : Str} {pos pos' tpos : Pos} {ta tv : TE}
end
section
variable {X : Cx} {pins : List (Addr × Obj)} {σ : St} {H : Hp} {s : Shared} {A : Around} {E : Value → Shared → Prop} {Q : Value → Shared → Prop} {c : Value} {b : Bool}
inductive TyOf (K : PySem.W.Frag) (H : Hp) : V → Value → Prop where
  | non : TyOf K H .non (.type "NoneType")
  | bl (x : Bool) : TyOf K H (.bl x) (.type "bool")
  | int (i : Int) : TyOf K H (.int i) (.type "int")
  | str (x : Str) : TyOf K H (.str x) (.type "str")
  | flt (x : UInt64) : TyOf K H (.flt x) (.type "float")
  | lst {a : Addr} {xs : List V} (e : H a = some (.lst xs)) : TyOf K H (.ref a) (.type "list")
  | frz {a : Addr} {o : Obj} {xs : List V} (e : H a = some (.frz o (.lst xs))) : TyOf K H (.ref a) (.type "list")
  | tup {a : Addr} {xs : List V} (e : H a = some (.tup xs)) : TyOf K H (.ref a) (.type "tuple")
  | dK {a : Addr} {kvs : List (Key × V)} (e : H a = some (.dK kvs)) : TyOf K H (.ref a) (.type "dict")
  | dT {a : Addr} {kvs : List (List Key × V)} (e : H a = some (.dT kvs)) : TyOf K H (.ref a) (.type "dict")
  | ins {a C dx : Addr} {fs : List (Str × V)} (e : H a = some (.ins C dx fs)) (cl : Cls K C) (ha : PySem.W.findIn K (.ref C) "__class__" = some (some (.builtin "object.__class__")))
      (hn : PySem.W.specialIn K (.builtin "object.__class__") "__get__" = some (some (.builtin "getset_descriptor.__get__"))) (htk : PySem.W.takesIn K (.builtin "object.__class__") = some true)
      (hm : PySem.W.mroIn K C (.type "object") = some true) : TyOf K H (.ref a) (.ref C)
theorem isinst_ok {x : V} {u t : Value} (I : Inv X pins σ H s) (rx : RelV x u) (ty : TyOf X.K H x t) (e : PySem.W.kitOne X.K t c = some b) (h : ∀ tk, Q (.bool b) { s with toks := tk }) :
    wpAny (model X.prog X.w) A (call (.builtin "isinstance") [u, c]) Q E s := by
  cases ty with
  | non => cases (show u = Value.none from rx); exact PySem.W.kia_one PySem.W.kitx_none I.kIn True.intro e (fun z => nomatch z) h
  | bl y => cases (show u = Value.bool y from rx); exact PySem.W.kia_one PySem.W.kitx_bool I.kIn True.intro e (fun z => nomatch z) h
  | int i => obtain ⟨t, q⟩ := (show ∃ t, u = Value.int i t from rx); cases q; exact PySem.W.kia_one PySem.W.kitx_int I.kIn True.intro e (fun z => nomatch z) h
  | str y => obtain ⟨t, q⟩ := (show ∃ t, u = Value.str y t from rx); cases q; exact PySem.W.kia_one PySem.W.kitx_str I.kIn True.intro e (fun z => nomatch z) h
  | flt y => obtain ⟨t, q⟩ := (show ∃ t, u = Value.float y t from rx); cases q; exact PySem.W.kia_one PySem.W.kitx_float I.kIn True.intro e (fun z => nomatch z) h
  | @lst a xs ea =>
    cases (show u = Value.ref a from rx)
    obtain ⟨_, _, n, _, h1⟩ := (show ObjOk X.prog X.w H s.heap a (.lst xs) from I.hok a _ ea)
    exact PySem.W.kia_one PySem.W.kitx_list I.kIn ⟨_, h1, rfl⟩ e (fun z => nomatch z) h
  | @frz a ob xs ea =>
    cases (show u = Value.ref a from rx)
    obtain ⟨_, _, _, n, _, h1⟩ := (show ObjOk X.prog X.w H s.heap a (.frz ob (.lst xs)) from I.hok a _ ea)
    exact PySem.W.kia_one PySem.W.kitx_list I.kIn ⟨_, h1, rfl⟩ e (fun z => nomatch z) h
  | @tup a xs ea =>
    cases (show u = Value.ref a from rx)
    obtain ⟨_, _, _, p⟩ := (show ObjOk X.prog X.w H s.heap a (.tup xs) from I.hok a _ ea)
    obtain ⟨o, h1, h2, _⟩ := p
    exact PySem.W.kia_one PySem.W.kitx_tuple I.kIn ⟨o, h1, h2⟩ e (fun z => nomatch z) h
  | @dK a kvs ea =>
    cases (show u = Value.ref a from rx)
    obtain ⟨_, _, vs, _, p⟩ := (show ObjOk X.prog X.w H s.heap a (.dK kvs) from I.hok a _ ea)
    obtain ⟨o, es, ep, h1, h2, _⟩ := p
    exact PySem.W.kia_one PySem.W.kitx_dict I.kIn ⟨o, h1, h2.1⟩ e (fun z => nomatch z) h
  | @dT a kvs ea =>
    cases (show u = Value.ref a from rx)
    obtain ⟨_, _, xs, _, o, es, ep, h1, h2, _⟩ := (show ObjOk X.prog X.w H s.heap a (.dT kvs) from I.hok a _ ea)
    exact PySem.W.kia_one PySem.W.kitx_dict I.kIn ⟨o, h1, h2.1⟩ e (fun z => nomatch z) h
  | @ins a C dx fs ea cl ha hn htk hm =>
    cases (show u = Value.ref a from rx)
    obtain ⟨mA, O, _⟩ := ins_get I.hok ea
    obtain ⟨od, J, _⟩ := O.look
    exact PySem.W.kia_one (PySem.W.kitx_own (cl.get _) cl.hd ha hn htk hm) I.kIn J e (fun z => nomatch z) h
end
end L2
namespace L2
open PySem PySem.Spec PyProof.Rows
structure Room (k : Nat) (A : Around) : Prop where
  hd : A.handled = none
  dp : A.depth + 3 * k + 5 < recursionLimit
  un : A.units + 16 * k + 200 < cLine
theorem Room.mono {j k : Nat} {A : Around} (r : Room k A) (h : j ≤ k) : Room j A := ⟨r.hd,by have := r.dp; omega,by have := r.un; omega⟩
theorem Room.deeper {k : Nat} {A : Around} (r : Room (k + 1) A) (env : Env) : Room k (A.deeper env) :=
  ⟨r.hd,by have := r.dp; show A.depth + 1 + 3 * k + 5 < _; omega,by have := r.un; show A.units + 3 + 16 * k + 200 < _; omega⟩
theorem Room.depth {k : Nat} {A : Around} (r : Room k A) : A.depth < recursionLimit := by have := r.dp; omega
def tNil : TA := fun _ H Q => Q [] H
def tCons (ta : TE) (tr : TA) : TA := fun σ H Q => ta σ H fun x H1 => tr σ H1 fun xs H2 => Q (x :: xs) H2
section
variable {X : Cx} {e : Expr} {es : List Expr} {te : TE} {t : TA} {pos : Pos}
theorem pa_nil : PA X [] tNil := fun _ _ _ _ H Q I h => Calls.spliced_nil ⟨[],H,I,.nil,h⟩
theorem pa_cons (ha : PE X e te) (hr : PA X es t) (hs : starEach (e :: es) X.env = (false,eval e X.env) :: starEach es X.env := by rfl) : PA X (e :: es) (tCons te t) := by
  intro pos pins s σ H Q I h
  rw [hs]
  show wpAny _ _ (spliced ((false,eval e X.env) :: backTo pos (starEach es X.env))) _ _ s
  refine Calls.spliced_cons (thn (ha pins s σ H _ I h) fun u s1 ⟨x,H1,I1,r1,q1⟩ => ?_)
  exact thn (hr pos pins s1 σ H1 _ I1 q1) fun us s2 ⟨xs,H2,I2,r2,q2⟩ => ⟨x :: xs,H2,I2,.cons r1 r2,q2⟩
def tTup (t : TA) : TE := fun σ H Q => t σ H fun xs H1 => xs.length ≤ sizeLine ∧ ∀ p,H1 p = none → Q (.ref p) (upd H1 p (.tup xs))
def tLst (t : TA) : TE := fun σ H Q => t σ H fun xs H1 => xs.length ≤ sizeLine ∧ ∀ p,H1 p = none → Q (.ref p) (upd H1 p (.lst xs))
theorem pe_tup {x1} (h : PA X es t) : PE X (.Tuple es x1 pos) (tTup t) := by
  intro pins s σ H Q I hq
  refine wpAny_Tuple_spliced (thn (h pos pins s σ H _ I hq) fun us s1 ⟨xs,H1,I1,r,z,q⟩ => ⟨by rw [← r.length]; exact z,?_⟩)
  have hf : H1 s1.heap.objs.size = none := I1.hok.fresh (Nat.le_refl _)
  refine ⟨.ref s1.heap.objs.size,upd H1 s1.heap.objs.size (.tup xs),I1.laid (t' := s1.toks) (fun b u e => Heap.get?_push_of_some _ e) (Nat.le_refl _) ?_,rfl,q _ hf⟩
  exact ⟨z,us,r,⟨_,Heap.get?_push_size _ rfl,rfl,_,rfl⟩⟩
theorem pe_lst (h : PA X es t) : PE X (.List es pos) (tLst t) := by
  intro pins s σ H Q I hq
  refine wpAny_List_spliced (thn (h pos pins s σ H _ I hq) fun us s1 ⟨xs,H1,I1,r,z,q⟩ => ⟨by rw [← r.length]; exact z,?_⟩)
  have hf : H1 s1.heap.objs.size = none := I1.hok.fresh (Nat.le_refl _)
  refine ⟨.ref s1.heap.objs.size,upd H1 s1.heap.objs.size (.lst xs),I1.laid (t' := s1.toks) (fun b u e => Heap.get?_push_of_some _ e) (Nat.le_refl _) ?_,rfl,q _ hf⟩
  exact ⟨z,us,0,r,Heap.get?_push_size _ rfl⟩
end
abbrev Sp := List V → Hp → VK → XK → Prop
abbrev CXT := List Env → Hp → Shared → XK → Value → Shared → Prop
structure Env0 (P : Program) (w : World) (K : PySem.W.Frag) (mg : Str → Option Value) (base : Heap) (A : Around) (outer : List Env) (s : Shared) (H : Hp) : Prop where
  frames : A.frames = some outer
  mod : Mod K mg base
  bs : ∀ b o,base.get? b = some o → s.heap.get? b = some o ∧ H b = none
  bsz : base.objs.size ≤ s.heap.objs.size
  funs : s.heap.FunFrames base outer
  frf : ∀ b ∈ frs outer,H b = none
  hok : HOk P w H s.heap
  bare : AllBare s.gens
def CE (outer : List Env) (P : Program) (w : World) (H : Hp) (s : Shared) (Q : VK) (u : Value) (s' : Shared) : Prop :=
  ∃ v H',s'.os = s.os ∧ AllBare s'.gens ∧ Un (frs outer) [] H H' s.heap s'.heap ∧ HOk P w H' s'.heap ∧ RelV v u ∧ Q v H'
def CR (CX : CXT) (outer : List Env) (P : Program) (w : World) (H : Hp) (s : Shared) (Q : VK) (E : XK) (r : Result) (s' : Shared) : Prop :=
  match r with
  | .ok (.ret u) => CE outer P w H s Q u s'
  | .ok _ => False
  | .error e => CX outer H s E e s'
structure FnOk (P : Program) (w : World) (K : PySem.W.Frag) (mg : Str → Option Value) (base : Heap) (CX : CXT) (k : Nat) (f : Addr) (fd : FuncData) (ps : List Str) (sp : Sp) : Prop where
  len : ∀ vs H Q E,sp vs H Q E → vs.length = ps.length
  run : ∀ (A : Around) (outer : List Env) (s : Shared) (H : Hp) (args : Args) (us : List Value) (vs : List V) (Q : VK) (E : XK),Room k A → Env0 P w K mg base A outer s H → BindsTo s fd args (ps.zip us) → Vals vs us → sp vs H Q E →
    codeAny (model P w) A (.call (.ref f) args) (CR CX outer P w H s Q E) s
section
variable {X : Cx} {pins : List (Addr × Obj)} {σ : St} {H : Hp} {s s' : Shared}
theorem Inv.env0 (I : Inv X pins σ H s) : Env0 X.prog X.w X.K X.mg X.base X.A X.stack s H :=
  ⟨I.ok.frames,I.ok.mod,I.bs,Nat.le_trans I.ok.bsz I.sz,I.stack,I.stkFree,I.hok,I.bare⟩
theorem Inv.after {Q : VK} {u : Value} (I : Inv X pins σ H s) (h : CE X.stack X.prog X.w H s Q u s') : EP X pins σ Q u s' := by
  obtain ⟨v,H',os,bare,un,hok,r,q⟩ := h
  obtain ⟨hh,g,d,t,os'⟩ := s'
  obtain rfl : os' = s.os := os
  exact ⟨v,H',I.call (h' := hh) (g' := g) (d' := d) (t' := t) (ch := []) un hok bare (fun b z => absurd z (by simp)),r,q⟩
end
def tCall (sp : Sp) (dvs : List V) (E : XK) (t : TA) : TE := fun σ H Q => t σ H fun vs H1 => sp (vs ++ dvs) H1 Q E
def Binds (K : PySem.W.Frag) (fd : FuncData) (ps : List Str) (ds : List Value) : Prop :=
  ∀ (s : Shared) (us : List Value),K.In s.heap → (us ++ ds).length = ps.length → BindsTo s fd ⟨us,[]⟩ (ps.zip (us ++ ds))
theorem Binds.all {K : PySem.W.Frag} {fd : FuncData} {ps : List Str} (h : ∀ us : List Value,us.length = ps.length → bindArgs fd ⟨us,[]⟩ = pure (ps.zip us)) : Binds K fd ps [] := fun s us _ hl => by
  rw [List.append_nil] at hl ⊢
  exact .of_eq (h us hl)
def Passes (CX : CXT) (X : Cx) (E : XK) : Prop := ∀ (pins : List (Addr × Obj)) (σ : St) (H : Hp) (s : Shared) (e : Value) (s' : Shared),Inv X pins σ H s → CX X.stack H s E e s' → X.xe e s'
section
variable {X : Cx} {CX : CXT} {k : Nat} {f C : Addr} {fd : FuncData} {ps : List Str} {sp : Sp} {dvs : List V} {ds : List Value} {E : XK} {x m : Str} {p pos apos : Pos} {e o : Expr} {es : List Expr} {ta : TE} {t : TA}
theorem run_fn {pins : List (Addr × Obj)} {σ : St} {H : Hp} {s : Shared} {Q : VK} {us : List Value} {vs : List V} (F : FnOk X.prog X.w X.K X.mg X.base CX k f fd ps sp) (hr : Room k X.A) (hb : Binds X.K fd ps ds) (hd : Vals dvs ds) (hx : Passes CX X E)
    (I : Inv X pins σ H s) (r : Vals vs us) (h : sp (vs ++ dvs) H Q E) : wpAny (model X.prog X.w) X.A (call (.ref f) us) (EP X pins σ Q) X.xe s := by
  have r2 : Vals (vs ++ dvs) (us ++ ds) := r.append hd
  have hl : (us ++ ds).length = ps.length := by rw [← r2.length]; exact F.len _ _ _ _ h
  refine wpAny_call (codeAny_mono (F.run X.A X.stack s H ⟨us, []⟩ (us ++ ds) (vs ++ dvs) Q E hr I.env0 (hb s us I.kIn hl) r2 h) fun r s' hq => ?_)
  cases r with
  | error e => exact hx pins σ H s e s' I hq
  | ok fl =>
    cases fl with
    | ret u => exact I.after hq
    | next => exact False.elim hq
    | brk => exact False.elim hq
    | cont => exact False.elim hq
theorem pe_call (F : FnOk X.prog X.w X.K X.mg X.base CX k f fd ps sp) (hr : Room k X.A) (hg : Gl X x) (hm : X.mg x = some (.ref f)) (hk : PySem.W.keepIn X.K (.ref f) = true) (hb : Binds X.K fd ps ds) (hd : Vals dvs ds) (hx : Passes CX X E)
    (ha : PA X (e :: es) t) (hdb : (x == ("__debug__" : Str)) = false := by decide) (he : starEach (e :: es) X.env = (false,eval e X.env) :: starEach es X.env := by rfl) (hpl : (backTo pos (starEach es X.env)).any (·.1) = false := by rfl) :
    PE X (.Call (.Name x p) (e :: es) [] pos) (tCall sp dvs E t) := by
  intro pins s σ H Q I h
  refine wpAny_Call_Name_kw (ld_glob I hg hm ?_ hdb)
  refine PySem.W.callWith_K (h₀ := X.base) I.ok.mod.kin hk (thn (ha pos pins s σ H _ I h) fun us s1 ⟨vs,H1,I1,r,q⟩ => ⟨I1.kIn,?_⟩) he hpl
  exact run_fn F hr hb hd hx I1 r q
end
section
variable {X : Cx} {CX : CXT} {k : Nat} {f C : Addr} {fd : FuncData} {ps ks : List Str} {sp : Sp} {E : XK} {x m : Str} {p pos apos kpos : Pos} {e o : Expr} {es : List Expr} {kws : List Keyword} {te ta : TE} {t tk : TA} {nm : Option Str}
variable {g : List Value → List Value → List Value} {gV : List V → List V → List V}
end
structure FnScope (N P : List Str) (sc : Scope) : Prop where
  kind : sc.kind = .function
  co : sc.isCoroutine = false
  gen : sc.isGenerator = false
  nd : N.Nodup
  pre : N.take P.length = P
  par : ∀ x ∈ P,sc.names.lookup x = some .local ∨ sc.names.lookup x = some .cell
  nofree : ∀ y ∈ sc.names,y.2 ≠ .free
theorem bindL_out {kindOf : Str → Option NameKind} {x : Str} : ∀ {binds : List (Str × Value)} {m : Str → Option Value}, (∀ v, (x, v) ∉ binds) → bindL kindOf binds m x = m x
  | [], _, _ => rfl
  | (n, v) :: r, m, h => by
    unfold bindL
    rw [bindL_out fun w hw => h w (List.mem_cons_of_mem _ hw)]
    split
    · have : x ≠ n := by rintro rfl; exact h v List.mem_cons_self
      simp [this]
    · rfl
theorem bindC_out {kindOf : Str → Option NameKind} {x : Str} : ∀ {binds : List (Str × Value)} {m : Str → Option Value}, (∀ v, (x, v) ∉ binds) → bindC kindOf binds m x = m x
  | [], _, _ => rfl
  | (n, v) :: r, m, h => by
    unfold bindC
    rw [bindC_out fun w hw => h w (List.mem_cons_of_mem _ hw)]
    split
    · rfl
    · have : x ≠ n := by rintro rfl; exact h v List.mem_cons_self
      simp [this]
theorem bindL_get {kindOf : Str → Option NameKind} {x : Str} {v : Value} : ∀ {P : List Str} {vs : List Value} {i : Nat} {m : Str → Option Value}, P.Nodup → P[i]? = some x → vs[i]? = some v → kindOf x = some .local →
    bindL kindOf (P.zip vs) m x = some v
  | [], _, _, _, _, h, _, _ => by simp at h
  | _ :: _, [], _, _, _, _, h, _ => by simp at h
  | p :: P, w :: vs, 0, m, nd, h1, h2, hk => by
    simp at h1 h2; subst h1; subst h2
    show bindL kindOf ((p, w) :: P.zip vs) m p = _
    unfold bindL
    rw [bindL_out fun v hv => (List.nodup_cons.mp nd).1 (List.of_mem_zip hv).1, if_pos hk]
    simp
  | p :: P, w :: vs, i + 1, m, nd, h1, h2, hk => by
    show bindL kindOf ((p, w) :: P.zip vs) m x = _
    unfold bindL
    exact bindL_get (i := i) (List.nodup_cons.mp nd).2 (by simpa using h1) (by simpa using h2) hk
theorem bindC_get {kindOf : Str → Option NameKind} {x : Str} {v : Value} : ∀ {P : List Str} {vs : List Value} {i : Nat} {m : Str → Option Value}, P.Nodup → P[i]? = some x → vs[i]? = some v → kindOf x ≠ some .local →
    bindC kindOf (P.zip vs) m x = some v
  | [], _, _, _, _, h, _, _ => by simp at h
  | _ :: _, [], _, _, _, _, h, _ => by simp at h
  | p :: P, w :: vs, 0, m, nd, h1, h2, hk => by
    simp at h1 h2; subst h1; subst h2
    show bindC kindOf ((p, w) :: P.zip vs) m p = _
    unfold bindC
    rw [bindC_out fun v hv => (List.nodup_cons.mp nd).1 (List.of_mem_zip hv).1, if_neg hk]
    simp
  | p :: P, w :: vs, i + 1, m, nd, h1, h2, hk => by
    show bindC kindOf ((p, w) :: P.zip vs) m x = _
    unfold bindC
    exact bindC_get (i := i) (List.nodup_cons.mp nd).2 (by simpa using h1) (by simpa using h2) hk
def start (N : List Str) (vs : List V) : St := vs.map some ++ List.replicate (N.length - vs.length) none
def cxOf (CX : CXT) (P : Program) (w : World) (K : PySem.W.Frag) (mg : Str → Option Value) (base : Heap) (N : List Str) (qual : Str) (scope : Scope) (f : Addr) (cd : Value) (A : Around) (outer : List Env) (s : Shared) (H : Hp) (E : XK) : Cx where
  prog := P
  w := w
  K := K
  mg := mg
  base := base
  A := A.deeper (envOfC qual scope s.heap.objs.size f cd)
  N := N
  s₀ := s
  H₀ := H
  env := envOfC qual scope s.heap.objs.size f cd
  outer := outer
  stack := envOfC qual scope s.heap.objs.size f cd :: outer
  ex := []
  calm := true
  fn := fun _ => true
  pn := []
  xe := fun e s' => wpAny (model P w) (A.deeper (envOfC qual scope s.heap.objs.size f cd)) (leaving (envOfC qual scope s.heap.objs.size f cd) e) (fun _ s'' => CX outer H s E e s'') (fun e' s'' => CX outer H s E e' s'') s'
theorem cell_has {sc : Scope} {n : Nat} {x : Str} (h : sc.names.lookup x = some .cell) : ∃ c,(cellsFrom n sc.names []).lookup x = some c := by
  have q := PySem.W.cellsFrom_some sc.names n [] (.inl h)
  exact Option.isSome_iff_exists.mp q
theorem inv_start {CX : CXT} {P : Program} {w : World} {K : PySem.W.Frag} {mg : Str → Option Value} {base : Heap} {N ps : List Str} {qual : Str} {scope : Scope} {f : Addr} {cd : Value} {A : Around} {outer : List Env} {s s1 : Shared} {H : Hp} {E : XK} {us : List Value} {vs : List V}
    (S : FnScope N ps scope) (hd : A.handled = none) (e0 : Env0 P w K mg base A outer s H) (hl : vs.length = ps.length) (r : Vals vs us)
    (x : InCallC s s.heap.objs.size (bindL (envOfC qual scope s.heap.objs.size f cd).kindOf (ps.zip us) fun _ => none) (cellsFrom (s.heap.objs.size + 1) scope.names []) (bindC (envOfC qual scope s.heap.objs.size f cd).kindOf (ps.zip us) fun _ => none) s1) :
    Inv (cxOf CX P w K mg base N qual scope f cd A outer s H E) [] (start N vs) H s1 := by
  have hpl : ps.length ≤ N.length := by have := congrArg List.length S.pre; rw [List.length_take] at this; omega
  obtain ⟨h1,tk,rfl,hk⟩ := x.done
  have noA : ∀ b : Addr,b ∉ (cxOf CX P w K mg base N qual scope f cd A outer s H E).ex := fun b z => absurd (show b ∈ ([] : List Addr) from z) (by simp)
  refine ⟨⟨e0.mod,S.kind,rfl,rfl,Nat.le_refl _,fun y z c h1 h2 => ?_,fun y hy => ?_,fun y c _ h => ?_,fun _ => hd,Around.frames_deeper e0.frames,.inr ⟨rfl,rfl⟩,fun b z => absurd z (noA b),e0.bs,e0.bsz,fun b _ _ => noA b,fun b z => absurd z (noA b),e0.funs,e0.frf⟩,
    rfl,e0.bare,Un.kept hk,⟨_,x.toInCall.ns,fun i y v h1 h2 h3 => ?_⟩,fun y c h => ⟨_,x.cell y c h⟩,e0.hok.fresh (Nat.le_refl _),fun y c h => ?_,fun p hp => absurd (show p ∈ ([] : List (Addr × Obj)) from hp) (by simp),e0.hok.kept hk,?_⟩
  · exact name_of_addr x.apart (PySem.mem_of_lookup h1) (PySem.mem_of_lookup h2)
  · have hy : scope.names.lookup y = some .cell ∨ scope.names.lookup y = some .free := hy
    rcases hy with hy | hy
    · exact cell_has hy
    · exact absurd rfl (S.nofree _ (PySem.mem_of_lookup hy))
  · exact Nat.le_of_lt (x.above y c (PySem.mem_of_lookup h))
  · have hi : i < vs.length := by
      unfold start at h2
      by_cases hi : i < vs.length
      · exact hi
      · rw [List.getElem?_append_right (by simpa using hi)] at h2
        rw [List.getElem?_replicate] at h2
        split at h2 <;> cases h2
    have ha : vs[i]? = some v := by
      unfold start at h2
      rw [List.getElem?_append_left (by simpa using hi),List.getElem?_map] at h2
      cases e : vs[i]? with
      | none => rw [e] at h2; cases h2
      | some a => rw [e] at h2; cases h2; rfl
    obtain ⟨u,hu,rv⟩ := r.get ha
    have hp : ps[i]? = some y := by
      rw [← S.pre,List.getElem?_take_of_lt (by omega)]; exact h1
    have ndP : ps.Nodup := by rw [← S.pre]; exact S.nd.sublist (List.take_sublist _ _)
    refine ⟨u,rv,?_⟩
    rcases S.par y (List.mem_of_getElem? hp) with k | k
    · exact .inl ⟨k,bindL_get ndP hp hu k⟩
    · obtain ⟨c,e⟩ := cell_has (n := s.heap.objs.size + 1) k
      refine .inr ⟨.inl k,c,e,?_⟩
      have q := x.cell y c e
      rw [bindC_get ndP hp hu (by show scope.names.lookup y ≠ _; rw [k]; decide)] at q
      exact q
  · exact e0.hok.fresh (Nat.le_of_lt (x.above y c (PySem.mem_of_lookup h)))
  · unfold start
    show _ = N.length
    rw [List.length_append,List.length_map,List.length_replicate]
    omega
theorem fn_of {CX : CXT} {P : Program} {w : World} {K : PySem.W.Frag} {mg : Str → Option Value} {base : Heap} {k : Nat} {f : Addr} {name qual : Str} {params : Arguments} {body : List Stmt} {scope : Scope} {dV kV doc pm cdv ct oc : Value} {an od : Option Addr}
    {osl : Array (Option Value)} {N ps : List Str} {sp : Sp} (lk : K.lookup f = some ⟨oc, od, .func (PySem.W.fnOf name qual params body scope dV kV doc pm an cdv ct), osl⟩) (hcd : PySem.W.codeIn K cdv qual = true) (S : FnScope N ps scope)
    (len : ∀ vs H Q E, sp vs H Q E → vs.length = ps.length)
    (hbody : ∀ (A : Around) (outer : List Env) (s : Shared) (H : Hp) (vs : List V) (Q : VK) (E : XK), Room k (A.deeper (envOfC qual scope s.heap.objs.size f cdv)) → sp vs H Q E →
      ∃ t, PSs (cxOf CX P w K mg base N qual scope f cdv A outer s H E) body t ∧ t { nx := fun _ H' => Q .non H', rt := Q } (start N vs) H) :
    FnOk P w K mg base CX (k + 1) f (PySem.W.fnOf name qual params body scope dV kV doc pm an cdv ct) ps sp := by
  refine ⟨len, fun A outer s H args us vs Q E hr e0 hb r hsp => ?_⟩
  have hl := len _ _ _ _ hsp
  have KX : K.In s.heap := e0.mod.kin.keeps fun b o e => (e0.bs b o e).1
  have lim : s.heap.NoLimit := e0.mod.nolimit.keeps fun b o e => (e0.bs b o e).1
  have hkind : ∀ y ∈ ps.zip us, scope.names.lookup y.1 = some .local ∨ (scope.names.lookup y.1 = some .cell ∧ ((cellsFrom (s.heap.objs.size + 1) scope.names []).lookup y.1).isSome = true) := fun ⟨n, v⟩ hy => by
    rcases S.par n (List.of_mem_zip hy).1 with q | q
    · exact .inl q
    · exact .inr ⟨q, PySem.W.cellsFrom_some _ _ _ (.inl q)⟩
  refine codeAny_call_function hr.depth (KX _ _ lk) rfl S.co S.gen rfl (PySem.W.codeRec_of KX hcd) (hb _ _ _ _ ?_)
  refine wpAny_newFunctionEnv_cells S.kind hkind fun env he s1 x => ?_
  subst he
  refine ⟨lim.keeps x.toInCall.keep, codeAny_func ?_⟩
  obtain ⟨t, ht, hq⟩ := hbody A outer s H vs Q E (hr.deeper _) hsp
  have I : Inv (cxOf CX P w K mg base N qual scope f cdv A outer s H E) [] (start N vs) H s1 := inv_start S hr.hd e0 hl r x
  refine wpAny_mono (ht [] s1 (start N vs) H _ I hq) (fun fl s' hs => ?_) fun e s' hs => hs
  have fin : ∀ {σ' : St} {H' : Hp} {v : V} {u : Value}, Inv (cxOf CX P w K mg base N qual scope f cdv A outer s H E) [] σ' H' s' → RelV v u → Q v H' → CE outer P w H s Q u s' :=
    fun {σ' H' v u} J rv q => ⟨v, H', J.os, J.bare, J.base, J.hok, rv, q⟩
  cases fl with
  | ret u =>
    obtain ⟨v, σ', H', J, rv, q⟩ := hs
    exact fin J rv q
  | next =>
    obtain ⟨σ', H', J, q⟩ := hs
    exact fin (v := V.non) (u := Value.none) J rfl q
  | brk =>
    obtain ⟨_, _, _, q⟩ := hs
    exact False.elim q
  | cont =>
    obtain ⟨_, _, _, q⟩ := hs
    exact False.elim q
end L2
namespace L2
open PySem PySem.Spec PyProof.Rows
section
variable {X : Cx} {x : Str} {p pos : Pos} {e : Expr} {es : List Expr} {t : TA} {id T : String} {r : List V → Hp → VK → Prop}
def tCB (r : List V → Hp → VK → Prop) (t : TA) : TE := fun σ H Q => t σ H fun vs H1 => r vs H1 Q
theorem pe_callB (hc : CallR X (.builtin id) r) (hg : Gl X x) (hm : X.mg x = none) (hv : bootBuiltins x = some (.builtin id)) (ha : PA X (e :: es) t) (hn : x ≠ "__name__" := by decide) (hdb : (x == ("__debug__" : Str)) = false := by decide)
    (he : starEach (e :: es) X.env = (false,eval e X.env) :: starEach es X.env := by rfl) (hpl : (backTo pos (starEach es X.env)).any (·.1) = false := by rfl) : PE X (.Call (.Name x p) (e :: es) [] pos) (tCB r t) := by
  intro pins s σ H Q I h
  refine wpAny_Call_Name_kw (ld_blt I hg hm hv ?_ hn hdb)
  exact PyProof.Rows.callWith_builtin1 (thn (ha pos pins s σ H _ I h) fun us s1 ⟨vs,H1,I1,r1,q1⟩ => hc pins s1 σ H1 vs us Q I1 r1 q1) he hpl
theorem pe_callTy (hc : CallR X (.type T) r) (hg : Gl X x) (hm : X.mg x = none) (hv : bootBuiltins x = some (.type T)) (ha : PA X (e :: es) t) (hn : x ≠ "__name__" := by decide) (hdb : (x == ("__debug__" : Str)) = false := by decide)
    (he : starEach (e :: es) X.env = (false,eval e X.env) :: starEach es X.env := by rfl) (hpl : (backTo pos (starEach es X.env)).any (·.1) = false := by rfl) : PE X (.Call (.Name x p) (e :: es) [] pos) (tCB r t) := by
  intro pins s σ H Q I h
  refine wpAny_Call_Name_kw (ld_blt I hg hm hv ?_ hn hdb)
  exact PyProof.Rows.callWith_type1 (thn (ha pos pins s σ H _ I h) fun us s1 ⟨vs,H1,I1,r1,q1⟩ => hc pins s1 σ H1 vs us Q I1 r1 q1) he hpl
end
end L2
namespace HT
open PySem PyProof.Rows
section
open PySem.SeqAt
open PySem.AutoSeq1 (wpAny_loadPart')
open PySem.MeetsSeq PySem.MeetsSeq2 PySem.MeetsSeq3
end
section
variable {prog : Program} {w : World} {A : Around} {E : Value → Shared → Prop} {s : Shared}
theorem cat_tup {t b : Addr} {vs ws : List Value} {Q : Value → Shared → Prop} (ht : IsTup s.heap t vs.toArray) (hb : IsTup s.heap b ws.toArray) (hv : vs ≠ [])
    (h1 : ws = [] → Q (.ref t) s) (h2 : ws ≠ [] → Q (.ref s.heap.objs.size) { s with heap := s.heap.push { cls := .type "tuple",data := .seq (vs ++ ws).toArray } })
    (hsz : vs.length + ws.length ≤ sizeLine) : wpAny (model prog w) A (binaryOp .Add (.ref t) (.ref b)) Q E s := by
  obtain ⟨⟨cls,dd,data,sl⟩,ho,hc,n,hd⟩ := id ht
  obtain ⟨⟨cls2,dd2,data2,sl2⟩,ho2,hc2,n2,hd2⟩ := id hb
  simp only at hc hd hc2 hd2
  subst hc hd hc2 hd2
  have e : vs.toArray ++ ws.toArray = (vs ++ ws).toArray := by simp
  by_cases hw : ws = []
  · exact concat_meets ⟨_,ho,rfl⟩ ⟨_,ho2,rfl⟩ noFill_tuple_add seq_tuple_add PySem.F.slot_tuple_add PySem.F.entry_tuple_add (PySem.F.args_tuple_add_2 _ _)
      (tuple_addW1 t b vs.toArray ws.toArray n n2 dd dd2 sl sl2 (by simpa using hv) (by simp [hw])) ⟨ho,ho2,h1 hw⟩
  · refine concat_meets ⟨_,ho,rfl⟩ ⟨_,ho2,rfl⟩ noFill_tuple_add seq_tuple_add PySem.F.slot_tuple_add PySem.F.entry_tuple_add (PySem.F.args_tuple_add_2 _ _)
      (tuple_addW2 t b vs.toArray ws.toArray n n2 dd dd2 sl sl2 (by simpa using hv) (by simpa using hw) (by rw [List.size_toArray,List.size_toArray]; exact hsz)) ⟨ho,ho2,?_⟩
    rw [e]
    exact h2 hw
def sIx (n d : Nat) : Option Int → Nat
  | none => d
  | some v => if v < 0 then (v + (n : Int)).toNat else min v.toNat n
theorem sIx_le (n d : Nat) (hd : d ≤ n) (o : Option Int) : sIx n d o ≤ n := by
  cases o with
  | none => exact hd
  | some v =>
    show (if v < 0 then (v + (n : Int)).toNat else min v.toNat n) ≤ n
    by_cases hv : v < 0
    · rw [if_pos hv]; omega
    · rw [if_neg hv]; exact Nat.min_le_right _ _
theorem clip_eq (v : Int) (n d : Nat) : (if v < 0 then max (v + (n : Int)) 0 else min v (n : Int)) = ((sIx n d (some v) : Nat) : Int) := by
  show (if v < 0 then max (v + (n : Int)) 0 else min v (n : Int)) = (((if v < 0 then (v + (n : Int)).toNat else min v.toNat n) : Nat) : Int)
  by_cases hv : v < 0
  · simp only [if_pos hv]; omega
  · simp only [if_neg hv]; omega
theorem adjust_gen (lo hi : Option Int) (n : Nat) : Builtin.Slice.sliceAdjust lo hi 1 (n : Int) = (((sIx n 0 lo : Nat) : Int),((sIx n n hi : Nat) : Int)) := by
  have h1 : ¬ ((1 : Int) < 0) := by omega
  unfold Builtin.Slice.sliceAdjust
  simp only [h1,if_false]
  refine Prod.ext ?_ ?_
  · cases lo with
    | none => rfl
    | some v => exact clip_eq v n 0
  · cases hi with
    | none => rfl
    | some v => exact clip_eq v n n
theorem places_gen (i j : Nat) : Builtin.Slice.slicePlaces (i : Int) (j : Int) 1 = j - i := by
  unfold Builtin.Slice.slicePlaces
  have h1 : (1 : Int) > 0 := by omega
  simp only [h1,if_true,Int.ediv_one]
  split <;> omega
theorem slicePart_ {v : Value} {o : Option Int} {Q : Option Int → Shared → Prop} (p : IsPart v o) (h : Q o s) : wpAny (model prog w) A (Builtin.Slice.slicePartIndex v) Q E s := by
  cases p with
  | none => exact slicePart_none h
  | int i t => exact slicePart_int h
theorem sliceApplied_gen {sl : Addr} {vl vu : Value} {lo hi : Option Int} {n : Nat} {Q : Int × Int × Nat → Shared → Prop} (hs : s.heap.IsSliceOf sl vl vu .none) (pl : IsPart vl lo) (pu : IsPart vu hi)
    (h : Q (((sIx n 0 lo : Nat) : Int),1,sIx n n hi - sIx n 0 lo) s) : wpAny (model prog w) A (Builtin.Slice.sliceApplied (.ref sl) (pure (n : Int))) Q E s := by
  obtain ⟨os,hos,hcs,hds⟩ := id hs
  unfold Builtin.Slice.sliceApplied Builtin.Slice.sliceFields
  refine wpAny_bind (wpAny_bind (wpAny_field hos hds (x := vl) rfl (wpAny_bind (wpAny_field hos hds (x := vu) rfl (wpAny_bind (wpAny_field hos hds (x := .none) rfl (wpAny_pure ?_)))))))
  refine wpAny_bind (slicePart_none ?_)
  show wpAny _ _ (if ((1 : Int) == 0) = true then _ else _) _ _ s
  rw [if_neg (by decide)]
  refine wpAny_bind (slicePart_ pl (wpAny_bind (slicePart_ pu (wpAny_bind (wpAny_pure ?_)))))
  show wpAny _ _ (match Builtin.Slice.sliceAdjust lo hi 1 (n : Int) with | (lo,hi) => pure (lo,(1 : Int),Builtin.Slice.slicePlaces lo hi 1)) _ _ s
  rw [adjust_gen lo hi n]
  show wpAny _ _ (pure (((sIx n 0 lo : Nat) : Int),(1 : Int),Builtin.Slice.slicePlaces ((sIx n 0 lo : Nat) : Int) ((sIx n n hi : Nat) : Int) 1)) _ _ s
  rw [places_gen]
  exact wpAny_pure h
theorem pick_gen (xs : Array Value) (i k : Nat) : ((List.range k).filterMap fun (m : Nat) => xs[((i : Int) + (m : Int) * 1).toNat]?).toArray = ((xs.toList.drop i).take k).toArray := by
  have e : (fun (m : Nat) => xs[((i : Int) + (m : Int) * 1).toNat]?) = fun m => xs[i + m]? := by
    funext m
    have : ((i : Int) + (m : Int) * 1).toNat = i + m := by omega
    rw [this]
  rw [e]
  have := pick_run xs i k
  rw [List.filterMap_map] at this
  have e2 : ((fun x => xs[x]?) ∘ fun x => i + x) = fun m => xs[i + m]? := rfl
  rw [e2] at this
  rw [this]
theorem getItem_tuple_cut {t sl : Addr} {items : Array Value} {vl vu : Value} {lo hi : Option Int} {Q : Value → Shared → Prop} (ht : IsTup s.heap t items) (hs : s.heap.IsSliceOf sl vl vu .none) (pl : IsPart vl lo) (pu : IsPart vu hi)
    (hw : ¬ (sIx items.size 0 lo = 0 ∧ sIx items.size items.size hi = items.size))
    (h : Q (.ref s.heap.objs.size) { s with heap := s.heap.push { cls := .type "tuple",data := .seq ((items.toList.drop (sIx items.size 0 lo)).take (sIx items.size items.size hi - sIx items.size 0 lo)).toArray } })
    (hsz : items.size ≤ sizeLine) : wpAny (model prog w) A (getItem (.ref t) (.ref sl)) Q E s := by
  have htake : sizeOk (.seq ((items.toList.drop (sIx items.size 0 lo)).take (sIx items.size items.size hi - sIx items.size 0 lo)).toArray) := by
    show ((items.toList.drop (sIx items.size 0 lo)).take (sIx items.size items.size hi - sIx items.size 0 lo)).toArray.size ≤ sizeLine
    rw [List.size_toArray,List.length_take,List.length_drop,Array.length_toList]
    omega
  have hj : sIx items.size items.size hi ≤ items.size := sIx_le _ _ (Nat.le_refl _) hi
  obtain ⟨os,hos,hcs,hds⟩ := id hs
  have hTs : s.TypeIs (.ref sl) "slice" := ⟨os,hos,hcs⟩
  unfold getItem
  try with_reducible refine wpAny_holding ?_
  first | refine wpAny_bind (wpAny_pure ?_) | skip
  refine wpAny_bind (wpAny_sequenceKey ht.typeIs (by decide) ?_)
  refine wpAny_bind (wpAny_callSpecial?_slot (name := Str.ofString "__getitem__") ht.typeIs PyProof.Rows.slot_tuple_getitem
    (wpAny_call_entry PyProof.Rows.slot_tuple_getitem ht.typeIs entry_tuple_getitem ?_ (args_tuple_getitem _ _)))
  show wpAny _ _ (Builtin.Tuple.tupleItemsOf (.ref t) >>= _) _ _ s
  refine wpAny_bind (tupleItemsOf_ ht ?_)
  refine wpAny_bind (wpAny_typeOf hTs ?_)
  rw [if_pos (by decide)]
  refine wpAny_bind (sliceApplied_gen hs pl pu ?_)
  have hno : ¬ ((((sIx items.size 0 lo : Nat) : Int) == 0 && (1 : Int) == 1 && (sIx items.size items.size hi - sIx items.size 0 lo) == items.size) = true) := by
    intro q
    rw [Bool.and_eq_true,Bool.and_eq_true] at q
    have q1 : ((sIx items.size 0 lo : Nat) : Int) = 0 := eq_of_beq q.1.1
    have q2 : sIx items.size items.size hi - sIx items.size 0 lo = items.size := eq_of_beq q.2
    exact hw ⟨by omega,by omega⟩
  show wpAny _ _ (if (((sIx items.size 0 lo : Nat) : Int) == 0 && (1 : Int) == 1 && (sIx items.size items.size hi - sIx items.size 0 lo) == items.size) = true then _ else _) _ _ s
  rw [if_neg hno,pick_gen]
  first
    | exact wpAny_bind (m := Builtin.Tuple.tupleExact _) (wpAny_newObj_type (wpAny_pure ⟨_,rfl,wpAny_pure h⟩) htake)
    | exact wpAny_bind (m := Builtin.Tuple.tupleExact _) (wpAny_newObj_type (wpAny_bind (wpAny_pure (wpAny_pure ⟨_,rfl,wpAny_pure h⟩))) htake)
    | exact wpAny_bind (wpAny_bind (m := Builtin.Tuple.tupleExact _) (wpAny_newObj_type (wpAny_pure (wpAny_pure ⟨_,rfl,wpAny_pure h⟩)) htake))
    | exact wpAny_bind (wpAny_bind (m := Builtin.Tuple.tupleExact _) (wpAny_newObj_type (wpAny_pure ⟨_,rfl,wpAny_pure h⟩) htake))
end
end HT
namespace L2
open PySem PySem.Spec PyProof.Rows
abbrev TO := St → Hp → (Option Int → Hp → Prop) → Prop
def PO (X : Cx) (e : Option Expr) (t : TO) : Prop :=
  ∀ (pins : List (Addr × Obj)) (s : Shared) (σ : St) (H : Hp) (Q : Option Int → Hp → Prop),Inv X pins σ H s → t σ H Q →
    wpAny (model X.prog X.w) X.A (evalPart e X.env) (fun u s' => ∃ o H',Inv X pins σ H' s' ∧ IsPart u o ∧ Q o H') X.xe s
def tNoPart : TO := fun _ H Q => Q none H
def tPart (t : TE) : TO := fun σ H Q => t σ H fun x H1 => ∃ i,x = .int i ∧ Q (some i) H1
section
variable {X : Cx} {e : Expr} {te : TE} {lo hi : Option Expr} {tl th : TO} {pos p2 : Pos}
theorem po_none : PO X none tNoPart := by
  intro pins s σ H Q I h
  rw [evalPart_none]
  exact wpAny_pure ⟨none,H,I,.none,h⟩
theorem po_some (h : PE X e te) : PO X (some e) (tPart te) := by
  intro pins s σ H Q I hw
  rw [evalPart_some]
  refine thn (h pins s σ H _ I hw) fun u s1 ⟨x,H1,I1,r1,q1⟩ => ?_
  obtain ⟨i,rfl,q⟩ := q1
  obtain ⟨t,rfl⟩ := r1
  exact ⟨some i,H1,I1,.int i t,q⟩
def SlR (X : Cx) (r : V → Option Int → Option Int → Hp → VK → Prop) : Prop :=
  ∀ (pins : List (Addr × Obj)) (s : Shared) (σ : St) (H : Hp) (x : V) (v vl vu : Value) (lo hi : Option Int) (sl : Addr) (Q : VK),Inv X pins σ H s → RelV x v → s.heap.IsSliceOf sl vl vu .none → IsPart vl lo → IsPart vu hi → r x lo hi H Q →
    ∃ T id,typeLookup (.type T) "__getitem__" = pure (some (.builtin id)) ∧ s.TypeIs v T ∧ wpAny (model X.prog X.w) X.A (getItem v (.ref sl)) (EP X pins σ Q) X.xe s
def tSl (r : V → Option Int → Option Int → Hp → VK → Prop) (te : TE) (tl th : TO) : TE := fun σ H Q => te σ H fun x H1 => tl σ H1 fun l H2 => th σ H2 fun u H3 => r x l u H3 Q
theorem pe_slice {r : V → Option Int → Option Int → Hp → VK → Prop} (hr : SlR X r) (he : PE X e te) (hl : PO X lo tl) (hu : PO X hi th) : PE X (.Subscript e (.Slice lo hi none p2) pos) (tSl r te tl th) := by
  intro pins s σ H Q I h
  refine Subscript_ (thn (he pins s σ H _ I h) fun v s1 ⟨x,H1,I1,r1,q1⟩ => ?_)
  refine wpAny_Slice (thn (hl pins s1 σ H1 _ I1 q1) fun vl s2 ⟨l,H2,I2,pl,q2⟩ => thn (hu pins s2 σ H2 _ I2 q2) fun vu s3 ⟨u,H3,I3,pu,q3⟩ => ?_)
  rw [evalPart_none]
  refine wpAny_pure ?_
  have I4 : Inv X pins σ H3 { s3 with heap := s3.heap.push { cls := .type "slice",data := .fields #[vl,vu,.none] } } := I3.kept (t' := s3.toks) fun b ob q => Heap.get?_push_of_some _ q
  obtain ⟨T,id,hT,ht,hg⟩ := hr pins { s3 with heap := s3.heap.push { cls := .type "slice",data := .fields #[vl,vu,.none] } } σ H3 x v vl vu l u s3.heap.objs.size Q I4 r1 (Heap.IsSliceOf.new ..) pl pu q3
  show wpAny (model X.prog X.w) X.A (subscriptTail e (.Slice lo hi none p2) v (.ref s3.heap.objs.size)) (EP X pins σ Q) X.xe { s3 with heap := s3.heap.push { cls := .type "slice",data := .fields #[vl,vu,.none] } }
  exact tail_any (ops := [.ref s3.heap.objs.size,v]) ht hT hg (by with_unfolding_all rfl)
def cutV (xs : List V) (lo hi : Option Int) : List V := (xs.drop (HT.sIx xs.length 0 lo)).take (HT.sIx xs.length xs.length hi - HT.sIx xs.length 0 lo)
theorem cutV_length (xs : List V) (lo hi : Option Int) : (cutV xs lo hi).length ≤ xs.length := by
  unfold cutV
  rw [List.length_take,List.length_drop]
  omega
def rSlT (K : PySem.W.Frag) : V → Option Int → Option Int → Hp → VK → Prop := fun x lo hi H Q => ∃ a xs,x = .ref a ∧ SqT K H a xs ∧
  ¬ (HT.sIx xs.length 0 lo = 0 ∧ HT.sIx xs.length xs.length hi = xs.length) ∧ ∀ p,H p = none → Q (.ref p) (upd H p (.tup (cutV xs lo hi)))
theorem sl_tup : SlR X (rSlT X.K) := by
  intro pins s σ H x v vl vu lo hi sl Q I rx hs pl pu h
  obtain ⟨a,xs,rfl,hx,hw,q⟩ := h
  cases rx
  obtain ⟨its,r,ht,hz⟩ := I.tuple hx
  have hlen : its.toArray.size = xs.length := by rw [List.size_toArray]; exact r.length.symm
  refine ⟨"tuple",_,PyProof.Rows.slot_tuple_getitem.lookup,ht.typeIs,?_⟩
  refine HT.getItem_tuple_cut ht hs pl pu (by rw [hlen]; exact hw) ?_ (by rw [hlen]; exact hz)
  rw [hlen]
  refine ⟨.ref s.heap.objs.size,_,I.laid (t' := s.toks) (o := .tup (cutV xs lo hi)) (fun b ob q => Heap.get?_push_of_some _ q) (Nat.le_refl _) ?_,rfl,q _ (I.hok.fresh (Nat.le_refl _))⟩
  exact ⟨Nat.le_trans (cutV_length xs lo hi) hz,_,(r.drop (HT.sIx xs.length 0 lo)).take (HT.sIx xs.length xs.length hi - HT.sIx xs.length 0 lo),IsTup.new _ _⟩
def rCatT (K : PySem.W.Frag) : R2 := fun x y H Q => ∃ a b xs ys,x = .ref a ∧ y = .ref b ∧ SqT K H a xs ∧ SqT K H b ys ∧ xs ≠ [] ∧ xs.length + ys.length ≤ sizeLine ∧
  (ys = [] → Q (.ref a) H) ∧ (ys ≠ [] → ∀ p,H p = none → Q (.ref p) (upd H p (.tup (xs ++ ys))))
theorem Vals.nil_iff {xs : List V} {us : List Value} (r : Vals xs us) : us = [] ↔ xs = [] := by
  cases r with
  | nil => simp
  | cons _ _ => simp
theorem op_catT : OpR X (binaryOp .Add) (rCatT X.K) := by
  intro pins s σ H x y v u Q I rx ry h
  obtain ⟨a,b,xs,ys,rfl,rfl,ha,hb,hx,hz,q1,q2⟩ := h
  cases rx
  cases ry
  obtain ⟨its,r1,p1,_⟩ := I.tuple ha
  obtain ⟨its2,r2,p2,_⟩ := I.tuple hb
  refine HT.cat_tup p1 p2 (fun z => hx (r1.nil_iff.mp z)) (fun z => ⟨.ref a,H,I,rfl,q1 (r2.nil_iff.mp z)⟩) (fun z => ?_) (by rw [← r1.length,← r2.length]; exact hz)
  refine ⟨.ref s.heap.objs.size,_,I.laid (t' := s.toks) (o := .tup (xs ++ ys)) (fun b ob q => Heap.get?_push_of_some _ q) (Nat.le_refl _) ?_,rfl,q2 (fun w => z (r2.nil_iff.mpr w)) _ (I.hok.fresh (Nat.le_refl _))⟩
  exact ⟨by rw [List.length_append]; exact hz,_,r1.append r2,IsTup.new _ _⟩
end
end L2
namespace L2
open PySem PySem.Spec PyProof.Rows
def ixN (n : Nat) (i : Int) : Option Nat := if 0 ≤ i then (if i < n then some i.toNat else none) else if -(n : Int) ≤ i then some (i + n).toNat else none
def atI {α : Type} (xs : List α) (i : Int) : Option α := (ixN xs.length i).bind fun j => xs[j]?
theorem ixN_seq {n : Nat} {i : Int} {j : Nat} (h : ixN n i = some j) : seqIndex? i n = some j ∧ j < n ∧ -(n : Int) ≤ i ∧ i < n := by
  unfold ixN at h
  by_cases h0 : 0 ≤ i
  · rw [if_pos h0] at h
    by_cases h1 : i < n
    · rw [if_pos h1] at h
      have e : i.toNat = j := Option.some.inj h
      exact ⟨by rw [seqIndex_of h0 h1,e],by omega,by omega,h1⟩
    · rw [if_neg h1] at h; cases h
  · rw [if_neg h0] at h
    by_cases h1 : -(n : Int) ≤ i
    · rw [if_pos h1] at h
      have e : (i + n).toNat = j := Option.some.inj h
      exact ⟨by rw [seqIndex_neg (by omega) h1,e],by omega,h1,by omega⟩
    · rw [if_neg h1] at h; cases h
theorem atI_get {α : Type} {xs : List α} {i : Int} {v : α} (h : atI xs i = some v) : ∃ j, seqIndex? i xs.length = some j ∧ xs[j]? = some v ∧ j < xs.length ∧ -(xs.length : Int) ≤ i ∧ i < xs.length := by
  unfold atI at h
  cases e : ixN xs.length i with
  | none => rw [e] at h; cases h
  | some j =>
    rw [e] at h
    obtain ⟨h1, h2, h3, h4⟩ := ixN_seq e
    exact ⟨j, h1, h, h2, h3, h4⟩
theorem atI_nat {α : Type} {xs : List α} {j : Nat} {v : α} (h : xs[j]? = some v) : atI xs (j : Int) = some v := by
  have hj : j < xs.length := (List.getElem?_eq_some_iff.mp h).1
  have e : ixN xs.length (j : Int) = some j := by
    unfold ixN
    rw [if_pos (by omega),if_pos (by omega)]; simp
  unfold atI; rw [e]; exact h
theorem atI_last {α : Type} (xs : List α) (v : α) : atI (xs ++ [v]) (-1) = some v := by
  have hl : (xs ++ [v]).length = xs.length + 1 := by simp
  have e : ixN (xs ++ [v]).length (-1) = some xs.length := by
    unfold ixN
    rw [hl,if_neg (by decide),if_pos (by omega)]
    congr 1
    omega
  unfold atI
  rw [e]
  show (xs ++ [v])[xs.length]? = some v
  simp
def PlainIx (b : Expr) : Prop := ∀ o i,subscripted b false o i = operate [o,i] (getItem o i)
def IxR (X : Cx) (r : R2) : Prop :=
  ∀ (value slice : Expr) (pins : List (Addr × Obj)) (s : Shared) (σ : St) (H : Hp) (x y : V) (v u : Value) (Q : VK),Inv X pins σ H s → RelV x v → RelV y u → r x y H Q →
    subscripted slice false v u = operate [v,u] (getItem v u) → wpAny (model X.prog X.w) X.A (subscriptTail value slice v u) (EP X pins σ Q) X.xe s
def MtR (X : Cx) (id : String) (r : V → List V → Hp → VK → Prop) : Prop :=
  ∀ (pins : List (Addr × Obj)) (s : Shared) (σ : St) (H : Hp) (x : V) (xs : List V) (v : Value) (us : List Value) (Q : VK),Inv X pins σ H s → RelV x v → Vals xs us → r x xs H Q →
    wpAny (model X.prog X.w) X.A (call (.builtin id) (v :: us)) (EP X pins σ Q) X.xe s
section
variable {X : Cx} {a b : Expr} {ta tb : TE} {pos : Pos}
theorem pe_ix {r : R2} (hr : IxR X r) (ha : PE X a ta) (hb : PE X b tb) (hs : PlainIx b) : PE X (.Subscript a b pos) (tOp r ta tb) := by
  intro pins s σ H Q I h
  exact Subscript_ (binT ha hb I h fun v u s2 x y H2 I2 rx ry q => hr a b pins s2 σ H2 x y v u Q I2 rx ry q (hs _ _))
def rIxL (K : PySem.W.Frag) : R2 := fun x y H Q => ∃ p xs i v,x = .ref p ∧ y = .int i ∧ SqL K H p xs ∧ atI xs i = some v ∧ Q v H
def rIxT (K : PySem.W.Frag) : R2 := fun x y H Q => ∃ p xs i v,x = .ref p ∧ y = .int i ∧ SqT K H p xs ∧ atI xs i = some v ∧ Q v H
def rIxS : R2 := fun x y H Q => ∃ z i c,x = .str z ∧ y = .int i ∧ z.length ≤ sizeLine ∧ atI z.cps.toList i = some c ∧ Q (.str ⟨#[c]⟩) H
theorem ix_list : IxR X (rIxL X.K) := by
  intro value slice pins s σ H x y v u Q I rx ry h hs
  obtain ⟨p,xs,i,z,rfl,rfl,hq,he,q⟩ := h
  cases rx
  obtain ⟨t,rfl⟩ := ry
  obtain ⟨its,r,pl,hz⟩ := I.list hq
  obtain ⟨j,h1,h2,h3,h4,h5⟩ := atI_get he
  obtain ⟨w,ew,rw'⟩ := r.get h2
  have hl := r.length
  have hn := line63
  have fin : EP X pins σ Q w s := ⟨z,H,I,rw',q⟩
  by_cases h0 : 0 ≤ i
  · have hj : i.toNat = j := by
      rw [seqIndex_of h0 h5] at h1
      exact Option.some.inj h1
    exact item_listR pl.isList h0 (by omega) (by rw [hj]; simpa using ew) fin hs
  · have hj : (i + (its.toArray.size : Int)).toNat = j := by
      rw [seqIndex_neg (by omega) h4] at h1
      rw [List.size_toArray,← hl]
      exact Option.some.inj h1
    exact subscriptTail_builtinR (x := w) pl.isList.typeIs slot_list_getitem.lookup
      (wpAny_getItem_list_neg (Q := fun r s' => r = w ∧ EP X pins σ Q r s') pl.isList (by omega) (by rw [List.size_toArray] <;> omega) (by omega) (by rw [hj]; simpa using ew) ⟨rfl,fin⟩) hs
theorem ix_tup : IxR X (rIxT X.K) := by
  intro value slice pins s σ H x y v u Q I rx ry h hs
  obtain ⟨p,xs,i,z,rfl,rfl,hq,he,q⟩ := h
  cases rx
  obtain ⟨t,rfl⟩ := ry
  obtain ⟨its,r,pl,hz⟩ := I.tuple hq
  obtain ⟨j,h1,h2,h3,h4,h5⟩ := atI_get he
  obtain ⟨w,ew,rw'⟩ := r.get h2
  have hl := r.length
  have hn := line63
  have fin : EP X pins σ Q w s := ⟨z,H,I,rw',q⟩
  exact subscriptTail_builtinR (x := w) pl.typeIs slot_tuple_getitem.lookup
    (getItem_tuple (j := j) (Q := fun r s' => r = w ∧ EP X pins σ Q r s') pl (by omega) (by omega) (by rw [List.size_toArray,← hl]; exact h1) (by simpa using ew) ⟨rfl,fin⟩) hs
theorem ix_str : IxR X rIxS := by
  intro value slice pins s σ H x y v u Q I rx ry h hs
  obtain ⟨z,i,c,rfl,rfl,hz,he,q⟩ := h
  obtain ⟨t,rfl⟩ := rx
  obtain ⟨t',rfl⟩ := ry
  obtain ⟨j,h1,h2,h3,h4,h5⟩ := atI_get he
  have hl : z.cps.toList.length = z.length := by simp [Str.length]
  rw [hl] at h1 h4 h5
  have hn := line63
  exact tail_any (typeIs_str s z t) slot_str_getitem.lookup (getItem_str (c := c) (by
    have e1 : decide (i < -(2 ^ 63 : Int)) = false := decide_eq_false (by omega)
    have e2 : decide (i ≥ 2 ^ 63) = false := decide_eq_false (by omega)
    rw [e1,e2,Bool.or_false]) (by rw [h1]; simpa using h2) ⟨.str ⟨#[c]⟩,H,I.tok _,⟨_,rfl⟩,q⟩) hs
theorem slice_bounds (lo hi : Option Int) (n : Nat) : (sliceBounds lo hi none n).1 = ((HT.sIx n 0 lo : Nat) : Int) ∧ (sliceBounds lo hi none n).2.1 = ((HT.sIx n n hi : Nat) : Int) ∧ (sliceBounds lo hi none n).2.2 = 1 := by
  refine ⟨?_, ?_, rfl⟩
  · cases lo with
    | none => simp [sliceBounds, HT.sIx]
    | some i =>
      simp only [sliceBounds, HT.sIx, Option.getD_none, show (1 : Int) > 0 by decide, if_true]
      by_cases h : i < 0
      · simp only [h, if_true] <;> omega
      · simp only [h, if_false] <;> omega
  · cases hi with
    | none => simp [sliceBounds, HT.sIx]
    | some i =>
      simp only [sliceBounds, HT.sIx, Option.getD_none, show (1 : Int) > 0 by decide, if_true]
      by_cases h : i < 0
      · simp only [h, if_true] <;> omega
      · simp only [h, if_false] <;> omega
theorem slicePick_cut (its : List Value) (lo hi : Option Int) : slicePick its.toArray lo hi none = ((its.drop (HT.sIx its.length 0 lo)).take (HT.sIx its.length its.length hi - HT.sIx its.length 0 lo)).toArray := by
  obtain ⟨h1,h2,h3⟩ := slice_bounds lo hi its.toArray.size
  unfold slicePick
  rw [h1,h2,h3]
  simp only [sliceRange_one,pick_run,List.size_toArray] <;> rfl
def rSlL (K : PySem.W.Frag) : V → Option Int → Option Int → Hp → VK → Prop := fun x lo hi H Q => ∃ a xs,x = .ref a ∧ SqL K H a xs ∧ ∀ p,H p = none → Q (.ref p) (upd H p (.lst (cutV xs lo hi)))
theorem sl_list : SlR X (rSlL X.K) := by
  intro pins s σ H x v vl vu lo hi sl Q I rx hs pl pu h
  obtain ⟨a,xs,rfl,hx,q⟩ := h
  cases rx
  obtain ⟨its,r,ht,hz⟩ := I.list hx
  have hlen := r.length
  refine ⟨"list",_,slot_list_getitem.lookup,ht.isList.typeIs,?_⟩
  refine wpAny_getItem_list_slice ht.isList hs pl pu .none (by simp) ?_ (by rw [List.size_toArray] <;> omega)
  rw [slicePick_cut,← hlen]
  refine ⟨.ref s.heap.objs.size,_,I.laid (t' := s.toks) (o := .lst (cutV xs lo hi)) (fun b ob q => Heap.get?_push_of_some _ q) (Nat.le_refl _) ?_,rfl,q _ (I.hok.fresh (Nat.le_refl _))⟩
  exact ⟨Nat.le_trans (cutV_length xs lo hi) hz,_,0,(r.drop (HT.sIx xs.length 0 lo)).take (HT.sIx xs.length xs.length hi - HT.sIx xs.length 0 lo),Heap.get?_push_size _ rfl⟩
theorem call_len_seq : CallR X (.builtin "len") (fun xs H Q => ∃ p ys,xs = [.ref p] ∧ (SqL X.K H p ys ∨ SqT X.K H p ys) ∧ Q (.int ys.length) H) := by
  intro pins s σ H xs us Q I r h
  obtain ⟨p,ys,rfl,hq,q⟩ := h
  obtain ⟨u,rfl,rx⟩ := vals1 r
  cases rx
  have hn := line63
  rcases hq with hq | hq
  · obtain ⟨its,r',pl,hz⟩ := I.list hq
    have hlen := r'.length
    exact Calls.call_len_list pl.isList (by simp only [List.size_toArray] <;> omega) ⟨.int ys.length,H,I.tok _,⟨s.toks + 1,by rw [List.size_toArray,hlen]⟩,q⟩
  · obtain ⟨its,r',pl,hz⟩ := I.tuple hq
    have hlen := r'.length
    exact len_tuple pl (by simp only [List.size_toArray] <;> omega) ⟨.int ys.length,H,I.tok _,⟨s.toks + 1,by rw [List.size_toArray,hlen]⟩,q⟩
theorem call_len_str : CallR X (.builtin "len") (fun xs H Q => ∃ z,xs = [.str z] ∧ z.length ≤ sizeLine ∧ Q (.int z.length) H) := by
  intro pins s σ H xs us Q I r h
  obtain ⟨z,rfl,hz,q⟩ := h
  obtain ⟨u,rfl,t,rfl⟩ := vals1 r
  have hn := line63
  exact len_str (by omega) ⟨.int z.length,H,I.tok _,⟨_,rfl⟩,q⟩
theorem call_list_of : CallR X (.type "list") (fun xs H Q => ∃ p ys,xs = [.ref p] ∧ (SqL X.K H p ys ∨ SqT X.K H p ys) ∧ ∀ l,H l = none → Q (.ref l) (upd H l (.lst ys))) := by
  intro pins s σ H xs us Q I r h
  obtain ⟨p,ys,rfl,hq,q⟩ := h
  obtain ⟨u,rfl,rx⟩ := vals1 r
  cases rx
  have fin : ∀ (its : List Value),Vals ys its → ys.length ≤ sizeLine → ∀ (h' : Heap) (c' : Nat),(∀ b o',s.heap.get? b = some o' → h'.get? b = some o') →
      h'.get? s.heap.objs.size = some { cls := .type "list",dict := none,data := .seq its.toArray c',slots := #[] } → EP X pins σ Q (.ref s.heap.objs.size) { s with heap := h' } := fun its r' hz h' c' kp e =>
    ⟨.ref s.heap.objs.size,_,I.laid (t' := s.toks) kp (Nat.le_refl _) (show ObjOk X.prog X.w _ h' _ (.lst ys) from ⟨hz,its,c',r',e⟩),rfl,q _ (I.hok.fresh (Nat.le_refl _))⟩
  rcases hq with hq | hq
  · obtain ⟨its,r',pl,hz⟩ := I.list hq
    have hlen := r'.length
    obtain ⟨o,ho,hc,n,hd⟩ := pl.isList
    exact call_list_seq p (.inl rfl) ho hc hd (fun h' c' kp e => fin its r' hz h' c' kp e) (by simp only [List.size_toArray] <;> omega)
  · obtain ⟨its,r',pl,hz⟩ := I.tuple hq
    have hlen := r'.length
    obtain ⟨o,ho,hc,n,hd⟩ := pl
    exact call_list_seq p (.inr rfl) ho hc hd (fun h' c' kp e => fin its r' hz h' c' kp e) (by simp only [List.size_toArray] <;> omega)
theorem call_tuple_of : CallR X (.type "tuple") (fun xs H Q => ∃ p ys,xs = [.ref p] ∧ ((SqL X.K H p ys ∧ ∀ l,H l = none → Q (.ref l) (upd H l (.tup ys))) ∨ (SqT X.K H p ys ∧ Q (.ref p) H))) := by
  intro pins s σ H xs us Q I r h
  obtain ⟨p,ys,rfl,h⟩ := h
  obtain ⟨u,rfl,rx⟩ := vals1 r
  cases rx
  rcases h with ⟨hq,q⟩ | ⟨hq,q⟩
  · obtain ⟨its,r',pl,hz⟩ := I.list hq
    have hlen := r'.length
    refine call_tuple_list pl.isList (fun h' kp => ?_) (by simp only [List.size_toArray] <;> omega)
    have I1 : Inv X pins σ H { s with heap := h' } := I.kept (t' := s.toks) kp
    have I2 : Inv X pins σ (upd H h'.objs.size (.tup ys)) { s with heap := h'.push { cls := .type "tuple",data := .seq its.toArray } } :=
      I1.laid (t' := s.toks) (fun b o e => Heap.get?_push_of_some _ e) (Nat.le_refl _) (show ObjOk X.prog X.w _ _ _ (.tup ys) from ⟨hz,its,r',IsTup.new _ _⟩)
    exact ⟨.ref h'.objs.size,_,I2,rfl,q _ (I1.hok.fresh (Nat.le_refl _))⟩
  · obtain ⟨its,r',pl,hz⟩ := I.tuple hq
    exact call_tuple_same pl ⟨.ref p,H,I,rfl,q⟩
def tyV (K : PySem.W.Frag) (T : String) (x : V) (H : Hp) : Prop := match x with
  | .str _ => T = "str"
  | .int _ => T = "int"
  | .ref p => (T = "list" ∧ ∃ xs,SqL K H p xs) ∨ (T = "tuple" ∧ ∃ o,K.lookup p = some o ∧ o.cls = .type "tuple" ∧ o.dict = none) ∨
      (T = "dict" ∧ ((∃ kvs,H p = some (.dK kvs)) ∨ ∃ kvs,H p = some (.dT kvs))) ∨ (T = "set" ∧ ∃ S n,H p = some (.set S n))
  | _ => False
theorem tyV_is {pins : List (Addr × Obj)} {σ : St} {H : Hp} {s : Shared} {T : String} {x : V} {v : Value} (I : Inv X pins σ H s) (r : RelV x v) (ty : tyV X.K T x H) :
    s.TypeIs v T ∧ ∀ a, v = .ref a → ∃ ob, s.heap.get? a = some ob ∧ ob.dict = none := by
  cases x with
  | str z =>
    obtain ⟨t, rfl⟩ := r
    cases (show T = "str" from ty)
    exact ⟨typeIs_str s z t, fun _ e => nomatch e⟩
  | int i =>
    obtain ⟨t, rfl⟩ := r
    cases (show T = "int" from ty)
    exact ⟨typeIs_int s i t, fun _ e => nomatch e⟩
  | ref p =>
    cases r
    rcases ty with ⟨rfl, xs, hq⟩ | ⟨rfl, o, hk, hc, hd⟩ | ⟨rfl, hk⟩ | ⟨rfl, S, n, hk⟩
    · obtain ⟨its, _, pl, _⟩ := I.list hq
      refine ⟨pl.isList.typeIs, fun a e => ?_⟩
      cases e
      obtain ⟨o, n, e, c, hd, _⟩ := pl
      exact ⟨o, e, hd⟩
    · refine ⟨⟨o, I.kIn p o hk, hc⟩, fun a e => ?_⟩
      cases e
      exact ⟨o, I.kIn _ o hk, hd⟩
    · have z : ∃ o, s.heap.get? p = some o ∧ o.ExactDict := by
        rcases hk with ⟨kvs, hk⟩ | ⟨kvs, hk⟩
        · obtain ⟨_, _, _, _, o, _, _, e, ex, _⟩ := I.hok p _ hk
          exact ⟨o, e, ex⟩
        · obtain ⟨_, _, _, _, o, _, _, e, ex, _⟩ := I.hok p _ hk
          exact ⟨o, e, ex⟩
      obtain ⟨o, e, ex⟩ := z
      refine ⟨⟨o, e, ex.1⟩, fun a e2 => ?_⟩
      cases e2
      exact ⟨o, e, ex.2.1⟩
    · obtain ⟨o, _, _, _, e, ex, _⟩ := I.hok p _ hk
      refine ⟨⟨o, e, ex.1⟩, fun a e2 => ?_⟩
      cases e2
      exact ⟨o, e, ex.2.1⟩
  | _ => exact False.elim ty
def tBM0 (K : PySem.W.Frag) (T : String) (r : V → List V → Hp → VK → Prop) (to : TE) : TE := fun σ H Q => to σ H fun x H1 => tyV K T x H1 ∧ r x [] H1 Q
def tBM (K : PySem.W.Frag) (T : String) (r : V → List V → Hp → VK → Prop) (to : TE) (t : TA) : TE := fun σ H Q => to σ H fun x H1 => tyV K T x H1 ∧ t σ H1 fun xs H2 => r x xs H2 Q
variable {o e : Expr} {es : List Expr} {to : TE} {t : TA} {name : Str} {apos cpos : Pos} {T id : String} {r : V → List V → Hp → VK → Prop}
theorem pe_bm0 (pa : PlainAttrs T) (slot : Slot T name id) (hty : typeOf (.builtin id) = pure (.type "method_descriptor")) (hm : MtR X id r) (ho : PE X o to)
    (hbase : attributeBase o name X.env (eval o X.env) = eval o X.env := by rfl) (hline : (apos.endLine == cpos.line) = true := by rfl) : PE X (.Call (.Attribute o name apos) [] [] cpos) (tBM0 X.K T r to) := by
  intro pins s σ H Q I h
  refine wpAny_Call_method0_late hbase hline (thn (ho pins s σ H _ I h) fun v s1 ⟨x,H1,I1,r1,ty,q1⟩ => ?_)
  obtain ⟨h1,h2⟩ := tyV_is I1 r1 ty
  exact ⟨T,id,pa,slot,hty,h1,h2,Calls.callWith_builtin rfl (PySem.evalArgs_none (hm pins s1 σ H1 x [] v [] Q I1 r1 .nil q1))⟩
theorem pe_bm (pa : PlainAttrs T) (slot : Slot T name id) (hty : typeOf (.builtin id) = pure (.type "method_descriptor")) (hm : MtR X id r) (ho : PE X o to) (ha : PA X (e :: es) t)
    (hbase : attributeBase o name X.env (eval o X.env) = eval o X.env := by rfl)
    (hfew : ((backTo cpos (starEach (e :: es) X.env)).all (fun x => !x.1) && (backToKw cpos (keywordEach [] X.env)).all (fun x => x.1.isSome)
      && decide ((e :: es).length + ([] : List Keyword).length + (if ([] : List Keyword).isEmpty then 0 else 1) < 30)) = true := by rfl)
    (hline : (apos.endLine == cpos.line) = true := by rfl) (hs : starEach (e :: es) X.env = (false,eval e X.env) :: starEach es X.env := by rfl) (hplain : (backTo cpos (starEach es X.env)).any (·.1) = false := by rfl) :
    PE X (.Call (.Attribute o name apos) (e :: es) [] cpos) (tBM X.K T r to t) := by
  intro pins s σ H Q I h
  refine wpAny_Call_method_late hbase hfew hline rfl (thn (ho pins s σ H _ I h) fun v s1 ⟨x,H1,I1,r1,ty,q1⟩ => ?_)
  obtain ⟨h1,h2⟩ := tyV_is I1 r1 ty
  refine ⟨T,id,pa,slot,hty,h1,h2,?_⟩
  have hA := ha cpos pins s1 σ H1 _ I1 q1
  rw [hs] at hA ⊢
  refine Calls.callWith_builtin (by show (false || (backTo cpos (starEach es X.env)).any (·.1)) = false; rw [hplain] <;> rfl) (Calls.evalArgs_plain ?_)
  exact thn hA fun us s2 ⟨vs,H2,I2,r2,q2⟩ => hm pins s2 σ H2 x vs v us Q I2 r1 r2 q2
end
end L2
namespace L2
open PySem PySem.Spec PyProof.Rows
def MtM (X : Cx) (id : String) (r : V → List V → Hp → VK → Prop) : Prop :=
  ∀ (pins : List (Addr × Obj)) (s : Shared) (σ : St) (H : Hp) (x : V) (xs : List V) (v : Value) (us : List Value) (Q : VK),Inv X pins σ H s → RelV x v → Vals xs us → r x xs H Q →
    wpAny (model X.prog X.w) X.A (call (.builtin id) (v :: us)) (EP X pins σ Q) X.xe s
theorem Vals.one : ∀ {x : V} {us : List Value},Vals [x] us → ∃ u,us = [u] ∧ RelV x u
  | _,_,.cons r .nil => ⟨_,rfl,r⟩
theorem Vals.zero : ∀ {us : List Value},Vals [] us → us = []
  | _,.nil => rfl
theorem Vals.dropLast {xs : List V} {us : List Value} (h : Vals xs us) : Vals xs.dropLast us.dropLast := by
  induction h with
  | nil => exact .nil
  | cons r t ih =>
    cases t with
    | nil => exact .nil
    | cons q t' => exact .cons r ih
theorem Vals.eraseIdx : ∀ {xs : List V} {us : List Value} (i : Nat),Vals xs us → Vals (xs.eraseIdx i) (us.eraseIdx i)
  | _,_,_,.nil => .nil
  | _,_,0,.cons _ t => t
  | _,_,i + 1,.cons r t => .cons r (Vals.eraseIdx i t)
theorem Vals.reverse {xs : List V} {us : List Value} (h : Vals xs us) : Vals xs.reverse us.reverse := by
  induction h with
  | nil => exact .nil
  | cons r t ih => rw [List.reverse_cons,List.reverse_cons]; exact Vals.append ih (.cons r .nil)
theorem erase_last {α : Type} (l : List α) : l.eraseIdx (l.length - 1) = l.dropLast := by
  induction l with
  | nil => rfl
  | cons a r ih =>
    cases r with
    | nil => rfl
    | cons b r =>
      have e : (a :: b :: r).length - 1 = ((b :: r).length - 1) + 1 := by
        have h1 : (a :: b :: r).length = r.length + 2 := rfl
        have h2 : (b :: r).length = r.length + 1 := rfl
        omega
      rw [e, List.eraseIdx_cons_succ, ih]
      all_goals rfl
theorem len_erase {α : Type} : ∀ (l : List α) (i : Nat),(l.eraseIdx i).length ≤ l.length
  | [],_ => Nat.le_refl _
  | _ :: _,0 => Nat.le_succ _
  | _ :: r,i + 1 => Nat.succ_le_succ (len_erase r i)
section
variable {X : Cx} {pins : List (Addr × Obj)} {σ : St} {H : Hp} {s : Shared} {l b : Addr} {xs ys zs : List V}
theorem Inv.lset {its its' : List Value} {n : Nat} {f : Array Value → Array Value} {t' : Nat} (I : Inv X pins σ H s) (hH : H l = some (.lst xs))
    (e : s.heap.get? l = some { cls := .type "list",data := .seq its.toArray n }) (hf : f its.toArray = its'.toArray) (hv : Vals ys its') (hz : ys.length ≤ sizeLine) :
    Inv X pins σ (upd H l (.lst ys)) { s with heap := s.heap.update l (Obj.mapSeq f),toks := t' } := by
  have q := PySem.IsL.update e f
  rw [hf] at q
  refine I.write (x := l) (e := l) (by rw [hH]; exact trivial) (.inl rfl) (fun b' u hb hu => (Heap.get?_update_other s.heap (Obj.mapSeq f) (Ne.symm hb)).trans hu) ⟨_,q⟩ ?_
  exact ⟨hz,its',_,hv,q⟩
theorem Inv.lstM (I : Inv X pins σ H s) (hH : H l = some (.lst xs)) : xs.length ≤ sizeLine ∧ ∃ (its : List Value) (n : Nat),Vals xs its ∧ xs.length = its.length ∧ s.heap.get? l = some { cls := .type "list",data := .seq its.toArray n } := by
  obtain ⟨z,its,n,r,e⟩ := I.hok l _ hH
  exact ⟨z,its,n,r,r.length,e⟩
theorem notLongL {n : Nat} (h : n ≤ sizeLine) : Builtin.List.listTooLong n = false := by
  unfold Builtin.List.listTooLong
  exact decide_eq_false (by omega)
end
section
variable {X : Cx}
def rAppend : V → List V → Hp → VK → Prop := fun x vs H Q => ∃ l xs y,x = .ref l ∧ vs = [y] ∧ H l = some (.lst xs) ∧ xs.length < sizeLine ∧ Q .non (upd H l (.lst (xs ++ [y])))
theorem mt_append : MtM X "list.append" rAppend := by
  intro pins s σ H x vs v us Q I rx rv h
  obtain ⟨l,xs,y,rfl,rfl,hH,hz,q⟩ := h
  cases rx
  obtain ⟨u,rfl,ru⟩ := rv.one
  obtain ⟨z,its,n,r,hl,e⟩ := I.lstM hH
  refine call_meets F.slot_list_append ⟨_,e,rfl⟩ F.entry_list_append (F.args_list_append_2 _ _) (PySem.list_append l its.toArray n u (by rw [List.size_toArray]; omega)) ⟨e,?_⟩
  refine ⟨.non,_,I.lset (its' := its ++ [u]) hH e (by simp) (r.append (.cons ru .nil)) ?_,rfl,q⟩
  rw [List.length_append,List.length_singleton]
  omega
def rExtend : V → List V → Hp → VK → Prop := fun x vs H Q => ∃ l b xs zs,x = .ref l ∧ vs = [.ref b] ∧ H l = some (.lst xs) ∧ H b = some (.lst zs) ∧ xs.length + zs.length ≤ sizeLine ∧ Q .non (upd H l (.lst (xs ++ zs)))
theorem mt_extend : MtM X "list.extend" rExtend := by
  intro pins s σ H x vs v us Q I rx rv h
  obtain ⟨l,b,xs,zs,rfl,rfl,hH,hB,hz,q⟩ := h
  cases rx
  obtain ⟨u,rfl,ru⟩ := rv.one
  cases ru
  obtain ⟨z,its,n,r,hl,e⟩ := I.lstM hH
  obtain ⟨z2,its2,n2,r2,hl2,e2⟩ := I.lstM hB
  have hsz : its.toArray.size + its2.toArray.size ≤ sizeLine := by rw [List.size_toArray,List.size_toArray]; omega
  have hlong : ¬ (!its.toArray.isEmpty && Builtin.List.listTooLong (its.toArray.size + its2.toArray.size)) = true := by
    rw [notLongL hsz,Bool.and_false]
    exact Bool.false_ne_true
  refine call_meets F.slot_list_extend ⟨_,e,rfl⟩ F.entry_list_extend (F.args_list_extend_2 _ _)
    (AutoSeq1.list_extend_list_list_0 l its.toArray n b its2.toArray n2 hlong (by rw [List.size_toArray]; omega) (by omega)) ⟨e,e2,?_⟩
  refine ⟨.non,_,I.lset (its' := its ++ its2) hH e (by simp) (r.append r2) ?_,rfl,q⟩
  rw [List.length_append]
  omega
def rPop : V → List V → Hp → VK → Prop := fun x vs H Q => ∃ l xs y,x = .ref l ∧ vs = [] ∧ H l = some (.lst xs) ∧ xs[xs.length - 1]? = some y ∧ Q y (upd H l (.lst xs.dropLast))
theorem mt_pop : MtM X "list.pop" rPop := by
  intro pins s σ H x vs v us Q I rx rv h
  obtain ⟨l,xs,y,rfl,rfl,hH,hy,q⟩ := h
  cases rx
  have hus := rv.zero
  subst hus
  obtain ⟨z,its,n,r,hl,e⟩ := I.lstM hH
  obtain ⟨u,hu,ru⟩ := r.get hy
  have hy' : its.toArray[its.toArray.size - 1]? = some u := by
    show its.toArray[its.length - 1]? = some u
    rw [← Array.getElem?_toList,← hl]
    exact hu
  refine call_meets F.slot_list_pop ⟨_,e,rfl⟩ F.entry_list_pop (F.args_list_pop_1 _) (MeetsSeq.list_pop_last l its.toArray n u hy' (by rw [List.size_toArray]; omega)) ⟨e,?_⟩
  refine ⟨y,_,I.lset (its' := its.dropLast) hH e ?_ r.dropLast ?_,ru,q⟩
  · show its.toArray.eraseIdxIfInBounds (its.toArray.size - 1) = its.dropLast.toArray
    rw [List.size_toArray,List.eraseIdxIfInBounds_toArray,erase_last]
  · rw [List.length_dropLast]
    omega
def rPopAt : V → List V → Hp → VK → Prop := fun x vs H Q => ∃ l xs i k y,x = .ref l ∧ vs = [.int i] ∧ H l = some (.lst xs) ∧ -(2 ^ 63) ≤ i ∧ i < 2 ^ 63 ∧ seqIndex? i xs.length = some k ∧ xs[k]? = some y ∧ Q y (upd H l (.lst (xs.eraseIdx k)))
theorem mt_popAt : MtM X "list.pop" rPopAt := by
  intro pins s σ H x vs v us Q I rx rv h
  obtain ⟨l,xs,i,k,y,rfl,rfl,hH,h1,h2,hk,hy,q⟩ := h
  cases rx
  obtain ⟨u,rfl,ru⟩ := rv.one
  obtain ⟨t,rfl⟩ := ru
  obtain ⟨z,its,n,r,hl,e⟩ := I.lstM hH
  obtain ⟨w,hw,rw'⟩ := r.get hy
  refine call_meets F.slot_list_pop ⟨_,e,rfl⟩ F.entry_list_pop (F.args_list_pop_2 _ _)
    (MeetsSeq.list_pop_at l its.toArray n i t k w (fitsIndex_both h1 h2) (by rw [List.size_toArray,← hl]; exact hk) (by rw [← Array.getElem?_toList]; exact hw) (by rw [List.size_toArray]; omega)) ⟨e,?_⟩
  refine ⟨y,_,I.lset (its' := its.eraseIdx k) hH e ?_ (r.eraseIdx k) ?_,rw',q⟩
  · show its.toArray.eraseIdxIfInBounds k = (its.eraseIdx k).toArray
    rw [List.eraseIdxIfInBounds_toArray]
  · have := len_erase xs k
    omega
end
section
variable {prog : Program} {w : World} {A : Around} {E : Value → Shared → Prop} {s : Shared}
end
section
variable {X : Cx}
end
end L2
namespace L2
open PySem PySem.Spec PyProof.Rows
section
variable {κ : Type} [DecidableEq κ]
end
theorem kV_is {P : Program} {w : World} {k : Key} {u : Value} (r : RelV (kV k) u) : (mixKind P w).is k u = true := by
  cases k with
  | inl i => obtain ⟨t,e⟩ := (show ∃ t,u = Value.int i t from r); subst e; exact mixKind_int P w i t
  | inr x => obtain ⟨t,e⟩ := (show ∃ t,u = Value.str x t from r); subst e; exact mixKind_str P w x t
section
variable {P : Program} {w : World} {H : Hp} {h : Heap} {a : Addr}
end
section
variable {X : Cx} {pins : List (Addr × Obj)} {σ : St} {H : Hp} {s : Shared} {a : Addr} {y v : V} {u r : Value} {o : Option V} {A : Around} {E : Value → Shared → Prop}
end
section
variable {X : Cx} {pins : List (Addr × Obj)} {σ : St} {H : Hp} {s : Shared} {a : Addr} {kvs : List (Key × V)} {k : Key} {u : Value} {A : Around} {E : Value → Shared → Prop}
end
def NoSl (i : Expr) : Prop := ∀ ov iv,subscripted i false ov iv = operate [ov,iv] (getItem ov iv)
theorem subD_of {prog : Program} {w : World} {A : Around} {E : Value → Shared → Prop} {s : Shared} {env : Env} {value slice : Expr} {pos : Pos} {T id : String} {Q : Value → Shared → Prop}
    (hl : typeLookup (.type T) "__getitem__" = pure (some (.builtin id))) (hs : NoSl slice)
    (h : wpAny (model prog w) A (eval value env) (fun o s₁ => wpAny (model prog w) A (eval slice env) (fun i s₂ => s₂.TypeIs o T ∧ wpAny (model prog w) A (getItem o i) Q E s₂) E s₁) E s) :
    wpAny (model prog w) A (eval (.Subscript value slice pos) env) Q E s := by
  refine Subscript_ (wpAny_mono h (fun o s₁ h₁ => wpAny_mono h₁ (fun i s₂ h₂ => ?_) fun _ _ x => x) fun _ _ x => x)
  obtain ⟨hT,h₂⟩ := h₂
  unfold subscriptTail
  refine wpAny_bind ?_
  rw [getitemInPython_of_ne hT.not_modules]
  refine wpAny_bind (wpAny_specialOf hT hl ?_)
  have fin : wpAny (model prog w) A (subscripted slice false o i) (fun r s₃ => wpAny (model prog w) A (letTemporaryGo value o r >>= fun _ => pure r) Q E s₃) E s₂ := by
    rw [hs o i]
    exact wpAny_operating (wpAny_mono h₂ (fun r s₃ h₃ => wpAny_bind (wpAny_letTemporaryGo (wpAny_pure h₃))) fun _ _ x => x)
  first
    | exact wpAny_pure (wpAny_bind fin)
    | exact wpAny_bind (wpAny_pure (wpAny_bind fin))
    | exact wpAny_bind fin
section
variable {X : Cx} {o i e value : Expr} {pos pos' tpos : Pos} {td ty tv : TE}
end
section
variable {X : Cx} {pos : Pos}
end
section
variable {X : Cx} {pins : List (Addr × Obj)} {σ : St} {H : Hp} {s : Shared} {a : Addr} {y d : V} {u r : Value} {o : Option V} {A : Around} {E : Value → Shared → Prop}
end
section
variable {X : Cx} {o e f : Expr} {apos cpos : Pos} {td ty tx : TE}
end
section
variable {X : Cx} {pins : List (Addr × Obj)} {σ : St} {H : Hp} {s : Shared} {a : Addr} {kvs : List (Key × V)} {A : Around} {E : Value → Shared → Prop}
end
section
variable {X : Cx} {pins : List (Addr × Obj)} {σ : St} {H : Hp} {s : Shared} {a : Addr} {y : V} {u : Value} {A : Around} {E : Value → Shared → Prop}
end
end L2
namespace Att
open PySem PySem.W PySem.Calls PyProof.Rows
theorem ints_of_wellAll {P : Params} {h : Heap} : ∀ (ns : List Int) (vs : List Value), WellAll P h vs (ns.map WData.int) → IntsAre vs ns := by
  intro ns
  induction ns with
  | nil =>
    intro vs w
    rw [List.map_nil] at w
    cases w
    exact .nil
  | cons n ns ih =>
    intro vs w
    rw [List.map_cons] at w
    cases w with
    | cons a b =>
      cases a
      exact .cons _ _ (ih _ b)
theorem script_of {l : OpenLaw} {n : Nat} (hn : l.most = some n) {P : Params} {h : Heap} {args : List WData} {vals : List Value}
    (hpre : l.row.toRowW.claim.pre args = true) (hwl : WellAll P h vals args) :
    ∃ a vs ns, vals = [Value.ref a] ∧ args = [WData.list (ns.map WData.int)] ∧ h.get? a = some { cls := .type "list", data := .seq vs.toArray } ∧ IntsAre vs ns ∧ ns.length ≤ n := by
  have hsh : WShape.hasAll [] args [.list .int] = true := (pre_splitW hpre).1
  have hc : l.pre.holds [] { args := args } = true := (pre_splitW hpre).2
  obtain ⟨d, r, rfl, h1, h2⟩ := hasAllW_cons hsh
  obtain rfl := hasAllW_nil h2
  obtain ⟨xs, rfl, h3⟩ := hasW_list h1
  obtain ⟨ns, rfl⟩ := items_int h3
  have hlen : ns.length ≤ n := by
    unfold OpenLaw.pre at hc
    have h4 : (WTm.not (.lt (.lit (.int (n : Int))) (.len (.arg 0)))).holds [] { args := [.list (ns.map .int)] } = true := by
      have h4 := (holds_andW hc).1
      rw [hn] at h4
      exact h4
    have h5 := condW_of h4 (w_not (w_lt w_lit (w_len_list (w_arg rfl))))
    rw [List.length_map] at h5
    refine Nat.le_of_not_lt fun q => ?_
    have q' : (n : Int) < ((ns.length : Nat) : Int) := by omega
    first
      | (rw [decide_eq_true q'] at h5; exact absurd h5 (by decide))
      | (simp at h5; omega)
  cases hwl with
  | cons w1 w2 =>
    cases w2
    cases w1 with
    | list ho hall => exact ⟨_, _, ns, rfl, rfl, ho, ints_of_wellAll ns _ hall, hlen⟩
theorem post_true (l : OpenLaw) (args : List WData) : l.row.toRowW.claim.post args (.bool true) args = true :=
  postW_of (r := l.row.toRowW) (X := (true == true))
    (show WShape.has [] (.bool true) .bool = true by first | rfl | decide | simp [WShape.has,WShape.arms,WShape.armsAll])
    (show (WTm.eq .res (.lit (.bool true))).value [] { args := args,res := some (.bool true),after := args } = some (.bool (true == true)) from w_eq_bool (w_res rfl) w_lit) rfl
theorem attach_call {l : OpenLaw} {n : Nat} {q : Program} {loose : List Str} {XP : (Str → Option Value) → Heap → Prop} {YP : World → Heap → Prop} {d : DefRec}
    (hn : l.most = some n) (hdf : d.params.defaults = [])
    (call : ∀ (w : World) (s₀ s₁ : Shared) (mg mb : Str → Option Value) (fa : Addr) (o : Obj) (pm cd doc : Value) (a : Addr) (vs : List Value) (ns : List Int),
      Ground q loose [] XP w s₀ mg mb s₁.heap → YP w s₁.heap →
      s₁.heap.get? fa = some o → o.data = .func (docDef d.name d.params d.body d.scope pm cd doc) → s₁.heap.CodeRec cd d.name → mg d.name = some (.ref fa) →
      s₁.heap.get? a = some { cls := .type "list",data := .seq vs.toArray } → IntsAre vs ns → ns.length ≤ n → s₁.gens = #[] →
      codeAny (model l.prog w) callerA (.call (.ref fa) ⟨[.ref a],[]⟩) (fun r s' => r = .ok (.ret (.bool true)) ∧ OldK s₁.heap s'.heap ∧ s'.os = s₁.os ∧ AllBare s'.gens) s₁) :
    WalkO q loose XP YP l.row.toRowW d [] (fun f vs => PySem.call f vs) := by
  intro w s₀ s₁ mg mb G Y fa o pm cd doc dV kV ho hd hcd hD hmg hg args vals as hpre hlay hrd hwl hlo
  obtain rfl : dV = .none := Dflts.none hD hdf
  obtain rfl : kV = .none := Dflts.noKw hD
  obtain ⟨a,vs,ns,rfl,rfl,hobj,hints,hlen⟩ := script_of hn hpre hwl
  refine enter_call (codeAny_mono (call w s₀ s₁ mg mb fa o pm cd doc a vs ns G Y ho (fd_plain hd) hcd hmg hobj hints hlen hg) fun r s' hq => ?_)
  obtain ⟨rfl,h2,h3,h4⟩ := hq
  exact ⟨.inl ⟨.bool true,.bool true,[],rfl,fun _ => rfl,.bool true,post_true l _,fun _ => ⟨List.Pairwise.nil,fun _ hm => (nomatch hm)⟩⟩,h2,h3,h4⟩
section
variable {prog : Program} {w : World} {A : Around} {E : Value → Shared → Prop} {s : Shared} {K : Frag}
end
end Att
namespace L2
open PySem PySem.Spec PyProof.Rows
theorem vals_ints : ∀ {vs : List Value} {ns : List Int},IntsAre vs ns → Vals (ns.map V.int) vs
  | _,_,.nil => .nil
  | _,_,.cons n t h => .cons ⟨t,rfl⟩ (vals_ints h)
def Only (H : Hp) : Prop := ∀ b,H b = none ∨ ∃ o xs,H b = some (.frz o (.lst xs))
theorem law_call {P : Program} {w : World} {K : PySem.W.Frag} {mg mb : Str → Option Value} {CX : CXT} {k : Nat} {fa a : Addr} {fd : FuncData} {x : Str} {sp : Sp} {s₁ : Shared} {vs : List Value} {ns : List Int}
    (KX : K.In s₁.heap) (hns : s₁.heap.Ns mainGlobals mg) (hb : s₁.heap.Ns builtinsNs mb) (hbb : ∀ x : Str, x ≠ "__name__" → mb x = bootBuiltins x) (hlim : s₁.heap.NoLimit) (hg : s₁.gens = #[])
    (ha : s₁.heap.get? a = some { cls := .type "list", data := .seq vs.toArray }) (hi : IntsAre vs ns) (hl : ns.length ≤ sizeLine) (hr : Room k callerA)
    (F : ∀ base : Heap, K.In base → base.Ns mainGlobals mg → FnOk P w K mg base CX k fa fd [x] sp) (hbind : ∀ (s : Shared) (u : Value), BindsTo s fd ⟨[u], []⟩ [(x, u)])
    (hsp : ∀ H : Hp, Only H → SqL K H a (ns.map V.int) → sp [.ref a] H (fun v _ => v = .bl true) fun _ _ _ => False)
    (hCX : ∀ H e s', CX [] H s₁ (fun _ _ _ => False) e s' → False) :
    codeAny (model P w) callerA (.call (.ref fa) ⟨[.ref a], []⟩) (fun r s' => r = .ok (.ret (.bool true)) ∧ OldK s₁.heap s'.heap ∧ s'.os = s₁.os ∧ AllBare s'.gens) s₁ := by
  have rv := vals_ints hi
  have lenV := hi.length
  have core : ∀ H : Hp, Only H → SqL K H a (ns.map V.int) → HOk P w H s₁.heap → (∀ b, H b ≠ none → b = a) → (H a ≠ none → K.lookup a = none) →
      codeAny (model P w) callerA (.call (.ref fa) ⟨[.ref a], []⟩) (fun r s' => r = .ok (.ret (.bool true)) ∧ OldK s₁.heap s'.heap ∧ s'.os = s₁.os ∧ AllBare s'.gens) s₁ := by
    intro H hO hS hok hA hK
    have base_of : ∀ {b : Addr} {o : Obj}, s₁.heap.get? b = some o → H b = none → (hidT s₁.heap H).get? b = some o := fun e n => hidT_get e n
    have noA : ∀ {b : Addr} {o : Obj} {es : Array DictEntry} {ep : Nat}, s₁.heap.get? b = some o → o.data = .dict es ep → H b = none := fun {b o es ep} e d => by
      cases q : H b with
      | none => rfl
      | some u =>
        have e' : b = a := hA b (by rw [q]; simp)
        subst e'
        rw [ha] at e; cases e
        have d' : Data.seq vs.toArray _ = Data.dict es ep := d
        cases d'
    have nsK : ∀ {b : Addr} {m : Str → Option Value}, s₁.heap.Ns b m → (hidT s₁.heap H).Ns b m := fun {b m} ⟨o, es, ep, e, d, r⟩ => ⟨o, es, ep, base_of e (noA e d), d, r⟩
    have hKb : K.In (hidT s₁.heap H) := fun b o e => base_of (KX b o e) (by
      cases q : H b with
      | none => rfl
      | some u =>
        have e' : b = a := hA b (by rw [q]; simp)
        subst e'
        rw [hK (by rw [q]; simp)] at e; cases e)
    have hM : Mod K mg (hidT s₁.heap H) := ⟨hKb, nsK hns, ⟨mb, nsK hb, hbb⟩, let ⟨mc, h1, h2⟩ := hlim; ⟨mc, nsK h1, h2⟩⟩
    have e0 : Env0 P w K mg (hidT s₁.heap H) callerA [] s₁ H := ⟨rfl, hM, fun b o e => of_hidT e, Nat.le_of_eq (hidT_size _ _), trivial, fun b hb => absurd (show b ∈ ([] : List Addr) from hb) (by simp), hok, .of_eq hg⟩
    refine codeAny_mono ((F _ hKb (nsK hns)).run callerA [] s₁ H ⟨[.ref a], []⟩ [.ref a] [.ref a] _ _ hr e0 (hbind s₁ (.ref a)) (.cons rfl .nil) (hsp H hO hS)) fun r s' h => ?_
    cases r with
    | error e => exact (hCX H e s' h).elim
    | ok fl =>
      cases fl with
      | next => exact False.elim h
      | brk => exact False.elim h
      | cont => exact False.elim h
      | ret u =>
        obtain ⟨v, H', os, bare, un, hok', r', q⟩ := h
        have q' : v = .bl true := q
        subst q'
        obtain rfl : u = Value.bool true := r'
        refine ⟨rfl, OldK.of_keep fun b o e => ?_, os, bare⟩
        cases q : H b with
        | none => exact un.keep b o e q (by intro z; exact absurd (show b ∈ ([] : List Addr) from z) (by simp)) (by simp)
        | some u =>
          rcases hO b with z | ⟨ob, xs, z⟩
          · rw [q] at z; cases z
          · have z2 := un.frzs b ob _ z
            obtain ⟨e1, _⟩ := hok b _ z
            obtain ⟨e2, _⟩ := hok' b _ z2
            rw [e] at e1; cases e1
            exact e2
  cases hk : K.lookup a with
  | some o =>
    have e := KX a o hk
    rw [ha] at e
    cases e
    refine core (fun _ => none) (fun _ => .inl rfl) (.inr ⟨_, vs.toArray, _, hk, rfl, rfl, rfl, by rw [List.size_toArray, lenV]; exact hl, by simpa using rv⟩) (fun b u z => by have z' : (none : Option HO) = some u := z; cases z') (fun b z => absurd rfl z) fun z => absurd rfl z
  | none =>
    refine core (fun b => if b = a then some (.frz { cls := .type "list", data := .seq vs.toArray } (.lst (ns.map V.int))) else none) (fun b => ?_) (.inl (.inr ⟨{ cls := .type "list", data := .seq vs.toArray }, if_pos rfl⟩)) (fun b u z => ?_) (fun b z => ?_) fun _ => hk
    · by_cases hb : b = a
      · exact .inr ⟨_, _, if_pos hb⟩
      · exact .inl (if_neg hb)
    · by_cases hb : b = a
      · have z' := (if_pos hb).symm.trans z
        cases z'
        subst hb
        exact ⟨ha, by rw [List.length_map]; exact hl, vs, _, rv, ha⟩
      · have z' := (if_neg hb).symm.trans z
        cases z'
    · by_cases hb : b = a
      · exact hb
      · exact absurd (if_neg hb) z
end L2
namespace L2
open PySem PySem.Spec PyProof.Rows
theorem walk_of {l : PySem.W.OpenLaw} {n k : Nat} {q : Program} {loose : List Str} {XP : (Str → Option Value) → Heap → Prop} {YP : World → Heap → Prop} {d : DefRec} {K : Params → PySem.W.Frag} {CX : World → CXT} {sp : World → Sp} {x : Str}
    (hn : l.most = some n) (hn2 : n ≤ sizeLine) (hdf : d.params.defaults = []) (hr : Room k callerA)
    (hY : ∀ (w : World) (h : Heap),YP w h → (K w.params).In h)
    (F : ∀ (w : World) (mg : Str → Option Value) (fa : Addr) (h : Heap),(K w.params).In h → h.Ns mainGlobals mg → mg d.name = some (.ref fa) →
      ∃ fd : FuncData,(∀ (s : Shared) (u : Value),BindsTo s fd ⟨[u],[]⟩ [(x,u)]) ∧
        ∀ base : Heap,(K w.params).In base → base.Ns mainGlobals mg → FnOk l.prog w (K w.params) mg base (CX w) k fa fd [x] (sp w))
    (hsp : ∀ (w : World) (H : Hp) (a : Addr) (ns : List Int),ns.length ≤ n → Only H → SqL (K w.params) H a (ns.map V.int) → sp w [.ref a] H (fun v _ => v = .bl true) fun _ _ _ => False)
    (hCX : ∀ (w : World) (H : Hp) (s : Shared) (e : Value) (s' : Shared),CX w [] H s (fun _ _ _ => False) e s' → False) :
    PySem.W.WalkO q loose XP YP l.row.toRowW d [] (fun f vs => PySem.call f vs) := by
  refine Att.attach_call hn hdf fun w s₀ s₁ mg mb fa o pm cd doc a vs ns G Y ho hd hcd hmg hobj hints hlen hg => ?_
  have KX := hY w _ Y
  obtain ⟨fd,hb,hF⟩ := F w mg fa _ KX G.T.g hmg
  exact law_call KX G.T.g G.T.b G.T.builtins G.T.nolimit hg hobj hints (Nat.le_trans hlen hn2) hr hF hb (fun H hO hS => hsp w H a ns hlen hO hS) fun H e s' => hCX w H s₁ e s'
end L2
namespace L2
open PySem PySem.Spec PyProof.Rows
def defArgs (s : Stmt) : Arguments := match s with
  | .FunctionDef _ a _ _ _ _ _ _ _ _ => a
  | _ => { posonlyargs := [],args := [],vararg := none,kwonlyargs := [],kw_defaults := [],kwarg := none,defaults := [] }
def defBody (s : Stmt) : List Stmt := match s with
  | .FunctionDef _ _ b _ _ _ _ _ _ _ => b
  | _ => []
def defScope (s : Stmt) : Scope := match s with
  | .FunctionDef _ _ _ _ _ _ sc _ _ _ => sc
  | _ => { kind := .function,names := [],isGenerator := false,isCoroutine := false }
abbrev CX0 : CXT := fun _ _ _ _ _ _ => False
abbrev E0 : XK := fun _ _ _ => False
theorem pass0 {X : Cx} : Passes CX0 X E0 := fun _ _ _ _ _ _ _ h => h.elim
structure Fun (K : PySem.W.Frag) (x qual : Str) (st : Stmt) (f : Addr) (fd : FuncData) : Prop where
  ex : ∃ (oc : Value) (od : Option Addr) (kV doc pm : Value) (an : Option Addr) (cdv ct : Value) (osl : Array (Option Value)),
    fd = PySem.W.fnOf x qual (defArgs st) (defBody st) (defScope st) .none kV doc pm an cdv ct ∧ K.lookup f = some ⟨oc,od,.func fd,osl⟩ ∧ PySem.W.codeIn K cdv qual = true
  kp : PySem.W.keepIn K (.ref f) = true
section
variable {P : Program} {w : World} {K : PySem.W.Frag} {mg : Str → Option Value} {base : Heap}
theorem Fun.ok {x qual : Str} {st : Stmt} {f : Addr} {fd : FuncData} {N ps : List Str} {k : Nat} {sp : Sp} (F : Fun K x qual st f fd) (S : FnScope N ps (defScope st)) (len : ∀ vs H Q E,sp vs H Q E → vs.length = ps.length)
    (hbody : ∀ (cdv : Value) (A : Around) (outer : List Env) (s : Shared) (H : Hp) (vs : List V) (Q : VK) (E : XK),Room k (A.deeper (envOfC qual (defScope st) s.heap.objs.size f cdv)) → sp vs H Q E →
      ∃ t,PSs (cxOf CX0 P w K mg base N qual (defScope st) f cdv A outer s H E).nox (defBody st) t ∧ t { nx := fun _ H' => Q .non H',rt := Q } (start N vs) H) : FnOk P w K mg base CX0 (k + 1) f fd ps sp := by
  obtain ⟨oc,od,kV,doc,pm,an,cdv,ct,osl,rfl,lk,hcd⟩ := F.ex
  refine fn_of lk hcd S len fun A outer s H vs Q E hr hsp => ?_
  obtain ⟨t,h,q⟩ := hbody cdv A outer s H vs Q E hr hsp
  exact ⟨t,h.nox,q⟩
theorem Fun.binds {x qual : Str} {st : Stmt} {f : Addr} {fd : FuncData} {ps : List Str} (F : Fun K x qual st f fd)
    (h : ∀ (kV doc pm : Value) (an : Option Addr) (cdv ct : Value) (us : List Value),us.length = ps.length → bindArgs (PySem.W.fnOf x qual (defArgs st) (defBody st) (defScope st) .none kV doc pm an cdv ct) ⟨us,[]⟩ = pure (ps.zip us)) : Binds K fd ps [] := by
  obtain ⟨oc,od,kV,doc,pm,an,cdv,ct,osl,rfl,lk,hcd⟩ := F.ex
  exact .all (h kV doc pm an cdv ct)
theorem fun_mk {x qual : Str} {st : Stmt} {f : Addr} {oc : Value} {od an : Option Addr} {osl : Array (Option Value)} {kV doc pm cdv ct : Value} (l : K.lookup f = some ⟨oc,od,.func (PySem.W.fnOf x qual (defArgs st) (defBody st) (defScope st) .none kV doc pm an cdv ct),osl⟩)
    (c : PySem.W.codeIn K cdv qual = true) (k : PySem.W.keepIn K (.ref f) = true) : Fun K x qual st f (PySem.W.fnOf x qual (defArgs st) (defBody st) (defScope st) .none kV doc pm an cdv ct) := ⟨⟨oc,od,kV,doc,pm,an,cdv,ct,osl,rfl,l,c⟩,k⟩
end
theorem small1000 {n : Nat} (h : n ≤ 1000) : n < sizeLine := Nat.lt_of_le_of_lt h (by decide)
section
variable {X : Cx}
theorem pv (i : Nat) {x : Str} {pos : Pos} (hN : X.N[i]? = some x := by rfl) (hv : Vis X.env.scope x := by first | exact Or.inl rfl | exact Or.inr (Or.inl rfl) | exact Or.inr (Or.inr rfl)) (hd : (x == ("__debug__" : Str)) = false := by decide)
    (hcd : (x == ("__classdict__" : Str)) = false := by decide) : PE X (.Name x pos) (tVar i) := pe_var hN hv hd hcd
end
theorem iteF {A B : Prop} (h : B) : if false = true then A else B := by
  rw [if_neg Bool.false_ne_true]
  exact h
theorem iteT {A B : Prop} (h : A) : if true = true then A else B := by
  rw [if_pos rfl]
  exact h
theorem ite2 {c A B : Prop} [Decidable c] (h1 : c → A) (h2 : ¬ c → B) : if c then A else B := by
  by_cases h : c
  · rw [if_pos h]
    exact h1 h
  · rw [if_neg h]
    exact h2 h
def Same (H H' : Hp) : Prop := ∀ b o,H b = some o → H' b = some o
theorem Same.refl (H : Hp) : Same H H := fun _ _ h => h
theorem Same.trans {H H1 H2 : Hp} (a : Same H H1) (b : Same H1 H2) : Same H H2 := fun c o h => b c o (a c o h)
theorem Same.free {H H' : Hp} (e : Same H H') {l : Addr} (h : H' l = Option.none) : H l = Option.none := by
  cases q : H l with
  | none => rfl
  | some o =>
    rw [e l o q] at h
    cases h
end L2
namespace L2
open PySem PySem.Spec PyProof.Rows
section
variable {X : Cx}
end
section
variable {κ : Type} [DecidableEq κ]
end
end L2
set_option maxHeartbeats 4000000
namespace L2
open PySem PySem.Spec PyProof.Rows
section
variable {X : Cx} {pins : List (Addr × Obj)} {σ : St} {H : Hp} {s : Shared} {D : Addr} {o : HO}
theorem HOk.adopt {P : Program} {w : World} {h : Heap} (x : HOk P w H h) (hn : H D = none) (new : ObjOk P w (upd H D o) h D o) : HOk P w (upd H D o) h := fun b u e => by
  by_cases hb : b = D
  · subst hb; rw [upd_same] at e; cases e; exact new
  · rw [upd_ne hb] at e
    exact (x b u e).stay (fun c v _ q => q) (fun c q => by rw [upd_ne (ne_of_none q hn)]; exact q) fun c xs q => by rw [upd_ne (ne_of_none q hn)]; exact q
theorem Inv.adopt (I : Inv X pins σ H s) (hf : FpOk X pins H D) (new : ObjOk X.prog X.w (upd H D o) s.heap D o) : Inv X pins σ (upd H D o) s := by
  obtain ⟨f0,f1,f2,f3,f4,f5⟩ := hf
  obtain ⟨hp,g,d,t,os⟩ := s
  refine I.step (h' := hp) (g' := g) (t' := t) (d' := d) (ch := [D]) (fun b hb => ?_) (fun b ob _ _ _ e _ => e) (fun b ob _ _ _ e _ => ⟨ob.slots,e⟩) (fun b ob hb e n => ?_) (fun b ob _ e => ⟨ob,e⟩)
    (fun b xs e => by rw [upd_ne (ne_of_none e f0)]; exact e) (fun b ob u e => by rw [upd_ne (ne_of_none e f0)]; exact e) (fun b ps e => ⟨#[],by rw [upd_ne (ne_of_none e f0),e]; simp⟩) (fun m hm => hm) (I.hok.adopt f0 new) I.bare
  · have e : b = D := by simpa using hb
    subst e
    exact ⟨f3,f1,f4,f5⟩
  · rw [upd_ne (fun z => hb (by simp [z]))]
    exact n
end
section
variable {prog : Program} {w : World} {A : Around} {R : Result → Shared → Prop} {s : Shared}
abbrev noE : Value → Shared → Prop := fun _ _ => False
theorem compLoop_go {elt tgt iter : Expr} {scope : Scope} {pos : Pos} {it acc : Value} {env : Env} (J : Nat → Shared → Prop)
    (turn : ∀ n s, J n s → wpAny (model prog w) A (pyNext it) (fun r s1 => match r with
      | none => R (.ok .next) s1
      | some v => wpAny (model prog w) A (letOwnedTupleGo tgt it v) (fun _ s2 => wpAny (model prog w) A (assign tgt env v) (fun _ s3 =>
          wpAny (model prog w) A (eval elt env) (fun x s4 => wpAny (model prog w) A (call (.builtin "list.append") [acc, x]) (fun _ s5 => ∃ m, m < n ∧ J m s5) noE s4) noE s3) noE s2) noE s1) noE s)
    (n : Nat) (h : J n s) : codeAny (model prog w) A (.compLoop (.ListComp elt [⟨tgt, iter, [], 0⟩] scope pos) 0 it acc env) R s := by
  refine codeAny_loop rfl J (fun k s' hJ => ?_) n h
  show wpAny _ A ((compTurn (.ListComp elt [⟨tgt, iter, [], 0⟩] scope pos) 0 it acc env).onRaise (fun x => do noteFrame x env; theTreesLotGoes x)) _ _ s'
  refine wpAny_noted ?_
  rw [compTurn_list1]
  refine wpAny_bind (wpAny_standAt (wpAny_bind (wpAny_mono (turn k s' hJ) (fun r s1 h1 => ?_) fun _ _ z => z.elim)))
  cases r with
  | none => exact wpAny_pure h1
  | some v =>
    refine wpAny_bind (wpAny_mono h1 (fun _ s2 h2 => wpAny_bind (wpAny_mono h2 (fun _ s3 h3 => ?_) fun _ _ z => z.elim)) fun _ _ z => z.elim)
    exact wpAny_bind (wpAny_bind (wpAny_mono h3 (fun x s4 h4 => wpAny_bind (wpAny_mono h4 (fun _ s5 h5 => wpAny_pure (wpAny_pure ⟨rfl, h5⟩)) fun _ _ z => z.elim)) fun _ _ z => z.elim))
end
structure CompSc (N : List Str) (sc scope : Scope) (x : Str) : Prop where
  kind : scope.kind = .function
  nocell : ∀ y ∈ scope.names,y.2 ≠ .cell
  names : ∀ y ∈ scope.names,y.2 = .local → scope.names.lookup y.1 = some .local
  own : scope.names.lookup x = some .local
  free : ∀ y ∈ scope.names,y.2 = .free → sc.names.lookup y.1 = some .cell ∨ sc.names.lookup y.1 = some .free
  loc : ∀ y ∈ N,scope.names.lookup y ≠ some .local
  nd : (x :: N).Nodup
theorem lookup_mapK {f : Str → NameKind → NameKind} : ∀ (l : List (Str × NameKind)) (y : Str), (l.map fun p => (p.1, f p.1 p.2)).lookup y = (l.lookup y).map (f y)
  | [], _ => rfl
  | (n, k) :: r, y => by
    rw [List.map_cons, List.lookup_cons, List.lookup_cons]
    cases h : y == n with
    | true => rw [show y = n from eq_of_beq h]; rfl
    | false => exact lookup_mapK r y
theorem relabel_lookup (scope : Scope) (env : Env) (y : Str) : (relabel scope env).names.lookup y = (scope.names.lookup y).map fun k => if (k == .free && env.scope.kind == .function && env.kindOf y == some .cell) = true then .cell else k := by
  have e : (relabel scope env).names = scope.names.map fun p => (p.1,(fun y k => if (k == NameKind.free && env.scope.kind == .function && env.kindOf y == some .cell) = true then NameKind.cell else k) p.1 p.2) := by
    show scope.names.map _ = _
    apply List.map_congr_left
    rintro ⟨n,k⟩ _
    show (if _ = true then (n,NameKind.cell) else (n,k)) = (n,if _ = true then NameKind.cell else k)
    split <;> rfl
  rw [e]
  exact lookup_mapK (f := fun y k => if (k == NameKind.free && env.scope.kind == .function && env.kindOf y == some .cell) = true then NameKind.cell else k) scope.names y
section
variable {N : List Str} {sc scope : Scope} {x : Str} {env : Env}
theorem CompSc.free_of (S : CompSc N sc scope x) {y : Str} (h : (relabel scope env).names.lookup y = some .cell ∨ (relabel scope env).names.lookup y = some .free) : (y, NameKind.free) ∈ scope.names := by
  rw [relabel_lookup] at h
  cases e : scope.names.lookup y with
  | none => rw [e] at h; simp at h
  | some k =>
    have hm := PySem.mem_of_lookup e
    have hk := S.nocell _ hm
    cases k with
    | free => exact hm
    | cell => exact absurd rfl hk
    | _ => rw [e] at h; simp at h
theorem CompSc.outer (S : CompSc N sc scope x) {y : Str} (hy : y ∈ N) (h : Vis (relabel scope env) y) : ((relabel scope env).names.lookup y = some .cell ∨ (relabel scope env).names.lookup y = some .free) := by
  rcases h with h | h | h
  · exfalso
    rw [relabel_lookup] at h
    cases e : scope.names.lookup y with
    | none => rw [e] at h; simp at h
    | some k =>
      rw [e] at h
      have : k = .local := by
        have h2 : (if (k == NameKind.free && env.scope.kind == .function && env.kindOf y == some .cell) = true then NameKind.cell else k) = .local := by simpa using h
        split at h2
        · cases h2
        · exact h2
      subst this
      exact S.loc y hy e
  · exact .inl h
  · exact .inr h
theorem closure_of (hf : ∀ y ∈ scope.names, y.2 = .free → ∃ c, env.cells.lookup y.1 = some c) :
    ∃ cl, closureFor scope env = pure cl ∧ (∀ y c, cl.lookup y = some c → env.cells.lookup y = some c) ∧ ∀ y, (y, NameKind.free) ∈ scope.names → ∃ c, cl.lookup y = some c := by
  have key : ∀ (l : List (Str × NameKind)) (acc : List (Str × Addr)), (∀ y ∈ l, y.2 = .free → ∃ c, env.cells.lookup y.1 = some c) → (∀ y c, acc.lookup y = some c → env.cells.lookup y = some c) →
      ∃ cl, (forIn l acc (fun (p : Str × NameKind) (r : List (Str × Addr)) => if p.2 == NameKind.free then (do let c ← cellOf env p.1; pure (ForInStep.yield ((p.1, c) :: r))) else pure (ForInStep.yield r)) : Sem (List (Str × Addr))) = pure cl ∧
        (∀ y c, cl.lookup y = some c → env.cells.lookup y = some c) ∧ (∀ y, (y, NameKind.free) ∈ l → ∃ c, cl.lookup y = some c) ∧ ∀ y c, acc.lookup y = some c → ∃ c, cl.lookup y = some c := by
    intro l
    induction l with
    | nil => intro acc _ ha; exact ⟨acc, rfl, ha, fun y h => by simp at h, fun y c h => ⟨c, h⟩⟩
    | cons p r ih =>
      intro acc hp ha
      obtain ⟨n, k⟩ := p
      by_cases hk : k = .free
      · subst hk
        obtain ⟨c, hc⟩ := hp (n, .free) List.mem_cons_self rfl
        obtain ⟨cl, e, h1, h2, h3⟩ := ih ((n, c) :: acc) (fun y hy => hp y (List.mem_cons_of_mem _ hy)) (fun y d hd => by
          rw [List.lookup_cons] at hd
          cases hb : y == n with
          | true => rw [hb] at hd; simp at hd; rw [show y = n from eq_of_beq hb, ← hd]; exact hc
          | false => rw [hb] at hd; exact ha y d hd)
        refine ⟨cl, ?_, h1, fun y hy => ?_, fun y d hd => ?_⟩
        · rw [List.forIn_cons]
          simp only [beq_self_eq_true, if_true, cellOf, hc, pure_bind]
          exact e
        · rcases List.mem_cons.mp hy with z | z
          · cases z
            exact h3 n c (by simp [List.lookup_cons])
          · exact h2 y z
        · cases hb : y == n with
          | true => exact h3 y c (by rw [List.lookup_cons, hb])
          | false => exact h3 y d (by rw [List.lookup_cons, hb]; exact hd)
      · obtain ⟨cl, e, h1, h2, h3⟩ := ih acc (fun y hy => hp y (List.mem_cons_of_mem _ hy)) ha
        refine ⟨cl, ?_, h1, fun y hy => ?_, h3⟩
        · rw [List.forIn_cons]
          have hb : (k == NameKind.free) = false := by simpa using hk
          simp only [hb, Bool.false_eq_true, if_false, pure_bind]
          exact e
        · rcases List.mem_cons.mp hy with z | z
          · cases z; exact absurd rfl hk
          · exact h2 y z
  obtain ⟨cl, e, h1, h2, _⟩ := key scope.names [] hf (fun y c h => by simp at h)
  refine ⟨cl, ?_, h1, h2⟩
  unfold closureFor
  simp only [bind_pure]
  exact e
end
def Cx.comp (X : Cx) (scope : Scope) (cl : List (Str × Addr)) (x : Str) (C : Addr) (s0 : Shared) (H0 : Hp) (fp : List Addr) (pins : List (Addr × Obj)) : Cx :=
  { X with N := x :: X.N,s₀ := s0,H₀ := H0,env := compEnvC scope cl C X.env,outer := X.stack,ex := fp,fn := fun _ => false,pn := X.pn ++ pins,xe := fun _ _ => False }
section
variable {X : Cx} {pins : List (Addr × Obj)} {σ : St} {H : Hp} {s : Shared} {scope : Scope} {cl : List (Str × Addr)} {x : Str} {C : Addr} {fp : List Addr}
theorem Inv.stkNot (I : Inv X pins σ H s) {b : Addr} (h1 : b ≠ X.env.locals) (h2 : b ∉ X.fs) : b ∉ frs X.stack := fun hb => by
  rcases List.mem_cons.mp (I.stkSub b hb) with e | e
  · exact h1 e
  · exact h2 e
theorem inv_comp {h4 : Heap} {tk : Nat} {m0 : Str → Option Value} (I : Inv X pins σ H s) (S : CompSc X.N X.env.scope scope x) (sub : ∀ y c, cl.lookup y = some c → X.env.cells.lookup y = some c)
    (has : ∀ y, (y, NameKind.free) ∈ scope.names → ∃ c, cl.lookup y = some c) (hk : ∀ b o, s.heap.get? b = some o → h4.get? b = some o) (hC : s.heap.objs.size ≤ C) (hns : h4.Ns C m0)
    (hf : ∀ b ∈ fp, FpOk X pins H b ∧ b < s.heap.objs.size) : Inv (X.comp scope cl x C s H fp pins) [] (none :: σ) H { s with heap := h4, toks := tk } := by
  have lt : ∀ {b : Addr} {o : Obj}, s.heap.get? b = some o → b ≠ C := fun e => Nat.ne_of_lt (Nat.lt_of_lt_of_le (Heap.lt_size e) hC)
  refine ⟨⟨I.ok.mod, S.kind, I.ok.glob, I.ok.blt, hC, fun y z c h1 h2 => I.ok.inj y z c (sub y c h1) (sub z c h2), fun y hy => has y (S.free_of (env := X.env) hy), fun y c h => absurd (show false = true from h) Bool.false_ne_true, I.ok.hd, I.ok.frames, .inl rfl,
    fun b hb => ⟨Nat.ne_of_lt (Nat.lt_of_lt_of_le (hf b hb).2 hC), fun y c e => (hf b hb).1.2.2.2.2.1 y c (sub y c e)⟩, I.bs, Nat.le_trans I.ok.bsz I.sz, fun b o e hb => ?_, fun b hb => ?_, I.stack, I.stkFree⟩,
    rfl, I.bare, Un.kept hk, ⟨m0, hns, fun i y v e1 e2 e3 => ?_⟩, fun y c e => ?_, I.hok.fresh hC, fun y c e => I.freeC y c (sub y c e), fun p hp => ?_, I.hok.kept hk, by simp [Cx.comp, I.len]⟩
  · rcases (hf b hb).1.2.2.2.1 with z | z
    · exact I.ok.noex b o e z
    · exact absurd (Nat.lt_of_lt_of_le (Heap.lt_size e) (Nat.le_trans I.ok.bsz z)) (Nat.lt_irrefl _)
  · exact I.stkNot (hf b hb).1.2.1 (hf b hb).1.2.2.1
  · cases i with
    | zero => simp at e2
    | succ i =>
      rw [List.getElem?_cons_succ] at e2
      have e1' : X.N[i]? = some y := by simpa [Cx.comp] using e1
      have hout := S.outer (env := X.env) (List.mem_of_getElem? e1') e3
      have hfr := S.free_of hout
      have hkind := S.free _ hfr rfl
      obtain ⟨m, hn, hl⟩ := I.loc
      have vis : Vis X.env.scope y := by
        rcases hkind with z | z
        · exact .inr (.inl z)
        · exact .inr (.inr z)
      obtain ⟨u, r, lk⟩ := hl i y v e1' e2 vis
      refine ⟨u, r, .inr ⟨hout, ?_⟩⟩
      obtain ⟨c, hc⟩ := has y hfr
      have hc' := sub y c hc
      rcases lk with ⟨k, _⟩ | ⟨_, c', e', z⟩
      · exfalso
        have k' : X.env.scope.names.lookup y = some .local := k
        rcases hkind with q | q <;> rw [k'] at q <;> cases q
      · rw [hc'] at e'
        cases e'
        exact ⟨c, hc, z.keeps hk⟩
  · obtain ⟨v, z⟩ := I.cell y c (sub y c e)
    exact ⟨v, z.keeps hk⟩
  · have hp' : p ∈ X.pn ++ pins := by simpa [Cx.comp] using hp
    obtain ⟨e, n, ne, nf, d⟩ := I.pin p hp'
    exact ⟨hk _ _ e, n, lt e, I.stkNot ne nf, d⟩
end
def CompW (te : TE) (σ : St) (J : It) (H1 : Hp) (Fin : List V → Hp → Prop) : Prop :=
  ∃ W : Nat → Nat → List V → Hp → Prop,(∃ m,W 0 m [] H1) ∧ ∀ i m ys H,W i m ys H →
    (J.stop i H ∧ ys.length ≤ sizeLine ∧ Fin ys H) ∨ (J.go i H ∧ ys.length < sizeLine ∧ ∀ v H',J.yld i H v H' → ∃ N : V → Hp → Prop,(∀ y H2,N y H2 → ∃ m',m' < m ∧ W (i + 1) m' (ys ++ [y]) H2) ∧ te (some v :: σ) H' N)
section
variable {X : Cx} {pins : List (Addr × Obj)} {σ : St} {H : Hp} {s : Shared} {scope : Scope} {x : Str} {elt iter : Expr} {px pos cpos : Pos} {wi : TI} {te : TE} {use : Option (Value → Sem Unit)} {Q : Value → Shared → Prop} {Fin : List V → Hp → Prop}
theorem comp_core (hc : X.calm = true) (S : CompSc X.N X.env.scope scope x) (hi : PI X (.Name x px) iter wi) (he : ∀ cl C s0 H0 fp pins,PE (X.comp scope cl x C s0 H0 fp pins) elt te) (I : Inv X pins σ H s)
    (h : wi σ H fun J H1 => CompW te σ J H1 Fin)
    (fin : ∀ (ys : List V) (H' : Hp) (s' : Shared) (D C : Addr) (m : Str → Option Value) (its : List Value) (n : Nat),Fin ys H' → Inv X pins σ H' s' → FpOk X pins H' D → ys.length ≤ sizeLine → Vals ys its → s'.heap.get? D = some { cls := .type "list",data := .seq its.toArray n } →
      FpOk X pins H' C → D ≠ C → s'.heap.Ns C m → compPost (model X.prog X.w) X.A X.xe use Q (.ref D) C (.ok .next) s')
    (hs : ∀ v,foldedSetIterable iter X.env v = pure v := by intro _; rfl) :
    wpAny (model X.prog X.w) X.A (comprehension (.ListComp elt [⟨.Name x px,iter,[],0⟩] scope pos) scope X.env cpos (newList []) false (eval iter X.env) use) Q X.xe s := by
  obtain ⟨cl,hcl,sub,has⟩ := closure_of (scope := scope) (env := X.env) (fun y hy hy2 => by
    rcases S.free y hy hy2 with z | z
    · exact I.ok.has y.1 (.inl z)
    · exact I.ok.has y.1 (.inr z))
  refine wpAny_comprehension_free (g := ⟨.Name x px,iter,[],0⟩) (gs := []) rfl hs hcl S.kind S.names (thn (hi pins s σ H _ I h) fun v s1 h1 => thn h1 fun itv s2 h2 => ?_)
  obtain ⟨it,fp,tn,J,H2,e,I2,T,st2,f2,W,⟨m0,w0⟩,turn⟩ := h2
  subst e
  refine wpAny_newObj_type (wpAny_newFunctionEnv S.nocell (by intro y hy; simp at hy) (fun h4 hns hsb => ?_) S.kind)
  dsimp only at hns hsb ⊢
  have hCz : (s2.heap.push { cls := .type "list",dict := none,data := .seq ([] : List Value).toArray }).objs.size = s2.heap.objs.size + 1 := Heap.size_push ..
  generalize hG : s2.heap.push { cls := .type "list",dict := none,data := .seq ([] : List Value).toArray } = G at hns hsb hCz ⊢
  have lt : ∀ {b : Addr} {o : Obj},s2.heap.get? b = some o → b < s2.heap.objs.size := fun e => Heap.lt_size e
  have hk : ∀ b o,s2.heap.get? b = some o → h4.get? b = some o := fun b o e => hsb.extBut b o (Nat.ne_of_lt (by rw [hCz]; exact Nat.lt_succ_of_lt (lt e))) (Heap.get?_push_of_some _ (hG ▸ Heap.get?_push_of_some _ e))
  have hD : h4.get? s2.heap.objs.size = some { cls := .type "list",data := .seq ([] : List Value).toArray 0 } :=
    hsb.extBut _ _ (Nat.ne_of_lt (by rw [hCz]; exact Nat.lt_succ_self _)) (Heap.get?_push_of_some _ (hG ▸ Heap.get?_push_size _ rfl))
  have hfp : ∀ b ∈ fp,b < s2.heap.objs.size := fun b hb => let ⟨o,e,_⟩ := T.obj _ _ st2 b hb; lt e
  have hDC : s2.heap.objs.size ≠ G.objs.size := by rw [hCz]; exact Nat.ne_of_lt (Nat.lt_succ_self _)
  have hCge : s2.heap.objs.size ≤ G.objs.size := by rw [hCz]; exact Nat.le_succ _
  let Y := X.comp scope cl x G.objs.size s2 H2 fp pins
  have I4 : Inv Y [] (none :: σ) H2 { s2 with heap := h4,toks := s2.toks + ([] : List (Str × Value)).length } := inv_comp I2 S sub has hk hCge hns fun b hb => ⟨f2 b hb,hfp b hb⟩
  have stat : ∀ {H' : Hp} {pl : List (Addr × Obj)},(∀ b ∈ fp,H' b = none) → (∀ p ∈ pl,s2.heap.objs.size ≤ p.1) → ∀ b ∈ fp,FpOk Y pl H' b := fun {H' pl} hn hpl b hb => by
    obtain ⟨f0,f1,f3,f4,f5,f6⟩ := f2 b hb
    refine ⟨hn b hb,Nat.ne_of_lt (Nat.lt_of_lt_of_le (hfp b hb) hCge),I2.stkNot f1 f3,.inl hb,fun y c e => f5 y c (sub y c e),fun p hp => ?_⟩
    rcases List.mem_append.mp hp with z | z
    · exact f6 p z
    · exact fun q => absurd (hfp b hb) (Nat.not_lt.mpr (by rw [← q]; exact hpl p z))
  have statD : ∀ {H' : Hp},H' s2.heap.objs.size = none → FpOk Y [] H' s2.heap.objs.size := fun {H'} hn => by
    refine ⟨hn,hDC,fun hb => ?_,.inr (Nat.le_refl _),fun y c e z => ?_,fun p hp z => ?_⟩
    · exact I2.stkNot (Nat.ne_of_gt I2.lt) (I2.nofs (Nat.le_refl _)) hb
    · obtain ⟨v,q⟩ := I2.cell y c (sub y c e)
      exact absurd q.lt (by rw [z]; exact Nat.lt_irrefl _)
    · have hp' : p ∈ X.pn ++ pins := by simpa [Y,Cx.comp] using hp
      exact absurd (lt (I2.pin p hp').1) (by rw [z]; exact Nat.lt_irrefl _)
  have pinD : ∀ {τ : St} {H' : Hp} {s' : Shared} {ob : Obj},Inv Y [] τ H' s' → H' s2.heap.objs.size = none → s'.heap.get? s2.heap.objs.size = some ob → (∀ v,ob.data ≠ .cell v) → Inv Y [(s2.heap.objs.size,ob)] τ H' s' := fun {τ H' s' ob} J0 hn ho hd =>
    J0.pins_of fun p hp => by
      have e : p = (s2.heap.objs.size,ob) := by simpa using hp
      subst e
      exact ⟨ho,hn,(statD hn).2.1,(statD hn).2.2.1,hd⟩
  have loop : ∀ s3 : Shared,s3 = { s2 with heap := h4,toks := s2.toks + ([] : List (Str × Value)).length } →
      codeAny (model X.prog X.w) X.A (.compLoop (.ListComp elt [⟨.Name x px,iter,[],0⟩] scope pos) 0 (.ref it) (.ref s2.heap.objs.size) Y.env)
        (compPost (model X.prog X.w) X.A X.xe use Q (.ref s2.heap.objs.size) G.objs.size) s3 := by
    rintro s3 rfl
    refine compLoop_go (fun k s' => ∃ i ys v0 H' its n,Inv Y [] (v0 :: σ) H' s' ∧ tn i s'.heap ∧ (∀ b ∈ fp,H' b = none) ∧ H' s2.heap.objs.size = none ∧ Vals ys its ∧ s'.heap.get? s2.heap.objs.size = some { cls := .type "list",data := .seq its.toArray n } ∧ W i k ys H') ?_ m0
      ⟨0,[],none,H2,[],0,I4,T.keep _ _ _ st2 fun b _ o e => hk b o e,fun b hb => (f2 b hb).1,I2.hok.fresh (Nat.le_refl _),.nil,hD,w0⟩
    rintro k s' ⟨i,ys,v0,H',its,n,I5,st5,fr5,nD5,rv5,oD5,w5⟩
    have I5' := pinD I5 nD5 oD5 (fun v z => by cases z)
    have fp5 := stat (pl := [(s2.heap.objs.size,{ cls := .type "list",data := .seq its.toArray n })]) fr5 (fun p hp => by have e : p = _ := List.mem_singleton.mp hp; rw [e]; exact Nat.le_refl _)
    rcases turn i k ys H' w5 with ⟨stop,hz,qf⟩ | ⟨go,hz,step⟩
    · refine wpAny_mono (T.done Y rfl rfl rfl hc i _ s' _ H' noE I5' fp5 st5 stop) (fun r s6 ⟨hr,I6⟩ => ?_) fun _ _ z => z
      subst hr
      show compPost _ _ _ _ _ _ _ _ s6
      have oD6 := (I6.pin (s2.heap.objs.size,_) (List.mem_append_right _ List.mem_cons_self)).1
      have nD6 := (I6.pin (s2.heap.objs.size,_) (List.mem_append_right _ List.mem_cons_self)).2.1
      obtain ⟨m6,ns6,_⟩ := I6.loc
      have I7 : Inv X pins σ H' s6 := I2.call' I6.os I6.base I6.hok I6.bare fun b hb => ⟨(f2 b hb).2.2.2.1,(f2 b hb).2.1,(f2 b hb).2.2.2.2.1,(f2 b hb).2.2.2.2.2⟩
      exact fin ys H' s6 s2.heap.objs.size G.objs.size m6 its n qf I7 (I2.fpOk (Nat.le_refl _) nD6) hz rv5 oD6 (I2.fpOk hCge I6.free) hDC ns6
    · refine wpAny_mono (T.item Y rfl rfl rfl hc i _ s' _ H' noE I5' fp5 st5 go) (fun r s6 ⟨u,hr,h6⟩ => ?_) fun _ _ z => z
      subst hr
      show wpAny _ _ (letOwnedTupleGo (.Name x px) (.ref it) u) _ _ s6
      refine wpAny_mono h6 (fun _ s7 ⟨v,H7,I7,r7,y7,st7,fr7⟩ => ?_) fun _ _ z => z
      have I7' := I7.pinned (stat (pl := [(s2.heap.objs.size,{ cls := .type "list",data := .seq its.toArray n })]) fr7 (fun p hp => by have e : p = _ := List.mem_singleton.mp hp; rw [e]; exact Nat.le_refl _)) (T.obj _ _ st7)
      have hx : Loc Y.env.scope x := .inl (lookup_relabel_local S.own)
      refine wpAny_assign_Name (store_ok (i := 0) I7' S.nd rfl hx r7 (fun s8 I8 => ?_) (.inr (lookup_relabel_local S.own)))
      obtain ⟨N,hN,stepN⟩ := step v H7 y7
      refine thn (he cl G.objs.size s2 H2 fp pins _ s8 (some v :: σ) H7 _ I8 stepN) fun yu s9 ⟨y,H9,I9,r9,n9⟩ => ?_
      obtain ⟨m',hm,w9⟩ := hN y H9 n9
      have oD9 := (I9.pin (s2.heap.objs.size,_) (List.mem_append_right _ (List.mem_append_left _ List.mem_cons_self))).1
      have nD9 := (I9.pin (s2.heap.objs.size,_) (List.mem_append_right _ (List.mem_append_left _ List.mem_cons_self))).2.1
      have pinF : ∀ b ∈ fp,∀ o,s7.heap.get? b = some o → s9.heap.get? b = some o ∧ H9 b = none := fun b hb o e =>
        ⟨(I9.pin (b,o) (List.mem_append_right _ (List.mem_append_right _ (mem_pinsAt hb e)))).1,(I9.pin (b,o) (List.mem_append_right _ (List.mem_append_right _ (mem_pinsAt hb e)))).2.1⟩
      have hlen := rv5.length
      refine call_meets F.slot_list_append ⟨_,oD9,rfl⟩ F.entry_list_append (F.args_list_append_2 _ _) (PySem.list_append s2.heap.objs.size its.toArray n yu (by rw [List.size_toArray]; omega)) ⟨oD9,?_⟩
      obtain ⟨n9,q9⟩ : ∃ n9,(s9.heap.update s2.heap.objs.size (Obj.mapSeq fun a => a.push yu)).get? s2.heap.objs.size = some { cls := .type "list",data := .seq (its.toArray.push yu) n9 } := ⟨_,PySem.IsL.update oD9 (fun a => a.push yu)⟩
      have I9u : Inv Y [] (some v :: σ) H9 s9 := I9.pins_of fun p hp => absurd hp (by simp)
      obtain ⟨g0,g1,g2,g3,g4,g5⟩ := statD nD9
      have I10 : Inv Y [] (some v :: σ) H9 { s9 with heap := s9.heap.update s2.heap.objs.size (Obj.mapSeq fun a => a.push yu) } :=
        I9u.turned (t' := s9.toks) (fun b o hb e => (Heap.get?_update_other s9.heap _ (Ne.symm hb)).trans e) g0 g1 g3 g4 g5
      refine ⟨m',hm,i + 1,ys ++ [y],some v,H9,its ++ [yu],n9,I10,T.keep _ _ _ st7 fun b hb o e => ?_,fun b hb => ?_,nD9,rv5.append (.cons r9 .nil),?_,w9⟩
      · exact (Heap.get?_update_other s9.heap _ (Nat.ne_of_gt (hfp b hb))).trans (pinF b hb o e).1
      · obtain ⟨o,e,_⟩ := T.obj _ _ st7 b hb
        exact (pinF b hb o e).2
      · rw [show (its ++ [yu]).toArray = its.toArray.push yu by simp]
        exact q9
  exact codeAny_compStart_list (loop _ rfl) (T.self X.A 0 _ _ _ (T.keep _ _ _ st2 fun b _ o e => hk b o e) (loop _ rfl))
end
def tComp (wi : TI) (te : TE) : TE := fun σ H Q => wi σ H fun J H1 => CompW te σ J H1 fun ys H2 => ∀ p,H2 p = none → Q (.ref p) (upd H2 p (.lst ys))
section
variable {X : Cx} {scope : Scope} {x : Str} {elt iter : Expr} {px pos spos py : Pos} {wi : TI} {te : TE}
theorem Inv.afterComp {pins : List (Addr × Obj)} {σ : St} {H : Hp} {s : Shared} {C : Addr} {h' : Heap} (I : Inv X pins σ H s) (f : FpOk X pins H C) (hs : Heap.SameBut C s.heap h') : Inv X pins σ H { s with heap := h' } :=
  I.turned (t' := s.toks) (fun b o hb e => (hs.2 b hb).trans e) f.1 f.2.1 f.2.2.2.1 f.2.2.2.2.1 f.2.2.2.2.2
theorem pe_comp (hc : X.calm = true) (S : CompSc X.N X.env.scope scope x) (hi : PI X (.Name x px) iter wi) (he : ∀ cl C s0 H0 fp pins,PE (X.comp scope cl x C s0 H0 fp pins) elt te)
    (hs : ∀ v,foldedSetIterable iter X.env v = pure v := by intro _; rfl) : PE X (.ListComp elt [⟨.Name x px,iter,[],0⟩] scope pos) (tComp wi te) := by
  intro pins s σ H Q I h
  rw [eval_ListComp]
  refine comp_core (use := none) hc S hi he I h (fun ys H' s' D C m its n q I' fD hz rv oD fC hDC hns => ?_) hs
  refine ⟨m,hns,fun h' hsb => ?_⟩
  have I2 := I'.afterComp fC hsb
  have oD' : h'.get? D = some { cls := .type "list",data := .seq its.toArray n } := (hsb.2 D hDC).trans oD
  exact ⟨.ref D,_,I2.adopt (o := .lst ys) fD ⟨hz,its,n,rv,oD'⟩,rfl,q D fD.1⟩
theorem ps_setComp {i : Nat} {y : Str} (hc : X.calm = true) (S : CompSc X.N X.env.scope scope x) (hN : X.N.Nodup) (hy : X.N[i]? = some y) (hl : X.env.scope.names.lookup y = some .local)
    (hi : PI X (.Name x px) iter wi) (he : ∀ cl C s0 H0 fp pins,PE (X.comp scope cl x C s0 H0 fp pins) elt te)
    (hsw : swapsWith (.ListComp elt [⟨.Name x px,iter,[],0⟩] scope pos) (some (.Name y py)) spos.line X.env = pure true) (hs : ∀ v,foldedSetIterable iter X.env v = pure v := by intro _; rfl) :
    PS X (.Assign [.Name y py] (.ListComp elt [⟨.Name x px,iter,[],0⟩] scope pos) spos) (tAsg (tComp wi te) (gName i)) := by
  intro pins s σ H D I h
  rw [exec_Assign_Name_used _ _ _ _ hsw]
  refine wpAny_bind (wpAny_standAt (wpAny_bind ?_))
  show wpAny _ X.A (do let _ ← comprehension (.ListComp elt [⟨.Name x px,iter,[],0⟩] scope pos) scope X.env _ (newList []) false (eval iter X.env) (some (assign (.Name y py) X.env))) _ _ s
  refine wpAny_bind (wpAny_mono (comp_core (use := some (assign (.Name y py) X.env)) (Q := fun _ s' => SP X pins D .next s') hc S hi he I h (fun ys H' s' E C m its n q I' fD hz rv oD fC hDC hns => ?_) hs) (fun _ s' hq => wpAny_pure (wpAny_pure hq)) fun _ _ z => z)
  show wpAny _ _ (assign (.Name y py) X.env (.ref E)) _ _ s'
  have I2 : Inv X pins σ (upd H' E (.lst ys)) s' := I'.adopt (o := .lst ys) fD ⟨hz,its,n,rv,oD⟩
  refine wpAny_assign_Name (store_ok2 (v := .ref E) I2 hN hy (.inl hl) rfl (fun s2 I3 ⟨a,sb,ha⟩ => ?_) (.inr hl))
  have hCa : C ≠ a := by
    rcases ha with z | z
    · rw [z]; exact fC.2.1
    · exact fun w => fC.2.2.2.2.1 y a z w.symm
  refine ⟨m,hns.sameBut sb hCa,fun h' hsb => ?_⟩
  have fC' : FpOk X pins (upd H' E (.lst ys)) C := ⟨by rw [upd_ne (Ne.symm hDC)]; exact fC.1,fC.2⟩
  exact ⟨_,_,I3.afterComp fC' hsb,q E fD.1⟩
end
end L2
namespace L2
open PySem PySem.Spec PyProof.Rows
mutual
def Rep (K : PySem.W.Frag) (H : Hp) : PyData → V → Prop
  | .none,v => v = .non
  | .bool b,v => v = .bl b
  | .int i,v => v = .int i
  | .str x,v => v = .str x
  | .tuple ds,v => ∃ a vs,v = .ref a ∧ SqT K H a vs ∧ Reps K H ds vs
  | .list ds,v => ∃ a o vs,v = .ref a ∧ H a = some (.frz o (.lst vs)) ∧ Reps K H ds vs
  | .dict kvs,v => ∃ a C dx fs,v = .ref a ∧ H a = some (.ins C dx fs) ∧ RepF K H kvs ((("" : Str),V.int ((C : Nat) : Int)) :: fs)
def Reps (K : PySem.W.Frag) (H : Hp) : List PyData → List V → Prop
  | [],vs => vs = []
  | d :: ds,vs => ∃ v r,vs = v :: r ∧ Rep K H d v ∧ Reps K H ds r
def RepF (K : PySem.W.Frag) (H : Hp) : List (PyData × PyData) → List (Str × V) → Prop
  | [],vs => vs = []
  | (k,d) :: ds,vs => ∃ g v r,vs = (g,v) :: r ∧ k = .str g ∧ Rep K H d v ∧ RepF K H ds r
end
structure TupLe (K : PySem.W.Frag) (H H' : Hp) : Prop where
  tup : ∀ a xs,SqT K H a xs → SqT K H' a xs
  frz : ∀ a o xs,H a = some (.frz o (.lst xs)) → H' a = some (.frz o (.lst xs))
  ins : ∀ a C dx fs,H a = some (.ins C dx fs) → H' a = some (.ins C dx fs)
instance {K : PySem.W.Frag} {H H' : Hp} : CoeFun (TupLe K H H') (fun _ => ∀ a xs,SqT K H a xs → SqT K H' a xs) := ⟨TupLe.tup⟩
theorem TupLe.of_keep {K : PySem.W.Frag} {H H' : Hp} (e : ∀ b o,H b = some o → (∀ xs,o ≠ .lst xs) → (∀ kvs,o ≠ .dK kvs) → (∀ kvs,o ≠ .dT kvs) → H' b = some o) : TupLe K H H' :=
  ⟨fun a xs h => by
    rcases h with (h | ⟨o,h⟩) | h
    · exact .inl (.inl (e _ _ h (fun _ z => nomatch z) (fun _ z => nomatch z) (fun _ z => nomatch z)))
    · exact .inl (.inr ⟨o,e _ _ h (fun _ z => nomatch z) (fun _ z => nomatch z) (fun _ z => nomatch z)⟩)
    · exact .inr h,fun a o xs h => e _ _ h (fun _ z => nomatch z) (fun _ z => nomatch z) (fun _ z => nomatch z),fun a C dx fs h => e _ _ h (fun _ z => nomatch z) (fun _ z => nomatch z) (fun _ z => nomatch z)⟩
theorem TupLe.refl {K : PySem.W.Frag} (H : Hp) : TupLe K H H := .of_keep fun _ _ h _ _ _ => h
theorem TupLe.trans {K : PySem.W.Frag} {H H1 H2 : Hp} (a : TupLe K H H1) (b : TupLe K H1 H2) : TupLe K H H2 := ⟨fun c xs h => b.tup c xs (a.tup c xs h),fun c o xs h => b.frz c o xs (a.frz c o xs h),fun c C dx fs h => b.ins c C dx fs (a.ins c C dx fs h)⟩
theorem TupLe.of_same {K : PySem.W.Frag} {H H' : Hp} (e : Same H H') : TupLe K H H' := .of_keep fun b o h _ _ _ => e b o h
def SameBut (p : Addr) (H H' : Hp) : Prop := ∀ b o,b ≠ p → H b = some o → H' b = some o
theorem SameBut.upd {p : Addr} {H : Hp} (o : HO) : SameBut p H (upd H p o) := fun b u n h => by rw [upd_ne n]; exact h
theorem SameBut.tup {K : PySem.W.Frag} {p : Addr} {H H' : Hp} {xs : List V} (e : SameBut p H H') (hp : H p = some (.lst xs)) : TupLe K H H' := .of_keep fun b o h n _ _ => e b o (fun z => by rw [z,hp] at h; cases h; exact n _ rfl) h
theorem same_upd {H : Hp} {p : Addr} (h : H p = none) (o : HO) : Same H (upd H p o) := fun b u q => by rw [upd_ne (ne_of_none q h)]; exact q
section
variable {K : PySem.W.Frag} {H H' : Hp}
mutual
theorem Rep.mono (e : TupLe K H H') : ∀ (d : PyData) (v : V), Rep K H d v → Rep K H' d v
  | .none, v, h => by rw [Rep] at h ⊢; exact h
  | .bool _, v, h => by rw [Rep] at h ⊢; exact h
  | .int _, v, h => by rw [Rep] at h ⊢; exact h
  | .str _, v, h => by rw [Rep] at h ⊢; exact h
  | .tuple ds, v, h => by
    rw [Rep] at h ⊢
    obtain ⟨a, vs, e1, e2, e3⟩ := h
    exact ⟨a, vs, e1, e.tup a vs e2, Reps.mono e ds vs e3⟩
  | .list ds, v, h => by
    rw [Rep] at h ⊢
    obtain ⟨a, o, vs, e1, e2, e3⟩ := h
    exact ⟨a, o, vs, e1, e.frz a o vs e2, Reps.mono e ds vs e3⟩
  | .dict kvs, v, h => by
    rw [Rep] at h ⊢
    obtain ⟨a, C, dx, fs, e1, e2, e3⟩ := h
    exact ⟨a, C, dx, fs, e1, e.ins a C dx fs e2, RepF.mono e kvs _ e3⟩
theorem Reps.mono (e : TupLe K H H') : ∀ (ds : List PyData) (vs : List V), Reps K H ds vs → Reps K H' ds vs
  | [], vs, h => by rw [Reps] at h ⊢; exact h
  | d :: ds, vs, h => by
    rw [Reps] at h ⊢
    obtain ⟨v, r, e1, e2, e3⟩ := h
    exact ⟨v, r, e1, Rep.mono e d v e2, Reps.mono e ds r e3⟩
theorem RepF.mono (e : TupLe K H H') : ∀ (ds : List (PyData × PyData)) (vs : List (Str × V)), RepF K H ds vs → RepF K H' ds vs
  | [], vs, h => by rw [RepF] at h ⊢; exact h
  | (k, d) :: ds, vs, h => by
    rw [RepF] at h ⊢
    obtain ⟨g, v, r, e1, e2, e3, e4⟩ := h
    exact ⟨g, v, r, e1, e2, Rep.mono e d v e3, RepF.mono e ds r e4⟩
end
theorem Reps.length : ∀ {ds : List PyData} {vs : List V}, Reps K H ds vs → vs.length = ds.length
  | [], vs, h => by rw [Reps] at h; rw [h]; rfl
  | d :: ds, vs, h => by
    rw [Reps] at h
    obtain ⟨v, r, e1, _, e3⟩ := h
    rw [e1, List.length_cons, List.length_cons, Reps.length e3]
theorem Reps.get : ∀ {ds : List PyData} {vs : List V} {i : Nat} {d : PyData}, Reps K H ds vs → ds[i]? = some d → ∃ v, vs[i]? = some v ∧ Rep K H d v
  | [], vs, i, d, h, e => by simp at e
  | x :: ds, vs, 0, d, h, e => by
    rw [Reps] at h
    obtain ⟨v, r, e1, e2, _⟩ := h
    simp at e
    subst e e1
    exact ⟨v, rfl, e2⟩
  | x :: ds, vs, i + 1, d, h, e => by
    rw [Reps] at h
    obtain ⟨v, r, e1, _, e3⟩ := h
    subst e1
    obtain ⟨u, h1, h2⟩ := Reps.get (i := i) (d := d) e3 (by simpa using e)
    exact ⟨u, by simpa using h1, h2⟩
theorem Reps.append : ∀ {ds es : List PyData} {vs ws : List V}, Reps K H ds vs → Reps K H es ws → Reps K H (ds ++ es) (vs ++ ws)
  | [], es, vs, ws, h, h' => by rw [Reps] at h; rw [h]; exact h'
  | d :: ds, es, vs, ws, h, h' => by
    rw [Reps] at h
    obtain ⟨v, r, e1, e2, e3⟩ := h
    subst e1
    rw [List.cons_append, List.cons_append, Reps]
    exact ⟨v, r ++ ws, rfl, e2, Reps.append e3 h'⟩
theorem Reps.one {d : PyData} {v : V} (h : Rep K H d v) : Reps K H [d] [v] := by
  rw [Reps]; exact ⟨v,[],rfl,h,by rw [Reps]⟩
theorem Reps.nil : Reps K H [] [] := by rw [Reps]
theorem Reps.cons {d : PyData} {ds : List PyData} {v : V} {vs : List V} (h : Rep K H d v) (t : Reps K H ds vs) : Reps K H (d :: ds) (v :: vs) := by
  rw [Reps]; exact ⟨v,vs,rfl,h,t⟩
theorem Reps.split {d : PyData} {ds : List PyData} {vs : List V} (h : Reps K H (d :: ds) vs) : ∃ v r,vs = v :: r ∧ Rep K H d v ∧ Reps K H ds r := by rw [Reps] at h; exact h
theorem Reps.take : ∀ {ds : List PyData} {vs : List V} (n : Nat), Reps K H ds vs → Reps K H (ds.take n) (vs.take n)
  | [], vs, n, h => by rw [Reps] at h; rw [h]; simp; exact .nil
  | d :: ds, vs, 0, h => by simp; exact .nil
  | d :: ds, vs, n + 1, h => by
    obtain ⟨v, r, e1, e2, e3⟩ := h.split
    subst e1
    rw [List.take_succ_cons, List.take_succ_cons]
    exact .cons e2 (Reps.take n e3)
theorem Reps.drop : ∀ {ds : List PyData} {vs : List V} (n : Nat), Reps K H ds vs → Reps K H (ds.drop n) (vs.drop n)
  | [], vs, n, h => by rw [Reps] at h; rw [h]; simp; exact .nil
  | d :: ds, vs, 0, h => by simpa using h
  | d :: ds, vs, n + 1, h => by
    obtain ⟨v, r, e1, e2, e3⟩ := h.split
    subst e1
    rw [List.drop_succ_cons, List.drop_succ_cons]
    exact Reps.drop n e3
theorem Reps.reverse {ds : List PyData} {vs : List V} (h : Reps K H ds vs) : Reps K H ds.reverse vs.reverse := by
  induction ds generalizing vs with
  | nil => rw [Reps] at h; rw [h]; exact .nil
  | cons d ds ih =>
    obtain ⟨v, r, e1, e2, e3⟩ := h.split
    subst e1
    rw [List.reverse_cons, List.reverse_cons]
    exact (ih e3).append (.one e2)
theorem Rep.tuple {ds : List PyData} {a : Addr} {vs : List V} (h : SqT K H a vs) (r : Reps K H ds vs) : Rep K H (.tuple ds) (.ref a) := by
  rw [Rep]; exact ⟨a,vs,rfl,h,r⟩
theorem Rep.untuple {ds : List PyData} {v : V} (h : Rep K H (.tuple ds) v) : ∃ a vs,v = .ref a ∧ SqT K H a vs ∧ Reps K H ds vs := by rw [Rep] at h; exact h
theorem Rep.int (i : Int) : Rep K H (.int i) (.int i) := by rw [Rep]
theorem Rep.str (x : Str) : Rep K H (.str x) (.str x) := by rw [Rep]
theorem Rep.bool (b : Bool) : Rep K H (.bool b) (.bl b) := by rw [Rep]
theorem Rep.non : Rep K H .none .non := by rw [Rep]
theorem Rep.is_int {i : Int} {v : V} (h : Rep K H (.int i) v) : v = .int i := by rw [Rep] at h; exact h
theorem Rep.is_str {x : Str} {v : V} (h : Rep K H (.str x) v) : v = .str x := by rw [Rep] at h; exact h
theorem Rep.is_bool {b : Bool} {v : V} (h : Rep K H (.bool b) v) : v = .bl b := by rw [Rep] at h; exact h
theorem Rep.is_non {v : V} (h : Rep K H .none v) : v = .non := by rw [Rep] at h; exact h
end
section
variable {X : Cx} {pins : List (Addr × Obj)} {σ : St} {H : Hp} {s : Shared}
end
def rCatT' (K : PySem.W.Frag) : R2 := fun x y H Q => ∃ a b xs ys,x = .ref a ∧ y = .ref b ∧ SqT K H a xs ∧ SqT K H b ys ∧ xs.length + ys.length ≤ sizeLine ∧
  (xs = [] → Q (.ref b) H) ∧ (xs ≠ [] → ys = [] → Q (.ref a) H) ∧ (xs ≠ [] → ys ≠ [] → ∀ p,H p = none → Q (.ref p) (upd H p (.tup (xs ++ ys))))
section
variable {X : Cx}
theorem op_catT' : OpR X (binaryOp .Add) (rCatT' X.K) := by
  intro pins s σ H x y v u Q I rx ry h
  obtain ⟨a,b,xs,ys,rfl,rfl,ha,hb,hz,q0,q1,q2⟩ := h
  by_cases hx : xs = []
  · cases rx
    cases ry
    obtain ⟨its,r1,⟨⟨cls,dd,data,sl⟩,ho,hc,n,hd⟩,_⟩ := I.tuple ha
    obtain ⟨its2,r2,⟨⟨cls2,dd2,data2,sl2⟩,ho2,hc2,n2,hd2⟩,_⟩ := I.tuple hb
    simp only at hc hd hc2 hd2
    subst hc hd hc2 hd2
    have e0 : its = [] := r1.nil_iff.mpr hx
    exact concat_meets ⟨_,ho,rfl⟩ ⟨_,ho2,rfl⟩ noFill_tuple_add seq_tuple_add PySem.F.slot_tuple_add PySem.F.entry_tuple_add (PySem.F.args_tuple_add_2 _ _)
      (tuple_addW0 a b its.toArray its2.toArray n n2 dd dd2 sl sl2 (by simp [e0])) ⟨ho,ho2,⟨.ref b,H,I,rfl,q0 hx⟩⟩
  · exact op_catT pins s σ H (.ref a) (.ref b) v u Q I rx ry ⟨a,b,xs,ys,rfl,rfl,ha,hb,hx,hz,q1 hx,q2 hx⟩
theorem cat_reps {K : PySem.W.Frag} {H : Hp} {a b : Addr} {xs ys : List V} {Q : VK} (ha : SqT K H a xs) (hb : SqT K H b ys) (hz : xs.length + ys.length ≤ sizeLine)
    (q : ∀ (c : Addr) (H' : Hp),Same H H' → SqT K H' c (xs ++ ys) → Q (.ref c) H') : rCatT' K (.ref a) (.ref b) H Q :=
  ⟨a,b,xs,ys,rfl,rfl,ha,hb,hz,fun e => q b H (Same.refl H) (by rw [e]; exact hb),fun _ e => q a H (Same.refl H) (by rw [e,List.append_nil]; exact ha),fun _ _ p hp => q p _ (same_upd hp _) (SqT.of upd_same)⟩
theorem op_mulS : OpR X (binaryOp .Mult) (fun x y H Q => ∃ z n,x = .str z ∧ y = .int n ∧ 0 < z.length ∧ 1 < n ∧ n ≤ 1000 ∧ z.length ≤ 1000 ∧ Q (.str (Txt.mul z n)) H) := by
  intro pins s σ H x y v u Q I rx ry h
  obtain ⟨z,n,rfl,rfl,h0,h1,h2,h3,q⟩ := h
  obtain ⟨t,rfl⟩ := rx
  obtain ⟨t',rfl⟩ := ry
  have hb : (z.length : Int) * n ≤ 1000000 := by
    have a1 : (z.length : Int) ≤ 1000 := by omega
    have a2 : (z.length : Int) * n ≤ 1000 * n := Int.mul_le_mul_of_nonneg_right a1 (by omega)
    omega
  refine SB.mul ⟨?_,fun _ _ hh => ?_,fun _ _ => ?_⟩ fun t' k => ⟨.str _,H,I.tok _,⟨_,rfl⟩,q⟩
  · rw [decide_eq_false (by omega),decide_eq_false (by omega)]; rfl
  · have : (2 ^ 63 - 1 : Int) / n ≥ 1000 := by
      rw [ge_iff_le,Int.le_ediv_iff_mul_le (by omega)]
      omega
    omega
  · show Builtin.Str.tooLong _ = false
    unfold Builtin.Str.tooLong
    refine decide_eq_false ?_
    have e : ((z.length * n.toNat : Nat) : Int) = (z.length : Int) * n := by rw [Int.natCast_mul,Int.toNat_of_nonneg (by omega)]
    have hs : sizeLine = 16777216 := sizeLine_eq
    omega
inductive TyV (K : PySem.W.Frag) (H : Hp) : V → Value → Prop where
  | of {x : V} {t : Value} (h : TyOf K H x t) : TyV K H x t
  | sqT {a : Addr} {xs : List V} (h : SqT K H a xs) : TyV K H (.ref a) (.type "tuple")
  | sqL {a : Addr} {xs : List V} (h : SqL K H a xs) : TyV K H (.ref a) (.type "list")
theorem call_isinst : CallR X (.builtin "isinstance") (fun xs H Q => ∃ x T t b, xs = [x, .ty T] ∧ TyV X.K H x t ∧ PySem.W.kitOne X.K t (.type T) = some b ∧ Q (.bl b) H) := by
  intro pins s σ H xs us Q I r h
  obtain ⟨x, T, t, b, rfl, ty, e, q⟩ := h
  obtain ⟨u, w', rfl, rx, rt⟩ := vals2 r
  cases rt
  cases ty with
  | of ty => exact isinst_ok I rx ty e fun tk => ⟨.bl b, H, I.tok _, rfl, q⟩
  | sqT hq =>
    cases rx
    obtain ⟨its, _, ⟨o, h1, h2, _⟩, _⟩ := I.tuple hq
    exact PySem.W.kia_one PySem.W.kitx_tuple I.kIn ⟨o, h1, h2⟩ e (fun z => nomatch z) fun tk => ⟨.bl b, H, I.tok _, rfl, q⟩
  | sqL hq =>
    cases rx
    obtain ⟨its, _, ⟨o, n, h1, h2, _⟩, _⟩ := I.list hq
    exact PySem.W.kia_one PySem.W.kitx_list I.kIn ⟨o, h1, h2⟩ e (fun z => nomatch z) fun tk => ⟨.bl b, H, I.tok _, rfl, q⟩
def rIsi (K : PySem.W.Frag) : List V → Hp → VK → Prop := fun xs H Q => ∃ x T t b,xs = [x,.ty T] ∧ TyV K H x t ∧ PySem.W.kitOne K t (.type T) = some b ∧ Q (.bl b) H
theorem pe_isinst {e : Expr} {te : TE} {x : Str} {T : String} {p p2 pos : Pos} (hg : Gl X "isinstance") (hm : X.mg "isinstance" = none) (hgT : Gl X x) (hmT : X.mg x = none) (hv : bootBuiltins x = some (.type T)) (he : PE X e te)
    (hn : x ≠ "__name__" := by decide) (hd : (x == ("__debug__" : Str)) = false := by decide)
    (hs : starEach [e,.Name x p2] X.env = (false,eval e X.env) :: starEach [.Name x p2] X.env := by rfl) :
    PE X (.Call (.Name "isinstance" p) [e,.Name x p2] [] pos) (tCB (rIsi X.K) (tCons te (tCons (tC (.ty T)) tNil))) :=
  pe_callB (call_isinst (X := X)) hg hm boot_isinstance (pa_cons he (pa_cons (pe_bltn hgT hmT hv rfl hn hd) pa_nil) hs) (by decide) (by decide) hs
end
end L2
namespace L2
open PySem PySem.Spec PyProof.Rows
section
variable {prog : Program} {w : World} {A : Around} {E : Value → Shared → Prop} {s : Shared}
open AutoSeq1 (wpAny_loadPart')
theorem nextOf_tup_item {it t : Addr} {i : Nat} {items : Array Value} {x : Value} {Q : Value → Shared → Prop} (hit : s.heap.IsTupleIter it t i) (ht : s.heap.IsTuple t items) (hx : items[i]? = some x)
    (hQ : ∀ h',h'.IsTupleIter it t (i + 1) → Heap.SameBut it s.heap h' → Q x { s with heap := h' }) : wpAny (model prog w) A (Builtin.SmallTypes.nextOf (.ref it)) Q E s := by
  obtain ⟨oi,hoi,hci,hdi⟩ := id hit
  obtain ⟨ot,hot,_,nt,hdt⟩ := ht
  unfold Builtin.SmallTypes.nextOf
  refine wpAny_bind (wpAny_callSpecial?_slot (name := Str.ofString "__next__") hit.typeIs F.slot_tuple_iterator_next (wpAny_call_entry F.slot_tuple_iterator_next hit.typeIs F.entry_tuple_iterator_next ?_ (F.args_tuple_iterator_next_1 _)))
  show wpAny _ _ (field (.ref it) 0 >>= _) _ _ _
  refine wpAny_bind (wpAny_field hoi hdi (x := .ref t) rfl ?_)
  show wpAny _ _ (if (Value.ref t == Value.none) = true then _ else _) _ _ _
  rw [if_neg (show ¬ ((Value.ref t == Value.none) = true) by exact Bool.false_ne_true)]
  show wpAny _ _ (field (.ref it) 1 >>= _) _ _ _
  refine wpAny_bind (wpAny_field hoi hdi (x := .int i 0) rfl ?_)
  show wpAny _ _ (seqItems? (.ref t) >>= _) _ _ _
  refine wpAny_bind (wpAny_seqItems hot hdt ?_)
  simp only [Int.toNat_natCast,hx]
  refine wpAny_bind (wpAny_setField hoi hdi (by simp) (wpAny_pure ⟨x,rfl,wpAny_pure (hQ _ ?_ (Heap.SameBut.update ..))⟩))
  exact ⟨_,Heap.get?_update_self _ hoi (Obj.isFreed_of_fields (Obj.data_mapFields hdi _)),(Obj.cls_mapFields ..).trans hci,by rw [Obj.data_mapFields hdi]; simp [rawInt]⟩
theorem nextOf_tup_end {it t : Addr} {i : Nat} {items : Array Value} {Q : Value → Shared → Prop} (hh : A.handled = none) (hit : s.heap.IsTupleIter it t i) (ht : s.heap.IsTuple t items) (hx : items[i]? = none)
    (hE : ∀ h' e,Heap.ExtBut it s.heap h' → (∃ o,h'.get? e = some o ∧ o.cls = .type "StopIteration") → E (.ref e) { s with heap := h' }) : wpAny (model prog w) A (Builtin.SmallTypes.nextOf (.ref it)) Q E s := by
  obtain ⟨oi,hoi,hci,hdi⟩ := id hit
  obtain ⟨ot,hot,_,nt,hdt⟩ := ht
  unfold Builtin.SmallTypes.nextOf
  refine wpAny_bind (wpAny_callSpecial?_slot (name := Str.ofString "__next__") hit.typeIs F.slot_tuple_iterator_next (wpAny_call_entry F.slot_tuple_iterator_next hit.typeIs F.entry_tuple_iterator_next ?_ (F.args_tuple_iterator_next_1 _)))
  show wpAny _ _ (field (.ref it) 0 >>= _) _ _ _
  refine wpAny_bind (wpAny_field hoi hdi (x := .ref t) rfl ?_)
  show wpAny _ _ (if (Value.ref t == Value.none) = true then _ else _) _ _ _
  rw [if_neg (show ¬ ((Value.ref t == Value.none) = true) by exact Bool.false_ne_true)]
  show wpAny _ _ (field (.ref it) 1 >>= _) _ _ _
  refine wpAny_bind (wpAny_field hoi hdi (x := .int i 0) rfl ?_)
  show wpAny _ _ (seqItems? (.ref t) >>= _) _ _ _
  refine wpAny_bind (wpAny_seqItems hot hdt ?_)
  simp only [Int.toNat_natCast,hx]
  refine wpAny_bind (wpAny_rule (wpAny_bind (wpAny_setField hoi hdi (by simp) ?_)))
  show wpAny _ _ (newExc (.type "StopIteration") [] >>= _) _ _ _
  refine wpAny_bind ?_
  simp only [newExc,newTuple]
  refine wpAny_bind (wpAny_newObj_type ?_ (by size_fits))
  refine wpAny_bind (m := firstArgMember _ _) (wpAny_of_eq (a := Value.none) (by first | rfl | (simp only [firstArgMember]; rfl)) ?_)
  refine wpAny_newObj_type ?_ (by size_fits)
  simp only [raiseNew]
  refine wpAny_bind (wpAny_handled ?_)
  first | rw [show A.in1.handled = none from hh] | rw [hh]
  exact wpAny_bind (wpAny_pure (wpAny_throw (hE _ _ (((Heap.SameBut.update ..).extBut.push _).push _) ⟨_,Heap.get?_push_size _ rfl,rfl⟩)))
end
theorem draws_tup {prog : Program} {w : World} {A : Around} (hh : A.handled = none) (it t : Addr) (hne : t ≠ it) (items : Array Value) :
    Draws prog w A it [it,t] items.size (fun i v => items[i]? = some v) (fun i h => h.IsTupleIter it t i ∧ h.IsTuple t items) where
  live := fun _ _ st => let ⟨o,ho,_⟩ := st.1; ⟨o,ho⟩
  frame := fun _ _ _ st hk => ⟨let ⟨o,ho,r⟩ := st.1; ⟨o,hk it (by simp) o ho,r⟩,let ⟨o,ho,r⟩ := st.2; ⟨o,hk t (by simp) o ho,r⟩⟩
  item := fun i s Q E hi st hQ => nextOf_tup_item st.1 st.2 (x := items[i]) (by simp [hi]) fun h' h1 h2 => hQ _ h' s.toks (by simp [hi]) ⟨h1,st.2.extBut h2.extBut hne⟩ h2
  done := fun s Q E st hE => nextOf_tup_end hh st.1 st.2 (by simp) hE
section
open AutoSeq1 (wpAny_loadPart')
end
def ItEn (src : Hp → List V → Prop) : It :=
  ⟨fun i H => ∃ xs,src H xs ∧ i < xs.length,fun i H v H' => ∃ p x,v = .ref p ∧ H p = none ∧ H' = upd H p (.tup [.int i,x]) ∧ ∀ xs,src H xs → xs[i]? = some x,fun i H => ∃ xs,src H xs ∧ i = xs.length⟩
theorem turn_enum {P : Program} {w : World} {K : PySem.W.Frag} {elts : List Expr} {k : Nat} {pos : Pos} (src : Hp → List V → Prop) (e it t : Addr) (hei : e ≠ it) (hte : t ≠ e) (hti : t ≠ it) (si : Nat → Heap → Prop) (ct : Array Value → Heap → Prop)
    (hsi : ∀ i h,si i h → ∃ o,h.get? it = some o ∧ ∀ v,o.data ≠ .cell v) (hsk : ∀ i h h',si i h → (∀ o,h.get? it = some o → h'.get? it = some o) → si i h')
    (hct : ∀ items h,ct items h → ∃ o,h.get? t = some o) (htk : ∀ items h h',ct items h → (∀ o,h.get? t = some o → h'.get? t = some o) → ct items h')
    (hD : ∀ (A : Around),A.handled = none → ∀ items,Draws P w A it [it,t] items.size (fun i v => items[i]? = some v) (fun i h => si i h ∧ ct items h))
    (hS : ∀ (X : Cx),X.prog = P → X.w = w → X.K = K → ∀ (pins : List (Addr × Obj)) (s : Shared) (σ : St) (H : Hp) xs,Inv X pins σ H s → src H xs → ∃ its : List Value,Vals xs its ∧ ct its.toArray s.heap ∧ xs.length ≤ sizeLine)
    (hI : ∀ (X : Cx),X.prog = P → X.w = w → X.K = K → ∀ (pins : List (Addr × Obj)) (s : Shared) (σ : St) (H : Hp) xs ys,Inv X pins σ H s → src H xs → src H ys → xs = ys) :
    Turn P w K (.Tuple elts k pos) (ItEn src) [e,it] e (fun i h => (∃ old,IsEnum h e it i old) ∧ si i h) where
  mem := by simp
  obj := fun i h st b hb => by
    obtain ⟨⟨old,h1⟩,h2⟩ := st
    rcases List.mem_cons.mp hb with rfl | hb
    · exact ⟨_,h1,fun v z => by cases z⟩
    · have e0 : b = it := by simpa using hb
      rw [e0]; exact hsi i h h2
  keep := fun i h h' st hk => by
    obtain ⟨⟨old,h1⟩,h2⟩ := st
    exact ⟨⟨old,hk e (by simp) _ h1⟩,hsk i h h' h2 fun o q => hk it (by simp) o q⟩
  item := by
    intro X hP hw hK hc i pins s σ H E I hf st hg
    have hP' := hP; have hw' := hw; have hK' := hK
    subst hP hw hK
    obtain ⟨xs,hsrc,hi⟩ := hg
    obtain ⟨its,rv,hct0,hz⟩ := hS X rfl rfl rfl pins s σ H xs I hsrc
    obtain ⟨⟨old,h1⟩,h2⟩ := st
    have D := hD X.A.in1 (I.ok.hd hc) its.toArray
    have WT := WalksT.enumerateD (A := X.A) D e hei (by simp [hei,Ne.symm hte]) (by simp)
    have fE := hf e (by simp)
    have fI := hf it (by simp)
    have hlen := rv.length
    refine WT.item i s _ E (by rw [List.size_toArray]; omega) ⟨⟨old,h1⟩,h2,hct0⟩ fun T vals h' tk hPt hTz hTup hMid hk => ?_
    obtain ⟨tt,xv,hxv,rfl⟩ := hPt
    have hx : xs[i]? = some (xs[i]'hi) := List.getElem?_eq_getElem hi
    obtain ⟨u,hu,ru⟩ := rv.get hx
    have exv : xv = u := by
      have q : its[i]? = some xv := by simpa using hxv
      rw [hu] at q
      exact (Option.some.inj q).symm
    subst exv
    refine ⟨.ref T,rfl,?_⟩
    have keepB : ∀ b o,b ≠ e → b ≠ it → s.heap.get? b = some o → h'.get? b = some o := fun b o n1 n2 q => hk b o (by simp [n1,n2]) q
    have hTn : H T = none := I.hok.fresh hTz
    have tTup : h'.IsTuple T #[.int i tt,xv] := hTup
    have step : ∀ {h2 : Heap} {tk2 : Nat},(∀ b o,b ≠ e → b ≠ it → s.heap.get? b = some o → h2.get? b = some o) → h2.IsTuple T #[.int i tt,xv] → Inv X pins σ (upd H T (.tup [.int i,xs[i]'hi])) { s with heap := h2,toks := tk2 } := fun {h2 tk2} kp tp => by
      have n0 : ∀ b u,H b = some u → b ≠ e ∧ b ≠ it := fun b u q => ⟨fun z => (by rw [z,fE.1] at q; cases q),fun z => (by rw [z,fI.1] at q; cases q)⟩
      refine I.step (g' := s.gens) (d' := s.drawn) (ch := [e,it]) (fun b hb => ?_) (fun b o _ _ hb q _ => kp b o (fun z => hb (by simp [z])) (fun z => hb (by simp [z])) q) (fun b o _ _ hb q _ => ⟨o.slots,kp b o (fun z => hb (by simp [z])) (fun z => hb (by simp [z])) q⟩)
        (fun b o hb q n => by rw [upd_ne (Nat.ne_of_lt (Nat.lt_of_lt_of_le (Heap.lt_size q) hTz))]; exact n) (fun b o hb q => ⟨o,kp b o (fun z => hb (by simp [z])) (fun z => hb (by simp [z])) q⟩)
        (fun b ys q => by rw [upd_ne (ne_of_none q hTn)]; exact q) (fun b ob v q => by rw [upd_ne (ne_of_none q hTn)]; exact q) (fun b ps q => ⟨#[],by rw [upd_ne (ne_of_none q hTn),q]; simp⟩) (fun m hm => ?_) (fun b v q => ?_) I.bare
      · rcases List.mem_cons.mp hb with rfl | hb
        · exact ⟨fE.2.2.2.1,fE.2.1,fE.2.2.2.2.1,fE.2.2.2.2.2⟩
        · have e0 : b = it := by simpa using hb
          subst e0
          exact ⟨fI.2.2.2.1,fI.2.1,fI.2.2.2.2.1,fI.2.2.2.2.2⟩
      · obtain ⟨o,es,ep,ho,r⟩ := hm
        exact ⟨o,es,ep,kp _ o (Ne.symm fE.2.1) (Ne.symm fI.2.1) ho,r⟩
      · by_cases hb : b = T
        · subst hb
          rw [upd_same] at q
          cases q
          exact ⟨by show 2 ≤ sizeLine; decide,[.int i tt,xv],.cons ⟨_,rfl⟩ (.cons ru .nil),tp⟩
        · rw [upd_ne hb] at q
          refine (I.hok b v q).stay (fun c w' hc' q' => kp c w' ?_ ?_ q') (fun c q' => by rw [upd_ne (ne_of_none q' hTn)]; exact q') fun c ys q' => by rw [upd_ne (ne_of_none q' hTn)]; exact q'
          · rcases hc' with z | z
            · rw [z]; exact (n0 b v q).1
            · exact (n0 c _ z).1
          · rcases hc' with z | z
            · rw [z]; exact (n0 b v q).2
            · exact (n0 c _ z).2
    refine WT.go elts k pos i T _ _ E hMid fun h2 st2 hk2 => ?_
    have hTe : T ≠ e := Nat.ne_of_gt (Nat.lt_of_lt_of_le (Heap.lt_size h1) hTz)
    have hTi : T ≠ it := by obtain ⟨o,q,_⟩ := hsi _ _ ‹si i s.heap›; exact Nat.ne_of_gt (Nat.lt_of_lt_of_le (Heap.lt_size q) hTz)
    have tp2 : h2.IsTuple T #[.int i tt,xv] := let ⟨o,q,r⟩ := tTup; ⟨o,hk2 T o (by simp [hTe,hTi]) q,r⟩
    have kp2 : ∀ b o,b ≠ e → b ≠ it → s.heap.get? b = some o → h2.get? b = some o := fun b o n1 n2 q => hk2 b o (by simp [n1,n2]) (keepB b o n1 n2 q)
    refine ⟨.ref T,_,step (tk2 := tk) kp2 tp2,rfl,⟨T,xs[i]'hi,rfl,hTn,rfl,fun ys hy => by rw [hI X rfl rfl rfl pins s σ H ys xs I hy hsrc]; exact hx⟩,⟨st2.1,st2.2.1⟩,fun b hb => ?_⟩
    rw [upd_ne]
    · exact (hf b hb).1
    · rcases List.mem_cons.mp hb with rfl | hb
      · exact Ne.symm hTe
      · have e0 : b = it := by simpa using hb
        rw [e0]; exact Ne.symm hTi
  done := by
    intro X hP hw hK hc i pins s σ H E I hf st hg
    subst hP hw hK
    obtain ⟨xs,hsrc,hi⟩ := hg
    obtain ⟨its,rv,hct0,hz⟩ := hS X rfl rfl rfl pins s σ H xs I hsrc
    obtain ⟨⟨old,h1⟩,h2⟩ := st
    have D := hD X.A.in1 (I.ok.hd hc) its.toArray
    have WT := WalksT.enumerateD (A := X.A) D e hei (by simp [hei,Ne.symm hte]) (by simp)
    have fE := hf e (by simp)
    have fI := hf it (by simp)
    have hlen := rv.length
    have hin : i = its.toArray.size := by rw [List.size_toArray]; omega
    subst hin
    refine WT.done s _ E ⟨⟨old,h1⟩,h2,hct0⟩ fun h' tk hk => ⟨rfl,?_⟩
    have n0 : ∀ b u,H b = some u → b ≠ e ∧ b ≠ it := fun b u q => ⟨fun z => (by rw [z,fE.1] at q; cases q),fun z => (by rw [z,fI.1] at q; cases q)⟩
    have kp : ∀ b o,b ≠ e → b ≠ it → s.heap.get? b = some o → h'.get? b = some o := fun b o n1 n2 q => hk b o (by simp [n1,n2]) q
    refine I.step (g' := s.gens) (d' := s.drawn) (ch := [e,it]) (fun b hb => ?_) (fun b o _ _ hb q _ => kp b o (fun z => hb (by simp [z])) (fun z => hb (by simp [z])) q) (fun b o _ _ hb q _ => ⟨o.slots,kp b o (fun z => hb (by simp [z])) (fun z => hb (by simp [z])) q⟩)
      (fun b o hb q n => n) (fun b o hb q => ⟨o,kp b o (fun z => hb (by simp [z])) (fun z => hb (by simp [z])) q⟩) (fun b ys q => q) (fun b ob v q => q) (fun b ps q => ⟨#[],by rw [q]; simp⟩) (fun m hm => ?_) (fun b v q => ?_) I.bare
    · rcases List.mem_cons.mp hb with rfl | hb
      · exact ⟨fE.2.2.2.1,fE.2.1,fE.2.2.2.2.1,fE.2.2.2.2.2⟩
      · have e0 : b = it := by simpa using hb
        subst e0
        exact ⟨fI.2.2.2.1,fI.2.1,fI.2.2.2.2.1,fI.2.2.2.2.2⟩
    · obtain ⟨o,es,ep,ho,r⟩ := hm
      exact ⟨o,es,ep,kp _ o (Ne.symm fE.2.1) (Ne.symm fI.2.1) ho,r⟩
    · refine (I.hok b v q).stay (fun c w' hc' q' => kp c w' ?_ ?_ q') (fun c q' => q') fun c ys q' => q'
      · rcases hc' with z | z
        · rw [z]; exact (n0 b v q).1
        · exact (n0 c _ z).1
      · rcases hc' with z | z
        · rw [z]; exact (n0 b v q).2
        · exact (n0 c _ z).2
  self := fun A i s Q E st h => by
    obtain ⟨⟨old,h1⟩,_⟩ := st
    exact wpAny_pyIter_enum h1 h
section
variable {X : Cx} {l : Expr} {ta : TA} {elts : List Expr} {k : Nat} {p pos pos2 : Pos}
def iEnL (K : PySem.W.Frag) (ta : TA) : TI := fun σ H R => ta σ H fun vs H1 => ∃ a xs,vs = [.ref a] ∧ SqL K H1 a xs ∧ R (ItEn fun H ys => SqL K H a ys) H1
theorem pi_enumL (hg : Gl X "enumerate") (hm : X.mg "enumerate" = none) (ha : PA X [l] ta) (hs : starEach [l] X.env = [(false,eval l X.env)] := by rfl) : PI X (.Tuple elts k pos2) (.Call (.Name "enumerate" p) [l] [] pos) (iEnL X.K ta) := by
  intro pins s σ H R I h
  refine Call_ (ld_blt I hg hm boot_enumerate (PyProof.Rows.callWith_type1 (thn (ha pos pins s σ H _ I h) fun us s1 ⟨vs,H1,I1,r1,q1⟩ => ?_) hs rfl))
  obtain ⟨a,xs,e,hq,q⟩ := q1
  subst e
  obtain ⟨u,rfl,ru⟩ := vals1 r1
  cases ru
  obtain ⟨its,rv,pl,hz⟩ := I1.list hq
  have hal : a < s1.heap.objs.size := let ⟨o,_,e,_⟩ := pl; Heap.lt_size e
  refine call_enumerate_list pl.isList fun h' he hi hz' hk => wpAny_pyIter_enum he ?_
  refine ⟨s1.heap.objs.size + 1,[s1.heap.objs.size + 1,s1.heap.objs.size],_,_,H1,rfl,I1.kept (t' := s1.toks) hk,turn_enum (fun H ys => SqL X.K H a ys) (s1.heap.objs.size + 1) s1.heap.objs.size a (Nat.succ_ne_self _) (Nat.ne_of_lt (Nat.lt_succ_of_lt hal)) (Nat.ne_of_lt hal)
      (fun i h => h.IsListIter s1.heap.objs.size a i) (fun items h => h.IsList a items) (fun i h ⟨o,e1,_,e2⟩ => ⟨o,e1,fun v z => by rw [e2] at z; cases z⟩) (fun i h h' ⟨o,e1,r⟩ k => ⟨o,k o e1,r⟩) (fun items h ⟨o,e1,_⟩ => ⟨o,e1⟩) (fun items h h' ⟨o,e1,r⟩ k => ⟨o,k o e1,r⟩)
      (fun A hh items => Draws.list hh s1.heap.objs.size a (Nat.ne_of_lt hal) items)
      (fun X' hP hw hK pins' s' σ' H' ys I' hy => by
        rw [← hK] at hy
        obtain ⟨its',rv',pl',hz''⟩ := I'.list hy
        exact ⟨its',rv',pl'.isList,hz''⟩)
      (fun X' hP hw hK pins' s' σ' H' ys zs I' hy hzs => by rw [← hK] at hy hzs; exact I'.list_inj hy hzs),
    ⟨⟨_,he⟩,hi⟩,fun b hb => ?_,q⟩
  rcases List.mem_cons.mp hb with rfl | hb
  · exact I1.fpOk (Nat.le_succ _) (I1.hok.fresh (Nat.le_succ _))
  · have e0 : b = s1.heap.objs.size := by simpa using hb
    subst e0
    exact I1.fpOk (Nat.le_refl _) (I1.hok.fresh (Nat.le_refl _))
end
section
variable {X : Cx} {l tg : Expr} {ta : TA} {p p2 pos pos2 : Pos}
end
section
variable {prog : Program} {w : World} {A : Around} {E : Value → Shared → Prop} {s : Shared}
theorem rev_no_len : typeLookup (.type "list_reverseiterator") "__len__" = pure none := by rw [typeLookup_type,builtinLookup_eq_fast]; kernel_rfl
theorem rev_hint : typeLookup (.type "list_reverseiterator") "__length_hint__" = pure (some (.builtin "list_reverseiterator.__length_hint__")) := by rw [typeLookup_type,builtinLookup_eq_fast]; kernel_rfl
theorem hint_rev {r : Addr} (hT : s.TypeIs (.ref r) "list_reverseiterator") {Q : Bool → Shared → Prop} (h : Q false s) : wpAny (model prog w) A (Builtin.List.listLengthHint (.ref r)) Q E s := by
  unfold Builtin.List.listLengthHint
  refine wpAny_bind (wpAny_specialOf hT rev_no_len ?_)
  show wpAny _ _ (specialOf (Value.ref r) (Str.ofString "__length_hint__") >>= _) _ _ _
  refine wpAny_bind (wpAny_specialOf hT rev_hint ?_)
  generalize hid : ("list_reverseiterator.__length_hint__" : String) = id0
  wp_delta
  rw [show splitId id0 = some ("list_reverseiterator","__length_hint__") from by subst hid; decide +kernel]
  subst hid
  refine wpAny_bind (wpAny_isInstance (T := "list_reverseiterator") (b := true) hT (by rw [isSubtype_type]; kernel_rfl) ?_)
  refine wpAny_ite_split (fun hab => absurd hab (by decide)) (fun _ => ?_)
  refine wpAny_ite_split (fun _ => ?_) (fun hab => absurd (by decide +kernel) hab)
  refine wpAny_ite_split (fun hab => absurd hab (by decide +kernel)) (fun _ => ?_)
  exact wpAny_pure h
theorem extend_rev {R : Result → Shared → Prop} {r l : Addr} {items : Array Value} (hh : A.handled = none) (hne : l ≠ r) (hit : s.heap.IsRevIter r l ((items.size : Int) - 1)) (hl : s.heap.IsList l items) (hn : items.size ≤ sizeLine) (S : Addr) (hSr : S ≠ r) (hSl : S ≠ l) (res : Value) (c0 : Nat)
    (hS : s.heap.get? S = some { cls := .type "list",data := .seq #[] c0 })
    (hR : ∀ h' tk acc c,(∀ b o,b ≠ S → b ≠ r → s.heap.get? b = some o → h'.get? b = some o) → h'.get? S = some { cls := .type "list",dict := none,data := .seq acc c,slots := #[] } →
      ItemsOf (fun i v => items[items.size - 1 - i]? = some v) acc items.size → R (.ok (.ret res)) { s with heap := h',toks := tk }) :
    wpAny (model prog w) A.in1 (Builtin.List.listExtendWith (.ref S) (.ref r) res)
      (fun fin s' => match fin with | .done f => R (.ok f) s' | .again c' => c'.quiet = true ∧ codeAny (model prog w) A c' R s') (fun e s' => R (.error e) s') s := by
  have W := (Walks.listRev (prog := prog) (w := w) (A := A.in1) hh r l hne items).toS
  have hSf : S ∉ [r,l] := by simp [hSr,hSl]
  have key : ∀ (h : Heap) (c1 tk : Nat),(∀ b o,b ≠ S → s.heap.get? b = some o → h.get? b = some o) → h.get? S = some { cls := .type "list",data := .seq #[] c1 } →
      codeAny (model prog w) A (.builtin "list.extend.loop" ⟨[.ref S,.ref r,res],[]⟩) R { s with heap := h,toks := tk } := by
    intro h c1 tk hk hS1
    have st0 : 0 ≤ items.size ∧ h.IsRevIter r l ((items.size : Int) - 1 - ((0 : Nat) : Int)) ∧ h.IsList l items :=
      ⟨Nat.zero_le _,by rw [show (items.size : Int) - 1 - ((0 : Nat) : Int) = (items.size : Int) - 1 by omega]; exact hit.at fun o e => hk r o (Ne.symm hSr) e,let ⟨o,e,q⟩ := hl; ⟨o,hk l o (Ne.symm hSl) e,q⟩⟩
    refine codeAny_extend_loopS W hn S hSf res items.size 0 { s with heap := h,toks := tk } #[] c1 rfl (Nat.zero_le _) st0 hS1 (ItemsOf.nil _) fun s' acc c' hm hS' hacc => ?_
    rw [Moved.eq_with hm]
    exact hR s'.heap s'.toks acc c' (fun b o n1 n2 e => hm.heap b o (by simp [n1,n2]) (hk b o n1 e)) hS' hacc
  have hT : s.TypeIs (.ref r) "list_reverseiterator" := hit.typeIs
  unfold Builtin.List.listExtendWith
  refine wpAny_bind (wpAny_typeOf hT ?_)
  have g1 : Builtin.List.listSameRef (.ref S) (.ref r) = false := by simp [Builtin.List.listSameRef,hSr]
  have g2 : (Value.type "list_reverseiterator" == Value.type "list") = false := by decide
  have g3 : (Value.type "list_reverseiterator" == Value.type "tuple") = false := by decide
  simp only [g1,g2,g3,Bool.or_false,Bool.false_eq_true,if_false]
  refine wpAny_bind (wpAny_pyIter_revIter hit (wpAny_bind (wpAny_holding (hint_rev hT ?_))))
  refine wpAny_ite_split (fun _ => ?_) (fun _ => wpAny_pure ⟨plainId_quiet F.plain_extend_loop _,key _ c0 _ (fun b o _ e => e) hS⟩)
  refine wpAny_bind (wpAny_rule (wpAny_bind ?_))
  show wpAny _ _ (updateSeq S (·.push .none) >>= fun _ => updateSeq S (·.pop)) _ _ _
  refine wpAny_bind (wpAny_updateSeq hS rfl ?_)
  have hS2 := Heap.get?_update_self (Obj.mapSeq (·.push Value.none)) hS rfl
  refine wpAny_updateSeq (hz := by seq_fits) hS2 rfl ?_
  have hS3 := Heap.get?_update_self (Obj.mapSeq (·.pop)) hS2 rfl
  exact wpAny_pure ⟨plainId_quiet F.plain_extend_loop _,key _ _ _ (fun b o hb e => (Heap.get?_update_other _ _ (Ne.symm hb)).trans ((Heap.get?_update_other _ _ (Ne.symm hb)).trans e)) hS3⟩
theorem call_list_rev {Q : Value → Shared → Prop} {r l : Addr} {items : Array Value} (hh : A.handled = none) (hne : l ≠ r) (hit : s.heap.IsRevIter r l ((items.size : Int) - 1)) (hl : s.heap.IsList l items) (hn : items.size ≤ sizeLine)
    (hQ : ∀ h' tk acc c,(∀ b o,b ≠ r → s.heap.get? b = some o → h'.get? b = some o) → h'.get? s.heap.objs.size = some { cls := .type "list",dict := none,data := .seq acc c,slots := #[] } →
      ItemsOf (fun i v => items[items.size - 1 - i]? = some v) acc items.size → Q (.ref s.heap.objs.size) { s with heap := h',toks := tk }) : wpAny (model prog w) A (call (.type "list") [.ref r]) Q E s := by
  refine callType_codes (Q₁ := fun obj s1 => obj = .ref s.heap.objs.size ∧ s1 = { s with heap := s.heap.push { cls := .type "list",data := .seq #[] } }) F.called_list (F.typeCall_list_1 _) F.entry_list_init (code_list_new _ ⟨rfl,rfl⟩) fun obj s1 h1 => ?_
  obtain ⟨rfl,rfl⟩ := h1
  have hS : (s.heap.push { cls := .type "list",data := .seq #[] }).get? s.heap.objs.size = some { cls := .type "list",data := .seq #[] } := Heap.get?_push_size _ rfl
  have hrl : r < s.heap.objs.size := let ⟨o,e,_⟩ := hit; Heap.lt_size e
  have hll : l < s.heap.objs.size := let ⟨o,e,_⟩ := hl; Heap.lt_size e
  refine ⟨⟨_,hS,rfl⟩,F.args_list_init_2 _ _,?_⟩
  show wpAny _ _ (do let old ← Builtin.List.listItems (.ref s.heap.objs.size); Builtin.List.listUpdate (.ref s.heap.objs.size) (fun _ => #[]); letGo old.toList.reverse; Builtin.List.listExtendWith (.ref s.heap.objs.size) (.ref r) .none) _ _ _
  refine wpAny_bind ?_
  unfold Builtin.List.listItems
  refine wpAny_bind (wpAny_seqItems hS rfl (wpAny_pure ?_))
  show wpAny _ _ (updateSeq s.heap.objs.size (fun _ => #[]) >>= fun _ => letGo (#[] : Array Value).toList.reverse >>= fun _ => Builtin.List.listExtendWith (.ref s.heap.objs.size) (.ref r) .none) _ _ _
  refine wpAny_bind (wpAny_updateSeq hS rfl ?_)
  have hS2 := Heap.get?_update_self (Obj.mapSeq (fun _ => (#[] : Array Value))) hS rfl
  have oth : ∀ b o,s.heap.get? b = some o → ((s.heap.push { cls := .type "list",data := .seq #[] }).update s.heap.objs.size (Obj.mapSeq (fun _ => (#[] : Array Value)))).get? b = some o :=
    fun b o e => (Heap.get?_update_other _ _ (Nat.ne_of_gt (Heap.lt_size e))).trans (Heap.get?_push_of_some _ e)
  refine wpAny_bind (wpAny_letGo ?_)
  refine extend_rev (A := A.in1) hh hne (hit.at fun o e => oth r o e) (let ⟨o,e,q⟩ := hl; ⟨o,oth l o e,q⟩) hn _ (Nat.ne_of_gt hrl) (Nat.ne_of_gt hll) .none _ hS2 fun h' tk acc c hk hS' hacc => ?_
  exact ⟨rfl,hQ h' tk acc c (fun b o n e => hk b o (Nat.ne_of_lt (Heap.lt_size e)) n (oth b o e)) hS' hacc⟩
end
section
variable {X : Cx} {l : Expr} {ta : TA} {p p2 pos pos2 : Pos}
theorem rev_vals {xs : List V} {its : List Value} {acc : Array Value} (rv : Vals xs its) (h : ItemsOf (fun i v => its.toArray[its.toArray.size - 1 - i]? = some v) acc its.toArray.size) : Vals xs.reverse acc.toList := by
  have e : acc.toList = its.reverse := by
    apply List.ext_getElem?
    intro i
    by_cases hi : i < its.length
    · have h1 : acc.toList[i]? = some (acc.toList[i]'(by rw [Array.length_toList,h.1,List.size_toArray]; exact hi)) := List.getElem?_eq_getElem _
      have h2 := h.2 i (acc.toList[i]'(by rw [Array.length_toList,h.1,List.size_toArray]; exact hi)) (by rw [← h1]; simp)
      rw [h1,List.getElem?_reverse hi]
      simpa using h2.symm
    · rw [List.getElem?_eq_none (by rw [Array.length_toList,h.1,List.size_toArray]; omega),List.getElem?_eq_none (by rw [List.length_reverse]; omega)]
  rw [e]
  exact rv.reverse
theorem pe_listRev (hc : X.calm = true) (hgL : Gl X "list") (hmL : X.mg "list" = none) (hgR : Gl X "reversed") (hmR : X.mg "reversed" = none) (ha : PA X [l] ta) (hs : starEach [l] X.env = [(false,eval l X.env)] := by rfl)
    (hs2 : starEach [.Call (.Name "reversed" p2) [l] [] pos2] X.env = [(false,eval (.Call (.Name "reversed" p2) [l] [] pos2) X.env)] := by rfl) :
    PE X (.Call (.Name "list" p) [.Call (.Name "reversed" p2) [l] [] pos2] [] pos) (fun σ H Q => ta σ H fun vs H1 => ∃ a xs,vs = [.ref a] ∧ SqL X.K H1 a xs ∧ ∀ q,H1 q = none → Q (.ref q) (upd H1 q (.lst xs.reverse))) := by
  intro pins s σ H Q I h
  refine Call_ (ld_blt I hgL hmL boot_list (PyProof.Rows.callWith_type1 ?_ hs2 rfl))
  rw [hs2]
  show wpAny _ _ (spliced ((false,eval (.Call (.Name "reversed" p2) [l] [] pos2) X.env) :: [])) _ _ s
  refine Calls.spliced_cons ?_
  refine Call_ (ld_blt I hgR hmR boot_reversed (PyProof.Rows.callWith_type1 (thn (ha pos2 pins s σ H _ I h) fun us s1 ⟨vs,H1,I1,r1,q1⟩ => ?_) hs rfl))
  obtain ⟨a,xs,e,hq,q⟩ := q1
  subst e
  obtain ⟨u,rfl,ru⟩ := vals1 r1
  cases ru
  obtain ⟨its,rv,pl,hz⟩ := I1.list hq
  have hal : a < s1.heap.objs.size := let ⟨o,_,e,_⟩ := pl; Heap.lt_size e
  have hl := rv.length
  refine call_reversed_list pl.isList (Calls.spliced_nil ?_)
  have kp : ∀ b o,s1.heap.get? b = some o → (s1.heap.push (revObj a ((its.toArray.size : Int) - 1))).get? b = some o := fun b o e => Heap.get?_push_of_some _ e
  have I2 : Inv X pins σ H1 { s1 with heap := s1.heap.push (revObj a ((its.toArray.size : Int) - 1)) } := I1.kept (t' := s1.toks) kp
  have fr : FpOk X pins H1 s1.heap.objs.size := I1.fpOk (Nat.le_refl _) (I1.hok.fresh (Nat.le_refl _))
  have hit : (s1.heap.push (revObj a ((its.toArray.size : Int) - 1))).IsRevIter s1.heap.objs.size a ((its.toArray.size : Int) - 1) := ⟨_,Heap.get?_push_size _ rfl,rfl,rfl⟩
  refine call_list_rev (s := { s1 with heap := s1.heap.push (revObj a ((its.toArray.size : Int) - 1)) }) (items := its.toArray) (I1.ok.hd hc) (Nat.ne_of_lt hal) hit (let ⟨o,n,e,c,_,d⟩ := pl; ⟨o,kp a o e,c,n,d⟩) (by rw [List.size_toArray]; omega) fun h' tk acc c hk hD hacc => ?_
  have hz2 : (s1.heap.push (revObj a ((its.toArray.size : Int) - 1))).objs.size = s1.heap.objs.size + 1 := Heap.size_push ..
  have I3 := Inv.turned (s := { s1 with heap := s1.heap.push (revObj a ((its.toArray.size : Int) - 1)) }) (h' := h') (t' := tk) (it := s1.heap.objs.size) I2 (fun b o hb e => hk b o hb e) fr.1 fr.2.1 fr.2.2.2.1 fr.2.2.2.2.1 fr.2.2.2.2.2
  have fD : FpOk X pins H1 (s1.heap.objs.size + 1) := I1.fpOk (Nat.le_succ _) (I1.hok.fresh (Nat.le_succ _))
  rw [hz2] at hD ⊢
  exact ⟨.ref _,_,I3.adopt (o := .lst xs.reverse) fD ⟨by rw [List.length_reverse]; exact hz,acc.toList,c,rev_vals rv hacc,by simpa using hD⟩,rfl,q _ fD.1⟩
end
end L2
namespace L2
open PySem PySem.Spec PyProof.Rows
section
variable {X : Cx} {e : Expr} {es : List Expr} {σ : St} {H0 : Hp} {d : PyData} {ds : List PyData} {pos : Pos}
end
theorem Reps.snoc {K : PySem.W.Frag} {H : Hp} {ds : List PyData} {d : PyData} {vs : List V} (h : Reps K H (ds ++ [d]) vs) : ∃ ws v, vs = ws ++ [v] ∧ Reps K H ds ws ∧ Rep K H d v := by
  induction ds generalizing vs with
  | nil =>
    obtain ⟨v, r, e1, e2, e3⟩ := h.split
    rw [Reps] at e3
    exact ⟨[], v, by rw [e1, e3]; rfl, .nil, e2⟩
  | cons x ds ih =>
    obtain ⟨v, r, e1, e2, e3⟩ := h.split
    obtain ⟨ws, z, e4, e5, e6⟩ := ih e3
    exact ⟨v :: ws, z, by rw [e1, e4]; rfl, .cons e2 e5, e6⟩
end L2
namespace Wk
variable {α : Type}
end Wk
namespace Wk
open PySem L2
section
variable {K : PySem.W.Frag} {H H' : Hp}
end
end Wk
namespace L2
open PySem PySem.Spec PyProof.Rows
def DefOk (P : Program) (w : World) (K : PySem.W.Frag) (mg : Str → Option Value) (base : Heap) (k : Nat) (x : Str) (ps : List Str) (sp : Sp) : Prop :=
  ∃ (f : Addr) (fd : FuncData),FnOk P w K mg base CX0 k f fd ps sp ∧ Binds K fd ps [] ∧ PySem.W.keepIn K (.ref f) = true ∧ mg x = some (.ref f)
section
variable {X : Cx} {k : Nat} {x : Str} {ps : List Str} {sp : Sp} {e : Expr} {es : List Expr} {t : TA} {p pos : Pos}
theorem pe_callD (D : DefOk X.prog X.w X.K X.mg X.base k x ps sp) (hr : Room k X.A) (hg : Gl X x) (ha : PA X (e :: es) t) (hdb : (x == ("__debug__" : Str)) = false := by decide)
    (he : starEach (e :: es) X.env = (false,eval e X.env) :: starEach es X.env := by rfl) (hpl : (backTo pos (starEach es X.env)).any (·.1) = false := by rfl) : PE X (.Call (.Name x p) (e :: es) [] pos) (tCall sp [] E0 t) := by
  obtain ⟨f,fd,G,b,kp,m⟩ := D
  exact pe_call G hr hg m kp b .nil pass0 ha hdb he hpl
end
end L2
namespace Wk
open PySem L2
inductive Kd where
  | num | truth | list (k : Kd) | to (k m : Kd)
  deriving DecidableEq
def kdD : Kd → PyData
  | .num => .tuple [.str "num"]
  | .truth => .tuple [.str "truth"]
  | .list k => .tuple [.str "list",kdD k]
  | .to k m => .tuple [.str "to",kdD k,kdD m]
section
variable (K : PySem.W.Frag)
end
structure Plain (mg : Str → Option Value) : Prop where
  len : mg "len" = none
  list : mg "list" = none
  tuple : mg "tuple" = none
  int : mg "int" = none
  bool : mg "bool" = none
  range : mg "range" = none
  enumerate : mg "enumerate" = none
  reversed : mg "reversed" = none
  isinstance : mg "isinstance" = none
end Wk
namespace Wk
open PySem L2
section
variable {X : Cx} {σ : St} {H0 : Hp}
end
end Wk
namespace Wk
open PySem L2
end Wk
namespace L2
open PySem PySem.Spec PyProof.Rows
section
variable {X : Cx} {pins : List (Addr × Obj)} {σ : St} {H : Hp} {s : Shared} {A' : Around}
end
section
variable {X : Cx} {inner : Expr} {wi : TI} {p pos : Pos}
end
end L2
namespace L2
open PySem PySem.Spec PyProof.Rows
theorem ObjOk.there {P : Program} {w : World} {H : Hp} {h : Heap} {a : Addr} {o : HO} (x : ObjOk P w H h a o) : ∃ u,h.get? a = some u := by
  cases o with
  | lst xs => obtain ⟨_,_,_,_,e⟩ := x; exact ⟨_,e⟩
  | tup xs => obtain ⟨_,_,_,o,e,_⟩ := x; exact ⟨_,e⟩
  | dK kvs => obtain ⟨_,_,_,_,o,_,_,e,_⟩ := x; exact ⟨_,e⟩
  | dT kvs => obtain ⟨_,_,_,_,o,_,_,e,_⟩ := x; exact ⟨_,e⟩
  | set S n => obtain ⟨o,_,_,_,e,_⟩ := x; exact ⟨_,e⟩
  | ins C dx fs => obtain ⟨_,_,_,e,_⟩ := x; exact ⟨_,e⟩
  | own y => exact x
  | xd fs => obtain ⟨_,⟨_,_,_,e,_⟩,_⟩ := x; exact ⟨_,e⟩
  | rng lo hi => obtain ⟨_,_,_,e⟩ := x; exact ⟨_,e⟩
  | frz ob u => obtain ⟨e,_⟩ := x; exact ⟨_,e⟩
  | tbl ps => exact ⟨_,(show h.get? a = some _ from x)⟩
  | met f y => exact ⟨_,(show h.get? a = some _ from x)⟩
  | ext φ => obtain ⟨_,e,_⟩ := x; exact e
structure Fl (P : Program) (w : World) (base : Heap) (outer : List Env) (H : Hp) (s : Shared) (ea : Addr) (cls : Value) (H' : Hp) (B : Heap) (s' : Shared) : Prop where
  os : s'.os = s.os
  bare : AllBare s'.gens
  un : Un (frs outer) [] H H' s.heap s'.heap
  hok : HOk P w H' s'.heap
  fly : ∃ a0,Heap.FlyingW B outer ea cls a0 s'.heap
  bs : base.StaysIn B
  trk : ∀ b u,H' b = some u → ∃ o,B.get? b = some o
  old : ∀ b o,s.heap.get? b = some o → H b = none → b ∉ frs outer → B.get? b = some o
  all : ∀ b o,s.heap.get? b = some o → b ∉ frs outer → ∃ o',B.get? b = some o'
def CX1 (P : Program) (w : World) (base : Heap) : CXT := fun outer H s E e s' => ∃ ea cls H' B,e = .ref ea ∧ Fl P w base outer H s ea cls H' B s' ∧ E cls none H'
section
variable {P : Program} {w : World} {base B : Heap} {outer : List Env} {H H' : Hp} {s s' : Shared} {ea : Addr} {cls : Value} {h' : Heap}
theorem Un.dropF {L : Addr} {fs ex : List Addr} {h h1 : Heap} (u : Un (L :: fs) ex H H' h h1) (hL : h.objs.size ≤ L) : Un fs ex H H' h h1 :=
  ⟨fun b o e n hb hx => u.keep b o e n (fun z => (List.mem_cons.mp z).elim (fun q => by subst q; exact absurd (Heap.lt_size e) (Nat.not_lt.mpr hL)) hb) hx,fun b o e n hb hx => u.slot b o e n (List.mem_cons_of_mem _ hb) hx,u.free,u.there,u.tups,u.frzs,u.tbls⟩
theorem Fl.hok_at (F : Fl P w base outer H s ea cls H' B s') (st : B.StaysIn h') : HOk P w H' h' := fun b ob e => by
  obtain ⟨a0,f1,_⟩ := F.fly
  refine (F.hok b ob e).stay (fun c u hc q => ?_) (fun _ z => z) fun _ _ z => z
  have ht : ∃ o,B.get? c = some o := by
    rcases hc with rfl | hc
    · exact F.trk _ _ e
    · exact F.trk _ _ hc
  obtain ⟨o,ho⟩ := ht
  have h2 := f1 c o ho
  rw [q] at h2
  cases h2
  exact st c _ ho
theorem Fl.un_at (F : Fl P w base outer H s ea cls H' B s') (st : B.StaysIn h') (sl : s'.heap.UpToSlots h') : Un (frs outer) [] H H' s.heap h' := by
  obtain ⟨a0,f1,f2,f3,f4⟩ := F.fly
  have slot : ∀ b o,s.heap.get? b = some o → H b = none → b ∈ frs outer → ∃ z,h'.get? b = some { o with slots := z } := fun b o e n hb => by
    obtain ⟨z,e1⟩ := F.un.slot b o e n hb (by simp)
    obtain ⟨_,o',e2,hd⟩ := f3.mem hb
    rw [e1] at e2
    cases e2
    obtain ⟨z2,e3⟩ := sl b _ e1 hd
    exact ⟨z2,e3⟩
  refine ⟨fun b o e n hb _ => st b o (F.old b o e n hb),fun b o e n hb _ => slot b o e n hb,F.un.free,fun b o e hx => ?_,F.un.tups,F.un.frzs,F.un.tbls⟩
  by_cases hb : b ∈ frs outer
  · obtain ⟨_,o',e2,hd⟩ := f3.mem hb
    obtain ⟨z,e3⟩ := sl b o' e2 hd
    exact ⟨_,e3⟩
  · obtain ⟨o',e1⟩ := F.all b o e hb
    exact ⟨o',st b o' e1⟩
theorem Fl.free (F : Fl P w base outer H s ea cls H' B s') : H' ea = none := by
  obtain ⟨a0,_,f2,_⟩ := F.fly
  cases q : H' ea with
  | none => rfl
  | some u => obtain ⟨o,ho⟩ := F.trk _ _ q; rw [f2] at ho; cases ho
end
section
variable {X : Cx} {pins : List (Addr × Obj)} {σ : St} {H H' : Hp} {s s' : Shared} {ea : Addr} {cls : Value} {B : Heap} {M : Model} {E : Value → Shared → Prop}
structure Cx.Body (X : Cx) : Prop where
  stk : X.stack = X.env :: X.outer
  fr : X.env.frame = some X.env.locals
  ex : X.ex = []
theorem Cx.Body.frs (b : X.Body) : L2.frs X.stack = X.env.locals :: X.fs := by
  rw [b.stk]
  unfold L2.frs
  rw [List.filterMap_cons,b.fr]
  rfl
theorem Inv.fl (I : Inv X pins σ H s) (b : X.Body) (os : s'.os = s.os) (bare : AllBare s'.gens) (u : Un (frs X.stack) [] H H' s.heap s'.heap) (hok : HOk X.prog X.w H' s'.heap) (fly : ∃ a0,Heap.FlyingW B X.outer ea cls a0 s'.heap)
    (bs : X.base.StaysIn B) (trk : ∀ b u,H' b = some u → ∃ o,B.get? b = some o) (old : ∀ b o,s.heap.get? b = some o → H b = none → b ∉ frs X.stack → B.get? b = some o)
    (all : ∀ b o,s.heap.get? b = some o → b ∉ frs X.stack → ∃ o',B.get? b = some o') : Fl X.prog X.w X.base X.outer X.H₀ X.s₀ ea cls H' B s' := by
  have ex0 : X.ex = [] := b.ex
  have base := I.base
  rw [ex0] at base
  have neL : ∀ c o,X.s₀.heap.get? c = some o → c ≠ X.env.locals := fun c o e => Nat.ne_of_lt (Nat.lt_of_lt_of_le (Heap.lt_size e) I.ok.above)
  have nst : ∀ c o,X.s₀.heap.get? c = some o → c ∉ X.fs → c ∉ frs X.stack := fun c o e hc hm => by
    rw [b.frs] at hm
    rcases List.mem_cons.mp hm with z | z
    · exact neL c o e z
    · exact hc z
  have u0 : Un (frs X.stack) [] X.H₀ H X.s₀.heap s.heap := base.mono (fun c hc => by rw [b.frs]; exact List.mem_cons_of_mem _ hc) (fun _ z => z)
  have u1 : Un (X.env.locals :: X.fs) [] X.H₀ H' X.s₀.heap s'.heap := by rw [← b.frs]; exact u0.trans u
  refine ⟨os.trans I.os,bare,u1.dropF I.ok.above,hok,fly,bs,trk,fun c o e n hc => ?_,fun c o e hc => ?_⟩
  · exact old c o (base.keep c o e n hc (by simp)) (base.free c o e n (by simp)) (nst c o e hc)
  · obtain ⟨o',e1⟩ := base.there c o e (by simp)
    exact all c o' e1 (nst c o e hc)
theorem Fl.leave (I : Inv X pins σ H s) (b : X.Body) (F : Fl X.prog X.w X.base X.stack H s ea cls H' B s') {Q : Unit → Shared → Prop} (q : ∀ s'',Fl X.prog X.w X.base X.outer X.H₀ X.s₀ ea cls H' B s'' → Q () s'') :
    wpAny M X.A (leaving X.env (.ref ea)) Q E s' := by
  obtain ⟨a0,hfl⟩ := F.fly
  have hfl' := hfl
  rw [b.stk] at hfl'
  have hfr := I.ok.frames
  rw [b.stk] at hfr
  refine wpAny_leaves_onW hfr b.fr hfl' fun h' f sl => q _ ?_
  exact I.fl (s' := { s' with heap := h' }) b F.os F.bare (F.un_at f.1 sl) (F.hok_at f.1) ⟨a0,f⟩ F.bs F.trk F.old F.all
theorem made_leave (I : Inv X pins σ H s) (b : X.Body) {h' : Heap} {vs : List Value} (hx : Heap.MadeExcOf s.heap h' ea cls vs) {Q : Unit → Shared → Prop} (q : ∀ B s'',Fl X.prog X.w X.base X.outer X.H₀ X.s₀ ea cls H B s'' → Q () s'') :
    wpAny M X.A (leaving X.env (.ref ea)) Q E { s with heap := h' } := by
  have hfr := I.ok.frames
  rw [b.stk] at hfr
  have hin : ∀ env ∈ X.stack,∀ a,env.frame = some a → a ∈ frs X.stack := fun env he a ha => List.mem_filterMap.mpr ⟨env,he,ha⟩
  have hl := PySem.W.funFrames_hide I.stack hin
  have hl' := hl
  rw [b.stk] at hl'
  rw [← b.stk] at hl'
  have hst : (PySem.W.hideAll s.heap (frs X.stack)).StaysIn s.heap := fun c o e => PySem.W.of_hideAll _ e
  refine wpAny_leaves_madeW (base := PySem.W.hideAll s.heap (frs X.stack)) (s := { s with heap := h' }) hfr b.fr hst (by rw [← b.stk]; exact hl) hx fun h2 t f _ _ sl => q (PySem.W.hideAll s.heap (frs X.stack)) _ ?_
  have old : ∀ c o,s.heap.get? c = some o → c ∉ frs X.stack → (PySem.W.hideAll s.heap (frs X.stack)).get? c = some o := fun c o e hc => PySem.W.hideAll_get _ e hc
  have trk : ∀ c u,H c = some u → ∃ o,(PySem.W.hideAll s.heap (frs X.stack)).get? c = some o := fun c u e => by
    have hn : c ∉ frs X.stack := fun z => by have := I.stkFree c z; rw [e] at this; cases this
    have hlt := I.hok.lt e
    obtain ⟨o,ho⟩ : ∃ o,s.heap.get? c = some o := (I.hok c u e).there
    exact ⟨o,old c o ho hn⟩
  have slot : ∀ c o,s.heap.get? c = some o → c ∈ frs X.stack → ∃ z,h2.get? c = some { o with slots := z } := fun c o e hc => by
    obtain ⟨_,o',e2,hd⟩ := I.stack.mem hc
    rw [e] at e2
    cases e2
    exact sl c o (hx.keeps c o e) hd
  refine I.fl (s' := { s with heap := h2 }) b rfl I.bare ⟨fun c o e n hc _ => f.1 c o (old c o e hc),fun c o e n hc _ => slot c o e hc,fun c o e n _ => n,fun c o e _ => ?_,fun _ _ z => z,fun _ _ _ z => z,fun c ps z => ⟨#[],by rw [z]; simp⟩⟩
    (fun c ob e => (I.hok c ob e).stay (fun d u hd z => ?_) (fun _ z => z) fun _ _ z => z) ⟨_,f⟩ (fun c o e => ?_) trk (fun c o e _ hc => old c o e hc) (fun c o e hc => ⟨o,old c o e hc⟩)
  · by_cases hc : c ∈ frs X.stack
    · obtain ⟨z,e2⟩ := slot c o e hc
      exact ⟨_,e2⟩
    · exact ⟨o,f.1 c o (old c o e hc)⟩
  · have ht : ∃ o,(PySem.W.hideAll s.heap (frs X.stack)).get? d = some o := by
      rcases hd with rfl | hd
      · exact trk _ _ e
      · exact trk _ _ hd
    obtain ⟨o,ho⟩ := ht
    have z2 := hst d o ho
    rw [z] at z2
    cases z2
    exact f.1 d _ ho
  · obtain ⟨z1,z2⟩ := I.bs c o e
    exact old c o z1 fun hm => by have := (I.stack.mem hm).1; rw [e] at this; cases this
end
end L2
namespace L2
open PySem PySem.Spec PyProof.Rows
section
variable {P : Program} {w : World} {K : PySem.W.Frag} {mg : Str → Option Value} {base : Heap}
theorem Fun.okX {x qual : Str} {st : Stmt} {f : Addr} {fd : FuncData} {N ps : List Str} {k : Nat} {sp : Sp} (F : Fun K x qual st f fd) (S : FnScope N ps (defScope st)) (len : ∀ vs H Q E,sp vs H Q E → vs.length = ps.length)
    (hbody : ∀ (cdv : Value) (A : Around) (outer : List Env) (s : Shared) (H : Hp) (vs : List V) (Q : VK) (E : XK),Room k (A.deeper (envOfC qual (defScope st) s.heap.objs.size f cdv)) → sp vs H Q E →
      ∃ t,PSs (cxOf (CX1 P w base) P w K mg base N qual (defScope st) f cdv A outer s H E) (defBody st) t ∧ t { nx := fun _ H' => Q .non H',rt := Q } (start N vs) H) : FnOk P w K mg base (CX1 P w base) (k + 1) f fd ps sp := by
  obtain ⟨oc,od,kV,doc,pm,an,cdv,ct,osl,rfl,lk,hcd⟩ := F.ex
  exact fn_of lk hcd S len fun A outer s H vs Q E hr hsp => hbody cdv A outer s H vs Q E hr hsp
def DefX (P : Program) (w : World) (K : PySem.W.Frag) (mg : Str → Option Value) (base : Heap) (k : Nat) (x : Str) (ps : List Str) (sp : Sp) : Prop :=
  ∃ (f : Addr) (fd : FuncData),FnOk P w K mg base (CX1 P w base) k f fd ps sp ∧ Binds K fd ps [] ∧ PySem.W.keepIn K (.ref f) = true ∧ mg x = some (.ref f)
structure Raising (X : Cx) (E : XK) : Prop where
  body : X.Body
  xe : ∀ (e : Value) (s' : Shared),wpAny (model X.prog X.w) X.A (leaving X.env e) (fun _ s'' => CX1 X.prog X.w X.base X.outer X.H₀ X.s₀ E e s'') (fun e' s'' => CX1 X.prog X.w X.base X.outer X.H₀ X.s₀ E e' s'') s' → X.xe e s'
  own : PassesOwn (model X.prog X.w) X.A X.env X.xe
  hd : X.calm = true
theorem raising {N : List Str} {qual : Str} {scope : Scope} {f : Addr} {cd : Value} {A : Around} {outer : List Env} {s : Shared} {H : Hp} {E : XK} : Raising (cxOf (CX1 P w base) P w K mg base N qual scope f cd A outer s H E) E :=
  ⟨⟨rfl,rfl,rfl⟩,fun _ _ z => z,PassesOwn.leaving,rfl⟩
end
section
variable {X : Cx} {E : XK}
theorem Raising.passes (R : Raising X E) : Passes (CX1 X.prog X.w X.base) X E := by
  rintro pins σ H s e s' I ⟨ea,cls,H',B,rfl,F,q⟩
  exact R.xe _ _ (F.leave I R.body fun s'' F' => ⟨ea,cls,H',B,rfl,F',q⟩)
theorem pe_callX {k : Nat} {x : Str} {ps : List Str} {sp : Sp} {e : Expr} {es : List Expr} {t : TA} {p pos : Pos} (R : Raising X E) (D : DefX X.prog X.w X.K X.mg X.base k x ps sp) (hr : Room k X.A) (hg : Gl X x) (ha : PA X (e :: es) t) (hdb : (x == ("__debug__" : Str)) = false := by decide)
    (he : starEach (e :: es) X.env = (false,eval e X.env) :: starEach es X.env := by rfl) (hpl : (backTo pos (starEach es X.env)).any (·.1) = false := by rfl) : PE X (.Call (.Name x p) (e :: es) [] pos) (tCall sp [] E t) := by
  obtain ⟨f,fd,G,b,kp,m⟩ := D
  exact pe_call G hr hg m kp b .nil R.passes ha hdb he hpl
structure ExcC (K : PySem.W.Frag) (mg : Str → Option Value) (x : Str) (C : Addr) : Prop where
  at_ : mg x = some (.ref C)
  exc : PySem.W.excIn K C [.type "ValueError",.type "Exception",.type "BaseException",.type "object"] "ValueError.__new__" = true
theorem ExcC.own {K : PySem.W.Frag} {mg : Str → Option Value} {x : Str} {C : Addr} {h₀ : Heap} (c : ExcC K mg x C) (X : K.In h₀) : OwnCls x C [.type "ValueError",.type "Exception",.type "BaseException",.type "object"] "ValueError.__new__" mg h₀ := by
  obtain ⟨e,q⟩ := c
  refine ⟨e,?_⟩
  unfold PySem.W.excIn at q
  split at q
  · rename_i dd cd sl ho
    split at q
    · rename_i C' bm k0 k1 k2 k3 n k5 hm hs
      simp only [Bool.and_eq_true,beq_iff_eq,Bool.not_eq_true'] at q
      obtain ⟨⟨⟨⟨⟨rfl,rfl⟩,hdel⟩,ht⟩,hok⟩,hni⟩ := q
      obtain ⟨nm,bs,mro,ns,qn,hd,sn,sub,ab,col,del⟩ := cd
      dsimp only at hm hdel hok hni
      subst hm hdel
      have hsl : sl = #[k0,k1,k2,k3,some (.builtin "ValueError.__new__"),k5] := by
        obtain ⟨l⟩ := sl
        simp only at hs
        rw [hs]
      subst hsl
      exact ⟨bm,ns,nm,qn,bs,hd,sn,sub,ab,col,dd,k0,k1,k2,k3,k5,_,X _ _ ho,.of_isNs (PySem.W.isNs_of_in X hok),PySem.W.nsMap_none_of_in X hok hni,PySem.W.tail_of_in X ht⟩
    · cases q
  · cases q
def tRaise (C : Addr) (E : XK) (t : TA) : TS := fun _ σ H => t σ H fun vs H1 => vs.length ≤ 1000 ∧ E (.ref C) none H1
theorem ps_raise {x : Str} {C : Addr} {e : Expr} {es : List Expr} {t : TA} {np cpos pos : Pos} (R : Raising X E) (c : ExcC X.K X.mg x C) (hg : Gl X x) (ha : PA X (e :: es) t) (hdb : (x == ("__debug__" : Str)) = false := by decide)
    (he : starEach (e :: es) X.env = (false,eval e X.env) :: starEach es X.env := by rfl) (hpl : (backTo cpos (starEach es X.env)).any (·.1) = false := by rfl) :
    PS X (.Raise (some (.Call (.Name x np) (e :: es) [] cpos)) none pos) (tRaise C E t) := by
  intro pins s σ H D I h
  obtain ⟨tl,N,nm,q,bs,hdct,sn,sub,ab,col,dd,k0,k1,k2,k3,k5,mN,hC,hN,hni,T⟩ := (c.own I.ok.mod.kin).obj
  refine wpAny_Raise_call_subU (C := C) (nm := nm) (q := q) (N := N) (bs := bs) (bm := tl) (hdct := hdct) (sn := sn) (sub := sub) (ab := ab) (col := col) (dd := dd) (k0 := k0) (k1 := k1) (k2 := k2) (k3 := k3) (k5 := k5)
    PySem.F.excBase_ValueError (by decide) PySem.F.excBase_ValueError (mN := mN) (T.hasType (by decide)) (I.ok.hd R.hd) (by rw [he]; show (false || (backTo cpos (starEach es X.env)).any (·.1)) = false; rw [hpl]; rfl) hni (ld_glob I hg c.at_ ⟨rfl,?_⟩ hdb)
  have go := ha cpos pins s σ H _ I h
  rw [he] at go ⊢
  refine Calls.evalArgs_plain (wpAny_mono go (fun us s2 ⟨vs,H2,I2,r,hz,q2⟩ => ⟨rfl,?_,I2.bk _ _ hC,hN.keeps I2.bk,T.keeps I2.bk,fun h' ea hx => ?_⟩) fun _ _ z => z)
  · rw [← r.length]; exact Nat.le_of_lt (small1000 hz)
  · exact R.xe _ _ (made_leave I2 R.body hx fun B s'' F => ⟨ea,.ref C,H2,B,rfl,F,q2⟩)
end
end L2
namespace L2
open PySem PySem.Spec PyProof.Rows
abbrev Cx.caught (X : Cx) (ea : Addr) (oe : Obj) : Cx := { X with A := X.A.mark (some (.ref ea)),calm := false,xe := fun _ _ => False,pn := (ea,oe) :: X.pn }
section
variable {X : Cx} {pins : List (Addr × Obj)} {σ : St} {H : Hp} {s : Shared} {ea : Addr} {oe : Obj}
theorem Inv.caught (I : Inv X pins σ H s) (h : s.heap.get? ea = some oe ∧ H ea = none ∧ ea ≠ X.env.locals ∧ ea ∉ X.fs ∧ ∀ v,oe.data ≠ .cell v) : Inv (X.caught ea oe) pins σ H s := by
  obtain ⟨ok,a1,a2,a3,a4,a5,a6,a7,pin,a8,a9⟩ := I
  refine ⟨⟨ok.mod,ok.kind,ok.glob,ok.blt,ok.above,ok.inj,ok.has,ok.cab,(fun z => nomatch z),ok.frames,ok.stk,ok.exf,ok.bs,ok.bsz,ok.noex,ok.exfs,ok.funs,ok.frf⟩,a1,a2,a3,a4,a5,a6,a7,fun p hp => ?_,a8,a9⟩
  rcases List.mem_cons.mp (show p ∈ (ea,oe) :: (X.pn ++ pins) from hp) with rfl | hp
  · exact h
  · exact pin p hp
theorem Inv.uncaught (ok : X.Ok) (I : Inv (X.caught ea oe) pins σ H s) : Inv X pins σ H s :=
  ⟨ok,I.os,I.bare,I.base,I.loc,I.cell,I.free,I.freeC,fun p hp => I.pin p (show p ∈ (ea,oe) :: (X.pn ++ pins) from List.mem_cons_of_mem _ hp),I.hok,I.len⟩
theorem SP.uncaught {D : Ends} {f : Flow} {s' : Shared} (ok : X.Ok) (h : SP (X.caught ea oe) pins D f s') : SP X pins D f s' := by
  cases f with
  | next => obtain ⟨σ',H',I,q⟩ := h; exact ⟨σ',H',I.uncaught ok,q⟩
  | brk => obtain ⟨σ',H',I,q⟩ := h; exact ⟨σ',H',I.uncaught ok,q⟩
  | cont => obtain ⟨σ',H',I,q⟩ := h; exact ⟨σ',H',I.uncaught ok,q⟩
  | ret u => obtain ⟨v,σ',H',I,r,q⟩ := h; exact ⟨v,σ',H',I.uncaught ok,r,q⟩
theorem Fl.pinned {X : Cx} {H0 H' : Hp} {s0 s' : Shared} {cls a0 : Value} {B h' : Heap} (F : Fl X.prog X.w X.base X.stack H0 s0 ea cls H' B s') (I : Inv X pins σ H0 s0) (b : X.Body) (f : Heap.FlyingW B X.stack ea cls a0 h') :
    ∃ oe,oe.cls = cls ∧ h'.get? ea = some oe ∧ H' ea = none ∧ ea ≠ X.env.locals ∧ ea ∉ X.fs ∧ ∀ v,oe.data ≠ .cell v := by
  obtain ⟨oe,vs,e1,e2,e3,e4⟩ := f.first
  have nf : ea ∉ frs X.stack := fun z => by
    obtain ⟨_,o,ho,hd⟩ := f.2.2.1.mem z
    rw [e1] at ho
    cases ho
    exact hd _ e3
  rw [b.frs] at nf
  exact ⟨oe,e2,e1,F.free,fun z => nf (by rw [z]; exact List.mem_cons_self),fun z => nf (List.mem_cons_of_mem _ z),fun v z => by rw [e3] at z; cases z⟩
theorem Fl.inv {X : Cx} {H0 H' : Hp} {s0 s' : Shared} {cls : Value} {B h' : Heap} (F : Fl X.prog X.w X.base X.stack H0 s0 ea cls H' B s') (I : Inv X pins σ H0 s0) (st : B.StaysIn h') (sl : s'.heap.UpToSlots h') : Inv X pins σ H' { s' with heap := h' } :=
  I.call' (s' := { s' with heap := h' }) (ch := []) F.os (F.un_at st sl) (F.hok_at st) F.bare fun b z => absurd z (by simp)
end
end L2
namespace L2
open PySem PySem.Spec PyProof.Rows
section
variable {K : PySem.W.Frag} {C a : Addr} {o : Obj} {prog : Program} {w : World} {A : Around} {E : Value → Shared → Prop} {h : Heap} {g : Array GenState} {d : Drawn} {t : Nat} {os : OsState}
end
end L2
namespace L2
open PySem PySem.Spec PyProof.Rows
section
variable {X : Cx} {pins : List (Addr × Obj)} {σ : St} {H : Hp} {s : Shared}
end
end L2
namespace L2
open PySem PySem.Spec PyProof.Rows
def ZipAt (h : Heap) (zp TI TO : Addr) : Prop := ∃ f0 f1,h.get? zp = some { cls := .type "zip",dict := none,data := .fields #[f0,f1,.bool false,.ref TI,.ref TO],slots := #[] } ∧ (f0 = .none ∨ ∃ T : Nat,f0 = rawInt T)
theorem same_ne {a b : Addr} {h h' : Heap} {o : Obj} (x : Heap.SameBut a h h') (n : b ≠ a) (e : h.get? b = some o) : h'.get? b = some o := (x.2 b n).trans e
theorem ne2 {c a b z : Addr} (h : c = a ∨ c = b) (h1 : a ≠ z) (h2 : b ≠ z) : c ≠ z := by
  rcases h with rfl | rfl
  · exact h1
  · exact h2
section
variable {prog : Program} {w : World} {A : Around} {E : Value → Shared → Prop} {s : Shared} {zp TI TO i1 i2 t1 t2 : Addr} {i n1 n2 : Nat} {P1 P2 : Nat → Value → Prop} {S1 S2 : Nat → Heap → Prop}
theorem alive_any {a : Addr} {Q : Option Obj → Shared → Prop} (h : ∀ o,Q o s) : wpAny (model prog w) A (loadIfAlive a) Q E s := by
  first
    | exact fun Γ hΓ p => h _
    | (intro Γ hΓ p; exact h _)
theorem free_any {Q : Bool → Shared → Prop} (hz : ZipAt s.heap zp TI TO) (h : ∀ b h', ZipAt h' zp TI TO → (b = true → ∃ f0 f1, h'.get? zp = some { cls := .type "zip", dict := none, data := .fields #[f0, f1, .bool false, .ref TI, .ref TO], slots := #[] }) → Heap.SameBut zp s.heap h' → Q b { s with heap := h' }) :
    wpAny (model prog w) A (Builtin.SmallTypes.ownedTupleIsFree (.ref zp)) Q E s := by
  obtain ⟨f0, f1, hz, hf⟩ := hz
  have here : ∀ b, Q b s := fun b => h b s.heap ⟨f0, f1, hz, hf⟩ (fun _ => ⟨f0, f1, hz⟩) ⟨rfl, fun _ _ => rfl⟩
  unfold Builtin.SmallTypes.ownedTupleIsFree
  refine wpAny_bind (wpAny_field hz rfl (x := f0) rfl ?_)
  rcases hf with rfl | ⟨T, rfl⟩
  · exact wpAny_pure (here true)
  · show wpAny _ _ (loadIfAlive _ >>= _) _ _ _
    refine wpAny_bind (alive_any fun o => ?_)
    cases o with
    | none => exact wpAny_pure (here true)
    | some ob =>
      refine wpAny_bind (wpAny_field hz rfl (x := f1) rfl ?_)
      refine wpAny_ite_split (fun _ => ?_) (fun _ => wpAny_pure (here false))
      refine wpAny_bind (wpAny_setField_rec hz (by simp) fun h1 e1 s1 => wpAny_pure (h false h1 ⟨_, _, e1, .inr ⟨T, rfl⟩⟩ (fun z => nomatch z) s1))
theorem zip_item {Q : Value → Shared → Prop} (D1 : Draws prog w A i1 [i1, t1] n1 P1 S1) (D2 : Draws prog w A i2 [i2, t2] n2 P2 S2) (ap : ZipApart zp TI TO i1 i2 t1 t2) (hz : ZipAt s.heap zp TI TO) (hI : IsPair s.heap TI (.ref i1) (.ref i2)) (hO : ∃ a b, IsPair s.heap TO a b)
    (h1 : S1 i s.heap) (h2 : S2 i s.heap) (l1 : i < n1) (l2 : i < n2)
    (hQ : ∀ p h' tk x y, P1 i x → P2 i y → s.heap.objs.size ≤ p → IsPair h' p x y → ZipAt h' zp TI TO → IsPair h' TI (.ref i1) (.ref i2) → (∃ a b, IsPair h' TO a b) → S1 (i + 1) h' → S2 (i + 1) h' →
      (∀ c o, c ≠ zp → c ≠ TO → c ≠ i1 → c ≠ i2 → s.heap.get? c = some o → h'.get? c = some o) → Q (.ref p) { s with heap := h', toks := tk }) :
    wpAny (model prog w) A (Builtin.«zip.__next__» ⟨[.ref zp], []⟩) (fun fin s' => ∃ v, fin = .done (.ret v) ∧ Q v s') E s := by
  obtain ⟨f0, f1, hz0, hf0⟩ := id hz
  show wpAny _ _ (field (.ref zp) 2 >>= _) _ _ _
  refine wpAny_bind (wpAny_field hz0 rfl (x := .bool false) rfl ?_)
  show wpAny _ _ (field (.ref zp) 3 >>= _) _ _ _
  refine wpAny_bind (wpAny_field hz0 rfl (x := .ref TI) rfl (wpAny_bind (wpAny_seqItems hI rfl ?_)))
  show wpAny _ _ (Builtin.SmallTypes.ownedTupleIsFree (.ref zp) >>= _) _ _ _
  refine wpAny_bind (free_any hz fun b g0 z0 zf s0 => ?_)
  have fr1 : ∀ {j : Nat} {h h' : Heap}, S1 j h → (∀ c o, c = i1 ∨ c = t1 → h.get? c = some o → h'.get? c = some o) → S1 j h' := fun {j h h'} st k => D1.frame j h h' st fun c hc o e => k c o (by simpa using hc) e
  have fr2 : ∀ {j : Nat} {h h' : Heap}, S2 j h → (∀ c o, c = i2 ∨ c = t2 → h.get? c = some o → h'.get? c = some o) → S2 j h' := fun {j h h'} st k => D2.frame j h h' st fun c hc o e => k c o (by simpa using hc) e
  cases b with
  | true =>
    obtain ⟨g0f, g1f, zz⟩ := zf rfl
    obtain ⟨a, b, hO⟩ := hO
    simp only [if_true]
    refine wpAny_bind (wpAny_rule (wpAny_bind (wpAny_field zz rfl (x := .ref TO) rfl ?_)))
    refine wpAny_bind (wpAny_setField_rec zz (by simp) fun k1 z1 s1 => wpAny_bind ?_)
    simp only [List.zipIdx_cons, List.zipIdx_nil, List.forIn_cons, List.forIn_nil]
    refine wpAny_bind (wpAny_bind (wpAny_onRaise ?_))
    show wpAny _ _ (Builtin.SmallTypes.nextOf (.ref i1) >>= _) _ _ _
    refine wpAny_bind (D1.item i { s with heap := k1 } _ _ l1 (fr1 h1 fun c o hc e => same_ne s1 (ne2 hc ap.i1z ap.l1z) (same_ne s0 (ne2 hc ap.i1z ap.l1z) e)) fun x k2 tk2 p1 st1 s2 => wpAny_pure ?_)
    have O2 : IsPair k2 TO a b := same_ne s2 ap.TOi1 (same_ne s1 ap.TOz (same_ne s0 ap.TOz hO))
    refine wpAny_bind (wpAny_seqItems O2 rfl (wpAny_bind (wpAny_updateSeq_pair O2 fun k3 O3 s3 => wpAny_bind (wpAny_letGo (wpAny_pure ?_)))))
    refine wpAny_bind (wpAny_bind (wpAny_onRaise ?_))
    show wpAny _ _ (Builtin.SmallTypes.nextOf (.ref i2) >>= _) _ _ _
    refine wpAny_bind (D2.item i { s with heap := k3, toks := tk2 } _ _ l2 (fr2 h2 fun c o hc e => same_ne s3 (ne2 hc ap.TOi2.symm ap.l2TO) (same_ne s2 (ne2 hc ap.i12.symm ap.l2i1)
      (same_ne s1 (ne2 hc ap.i2z ap.l2z) (same_ne s0 (ne2 hc ap.i2z ap.l2z) e)))) fun y k4 tk4 p2 st2 s4 => wpAny_pure ?_)
    have O4 : IsPair k4 TO x b := same_ne s4 ap.TOi2 O3
    refine wpAny_bind (wpAny_seqItems O4 rfl (wpAny_bind (wpAny_updateSeq_pair O4 fun k5 O5 s5 => wpAny_bind (wpAny_letGo (wpAny_pure (wpAny_pure ?_))))))
    have O5 : IsPair k5 TO x y := O5
    refine wpAny_bind (wpAny_seqItems O5 rfl (wpAny_bind (wpAny_newTuple ?_)))
    have z5 := same_ne s5 ap.TOz.symm (same_ne s4 ap.i2z.symm (same_ne s3 ap.TOz.symm (same_ne s2 ap.i1z.symm z1)))
    have sz : k5.objs.size = s.heap.objs.size := by rw [s5.1, s4.1, s3.1, s2.1, s1.1, s0.1]
    show wpAny _ _ (Builtin.SmallTypes.ownedTupleHandOut (.ref zp) (.ref k5.objs.size) >>= _) _ _ _
    refine wpAny_bind ?_
    unfold Builtin.SmallTypes.ownedTupleHandOut
    refine wpAny_bind (wpAny_setField_rec (Heap.get?_push_of_some _ z5) (by simp) fun k7 z7 s7 => ?_)
    refine wpAny_setField_rec z7 (by simp) fun k8 z8 s8 => wpAny_pure ⟨_, rfl, ?_⟩
    have nz : k5.objs.size ≠ zp := Nat.ne_of_gt (Heap.lt_size z5)
    have up : ∀ c o, c ≠ zp → k5.get? c = some o → k8.get? c = some o := fun c o n e => same_ne s8 n (same_ne s7 n (Heap.get?_push_of_some _ e))
    have all : ∀ c o, c ≠ zp → c ≠ TO → c ≠ i1 → c ≠ i2 → s.heap.get? c = some o → k8.get? c = some o := fun c o c1 c2 c3 c4 e =>
      up c o c1 (same_ne s5 c2 (same_ne s4 c4 (same_ne s3 c2 (same_ne s2 c3 (same_ne s1 c1 (same_ne s0 c1 e))))))
    refine hQ k5.objs.size k8 _ x y p1 p2 (by rw [sz]; exact Nat.le_refl _) (same_ne s8 nz (same_ne s7 nz (Heap.get?_push_size _ rfl))) ⟨_, _, z8, .inr ⟨k5.objs.size, rfl⟩⟩ (all _ _ ap.TIz ap.TITO ap.TIi1 ap.TIi2 hI) ⟨x, y, up _ _ ap.TOz O5⟩ ?_ ?_ all
    · exact fr1 st1 fun c o hc e => up c o (ne2 hc ap.i1z ap.l1z) (same_ne s5 (ne2 hc ap.TOi1.symm ap.l1TO) (same_ne s4 (ne2 hc ap.i12 ap.l1i2) (same_ne s3 (ne2 hc ap.TOi1.symm ap.l1TO) e)))
    · exact fr2 st2 fun c o hc e => up c o (ne2 hc ap.i2z ap.l2z) (same_ne s5 (ne2 hc ap.TOi2.symm ap.l2TO) e)
  | false =>
    simp only [Bool.false_eq_true, if_false]
    refine wpAny_bind (wpAny_arrayLoop ?_)
    simp only [List.forIn_cons, List.forIn_nil]
    refine wpAny_bind (wpAny_bind (wpAny_holding ?_))
    show wpAny _ _ (Builtin.SmallTypes.nextOf (.ref i1) >>= _) _ _ _
    refine wpAny_bind (D1.item i { s with heap := g0 } _ _ l1 (fr1 h1 fun c o hc e => same_ne s0 (ne2 hc ap.i1z ap.l1z) e) fun x k2 tk2 p1 st1 s2 => wpAny_pure (wpAny_pure ?_))
    refine wpAny_bind (wpAny_bind (wpAny_holding ?_))
    show wpAny _ _ (Builtin.SmallTypes.nextOf (.ref i2) >>= _) _ _ _
    refine wpAny_bind (D2.item i { s with heap := k2, toks := tk2 } _ _ l2 (fr2 h2 fun c o hc e => same_ne s2 (ne2 hc ap.i12.symm ap.l2i1) (same_ne s0 (ne2 hc ap.i2z ap.l2z) e)) fun y k4 tk4 p2 st2 s4 => wpAny_pure (wpAny_pure (wpAny_pure ?_)))
    refine wpAny_bind (wpAny_newTuple (hsz := by show 2 ≤ sizeLine; decide) (wpAny_pure ⟨_, rfl, ?_⟩))
    have sz : k4.objs.size = s.heap.objs.size := by rw [s4.1, s2.1, s0.1]
    have all : ∀ c o, c ≠ zp → c ≠ i1 → c ≠ i2 → s.heap.get? c = some o → k4.get? c = some o := fun c o c1 c3 c4 e => same_ne s4 c4 (same_ne s2 c3 (same_ne s0 c1 e))
    obtain ⟨f0', f1', z4, hf4⟩ := z0
    obtain ⟨a, b, hO⟩ := hO
    refine hQ k4.objs.size _ _ x y p1 p2 (by rw [sz]; exact Nat.le_refl _) (Heap.get?_push_size _ rfl) ⟨f0', f1', Heap.get?_push_of_some _ (same_ne s4 ap.i2z.symm (same_ne s2 ap.i1z.symm z4)), hf4⟩ (Heap.get?_push_of_some _ (all _ _ ap.TIz ap.TIi1 ap.TIi2 hI))
      ⟨a, b, Heap.get?_push_of_some _ (all _ _ ap.TOz ap.TOi1 ap.TOi2 hO)⟩ (fr1 st1 fun c o hc e => Heap.get?_push_of_some _ (same_ne s4 (ne2 hc ap.i12 ap.l1i2) e)) (fr2 st2 fun c o hc e => Heap.get?_push_of_some _ e)
      (fun c o c1 _ c3 c4 e => Heap.get?_push_of_some _ (all c o c1 c3 c4 e))
theorem zip_end {Q : Fin → Shared → Prop} (D1 : Draws prog w A i1 [i1, t1] n1 P1 S1) (ap : ZipApart zp TI TO i1 i2 t1 t2) (hz : ZipAt s.heap zp TI TO) (hI : IsPair s.heap TI (.ref i1) (.ref i2)) (hO : ∃ a b, IsPair s.heap TO a b) (h1 : S1 n1 s.heap)
    (hE : ∀ h' e, (∀ c o, c ≠ zp → c ≠ i1 → s.heap.get? c = some o → h'.get? c = some o) → (∃ o, h'.get? e = some o ∧ o.cls = .type "StopIteration") → E (.ref e) { s with heap := h' }) :
    wpAny (model prog w) A (Builtin.«zip.__next__» ⟨[.ref zp], []⟩) Q E s := by
  obtain ⟨f0, f1, hz0, hf0⟩ := id hz
  show wpAny _ _ (field (.ref zp) 2 >>= _) _ _ _
  refine wpAny_bind (wpAny_field hz0 rfl (x := .bool false) rfl ?_)
  show wpAny _ _ (field (.ref zp) 3 >>= _) _ _ _
  refine wpAny_bind (wpAny_field hz0 rfl (x := .ref TI) rfl (wpAny_bind (wpAny_seqItems hI rfl ?_)))
  show wpAny _ _ (Builtin.SmallTypes.ownedTupleIsFree (.ref zp) >>= _) _ _ _
  refine wpAny_bind (free_any hz fun b g0 z0 zf s0 => ?_)
  have fr1 : ∀ {j : Nat} {h h' : Heap}, S1 j h → (∀ c o, c = i1 ∨ c = t1 → h.get? c = some o → h'.get? c = some o) → S1 j h' := fun {j h h'} st k => D1.frame j h h' st fun c hc o e => k c o (by simpa using hc) e
  cases b with
  | true =>
    obtain ⟨g0f, g1f, zz⟩ := zf rfl
    simp only [if_true]
    refine wpAny_bind (wpAny_rule (wpAny_bind (wpAny_field zz rfl (x := .ref TO) rfl ?_)))
    refine wpAny_bind (wpAny_setField_rec zz (by simp) fun k1 z1 s1 => wpAny_bind ?_)
    simp only [List.zipIdx_cons, List.zipIdx_nil, List.forIn_cons, List.forIn_nil]
    refine wpAny_bind (wpAny_bind (wpAny_onRaise ?_))
    show wpAny _ _ (Builtin.SmallTypes.nextOf (.ref i1) >>= _) _ _ _
    refine wpAny_bind (D1.done { s with heap := k1 } _ _ (fr1 h1 fun c o hc e => same_ne s1 (ne2 hc ap.i1z ap.l1z) (same_ne s0 (ne2 hc ap.i1z ap.l1z) e)) fun k2 e s2 he => ?_)
    obtain ⟨oe, hoe, hce⟩ := he
    have z2 := s2 _ _ ap.i1z.symm z1
    have ne : e ≠ zp := fun x => by subst x; rw [z2] at hoe; cases hoe; simp at hce
    exact wpAny_setField_rec z2 (by simp) fun k3 _ s3 => hE k3 e (fun c o c1 c3 x => same_ne s3 c1 (s2 _ _ c3 (same_ne s1 c1 (same_ne s0 c1 x)))) ⟨oe, same_ne s3 ne hoe, hce⟩
  | false =>
    simp only [Bool.false_eq_true, if_false]
    refine wpAny_bind (wpAny_arrayLoop ?_)
    simp only [List.forIn_cons, List.forIn_nil]
    refine wpAny_bind (wpAny_bind (wpAny_holding ?_))
    show wpAny _ _ (Builtin.SmallTypes.nextOf (.ref i1) >>= _) _ _ _
    exact wpAny_bind (D1.done { s with heap := g0 } _ _ (fr1 h1 fun c o hc e => same_ne s0 (ne2 hc ap.i1z ap.l1z) e) fun k2 e s2 he => hE k2 e (fun c o c1 c3 x => s2 _ _ c3 (same_ne s0 c1 x)) he)
end
end L2
namespace L2
open PySem PySem.Spec PyProof.Rows
section
variable {X : Cx} {pins : List (Addr × Obj)} {σ : St} {H : Hp} {s : Shared}
theorem Inv.turnedL {h' : Heap} {t' : Nat} (ch : List Addr) (I : Inv X pins σ H s) (hf : ∀ b ∈ ch,FpOk X pins H b) (kp : ∀ b o,b ∉ ch → s.heap.get? b = some o → h'.get? b = some o) : Inv X pins σ H { s with heap := h',toks := t' } := by
  have nch : ∀ b u,H b = some u → b ∉ ch := fun b u e z => by rw [(hf b z).1] at e; cases e
  refine I.step (g' := s.gens) (d' := s.drawn) (ch := ch) (fun b hb => ?_) (fun b o _ _ hc e _ => kp b o hc e) (fun b o _ _ hc e _ => ⟨o.slots,kp b o hc e⟩) (fun _ _ _ _ n => n)
    (fun b o hc e => ⟨o,kp b o hc e⟩) (fun _ _ e => e) (fun _ _ _ e => e) (fun b ps e => ⟨#[],by rw [e]; simp⟩) (fun m hm => ?_) (fun b u e => ?_) I.bare
  · obtain ⟨_,f1,_,f3,f4,f5⟩ := hf b hb
    exact ⟨f3,f1,f4,f5⟩
  · obtain ⟨o,es,ep,ho,r⟩ := hm
    exact ⟨o,es,ep,kp _ o (fun z => (hf _ z).2.1 rfl) ho,r⟩
  · refine (I.hok b u e).stay (fun c v hc q => kp c v ?_ q) (fun _ q => q) fun _ _ q => q
    rcases hc with z | z
    · rw [z]; exact nch b u e
    · exact nch c _ z
end
structure Src (P : Program) (w : World) (K : PySem.W.Frag) (it t : Addr) (src : Hp → List V → Prop) (si : Nat → Heap → Prop) (ct : Array Value → Heap → Prop) : Prop where
  obj : ∀ i h,si i h → ∃ o,h.get? it = some o ∧ ∀ v,o.data ≠ .cell v
  keep : ∀ i h h',si i h → (∀ o,h.get? it = some o → h'.get? it = some o) → si i h'
  draws : ∀ (A : Around),A.handled = none → ∀ items,Draws P w A it [it,t] items.size (fun i v => items[i]? = some v) (fun i h => si i h ∧ ct items h)
  items : ∀ (X : Cx),X.prog = P → X.w = w → X.K = K → ∀ (pins : List (Addr × Obj)) (s : Shared) (σ : St) (H : Hp) xs,Inv X pins σ H s → src H xs → ∃ its : List Value,Vals xs its ∧ ct its.toArray s.heap ∧ xs.length ≤ sizeLine
  inj : ∀ (X : Cx),X.prog = P → X.w = w → X.K = K → ∀ (pins : List (Addr × Obj)) (s : Shared) (σ : St) (H : Hp) xs ys,Inv X pins σ H s → src H xs → src H ys → xs = ys
theorem nlt {x y : Nat} (h : x < y) : x ≠ y := Nat.ne_of_lt h
theorem ngt {x y : Nat} (h : y < x) : x ≠ y := Nat.ne_of_gt h
theorem apart_new (n a b : Nat) (ha : a < n) (hb : b < n) : ZipApart (n + 4) (n + 2) (n + 3) n (n + 1) a b :=
  ⟨nlt (x := n + 2) (y := n + 4) (by omega),nlt (x := n + 3) (y := n + 4) (by omega),nlt (x := n) (y := n + 4) (by omega),nlt (x := n + 1) (y := n + 4) (by omega),nlt (x := n + 2) (y := n + 3) (by omega),ngt (x := n + 2) (y := n) (by omega),ngt (x := n + 2) (y := n + 1) (by omega),ngt (x := n + 3) (y := n) (by omega),ngt (x := n + 3) (y := n + 1) (by omega),nlt (x := n) (y := n + 1) (by omega),nlt (x := a) (y := n + 4) (by omega),nlt (x := a) (y := n + 3) (by omega),nlt (x := a) (y := n) (by omega),nlt (x := a) (y := n + 1) (by omega),nlt (x := b) (y := n + 4) (by omega),nlt (x := b) (y := n + 3) (by omega),nlt (x := b) (y := n) (by omega),nlt (x := b) (y := n + 1) (by omega)⟩
def ItZ (s1 s2 : Hp → List V → Prop) : It :=
  ⟨fun i H => ∃ xs ys,s1 H xs ∧ s2 H ys ∧ xs.length = ys.length ∧ i < xs.length,fun i H v H' => ∃ p x y,v = .ref p ∧ H p = none ∧ H' = upd H p (.tup [x,y]) ∧ ∀ xs ys,s1 H xs → s2 H ys → xs[i]? = some x ∧ ys[i]? = some y,
    fun i H => ∃ xs ys,s1 H xs ∧ s2 H ys ∧ xs.length = ys.length ∧ i = xs.length⟩
theorem src_tup {P : Program} {w : World} {K : PySem.W.Frag} {it a : Addr} (ne : a ≠ it) : Src P w K it a (fun H ys => SqT K H a ys) (fun i h => h.IsTupleIter it a i) (fun items h => h.IsTuple a items) :=
  ⟨fun i h ⟨o,e1,_,e2⟩ => ⟨o,e1,fun v z => by rw [e2] at z; cases z⟩,fun i h h' ⟨o,e1,r⟩ k => ⟨o,k o e1,r⟩,fun A hh items => draws_tup hh it a ne items,
    fun X' hP hw hK pins' s' σ' H' ys I' hy => by
      rw [← hK] at hy
      obtain ⟨its',rv',pt',hz''⟩ := I'.tuple hy
      exact ⟨its',rv',pt',hz''⟩,
    fun X' hP hw hK pins' s' σ' H' ys zs I' hy hzs => by rw [← hK] at hy hzs; exact I'.tuple_inj hy hzs⟩
theorem src_lst {P : Program} {w : World} {K : PySem.W.Frag} {it a : Addr} (ne : a ≠ it) : Src P w K it a (fun H ys => SqL K H a ys) (fun i h => h.IsListIter it a i) (fun items h => h.IsList a items) :=
  ⟨fun i h ⟨o,e1,_,e2⟩ => ⟨o,e1,fun v z => by rw [e2] at z; cases z⟩,fun i h h' ⟨o,e1,r⟩ k => ⟨o,k o e1,r⟩,fun A hh items => Draws.list hh it a ne items,
    fun X' hP hw hK pins' s' σ' H' ys I' hy => by
      rw [← hK] at hy
      obtain ⟨its',rv',pl',hz''⟩ := I'.list hy
      exact ⟨its',rv',pl'.isList,hz''⟩,
    fun X' hP hw hK pins' s' σ' H' ys zs I' hy hzs => by rw [← hK] at hy hzs; exact I'.list_inj hy hzs⟩
section
variable {prog : Program} {w : World} {A : Around} {E : Value → Shared → Prop} {s : Shared}
end
section
variable {X : Cx} {e1 e2 : Expr} {ta : TA} {p pos : Pos}
end
section
variable {X : Cx} {e1 e2 : Expr} {ta : TA} {p pos : Pos}
end
end L2
namespace Wk
open PySem L2
structure Plain2 (mg : Str → Option Value) : Prop where
  zip : mg "zip" = none
  str : mg "str" = none
  ve : mg "ValueError" = none
section
variable {K : PySem.W.Frag} {H : Hp}
end
section
variable (K : PySem.W.Frag) (C : Addr)
end
end Wk
namespace L2
open PySem PySem.Spec PyProof.Rows
section
variable {X : Cx}
end
end L2
namespace L2
open PySem PySem.Spec PyProof.Rows
section
variable {prog : Program} {w : World} {A : Around} {E : Value → Shared → Prop} {s : Shared}
end
end L2
namespace L2
open PySem PySem.Spec PyProof.Rows
section
variable {X : Cx}
end
end L2
namespace L2
open PySem PySem.Spec PyProof.Rows
section
variable {prog : Program} {w : World} {A : Around} {E : Value → Shared → Prop} {s : Shared} {it d : Addr} {i n ep : Nat} {es : Array DictEntry}
end
end L2
namespace L2
open PySem PySem.Spec PyProof.Rows
section
variable {prog : Program} {w : World} {A : Around} {E : Value → Shared → Prop} {s : Shared} {it d : Addr} {i n ep : Nat} {es : Array DictEntry}
end
end L2
namespace L2
open PySem PySem.Spec PyProof.Rows
section
variable {X : Cx} {pins : List (Addr × Obj)} {σ : St} {H : Hp} {s : Shared} {d : Addr} {o : Obj} {kvs : List (List Key × V)}
end
section
variable {X : Cx} {o : Expr} {apos cpos : Pos} {td : TE}
end
end L2
namespace L2
open PySem PySem.Spec PyProof.Rows
end L2
namespace Wk
open PySem L2
end Wk
namespace Wk
open PySem L2
end Wk
namespace Wk
open PySem L2
end Wk
namespace L2
open PySem PySem.Spec PyProof.Rows
def Ext (H H' : Hp) : Prop := ∀ b o,H b = some o → (∀ xs,o ≠ .lst xs) → H' b = some o
theorem Ext.of_same {H H' : Hp} (s : Same H H') : Ext H H' := fun b o h _ => s b o h
theorem Ext.write {H : Hp} {a : Addr} {vs : List V} (h : H a = some (.lst vs)) (o : HO) : Ext H (upd H a o) := fun b u q n => by
  by_cases e : b = a
  · subst e; rw [h] at q; cases q; exact absurd rfl (n vs)
  · rw [upd_ne e]; exact q
theorem TupLe.of_ext {K : PySem.W.Frag} {H H' : Hp} (e : Ext H H') : TupLe K H H' := .of_keep fun b o h n _ _ => e b o h n
structure Per where
  p : Hp → V → Prop
  mono : ∀ H H' v,Ext H H' → p H v → p H' v
inductive Sl where
  | un | d (x : PyData) | l (xs : List PyData) | o (xs : List PyData) | h (P : Per)
def Sl.its : Sl → Option (List PyData)
  | .l xs => some xs
  | .o xs => some xs
  | _ => none
def Sl.rd : Sl → Option Sl
  | .un => none
  | .o xs => some (.l xs)
  | r => some r
def Sl.arg : Sl → Sl
  | .o xs => .l xs
  | r => r
def LsR (K : PySem.W.Frag) (H : Hp) (a : Addr) (xs : List PyData) : Prop := ∃ vs,H a = some (.lst vs) ∧ Reps K H xs vs
def RdR (K : PySem.W.Frag) (H : Hp) : Sl → V → Prop
  | .un,_ => True
  | .d x,v => Rep K H x v
  | .l xs,v => ∃ a,v = .ref a ∧ LsR K H a xs
  | .o xs,v => ∃ a,v = .ref a ∧ LsR K H a xs
  | .h P,v => P.p H v
def RsR (K : PySem.W.Frag) (H H' : Hp) : Sl → V → Prop
  | .un,_ => True
  | .d x,v => Rep K H' x v
  | .l xs,v => ∃ a,v = .ref a ∧ LsR K H' a xs
  | .o xs,v => ∃ a,v = .ref a ∧ H a = none ∧ LsR K H' a xs
  | .h P,v => P.p H' v
section
variable {K : PySem.W.Frag} {H H' H'' : Hp} {a p : Addr} {xs ys : List PyData} {r : Sl} {v : V}
theorem LsR.mono (s : Same H H') (h : LsR K H a xs) : LsR K H' a xs := let ⟨vs,e,q⟩ := h; ⟨vs,s _ _ e,Reps.mono (TupLe.of_same s) _ _ q⟩
theorem LsR.other {vs ws : List V} (h : LsR K H a xs) (hp : H p = some (.lst vs)) (n : a ≠ p) : LsR K (upd H p (.lst ws)) a xs := by
  obtain ⟨us,e,q⟩ := h
  exact ⟨us,by rw [upd_ne n]; exact e,Reps.mono ((SameBut.upd _).tup hp) _ _ q⟩
theorem RsR.rd (h : RsR K H H' r v) : RdR K H' r v := by
  cases r with
  | un => trivial
  | d x => exact h
  | l xs => exact h
  | o xs => obtain ⟨a,e,_,q⟩ := h; exact ⟨a,e,q⟩
  | h P => exact h
theorem RsR.since (s : Same H H') (h : RsR K H' H'' r v) : RsR K H H'' r v := by
  cases r with
  | un => trivial
  | d x => exact h
  | l xs => exact h
  | o xs => obtain ⟨a,e,n,q⟩ := h; exact ⟨a,e,s.free n,q⟩
  | h P => exact h
theorem RdR.mono (s : Same H H') (h : RdR K H r v) : RdR K H' r v := by
  cases r with
  | un => trivial
  | d x => exact Rep.mono (TupLe.of_same s) _ _ h
  | l xs => obtain ⟨a,e,q⟩ := h; exact ⟨a,e,q.mono s⟩
  | o xs => obtain ⟨a,e,q⟩ := h; exact ⟨a,e,q.mono s⟩
  | h P => exact P.mono _ _ _ (Ext.of_same s) h
theorem RdR.lst (h : RdR K H r v) (e : r.its = some xs) : ∃ a vs,v = .ref a ∧ H a = some (.lst vs) ∧ Reps K H xs vs := by
  cases r with
  | un => cases e
  | d x => cases e
  | l ys => cases e; obtain ⟨a,e,vs,q1,q2⟩ := h; exact ⟨a,vs,e,q1,q2⟩
  | o ys => cases e; obtain ⟨a,e,vs,q1,q2⟩ := h; exact ⟨a,vs,e,q1,q2⟩
  | h P => cases e
theorem RsR.int {i : Int} : RsR K H H' (.d (.int i)) (.int i) := @Rep.int K H' i
theorem RsR.str {x : Str} : RsR K H H' (.d (.str x)) (.str x) := @Rep.str K H' x
theorem RsR.bool {b : Bool} : RsR K H H' (.d (.bool b)) (.bl b) := @Rep.bool K H' b
theorem RsR.non : RsR K H H' (.d .none) .non := @Rep.non K H'
theorem RdR.is_int {i : Int} (h : RdR K H (.d (.int i)) v) : v = .int i := Rep.is_int (K := K) (H := H) h
theorem RdR.is_str {x : Str} (h : RdR K H (.d (.str x)) v) : v = .str x := Rep.is_str (K := K) (H := H) h
theorem RdR.is_non (h : RdR K H (.d .none) v) : v = .non := Rep.is_non (K := K) (H := H) h
theorem RsR.is_int {i : Int} (h : RsR K H H' (.d (.int i)) v) : v = .int i := Rep.is_int (K := K) (H := H') h
theorem RsR.is_str {x : Str} (h : RsR K H H' (.d (.str x)) v) : v = .str x := Rep.is_str (K := K) (H := H') h
theorem RsR.is_bool {b : Bool} (h : RsR K H H' (.d (.bool b)) v) : v = .bl b := Rep.is_bool (K := K) (H := H') h
theorem RdR.tup {xs : List PyData} (h : RdR K H (.d (.tuple xs)) v) : ∃ a vs,v = .ref a ∧ SqT K H a vs ∧ Reps K H xs vs := Rep.untuple (K := K) (H := H) h
theorem RsR.tup {xs : List PyData} (h : RsR K H H' (.d (.tuple xs)) v) : ∃ a vs,v = .ref a ∧ SqT K H' a vs ∧ Reps K H' xs vs := Rep.untuple (K := K) (H := H') h
theorem RsR.mk {xs : List PyData} {vs : List V} (h : SqT K H' a vs) (r : Reps K H' xs vs) : RsR K H H' (.d (.tuple xs)) (.ref a) := Rep.tuple (K := K) (H := H') h r
theorem RdR.arg (h : RdR K H r v) : RdR K H r.arg v := by cases r <;> exact h
end
inductive RdRs (K : PySem.W.Frag) (H : Hp) : List Sl → List V → Prop where
  | nil : RdRs K H [] []
  | cons {r : Sl} {v : V} {rs : List Sl} {vs : List V} : RdR K H r v → RdRs K H rs vs → RdRs K H (r :: rs) (v :: vs)
theorem RdRs.mono {K : PySem.W.Frag} {H H' : Hp} (s : Same H H') : ∀ {rs : List Sl} {vs : List V},RdRs K H rs vs → RdRs K H' rs vs
  | _,_,.nil => .nil
  | _,_,.cons h t => .cons (h.mono s) (t.mono s)
theorem RdRs.arg {K : PySem.W.Frag} {H : Hp} : ∀ {rs : List Sl} {vs : List V},RdRs K H rs vs → RdRs K H (rs.map Sl.arg) vs
  | _,_,.nil => .nil
  | _,_,.cons h t => .cons h.arg t.arg
theorem RdRs.length {K : PySem.W.Frag} {H : Hp} : ∀ {rs : List Sl} {vs : List V},RdRs K H rs vs → vs.length = rs.length
  | _,_,.nil => rfl
  | _,_,.cons h t => by rw [List.length_cons,List.length_cons,t.length]
theorem RdRs.get {K : PySem.W.Frag} {H : Hp} : ∀ {rs : List Sl} {vs : List V},RdRs K H rs vs → ∀ {i : Nat} {r : Sl},rs[i]? = some r → ∃ v,vs[i]? = some v ∧ RdR K H r v
  | _,_,.nil,i,r,e => by simp at e
  | _,_,.cons h t,0,r,e => by simp at e; subst e; exact ⟨_,rfl,h⟩
  | _,_,.cons h t,i + 1,r,e => by simpa using t.get (i := i) (r := r) (by simpa using e)
structure ER (K : PySem.W.Frag) (H0 : Hp) (hs : List (V × Sl)) (ρ : List Sl) (σ : St) (H : Hp) : Prop where
  same : Same H0 H
  len : ρ.length = σ.length
  dat : ∀ (i : Nat) x,ρ[i]? = some (.d x) → ∃ v,σ[i]? = some (some v) ∧ Rep K H x v
  lst : ∀ (i : Nat) xs,ρ[i]? = some (.l xs) → ∃ a,σ[i]? = some (some (.ref a)) ∧ LsR K H a xs
  per : ∀ (i : Nat) P,ρ[i]? = some (.h P) → ∃ v,σ[i]? = some (some v) ∧ P.p H v
  own : ∀ (i : Nat) xs,ρ[i]? = some (.o xs) → ∃ a,σ[i]? = some (some (.ref a)) ∧ LsR K H a xs ∧ H0 a = none
  sepL : ∀ (i j : Nat) a xs ys,ρ[i]? = some (.o xs) → ρ[j]? = some (.l ys) → σ[i]? = some (some (.ref a)) → σ[j]? ≠ some (some (.ref a))
  sepO : ∀ (i j : Nat) a xs ys,i ≠ j → ρ[i]? = some (.o xs) → ρ[j]? = some (.o ys) → σ[i]? = some (some (.ref a)) → σ[j]? ≠ some (some (.ref a))
  held : ∀ p ∈ hs,RdR K H p.2 p.1
  sepH : ∀ (i : Nat) xs a,ρ[i]? = some (.o xs) → σ[i]? = some (some (.ref a)) → ∀ p ∈ hs,∀ ys,p.2.its = some ys → p.1 ≠ .ref a
section
variable {K : PySem.W.Frag} {H0 H H' : Hp} {hs : List (V × Sl)} {ρ : List Sl} {σ : St}
theorem ER.grow (e : ER K H0 hs ρ σ H) (s : Same H H') : ER K H0 hs ρ σ H' :=
  ⟨e.same.trans s,e.len,fun i x h => let ⟨v,h1,h2⟩ := e.dat i x h; ⟨v,h1,Rep.mono (TupLe.of_same s) _ _ h2⟩,fun i x h => let ⟨v,h1,h2⟩ := e.lst i x h; ⟨v,h1,h2.mono s⟩,
    fun i P h => let ⟨v,h1,h2⟩ := e.per i P h; ⟨v,h1,P.mono _ _ _ (Ext.of_same s) h2⟩,
    fun i x h => let ⟨v,h1,h2,h3⟩ := e.own i x h; ⟨v,h1,h2.mono s,h3⟩,e.sepL,e.sepO,fun p hp => (e.held p hp).mono s,e.sepH⟩
theorem set_get {α : Type} {l : List α} {i j : Nat} {x y : α} (h : (l.set i x)[j]? = some y) : (i = j ∧ y = x ∧ i < l.length) ∨ (i ≠ j ∧ l[j]? = some y) := by
  rw [List.getElem?_set] at h
  by_cases e : i = j
  · rw [if_pos e] at h
    by_cases l1 : i < l.length
    · rw [if_pos l1] at h; exact .inl ⟨e,(Option.some.inj h).symm,l1⟩
    · rw [if_neg l1] at h; cases h
  · rw [if_neg e] at h; exact .inr ⟨e,h⟩
theorem set_at {α : Type} {l : List α} {i j : Nat} {x y : α} (e : i ≠ j) (h : l[j]? = some y) : (l.set i x)[j]? = some y := by rw [List.getElem?_set,if_neg e]; exact h
theorem set_eq {α : Type} {l : List α} {i : Nat} {x : α} (h : i < l.length) : (l.set i x)[i]? = some x := by rw [List.getElem?_set,if_pos rfl,if_pos h]
theorem set_unat {α : Type} {l : List α} {i j : Nat} {x y : α} (e : i ≠ j) (h : (l.set i x)[j]? = some y) : l[j]? = some y := by rw [List.getElem?_set,if_neg e] at h; exact h
theorem ER.setR {i : Nat} {r : Sl} {v : V} (e : ER K H0 hs ρ σ H) (h : RdR K H r v) (no : ∀ xs,r ≠ .o xs) (sep : ∀ ys,r = .l ys → ∀ (j : Nat) xs,ρ[j]? = some (.o xs) → σ[j]? ≠ some (some v)) : ER K H0 hs (ρ.set i r) (σ.set i (some v)) H := by
  have ls : i < ρ.length → i < σ.length := fun h => by rw [← e.len]; exact h
  refine ⟨e.same,by rw [List.length_set,List.length_set,e.len],fun j x q => ?_,fun j x q => ?_,fun j x q => ?_,fun j x q => ?_,fun j k a xs ys q1 q2 q3 q4 => ?_,fun j k a xs ys n q1 q2 q3 q4 => ?_,e.held,fun j xs a q1 q2 => ?_⟩
  · rcases set_get q with ⟨rfl,rfl,l1⟩ | ⟨n,q⟩
    · exact ⟨v,set_eq (ls l1),h⟩
    · obtain ⟨u,h1,h2⟩ := e.dat j x q
      exact ⟨u,set_at n h1,h2⟩
  · rcases set_get q with ⟨rfl,rfl,l1⟩ | ⟨n,q⟩
    · obtain ⟨a,rfl,h2⟩ := h
      exact ⟨a,set_eq (ls l1),h2⟩
    · obtain ⟨u,h1,h2⟩ := e.lst j x q
      exact ⟨u,set_at n h1,h2⟩
  · rcases set_get q with ⟨rfl,rfl,l1⟩ | ⟨n,q⟩
    · exact ⟨v,set_eq (ls l1),h⟩
    · obtain ⟨u,h1,h2⟩ := e.per j x q
      exact ⟨u,set_at n h1,h2⟩
  · rcases set_get q with ⟨_,z,_⟩ | ⟨n,q⟩
    · exact absurd z.symm (no x)
    · obtain ⟨u,h1,h2⟩ := e.own j x q
      exact ⟨u,set_at n h1,h2⟩
  · rcases set_get q1 with ⟨_,z,_⟩ | ⟨n1,q1⟩
    · exact absurd z.symm (no xs)
    · have q3 := set_unat n1 q3
      rcases set_get q2 with ⟨rfl,z,l1⟩ | ⟨n2,q2⟩
      · rw [set_eq (ls l1)] at q4
        have e4 : v = .ref a := Option.some.inj (Option.some.inj q4)
        exact sep ys z.symm j xs q1 (by rw [e4]; exact q3)
      · exact e.sepL j k a xs ys q1 q2 q3 (set_unat n2 q4)
  · rcases set_get q1 with ⟨_,z,_⟩ | ⟨n1,q1⟩
    · exact absurd z.symm (no xs)
    rcases set_get q2 with ⟨_,z,_⟩ | ⟨n2,q2⟩
    · exact absurd z.symm (no ys)
    exact e.sepO j k a xs ys n q1 q2 (set_unat n1 q3) (set_unat n2 q4)
  · rcases set_get q1 with ⟨_,z,_⟩ | ⟨n1,q1⟩
    · exact absurd z.symm (no xs)
    · exact e.sepH j xs a q1 (set_unat n1 q2)
theorem ER.setD {i : Nat} {x : PyData} {v : V} (e : ER K H0 hs ρ σ H) (h : Rep K H x v) : ER K H0 hs (ρ.set i (.d x)) (σ.set i (some v)) H := e.setR (r := .d x) h (fun _ z => nomatch z) fun _ z => nomatch z
theorem ER.setO {i : Nat} {xs : List PyData} {a : Addr} (e : ER K H0 hs ρ σ H) (s : Same H H') (n : H a = none) (h : LsR K H' a xs) : ER K H0 hs (ρ.set i (.o xs)) (σ.set i (some (.ref a))) H' := by
  have ls : i < ρ.length → i < σ.length := fun h => by rw [← e.len]; exact h
  have ne : ∀ {b : Addr} {ys : List PyData},LsR K H b ys → b ≠ a := fun ⟨_,q,_⟩ z => by rw [z,n] at q; cases q
  refine ⟨e.same.trans s,by rw [List.length_set,List.length_set,e.len],fun j x q => ?_,fun j x q => ?_,fun j x q => ?_,fun j x q => ?_,fun j k b xs ys q1 q2 q3 q4 => ?_,fun j k b xs ys n q1 q2 q3 q4 => ?_,fun p hp => (e.held p hp).mono s,fun j xs b q1 q2 p hp ws hw => ?_⟩
  · rcases set_get q with ⟨_,z,_⟩ | ⟨n,q⟩
    · cases z
    · obtain ⟨u,h1,h2⟩ := e.dat j x q
      exact ⟨u,set_at n h1,Rep.mono (TupLe.of_same s) _ _ h2⟩
  · rcases set_get q with ⟨_,z,_⟩ | ⟨n,q⟩
    · cases z
    · obtain ⟨u,h1,h2⟩ := e.lst j x q
      exact ⟨u,set_at n h1,h2.mono s⟩
  · rcases set_get q with ⟨_,z,_⟩ | ⟨n,q⟩
    · cases z
    · obtain ⟨u,h1,h2⟩ := e.per j x q
      exact ⟨u,set_at n h1,x.mono _ _ _ (Ext.of_same s) h2⟩
  · rcases set_get q with ⟨rfl,z,l1⟩ | ⟨n,q⟩
    · cases z; exact ⟨a,set_eq (ls l1),h,e.same.free n⟩
    · obtain ⟨u,h1,h2,h3⟩ := e.own j x q
      exact ⟨u,set_at n h1,h2.mono s,h3⟩
  · rcases set_get q2 with ⟨_,z,_⟩ | ⟨n2,q2⟩
    · cases z
    have q4 := set_unat n2 q4
    rcases set_get q1 with ⟨rfl,z,l1⟩ | ⟨n1,q1⟩
    · rw [set_eq (ls l1)] at q3
      have e3 : V.ref a = V.ref b := Option.some.inj (Option.some.inj q3)
      cases e3
      obtain ⟨c,h1,h2⟩ := e.lst k ys q2
      rw [q4] at h1
      cases h1
      exact ne h2 rfl
    · exact e.sepL j k b xs ys q1 q2 (set_unat n1 q3) q4
  · rcases set_get q1 with ⟨rfl,z,l1⟩ | ⟨n1,q1⟩
    · rw [set_eq (ls l1)] at q3
      have e3 : V.ref a = V.ref b := Option.some.inj (Option.some.inj q3)
      cases e3
      rcases set_get q2 with ⟨z2,_,_⟩ | ⟨n2,q2⟩
      · exact n z2
      · obtain ⟨c,h1,h2,_⟩ := e.own k ys q2
        rw [set_unat n2 q4] at h1
        cases h1
        exact ne h2 rfl
    · have q3 := set_unat n1 q3
      rcases set_get q2 with ⟨rfl,z,l2⟩ | ⟨n2,q2⟩
      · rw [set_eq (ls l2)] at q4
        have e4 : V.ref a = V.ref b := Option.some.inj (Option.some.inj q4)
        cases e4
        obtain ⟨c,h1,h2,_⟩ := e.own j xs q1
        rw [q3] at h1
        cases h1
        exact ne h2 rfl
      · exact e.sepO j k b xs ys n q1 q2 q3 (set_unat n2 q4)
  · rcases set_get q1 with ⟨rfl,z,l1⟩ | ⟨n1,q1⟩
    · rw [set_eq (ls l1)] at q2
      have e3 : V.ref a = V.ref b := Option.some.inj (Option.some.inj q2)
      cases e3
      intro z
      obtain ⟨b,vs,h1,h2,_⟩ := (e.held p hp).lst hw
      rw [z] at h1
      cases h1
      rw [n] at h2
      cases h2
    · exact e.sepH j xs b q1 (set_unat n1 q2) p hp ws hw
theorem ER.write {i : Nat} {xs ys : List PyData} {a : Addr} {vs ws : List V} (e : ER K H0 hs ρ σ H) (hi : ρ[i]? = some (.o xs)) (ha : σ[i]? = some (some (.ref a))) (hv : H a = some (.lst vs)) (hw : Reps K H ys ws) : ER K H0 hs (ρ.set i (.o ys)) σ (upd H a (.lst ws)) := by
  have tl : TupLe K H (upd H a (.lst ws)) := (SameBut.upd _).tup hv
  have li : i < ρ.length := (List.getElem?_eq_some_iff.mp hi).1
  have h0 : H0 a = none := by
    obtain ⟨b,h1,_,h3⟩ := e.own i xs hi
    rw [ha] at h1; cases h1; exact h3
  refine ⟨fun b o q => by rw [upd_ne (ne_of_none q h0)]; exact e.same b o q,by rw [List.length_set,e.len],fun j x q => ?_,fun j x q => ?_,fun j x q => ?_,fun j x q => ?_,fun j k b us zs q1 q2 q3 q4 => ?_,fun j k b us zs n q1 q2 q3 q4 => ?_,fun p hp => ?_,fun j us b q1 q2 => ?_⟩
  · rcases set_get q with ⟨_,z,_⟩ | ⟨n,q⟩
    · cases z
    · obtain ⟨u,h1,h2⟩ := e.dat j x q
      exact ⟨u,h1,Rep.mono tl _ _ h2⟩
  · rcases set_get q with ⟨_,z,_⟩ | ⟨n,q⟩
    · cases z
    · obtain ⟨b,h1,h2⟩ := e.lst j x q
      exact ⟨b,h1,h2.other hv fun z => e.sepL i j a xs x hi q ha (by rw [← z]; exact h1)⟩
  · rcases set_get q with ⟨_,z,_⟩ | ⟨n,q⟩
    · cases z
    · obtain ⟨u,h1,h2⟩ := e.per j x q
      exact ⟨u,h1,x.mono _ _ _ (Ext.write hv _) h2⟩
  · rcases set_get q with ⟨rfl,z,_⟩ | ⟨n,q⟩
    · cases z; exact ⟨a,ha,⟨ws,upd_same,Reps.mono tl _ _ hw⟩,h0⟩
    · obtain ⟨b,h1,h2,h3⟩ := e.own j x q
      exact ⟨b,h1,h2.other hv fun z => e.sepO i j a xs x n hi q ha (by rw [← z]; exact h1),h3⟩
  · rcases set_get q2 with ⟨_,z,_⟩ | ⟨n2,q2⟩
    · cases z
    rcases set_get q1 with ⟨rfl,_,_⟩ | ⟨n1,q1⟩
    · exact e.sepL i k b xs zs hi q2 q3 q4
    · exact e.sepL j k b us zs q1 q2 q3 q4
  · rcases set_get q1 with ⟨rfl,_,_⟩ | ⟨n1,q1⟩
    · rcases set_get q2 with ⟨z,_,_⟩ | ⟨n2,q2⟩
      · exact n z
      · exact e.sepO i k b xs zs n hi q2 q3 q4
    · rcases set_get q2 with ⟨rfl,_,_⟩ | ⟨n2,q2⟩
      · exact e.sepO j i b us xs n q1 hi q3 q4
      · exact e.sepO j k b us zs n q1 q2 q3 q4
  · have hh := e.held p hp
    obtain ⟨pv,ps⟩ := p
    cases ps with
    | un => trivial
    | d x => exact Rep.mono tl _ _ hh
    | l zs => obtain ⟨b,rfl,q⟩ := hh; exact ⟨b,rfl,q.other hv fun z => e.sepH i xs a hi ha (.ref b,.l zs) hp zs rfl (by rw [z])⟩
    | o zs => obtain ⟨b,rfl,q⟩ := hh; exact ⟨b,rfl,q.other hv fun z => e.sepH i xs a hi ha (.ref b,.o zs) hp zs rfl (by rw [z])⟩
    | h P => exact P.mono _ _ _ (Ext.write hv _) hh
  · rcases set_get q1 with ⟨rfl,_,_⟩ | ⟨n1,q1⟩
    · exact e.sepH i xs b hi q2
    · exact e.sepH j us b q1 q2
theorem ER.hold {v : V} {r : Sl} (e : ER K H0 hs ρ σ H) (h : RdR K H r v) (sep : ∀ ys,r.its = some ys → ∀ (i : Nat) xs a,ρ[i]? = some (.o xs) → σ[i]? = some (some (.ref a)) → v ≠ .ref a) : ER K H0 ((v,r) :: hs) ρ σ H :=
  ⟨e.same,e.len,e.dat,e.lst,e.per,e.own,e.sepL,e.sepO,fun p hp => by
    rcases List.mem_cons.mp hp with rfl | hp
    · exact h
    · exact e.held p hp,fun i xs a q1 q2 p hp ys hy => by
    rcases List.mem_cons.mp hp with rfl | hp
    · exact sep ys hy i xs a q1 q2
    · exact e.sepH i xs a q1 q2 p hp ys hy⟩
theorem ER.unhold {p : V × Sl} (e : ER K H0 (p :: hs) ρ σ H) : ER K H0 hs ρ σ H :=
  ⟨e.same,e.len,e.dat,e.lst,e.per,e.own,e.sepL,e.sepO,fun q hq => e.held q (List.mem_cons_of_mem _ hq),fun i xs a q1 q2 q hq => e.sepH i xs a q1 q2 q (List.mem_cons_of_mem _ hq)⟩
end
end L2
namespace L2
open PySem PySem.Spec PyProof.Rows
def tR (K : PySem.W.Frag) (ρ : List Sl) (r : Sl) : TE := fun σ H Q => (∃ H0 hs,ER K H0 hs ρ σ H) ∧ ∀ v H',Same H H' → RsR K H H' r v → Q v H'
def tRT (K : PySem.W.Frag) (ρ : List Sl) (b : Bool) : TT := fun σ H Q => (∃ H0 hs,ER K H0 hs ρ σ H) ∧ ∀ H',Same H H' → Q b H'
def tRD (K : PySem.W.Frag) (ρ : List Sl) (ds : List PyData) : TA := fun σ H Q => (∃ H0 hs,ER K H0 hs ρ σ H) ∧ ∀ vs H',Same H H' → Reps K H' ds vs → Q vs H'
def tRA (K : PySem.W.Frag) (ρ : List Sl) (rs : List Sl) : TA := fun σ H Q => (∃ H0 hs,ER K H0 hs ρ σ H) ∧ ∀ vs H',Same H H' → RdRs K H' rs vs → Q vs H'
def tRO (K : PySem.W.Frag) (ρ : List Sl) (i : Option Int) : TO := fun σ H Q => (∃ H0 hs,ER K H0 hs ρ σ H) ∧ ∀ H',Same H H' → Q i H'
def VE (X : Cx) (ρ : List Sl) (e : Expr) (r : Sl) : Prop := PE X e (tR X.K ρ r)
def VT (X : Cx) (ρ : List Sl) (e : Expr) (b : Bool) : Prop := PT X e (tRT X.K ρ b)
def VW (X : Cx) (ρ : List Sl) (e : Expr) (b : Bool) : Prop := PW X e (tRT X.K ρ b)
def VD (X : Cx) (ρ : List Sl) (es : List Expr) (ds : List PyData) : Prop := PA X es (tRD X.K ρ ds)
def VA (X : Cx) (ρ : List Sl) (es : List Expr) (rs : List Sl) : Prop := PA X es (tRA X.K ρ rs)
def VO (X : Cx) (ρ : List Sl) (e : Option Expr) (i : Option Int) : Prop := PO X e (tRO X.K ρ i)
section
variable {X : Cx} {ρ : List Sl} {e a b c : Expr} {es : List Expr} {r ra rb : Sl} {pos : Pos} {d : PyData} {ds : List PyData} {rs : List Sl}
theorem PE.weak {t t' : TE} (h : PE X e t) (w : ∀ σ H Q,t' σ H Q → t σ H Q) : PE X e t' := fun pins s σ H Q I q => h pins s σ H Q I (w σ H Q q)
theorem PT.weak {t t' : TT} (h : PT X e t) (w : ∀ σ H Q,t' σ H Q → t σ H Q) : PT X e t' := fun pins s σ H Q I q => h pins s σ H Q I (w σ H Q q)
theorem PW.weak {t t' : TT} (h : PW X e t) (w : ∀ σ H Q,t' σ H Q → t σ H Q) : PW X e t' := fun wh pins s σ H Q I q => h wh pins s σ H Q I (w σ H Q q)
theorem PA.weak {t t' : TA} (h : PA X es t) (w : ∀ σ H Q,t' σ H Q → t σ H Q) : PA X es t' := fun ps pins s σ H Q I q => h ps pins s σ H Q I (w σ H Q q)
theorem PO.weak {o : Option Expr} {t t' : TO} (h : PO X o t) (w : ∀ σ H Q,t' σ H Q → t σ H Q) : PO X o t' := fun pins s σ H Q I q => h pins s σ H Q I (w σ H Q q)
theorem er_grow {K : PySem.W.Frag} {σ : St} {H H' : Hp} (h : ∃ H0 hs,ER K H0 hs ρ σ H) (s : Same H H') : ∃ H0 hs,ER K H0 hs ρ σ H' := let ⟨a,b,e⟩ := h; ⟨a,b,e.grow s⟩
def ixA (x : Str) : List Str → Nat → Option Nat
  | [],_ => none
  | y :: r,k => if y = x then some k else ixA x r (k + 1)
theorem ixA_get {x : Str} : ∀ {l : List Str} {k i : Nat}, ixA x l k = some i → k ≤ i ∧ l[i - k]? = some x
  | [], k, i, h => nomatch h
  | y :: r, k, i, h => by
    rw [ixA] at h
    by_cases e : y = x
    · rw [if_pos e] at h; cases h; exact ⟨Nat.le_refl _, by rw [Nat.sub_self, e]; rfl⟩
    · rw [if_neg e] at h
      obtain ⟨h1, h2⟩ := ixA_get h
      refine ⟨by omega, ?_⟩
      rw [show i - k = (i - (k + 1)) + 1 from by omega, List.getElem?_cons_succ]
      exact h2
theorem ixA_N {x : Str} {i : Nat} {N : List Str} (h : ixA x N 0 = some i) : N[i]? = some x := by
  have := (ixA_get h).2
  rwa [Nat.sub_zero] at this
theorem ve_name {i : Nat} {x : Str} (hi : ixA x X.N 0 = some i) (hr : (ρ[i]?).bind Sl.rd = some r) (hv : Vis X.env.scope x := by first | exact Or.inl rfl | exact Or.inr (Or.inl rfl) | exact Or.inr (Or.inr rfl)) (hd : (x == ("__debug__" : Str)) = false := by decide)
    (hcd : (x == ("__classdict__" : Str)) = false := by decide) : VE X ρ (.Name x pos) r := by
  refine (pe_var (ixA_N hi) hv hd hcd).weak fun σ H Q ⟨⟨H0, hs, e⟩, q⟩ => ?_
  cases h : ρ[i]? with
  | none => rw [h] at hr; cases hr
  | some s =>
    rw [h] at hr
    cases s with
    | un => cases hr
    | d x => cases hr; obtain ⟨v, h1, h2⟩ := e.dat i x h; exact ⟨v, h1, q v H (Same.refl H) h2⟩
    | l x => cases hr; obtain ⟨a, h1, h2⟩ := e.lst i x h; exact ⟨_, h1, q _ H (Same.refl H) ⟨a, rfl, h2⟩⟩
    | o x => cases hr; obtain ⟨a, h1, h2, _⟩ := e.own i x h; exact ⟨_, h1, q _ H (Same.refl H) ⟨a, rfl, h2⟩⟩
    | h P => cases hr; obtain ⟨v, h1, h2⟩ := e.per i P h; exact ⟨v, h1, q v H (Same.refl H) h2⟩
theorem ve_int {i : Int} {j : Nat} : VE X ρ (.Constant (.int i) j pos) (.d (.int i)) := pe_int.weak fun σ H Q ⟨_,q⟩ => q _ H (Same.refl H) RsR.int
theorem ve_str {x : Str} {j : Nat} : VE X ρ (.Constant (.str x) j pos) (.d (.str x)) := pe_str.weak fun σ H Q ⟨_,q⟩ => q _ H (Same.refl H) RsR.str
theorem ve_bl {b : Bool} {j : Nat} : VE X ρ (.Constant (.bool b) j pos) (.d (.bool b)) := pe_bl.weak fun σ H Q ⟨_,q⟩ => q _ H (Same.refl H) RsR.bool
theorem ve_non {j : Nat} : VE X ρ (.Constant .none j pos) (.d .none) := pe_non.weak fun σ H Q ⟨_,q⟩ => q _ H (Same.refl H) RsR.non
theorem ve_glob {x : Str} {v : V} {u : Value} (hg : Gl X x) (hm : X.mg x = some u) (rv : RelV v u) (h : ∀ H,Rep X.K H d v) (hd : (x == ("__debug__" : Str)) = false := by decide) : VE X ρ (.Name x pos) (.d d) :=
  (pe_glob hg hm rv hd).weak fun σ H Q ⟨_,q⟩ => q _ H (Same.refl H) (h H)
theorem vd_nil : VD X ρ [] [] := pa_nil.weak fun σ H Q ⟨_,q⟩ => q [] H (Same.refl H) .nil
theorem vd_cons (h : VE X ρ e (.d d)) (t : VD X ρ es ds) (hs : starEach (e :: es) X.env = (false,eval e X.env) :: starEach es X.env := by rfl) : VD X ρ (e :: es) (d :: ds) :=
  PA.weak (pa_cons h t hs) fun σ H Q ⟨er,q⟩ => ⟨er,fun v H1 s1 r1 => ⟨er_grow er s1,fun vs H2 s2 r2 => q (v :: vs) H2 (s1.trans s2) (.cons (Rep.mono (TupLe.of_same s2) _ _ r1) r2)⟩⟩
theorem va_nil : VA X ρ [] [] := pa_nil.weak fun σ H Q ⟨_,q⟩ => q [] H (Same.refl H) .nil
theorem va_cons (h : VE X ρ e r) (t : VA X ρ es rs) (hs : starEach (e :: es) X.env = (false,eval e X.env) :: starEach es X.env := by rfl) : VA X ρ (e :: es) (r :: rs) :=
  PA.weak (pa_cons h t hs) fun σ H Q ⟨er,q⟩ => ⟨er,fun v H1 s1 r1 => ⟨er_grow er s1,fun vs H2 s2 r2 => q (v :: vs) H2 (s1.trans s2) (.cons (r1.rd.mono s2) r2)⟩⟩
theorem ve_tup {k : Nat} (h : VD X ρ es ds) (hz : ds.length ≤ sizeLine := by first | decide | exact Nat.le_of_ble_eq_true rfl) : VE X ρ (.Tuple es k pos) (.d (.tuple ds)) :=
  PE.weak (pe_tup h) fun σ H Q ⟨er,q⟩ => ⟨er,fun vs H1 s1 r1 => ⟨by rw [r1.length]; exact hz,fun p np => q _ _ (s1.trans (same_upd np _)) (RsR.mk (SqT.of upd_same) (Reps.mono (TupLe.of_same (same_upd np _)) _ _ r1))⟩⟩
theorem ve_lst (h : VD X ρ es ds) (hz : ds.length ≤ sizeLine := by first | decide | exact Nat.le_of_ble_eq_true rfl) : VE X ρ (.List es pos) (.o ds) :=
  PE.weak (pe_lst h) fun σ H Q ⟨er,q⟩ => ⟨er,fun vs H1 s1 r1 => ⟨by rw [r1.length]; exact hz,fun p np => q _ _ (s1.trans (same_upd np _)) ⟨p,rfl,s1.free np,vs,upd_same,Reps.mono (TupLe.of_same (same_upd np _)) _ _ r1⟩⟩⟩
theorem ve_op {op : Operator} {r2 : R2} (ho : OpR X (binaryOp op) r2) (ha : VE X ρ a ra) (hb : VE X ρ b rb) (h : ∀ H x y Q,RdR X.K H ra x → RdR X.K H rb y → (∀ z H',Same H H' → RsR X.K H H' r z → Q z H') → r2 x y H Q) : VE X ρ (.BinOp a op b pos) r :=
  PE.weak (pe_op ho ha hb) fun σ H Q ⟨er,q⟩ => ⟨er,fun x H1 s1 r1 => ⟨er_grow er s1,fun y H2 s2 r2 => h H2 x y _ (r1.rd.mono s2) r2.rd fun z H3 s3 r3 => q z H3 ((s1.trans s2).trans s3) (r3.since (s1.trans s2))⟩⟩
theorem ve_cmp {op : CmpOp} {r2 : R2} (ho : OpR X (compareOp op) r2) (ha : VE X ρ a ra) (hb : VE X ρ b rb) (h : ∀ H x y Q,RdR X.K H ra x → RdR X.K H rb y → (∀ z H',Same H H' → RsR X.K H H' r z → Q z H') → r2 x y H Q) (hm : behindInMarks op b = false) : VE X ρ (.Compare a [op] [b] pos) r :=
  PE.weak (pe_cmpR ho ha hb hm) fun σ H Q ⟨er,q⟩ => ⟨er,fun x H1 s1 r1 => ⟨er_grow er s1,fun y H2 s2 r2 => h H2 x y _ (r1.rd.mono s2) r2.rd fun z H3 s3 r3 => q z H3 ((s1.trans s2).trans s3) (r3.since (s1.trans s2))⟩⟩
theorem vt_cmp {op : CmpOp} {r2 : R2} {k : Bool} (ho : OpR X (compareOp op) r2) (ha : VE X ρ a ra) (hb : VE X ρ b rb) (h : ∀ H x y Q,RdR X.K H ra x → RdR X.K H rb y → Q (.bl k) H → r2 x y H Q) (hm : behindInMarks op b = false) : VT X ρ (.Compare a [op] [b] pos) k :=
  PT.weak (pt_cmpR ho ha hb hm) fun σ H Q ⟨er,q⟩ => ⟨er,fun x H1 s1 r1 => ⟨er_grow er s1,fun y H2 s2 r2 => h H2 x y _ (r1.rd.mono s2) r2.rd ⟨k,rfl,q H2 (s1.trans s2)⟩⟩⟩
theorem ve_addI {i j : Int} (ha : VE X ρ a (.d (.int i))) (hb : VE X ρ b (.d (.int j))) : VE X ρ (.BinOp a .Add b pos) (.d (.int (i + j))) :=
  ve_op op_add ha hb fun H x y Q rx ry q => ⟨i,j,RdR.is_int rx,RdR.is_int ry,q _ H (Same.refl H) RsR.int⟩
theorem ve_subI {i j : Int} (ha : VE X ρ a (.d (.int i))) (hb : VE X ρ b (.d (.int j))) : VE X ρ (.BinOp a .Sub b pos) (.d (.int (i - j))) :=
  ve_op op_sub ha hb fun H x y Q rx ry q => ⟨i,j,RdR.is_int rx,RdR.is_int ry,q _ H (Same.refl H) RsR.int⟩
theorem ve_mulI {i j : Int} (ha : VE X ρ a (.d (.int i))) (hb : VE X ρ b (.d (.int j))) (h : CMul i j) : VE X ρ (.BinOp a .Mult b pos) (.d (.int (i * j))) :=
  ve_op op_mul ha hb fun H x y Q rx ry q => ⟨i,j,RdR.is_int rx,RdR.is_int ry,h,q _ H (Same.refl H) RsR.int⟩
theorem ve_modI {i j : Int} (ha : VE X ρ a (.d (.int i))) (hb : VE X ρ b (.d (.int j))) (h : 0 < j := by decide) : VE X ρ (.BinOp a .Mod b pos) (.d (.int (i % j))) :=
  ve_op op_mod ha hb fun H x y Q rx ry q => ⟨i,j,RdR.is_int rx,RdR.is_int ry,h,q _ H (Same.refl H) RsR.int⟩
theorem ve_divI {i j : Int} (ha : VE X ρ a (.d (.int i))) (hb : VE X ρ b (.d (.int j))) (h : CDiv i j := by exact ⟨by decide,by decide⟩) : VE X ρ (.BinOp a .FloorDiv b pos) (.d (.int (i / j))) :=
  ve_op op_fdiv ha hb fun H x y Q rx ry q => ⟨i,j,RdR.is_int rx,RdR.is_int ry,h,q _ H (Same.refl H) RsR.int⟩
theorem ve_addS {i j : Str} (ha : VE X ρ a (.d (.str i))) (hb : VE X ρ b (.d (.str j))) (h : i.length + j.length ≤ sizeLine) : VE X ρ (.BinOp a .Add b pos) (.d (.str (i ++ j))) :=
  ve_op op_add_str ha hb fun H x y Q rx ry q => ⟨i,j,RdR.is_str rx,RdR.is_str ry,h,q _ H (Same.refl H) RsR.str⟩
theorem ve_addT {xs ys : List PyData} (ha : VE X ρ a (.d (.tuple xs))) (hb : VE X ρ b (.d (.tuple ys))) (h : xs.length + ys.length ≤ sizeLine) : VE X ρ (.BinOp a .Add b pos) (.d (.tuple (xs ++ ys))) :=
  ve_op op_catT' ha hb fun H x y Q rx ry q => by
    obtain ⟨p,vs,rfl,hq,rp⟩ := RdR.tup rx
    obtain ⟨p2,ws,rfl,hq2,rp2⟩ := RdR.tup ry
    exact cat_reps hq hq2 (by rw [rp.length,rp2.length]; exact h) fun c H3 s3 h3 => q _ _ s3 (RsR.mk h3 ((Reps.mono (TupLe.of_same s3) _ _ rp).append (Reps.mono (TupLe.of_same s3) _ _ rp2)))
theorem ve_ixT {xs : List PyData} {i : Int} (ha : VE X ρ a (.d (.tuple xs))) (hb : VE X ρ b (.d (.int i))) (h : atI xs i = some d) (hs : PlainIx b := by exact fun _ _ => rfl) : VE X ρ (.Subscript a b pos) (.d d) :=
  PE.weak (pe_ix ix_tup ha hb hs) fun σ H Q ⟨er, q⟩ => ⟨er, fun x H1 s1 r1 => ⟨er_grow er s1, fun y H2 s2 r2 => by
    obtain ⟨p, vs, rfl, hq, rp⟩ := RdR.tup (r1.rd.mono s2)
    obtain rfl := RsR.is_int r2
    obtain ⟨j, h1, h2, h3, h4, h5⟩ := atI_get h
    obtain ⟨z, hz, rz⟩ := rp.get h2
    refine ⟨p, vs, i, z, rfl, rfl, hq, ?_, q z H2 (s1.trans s2) rz⟩
    unfold atI at h ⊢
    rw [rp.length]
    cases q : ixN xs.length i with
    | none => rw [q] at h; cases h
    | some k =>
      have hk := (ixN_seq q).1
      rw [h1] at hk
      cases hk
      exact hz⟩⟩
theorem ve_ixL {xs : List PyData} {i : Int} (ha : VE X ρ a ra) (hb : VE X ρ b (.d (.int i))) (ea : ra.its = some xs) (h : atI xs i = some d) (hs : PlainIx b := by exact fun _ _ => rfl) : VE X ρ (.Subscript a b pos) (.d d) :=
  PE.weak (pe_ix ix_list ha hb hs) fun σ H Q ⟨er, q⟩ => ⟨er, fun x H1 s1 r1 => ⟨er_grow er s1, fun y H2 s2 r2 => by
    obtain ⟨p, vs, rfl, hq, rp⟩ := (r1.rd.mono s2).lst ea
    obtain rfl := RsR.is_int r2
    obtain ⟨j, h1, h2, h3, h4, h5⟩ := atI_get h
    obtain ⟨z, hz, rz⟩ := rp.get h2
    refine ⟨p, vs, i, z, rfl, rfl, SqL.of hq, ?_, q z H2 (s1.trans s2) rz⟩
    unfold atI at h ⊢
    rw [rp.length]
    cases q : ixN xs.length i with
    | none => rw [q] at h; cases h
    | some k =>
      have hk := (ixN_seq q).1
      rw [h1] at hk
      cases hk
      exact hz⟩⟩
theorem vo_none : VO X ρ none none := PO.weak po_none fun σ H Q ⟨_,q⟩ => q H (Same.refl H)
theorem vo_some {i : Int} (h : VE X ρ e (.d (.int i))) : VO X ρ (some e) (some i) := PO.weak (po_some h) fun σ H Q ⟨er,q⟩ => ⟨er,fun v H1 s1 r1 => ⟨i,RsR.is_int r1,q H1 s1⟩⟩
def cutD (xs : List PyData) (lo hi : Option Int) : List PyData := (xs.drop (HT.sIx xs.length 0 lo)).take (HT.sIx xs.length xs.length hi - HT.sIx xs.length 0 lo)
theorem cut_reps {K : PySem.W.Frag} {H : Hp} {xs : List PyData} {vs : List V} (h : Reps K H xs vs) (lo hi : Option Int) : Reps K H (cutD xs lo hi) (cutV vs lo hi) := by
  unfold cutD cutV
  rw [h.length]
  exact (h.drop _).take _
theorem ve_slT {xs : List PyData} {lo hi : Option Expr} {i j : Option Int} {p2 : Pos} (ha : VE X ρ a (.d (.tuple xs))) (hl : VO X ρ lo i) (hh : VO X ρ hi j) (h : ¬ (HT.sIx xs.length 0 i = 0 ∧ HT.sIx xs.length xs.length j = xs.length)) :
    VE X ρ (.Subscript a (.Slice lo hi none p2) pos) (.d (.tuple (cutD xs i j))) :=
  PE.weak (pe_slice sl_tup ha hl hh) fun σ H Q ⟨er,q⟩ => ⟨er,fun x H1 s1 r1 => ⟨er_grow er s1,fun H2 s2 => ⟨er_grow er (s1.trans s2),fun H3 s3 => by
    obtain ⟨p,vs,rfl,hq,rp⟩ := RdR.tup (r1.rd.mono (s2.trans s3))
    refine ⟨p,vs,rfl,hq,by rw [rp.length]; exact h,fun c hc => q _ _ ((s1.trans (s2.trans s3)).trans (same_upd hc _)) (RsR.mk (SqT.of upd_same) ?_)⟩
    exact cut_reps (Reps.mono (TupLe.of_same (same_upd hc _)) _ _ rp) i j⟩⟩⟩
theorem ve_slL {xs : List PyData} {lo hi : Option Expr} {i j : Option Int} {p2 : Pos} (ha : VE X ρ a ra) (hl : VO X ρ lo i) (hh : VO X ρ hi j) (ea : ra.its = some xs) : VE X ρ (.Subscript a (.Slice lo hi none p2) pos) (.o (cutD xs i j)) :=
  PE.weak (pe_slice sl_list ha hl hh) fun σ H Q ⟨er,q⟩ => ⟨er,fun x H1 s1 r1 => ⟨er_grow er s1,fun H2 s2 => ⟨er_grow er (s1.trans s2),fun H3 s3 => by
    obtain ⟨p,vs,rfl,hq,rp⟩ := (r1.rd.mono (s2.trans s3)).lst ea
    refine ⟨p,vs,rfl,SqL.of hq,fun c hc => q _ _ ((s1.trans (s2.trans s3)).trans (same_upd hc _)) ⟨c,rfl,(s1.trans (s2.trans s3)).free hc,_,upd_same,?_⟩⟩
    exact cut_reps (Reps.mono (TupLe.of_same (same_upd hc _)) _ _ rp) i j⟩⟩⟩
theorem vt_eqS {x y : Str} (ha : VE X ρ a (.d (.str x))) (hb : VE X ρ b (.d (.str y))) : VT X ρ (.Compare a [.Eq] [b] pos) (decide (x = y)) :=
  vt_cmp op_eq ha hb (fun H u w Q rx ry q => by
    obtain rfl := RdR.is_str rx
    obtain rfl := RdR.is_str ry
    refine ⟨rfl,?_⟩
    rw [show decide (V.str x = V.str y) = decide (x = y) from by simp]; exact q) (nomark _)
theorem vt_neS {x y : Str} (ha : VE X ρ a (.d (.str x))) (hb : VE X ρ b (.d (.str y))) : VT X ρ (.Compare a [.NotEq] [b] pos) (!decide (x = y)) :=
  vt_cmp op_ne ha hb (fun H u w Q rx ry q => by
    obtain rfl := RdR.is_str rx
    obtain rfl := RdR.is_str ry
    refine ⟨rfl,?_⟩
    rw [show decide (V.str x = V.str y) = decide (x = y) from by simp]; exact q) (nomark _)
theorem vt_eqI {x y : Int} (ha : VE X ρ a (.d (.int x))) (hb : VE X ρ b (.d (.int y))) : VT X ρ (.Compare a [.Eq] [b] pos) (decide (x = y)) :=
  vt_cmp op_eq ha hb (fun H u w Q rx ry q => by
    obtain rfl := RdR.is_int rx
    obtain rfl := RdR.is_int ry
    refine ⟨rfl,?_⟩
    rw [show decide (V.int x = V.int y) = decide (x = y) from by simp]; exact q) (nomark _)
theorem vt_neI {x y : Int} (ha : VE X ρ a (.d (.int x))) (hb : VE X ρ b (.d (.int y))) : VT X ρ (.Compare a [.NotEq] [b] pos) (!decide (x = y)) :=
  vt_cmp op_ne ha hb (fun H u w Q rx ry q => by
    obtain rfl := RdR.is_int rx
    obtain rfl := RdR.is_int ry
    refine ⟨rfl,?_⟩
    rw [show decide (V.int x = V.int y) = decide (x = y) from by simp]; exact q) (nomark _)
theorem vt_ltI {x y : Int} (ha : VE X ρ a (.d (.int x))) (hb : VE X ρ b (.d (.int y))) : VT X ρ (.Compare a [.Lt] [b] pos) (decide (x < y)) :=
  vt_cmp op_lt ha hb (fun H u w Q rx ry q => ⟨x,y,RdR.is_int rx,RdR.is_int ry,q⟩) (nomark _)
theorem vt_gtI {x y : Int} (ha : VE X ρ a (.d (.int x))) (hb : VE X ρ b (.d (.int y))) : VT X ρ (.Compare a [.Gt] [b] pos) (decide (y < x)) :=
  vt_cmp op_gt ha hb (fun H u w Q rx ry q => ⟨x,y,RdR.is_int rx,RdR.is_int ry,q⟩) (nomark _)
def Sl.isN : Sl → Bool
  | .d .none => true
  | _ => false
theorem nun_d {x : PyData} : Sl.d x ≠ .un ∧ ∀ P,Sl.d x ≠ .h P := ⟨(by intro z; cases z),(by intro _ z; cases z)⟩
theorem rep_non {K : PySem.W.Frag} {H : Hp} {v : V} (h : RdR K H r v) (hu : r ≠ .un ∧ ∀ P, r ≠ .h P) : decide (v = V.non) = r.isN := by
  cases r with
  | un => exact absurd rfl hu.1
  | h P => exact absurd rfl (hu.2 P)
  | d x =>
    have h : Rep K H x v := h
    cases x with
    | none => rw [Rep] at h; subst h; rfl
    | bool b => rw [Rep] at h; subst h; rfl
    | int b => rw [Rep] at h; subst h; rfl
    | str b => rw [Rep] at h; subst h; rfl
    | tuple b => rw [Rep] at h; obtain ⟨a, vs, rfl, _⟩ := h; rfl
    | list b => rw [Rep] at h; obtain ⟨a, o, vs, rfl, _⟩ := h; rfl
    | dict b => rw [Rep] at h; obtain ⟨a, o, dx, vs, rfl, _⟩ := h; rfl
  | l xs => obtain ⟨a, rfl, _⟩ := h; rfl
  | o xs => obtain ⟨a, rfl, _⟩ := h; rfl
theorem vt_notN {j : Nat} {p2 : Pos} (ha : VE X ρ a ra) (hu : ra ≠ .un ∧ ∀ P,ra ≠ .h P := by first | exact nun_d | exact nun_l | exact nun_o) : VT X ρ (.Compare a [.IsNot] [.Constant .none j p2] pos) (!ra.isN) :=
  vt_cmp op_notN ha (ve_non (j := j) (pos := p2)) (fun H x y Q rx ry q => ⟨RdR.is_non ry,by rw [rep_non rx hu]; exact q⟩) (nomark _)
theorem vt_not {k : Bool} (h : VT X ρ a k) : VT X ρ (.UnaryOp .Not a pos) (!k) := PT.weak (pt_not h) fun σ H Q ⟨er,q⟩ => ⟨er,fun H1 s1 => q H1 s1⟩
theorem vt_eq {k k' : Bool} (h : VT X ρ a k) (e : k = k') : VT X ρ a k' := by rw [← e]; exact h
theorem vt_w {k : Bool} (h : VW X ρ e k) : VT X ρ e k := PW.pt h
theorem vw_and1 {k : Bool} (h : VT X ρ a k) : VW X ρ (.BoolOp .And [a] pos) k := pw_and1 h
theorem vw_or1 {k : Bool} (h : VT X ρ a k) : VW X ρ (.BoolOp .Or [a] pos) k := pw_or1 h
theorem vw_andT {k : Bool} (h : VT X ρ a true) (t : VW X ρ (.BoolOp .And (b :: es) pos) k) : VW X ρ (.BoolOp .And (a :: b :: es) pos) k :=
  PW.weak (pw_and h t) fun σ H Q ⟨er,q⟩ => ⟨er,fun H1 s1 => iteT ⟨er_grow er s1,fun H2 s2 => q H2 (s1.trans s2)⟩⟩
theorem vw_andF (h : VT X ρ a false) : VW X ρ (.BoolOp .And (a :: b :: es) pos) false :=
  PW.weak (pw_and (tB' := fun _ _ _ => False) h fun _ _ _ _ _ _ _ z => z.elim) fun σ H Q ⟨er,q⟩ => ⟨er,fun H1 s1 => iteF <| q H1 s1⟩
theorem vw_orT (h : VT X ρ a true) : VW X ρ (.BoolOp .Or (a :: b :: es) pos) true :=
  PW.weak (pw_or (tB' := fun _ _ _ => False) h fun _ _ _ _ _ _ _ z => z.elim) fun σ H Q ⟨er,q⟩ => ⟨er,fun H1 s1 => iteT <| q H1 s1⟩
theorem vw_orF {k : Bool} (h : VT X ρ a false) (t : VW X ρ (.BoolOp .Or (b :: es) pos) k) : VW X ρ (.BoolOp .Or (a :: b :: es) pos) k :=
  PW.weak (pw_or h t) fun σ H Q ⟨er,q⟩ => ⟨er,fun H1 s1 => iteF ⟨er_grow er s1,fun H2 s2 => q H2 (s1.trans s2)⟩⟩
theorem vw_or {j k : Bool} (h : VT X ρ a j) (t : j = false → VW X ρ (.BoolOp .Or (b :: es) pos) k) : VW X ρ (.BoolOp .Or (a :: b :: es) pos) (j || k) := by
  cases j with
  | true => exact vw_orT h
  | false => exact vw_orF h (t rfl)
theorem vt_bool {k : Bool} (h : VE X ρ e (.d (.bool k))) (he : ∀ whole,isTrue e X.env whole = (do let v ← whole; standAt e.pos; holding [v] (truthy v)) := by intro _; rfl) : VT X ρ e k :=
  PT.weak (pt_val h he) fun σ H Q ⟨er,q⟩ => ⟨er,fun v H1 s1 r1 => ⟨k,RsR.is_bool r1,q H1 s1⟩⟩
theorem vt_lst {xs : List PyData} (h : VE X ρ e r) (hr : r.its = some xs) (he : ∀ whole,isTrue e X.env whole = (do let v ← whole; standAt e.pos; holding [v] (truthy v)) := by intro _; rfl) : VT X ρ e (!xs.isEmpty) :=
  PT.weak (pt_truth h he) fun σ H Q ⟨er,q⟩ => ⟨er,fun v H1 s1 r1 => by
    obtain ⟨a,vs,rfl,h1,h2⟩ := r1.rd.lst hr
    refine ⟨_,.inl ⟨vs,SqL.of h1,rfl⟩,?_⟩
    have : vs.isEmpty = xs.isEmpty := by
      have := h2.length
      cases vs <;> cases xs <;> simp_all
    rw [this]
    exact q H1 s1⟩
theorem ve_one {op : BoolOp} (h : VE X ρ a r) : VE X ρ (.BoolOp op [a] pos) r := pe_one h
theorem ve_and {j k : Bool} (h : VE X ρ a (.d (.bool j))) (t : j = true → VE X ρ (.BoolOp .And (b :: es) pos) (.d (.bool k))) : VE X ρ (.BoolOp .And (a :: b :: es) pos) (.d (.bool (j && k))) := by
  cases j with
  | true => exact PE.weak (pe_and h (t rfl)) fun σ H Q ⟨er,q⟩ => ⟨er,fun v H1 s1 r1 => ⟨true,RsR.is_bool r1,iteT ⟨er_grow er s1,fun u H2 s2 r2 => q u H2 (s1.trans s2) r2⟩⟩⟩
  | false => exact PE.weak (pe_and (tb := fun _ _ _ => False) h fun _ _ _ _ _ _ z => z.elim) fun σ H Q ⟨er,q⟩ => ⟨er,fun v H1 s1 r1 => ⟨false,RsR.is_bool r1,iteF <| q _ H1 s1 RsR.bool⟩⟩
theorem ve_or {j k : Bool} (h : VE X ρ a (.d (.bool j))) (t : j = false → VE X ρ (.BoolOp .Or (b :: es) pos) (.d (.bool k))) : VE X ρ (.BoolOp .Or (a :: b :: es) pos) (.d (.bool (j || k))) := by
  cases j with
  | false => exact PE.weak (pe_or h (t rfl)) fun σ H Q ⟨er,q⟩ => ⟨er,fun v H1 s1 r1 => ⟨false,RsR.is_bool r1,iteF ⟨er_grow er s1,fun u H2 s2 r2 => q u H2 (s1.trans s2) r2⟩⟩⟩
  | true => exact PE.weak (pe_or (tb := fun _ _ _ => False) h fun _ _ _ _ _ _ z => z.elim) fun σ H Q ⟨er,q⟩ => ⟨er,fun v H1 s1 r1 => ⟨true,RsR.is_bool r1,iteT <| q _ H1 s1 RsR.bool⟩⟩
theorem ve_if {k : Bool} (hc : VT X ρ c k) (ha : k = true → VE X ρ a r) (hb : k = false → VE X ρ b r) : VE X ρ (.IfExp c a b pos) r := by
  cases k with
  | true => exact PE.weak (pe_ifExp (tb := fun _ _ _ => False) hc (ha rfl) fun _ _ _ _ _ _ z => z.elim) fun σ H Q ⟨er,q⟩ => ⟨er,fun H1 s1 => iteT ⟨er_grow er s1,fun u H2 s2 r2 => q u H2 (s1.trans s2) (r2.since s1)⟩⟩
  | false => exact PE.weak (pe_ifExp (ta := fun _ _ _ => False) hc (fun _ _ _ _ _ _ z => z.elim) (hb rfl)) fun σ H Q ⟨er,q⟩ => ⟨er,fun H1 s1 => iteF ⟨er_grow er s1,fun u H2 s2 r2 => q u H2 (s1.trans s2) (r2.since s1)⟩⟩
end
end L2
namespace L2
open PySem PySem.Spec PyProof.Rows
def spV (K : PySem.W.Frag) (R : List Sl → Sl → Prop) : Sp := fun vs H Q _ => ∃ as r,RdRs K H as vs ∧ R as r ∧ ∀ v H',Same H H' → RsR K H H' r v → Q v H'
section
variable {X : Cx} {ρ : List Sl} {e a b c : Expr} {es : List Expr} {r ra rb : Sl} {p p2 pos : Pos} {d : PyData} {ds : List PyData} {rs : List Sl}
theorem ve_call {k : Nat} {x : Str} {ps : List Str} {R : List Sl → Sl → Prop} (D : DefOk X.prog X.w X.K X.mg X.base k x ps (spV X.K R)) (hr : Room k X.A) (ha : VA X ρ (e :: es) rs) (h : R (rs.map Sl.arg) r) (hg : Gl X x := by rfl) (hdb : (x == ("__debug__" : Str)) = false := by decide)
    (he : starEach (e :: es) X.env = (false,eval e X.env) :: starEach es X.env := by rfl) (hpl : (backTo pos (starEach es X.env)).any (·.1) = false := by rfl) : VE X ρ (.Call (.Name x p) (e :: es) [] pos) r :=
  PE.weak (pe_callD D hr hg ha hdb he hpl) fun σ H Q ⟨er,q⟩ => ⟨er,fun vs H1 s1 r1 => by
    show spV X.K R (vs ++ []) H1 Q E0
    rw [List.append_nil]
    exact ⟨rs.map Sl.arg,r,r1.arg,h,fun v H2 s2 r2 => q v H2 (s1.trans s2) (r2.since s1)⟩⟩
def Sl.tyN : Sl → Option String
  | .d .none => some "NoneType"
  | .d (.bool _) => some "bool"
  | .d (.int _) => some "int"
  | .d (.str _) => some "str"
  | .d (.tuple _) => some "tuple"
  | .l _ => some "list"
  | .o _ => some "list"
  | _ => none
theorem RdR.ty {K : PySem.W.Frag} {H : Hp} {v : V} {T : String} (h : RdR K H r v) (e : r.tyN = some T) : TyV K H v (.type T) := by
  cases r with
  | un => cases e
  | d x =>
    have h : Rep K H x v := h
    cases x with
    | none => rw [Rep] at h; subst h; cases e; exact .of .non
    | bool b => rw [Rep] at h; subst h; cases e; exact .of (.bl b)
    | int b => rw [Rep] at h; subst h; cases e; exact .of (.int b)
    | str b => rw [Rep] at h; subst h; cases e; exact .of (.str b)
    | tuple b => rw [Rep] at h; obtain ⟨a, vs, rfl, hq, _⟩ := h; cases e; exact .sqT hq
    | list b => cases e
    | dict b => cases e
  | l xs => cases e; obtain ⟨a, rfl, vs, h1, _⟩ := h; exact .sqL (SqL.of h1)
  | o xs => cases e; obtain ⟨a, rfl, vs, h1, _⟩ := h; exact .sqL (SqL.of h1)
  | h P => cases e
theorem ve_isinst {x : Str} {T T2 : String} {k : Bool} (hm : X.mg "isinstance" = none) (hmT : X.mg x = none) (hv : bootBuiltins x = some (.type T)) (he : VE X ρ e ra) (ht : ra.tyN = some T2) (hk : PySem.W.kitOne X.K (.type T2) (.type T) = some k) (hg : Gl X "isinstance" := by rfl) (hgT : Gl X x := by rfl)
    (hn : x ≠ "__name__" := by decide) (hd : (x == ("__debug__" : Str)) = false := by decide) (hs : starEach [e,.Name x p2] X.env = (false,eval e X.env) :: starEach [.Name x p2] X.env := by rfl) : VE X ρ (.Call (.Name "isinstance" p) [e,.Name x p2] [] pos) (.d (.bool k)) :=
  PE.weak (pe_isinst hg hm hgT hmT hv he hn hd hs) fun σ H Q ⟨er,q⟩ => ⟨er,fun v H1 s1 r1 => ⟨v,T,.type T2,k,rfl,r1.rd.ty ht,hk,q _ H1 s1 RsR.bool⟩⟩
theorem ve_lenT {xs : List PyData} (hm : X.mg "len" = none) (he : VE X ρ e (.d (.tuple xs))) (hg : Gl X "len" := by rfl) (hs : starEach [e] X.env = [(false,eval e X.env)] := by rfl) : VE X ρ (.Call (.Name "len" p) [e] [] pos) (.d (.int (xs.length : Nat))) :=
  PE.weak (pe_callB call_len_seq hg hm PySem.boot_len (pa_cons he pa_nil hs) (by decide) (by decide) hs) fun σ H Q ⟨er,q⟩ => ⟨er,fun v H1 s1 r1 => by
    obtain ⟨a,vs,rfl,hq,rp⟩ := RsR.tup r1
    exact ⟨a,vs,rfl,.inr hq,by rw [rp.length]; exact q _ H1 s1 RsR.int⟩⟩
theorem ve_lenL {xs : List PyData} (hm : X.mg "len" = none) (he : VE X ρ e ra) (ea : ra.its = some xs) (hg : Gl X "len" := by rfl) (hs : starEach [e] X.env = [(false,eval e X.env)] := by rfl) : VE X ρ (.Call (.Name "len" p) [e] [] pos) (.d (.int (xs.length : Nat))) :=
  PE.weak (pe_callB call_len_seq hg hm PySem.boot_len (pa_cons he pa_nil hs) (by decide) (by decide) hs) fun σ H Q ⟨er,q⟩ => ⟨er,fun v H1 s1 r1 => by
    obtain ⟨a,vs,rfl,hq,rp⟩ := r1.rd.lst ea
    exact ⟨a,vs,rfl,.inl (SqL.of hq),by rw [rp.length]; exact q _ H1 s1 RsR.int⟩⟩
theorem ve_lenS {x : Str} (hm : X.mg "len" = none) (he : VE X ρ e (.d (.str x))) (hz : x.length ≤ sizeLine) (hg : Gl X "len" := by rfl) (hs : starEach [e] X.env = [(false,eval e X.env)] := by rfl) : VE X ρ (.Call (.Name "len" p) [e] [] pos) (.d (.int (x.length : Nat))) :=
  PE.weak (pe_callB call_len_str hg hm PySem.boot_len (pa_cons he pa_nil hs) (by decide) (by decide) hs) fun σ H Q ⟨er,q⟩ => ⟨er,fun v H1 s1 r1 => ⟨x,by rw [RsR.is_str r1],hz,q _ H1 s1 RsR.int⟩⟩
theorem ve_listL {xs : List PyData} (hm : X.mg "list" = none) (he : VE X ρ e ra) (ea : ra.its = some xs) (hg : Gl X "list" := by rfl) (hs : starEach [e] X.env = [(false,eval e X.env)] := by rfl) : VE X ρ (.Call (.Name "list" p) [e] [] pos) (.o xs) :=
  PE.weak (pe_callTy call_list_of hg hm boot_list (pa_cons he pa_nil hs) (by decide) (by decide) hs) fun σ H Q ⟨er,q⟩ => ⟨er,fun v H1 s1 r1 => by
    obtain ⟨a,vs,rfl,hq,rp⟩ := r1.rd.lst ea
    exact ⟨a,vs,rfl,.inl (SqL.of hq),fun l hl => q _ _ (s1.trans (same_upd hl _)) ⟨l,rfl,s1.free hl,vs,upd_same,Reps.mono (TupLe.of_same (same_upd hl _)) _ _ rp⟩⟩⟩
theorem ve_listT {xs : List PyData} (hm : X.mg "list" = none) (he : VE X ρ e (.d (.tuple xs))) (hg : Gl X "list" := by rfl) (hs : starEach [e] X.env = [(false,eval e X.env)] := by rfl) : VE X ρ (.Call (.Name "list" p) [e] [] pos) (.o xs) :=
  PE.weak (pe_callTy call_list_of hg hm boot_list (pa_cons he pa_nil hs) (by decide) (by decide) hs) fun σ H Q ⟨er,q⟩ => ⟨er,fun v H1 s1 r1 => by
    obtain ⟨a,vs,rfl,hq,rp⟩ := RsR.tup r1
    exact ⟨a,vs,rfl,.inr hq,fun l hl => q _ _ (s1.trans (same_upd hl _)) ⟨l,rfl,s1.free hl,vs,upd_same,Reps.mono (TupLe.of_same (same_upd hl _)) _ _ rp⟩⟩⟩
theorem ve_tupL {xs : List PyData} (hm : X.mg "tuple" = none) (he : VE X ρ e ra) (ea : ra.its = some xs) (hg : Gl X "tuple" := by rfl) (hs : starEach [e] X.env = [(false,eval e X.env)] := by rfl) : VE X ρ (.Call (.Name "tuple" p) [e] [] pos) (.d (.tuple xs)) :=
  PE.weak (pe_callTy call_tuple_of hg hm boot_tuple (pa_cons he pa_nil hs) (by decide) (by decide) hs) fun σ H Q ⟨er,q⟩ => ⟨er,fun v H1 s1 r1 => by
    obtain ⟨a,vs,rfl,hq,rp⟩ := r1.rd.lst ea
    exact ⟨a,vs,rfl,.inl ⟨SqL.of hq,fun l hl => q _ _ (s1.trans (same_upd hl _)) (RsR.mk (SqT.of upd_same) (Reps.mono (TupLe.of_same (same_upd hl _)) _ _ rp))⟩⟩⟩
theorem ve_listRev {xs : List PyData} {p3 pos2 : Pos} (hc : X.calm = true) (hmL : X.mg "list" = none) (hmR : X.mg "reversed" = none) (he : VE X ρ e ra) (ea : ra.its = some xs) (hgL : Gl X "list" := by rfl) (hgR : Gl X "reversed" := by rfl) (hs : starEach [e] X.env = [(false,eval e X.env)] := by rfl)
    (hs2 : starEach [.Call (.Name "reversed" p2) [e] [] pos2] X.env = [(false,eval (.Call (.Name "reversed" p2) [e] [] pos2) X.env)] := by rfl) : VE X ρ (.Call (.Name "list" p) [.Call (.Name "reversed" p2) [e] [] pos2] [] pos) (.o xs.reverse) :=
  PE.weak (pe_listRev hc hgL hmL hgR hmR (pa_cons he pa_nil hs) hs hs2) fun σ H Q ⟨er,q⟩ => ⟨er,fun v H1 s1 r1 => by
    obtain ⟨a,vs,rfl,hq,rp⟩ := r1.rd.lst ea
    exact ⟨a,vs,rfl,SqL.of hq,fun l hl => q _ _ (s1.trans (same_upd hl _)) ⟨l,rfl,s1.free hl,_,upd_same,Reps.mono (TupLe.of_same (same_upd hl _)) _ _ rp.reverse⟩⟩⟩
end
end L2
namespace L2
open PySem PySem.Spec PyProof.Rows
inductive Out where
  | nx (ρ : List Sl) | rt (r : Sl) | bk (ρ : List Sl) | ct (ρ : List Sl)
def DE (K : PySem.W.Frag) (H0 : Hp) (hs : List (V × Sl)) (Q : Out → Prop) : Ends where
  nx := fun σ H => ∃ ρ,Q (.nx ρ) ∧ ER K H0 hs ρ σ H
  bk := fun σ H => ∃ ρ,Q (.bk ρ) ∧ ER K H0 hs ρ σ H
  ct := fun σ H => ∃ ρ,Q (.ct ρ) ∧ ER K H0 hs ρ σ H
  rt := fun v H => ∃ r,Q (.rt r) ∧ Same H0 H ∧ RsR K H0 H r v
structure Ends.le (D D' : Ends) : Prop where
  nx : ∀ σ H,D.nx σ H → D'.nx σ H
  rt : ∀ v H,D.rt v H → D'.rt v H
  bk : ∀ σ H,D.bk σ H → D'.bk σ H
  ct : ∀ σ H,D.ct σ H → D'.ct σ H
def tRS (K : PySem.W.Frag) (ρ : List Sl) (Q : Out → Prop) : TS := fun D σ H => ∃ H0 hs,ER K H0 hs ρ σ H ∧ (DE K H0 hs Q).le D
def VS (X : Cx) (ss : List Stmt) (ρ : List Sl) (Q : Out → Prop) : Prop := PSs X ss (tRS X.K ρ Q)
section
variable {X : Cx} {ρ : List Sl} {e a b c : Expr} {es : List Expr} {r ra rb : Sl} {pos p2 p3 : Pos} {d : PyData} {ds : List PyData} {rs : List Sl} {Q Q' : Out → Prop} {rest : List Stmt} {st : Stmt}
theorem PSs.weak {ss : List Stmt} {t t' : TS} (h : PSs X ss t) (w : ∀ D σ H,t' D σ H → t D σ H) : PSs X ss t' := fun pins s σ H D I q => h pins s σ H D I (w D σ H q)
theorem VS.mono {ss : List Stmt} (h : VS X ss ρ Q) (w : ∀ o,Q o → Q' o) : VS X ss ρ Q' :=
  PSs.weak h fun D σ H ⟨H0,hs,er,l⟩ => ⟨H0,hs,er,⟨fun σ H ⟨ρ,q,e⟩ => l.nx _ _ ⟨ρ,w _ q,e⟩,fun v H ⟨r,q,e⟩ => l.rt _ _ ⟨r,w _ q,e⟩,fun σ H ⟨ρ,q,e⟩ => l.bk _ _ ⟨ρ,w _ q,e⟩,fun σ H ⟨ρ,q,e⟩ => l.ct _ _ ⟨ρ,w _ q,e⟩⟩⟩
def thenS (X : Cx) (rest : List Stmt) (Q : Out → Prop) : Out → Prop
  | .nx ρ => VS X rest ρ Q
  | o => Q o
theorem vs_nil (h : Q (.nx ρ)) : VS X [] ρ Q := PSs.weak pss_nil fun D σ H ⟨H0,hs,er,l⟩ => l.nx σ H ⟨ρ,h,er⟩
theorem vs_of {t : TS} (h : PS X st t) (w : ∀ H0 hs D σ H,ER X.K H0 hs ρ σ H → (DE X.K H0 hs (thenS X rest Q)).le D → t D σ H) : VS X (st :: rest) ρ Q := by
  refine PSs.weak (pss_cons (u := fun D σ H => ∃ ρ' H0 hs,ER X.K H0 hs ρ' σ H ∧ (DE X.K H0 hs Q).le D ∧ VS X rest ρ' Q) h ?_) fun D σ H ⟨H0,hs,er,l⟩ => w H0 hs _ σ H er ⟨?_,fun v H q => l.rt v H q,fun σ H q => l.bk σ H q,fun σ H q => l.ct σ H q⟩
  · intro pins s σ H D I ⟨ρ',H0,hs,er,l,v⟩
    exact v pins s σ H D I ⟨H0,hs,er,l⟩
  · rintro σ' H' ⟨ρ',q,e⟩
    exact ⟨ρ',H0,hs,e,l,q⟩
theorem vs_ret (h : VE X ρ e r) (q : Q (.rt r)) : VS X (.Return (some e) pos :: rest) ρ Q :=
  vs_of (ps_ret h) fun H0 hs D σ H er l => ⟨⟨H0,hs,er⟩,fun v H' s rv => l.rt v H' ⟨r,q,er.same.trans s,rv.since er.same⟩⟩
theorem vs_retO {i : Nat} {x : Str} {xs : List PyData} (hi : ixA x X.N 0 = some i) (hr : ρ[i]? = some (.o xs)) (q : Q (.rt (.o xs))) (hv : Vis X.env.scope x := by first | exact Or.inl rfl | exact Or.inr (Or.inl rfl) | exact Or.inr (Or.inr rfl)) (hd : (x == ("__debug__" : Str)) = false := by decide)
    (hcd : (x == ("__classdict__" : Str)) = false := by decide) : VS X (.Return (some (.Name x p2)) pos :: rest) ρ Q :=
  vs_of (ps_ret (pe_var (ixA_N hi) hv hd hcd)) fun H0 hs D σ H er l => by
    obtain ⟨a,h1,h2,h3⟩ := er.own i xs hr
    exact ⟨_,h1,l.rt _ _ ⟨.o xs,q,er.same,a,rfl,h3,h2⟩⟩
theorem vs_if {A B : List Stmt} {k : Bool} (hc : VT X ρ c k) (ha : k = true → VS X A ρ (thenS X rest Q)) (hb : k = false → VS X B ρ (thenS X rest Q)) : VS X (.If c A B pos :: rest) ρ Q := by
  cases k with
  | true => exact vs_of (ps_if (u := tNever) hc (ha rfl) pss_never) fun H0 hs D σ H er l => ⟨⟨H0,hs,er⟩,fun H' s => iteT ⟨H0,hs,er.grow s,l⟩⟩
  | false => exact vs_of (ps_if (t := tNever) hc pss_never (hb rfl)) fun H0 hs D σ H er l => ⟨⟨H0,hs,er⟩,fun H' s => iteF ⟨H0,hs,er.grow s,l⟩⟩
theorem vs_set {i : Nat} {x : Str} (nd : X.N.Nodup) (hi : ixA x X.N 0 = some i) (h : VE X ρ e (.d d)) (k : VS X rest (ρ.set i (.d d)) Q) (hx : Loc X.env.scope x := by exact Or.inl rfl) (hs : swapsWith e (some (.Name x p2)) pos.line X.env = pure false := by rfl)
    (hf : X.fn x = true ∨ X.env.scope.names.lookup x = some .local := by first | exact .inl rfl | exact .inr rfl | assumption) : VS X (.Assign [.Name x p2] e pos :: rest) ρ Q :=
  vs_of (ps_set nd (ixA_N hi) hx h hs hf) fun H0 hs D σ H er l => ⟨⟨H0,hs,er⟩,fun v H' s rv => l.nx _ _ ⟨_,k,(er.grow s).setD rv⟩⟩
theorem vs_setO {i : Nat} {x : Str} {xs : List PyData} (nd : X.N.Nodup) (hi : ixA x X.N 0 = some i) (h : VE X ρ e (.o xs)) (k : VS X rest (ρ.set i (.o xs)) Q) (hx : Loc X.env.scope x := by exact Or.inl rfl) (hs : swapsWith e (some (.Name x p2)) pos.line X.env = pure false := by rfl)
    (hf : X.fn x = true ∨ X.env.scope.names.lookup x = some .local := by first | exact .inl rfl | exact .inr rfl | assumption) : VS X (.Assign [.Name x p2] e pos :: rest) ρ Q :=
  vs_of (ps_set nd (ixA_N hi) hx h hs hf) fun H0 hs D σ H er l => ⟨⟨H0,hs,er⟩,fun v H' s rv => by
    obtain ⟨a,rfl,n,q⟩ := rv
    exact l.nx _ _ ⟨_,k,er.setO s n q⟩⟩
theorem vs_append {i : Nat} {x : Str} {xs : List PyData} {apos cpos : Pos} (hi : ixA x X.N 0 = some i) (hr : ρ[i]? = some (.o xs)) (h : VE X ρ e (.d d)) (hz : xs.length < sizeLine) (k : VS X rest (ρ.set i (.o (xs ++ [d]))) Q)
    (hv : Vis X.env.scope x := by first | exact Or.inl rfl | exact Or.inr (Or.inl rfl) | exact Or.inr (Or.inr rfl)) (hd : (x == ("__debug__" : Str)) = false := by decide) (hcd : (x == ("__classdict__" : Str)) = false := by decide)
    (hbase : attributeBase (.Name x p2) "append" X.env (eval (.Name x p2) X.env) = eval (.Name x p2) X.env := by rfl)
    (hfew : ((backTo cpos (starEach [e] X.env)).all (fun x => !x.1) && (backToKw cpos (keywordEach [] X.env)).all (fun x => x.1.isSome) && decide ([e].length + ([] : List Keyword).length + (if ([] : List Keyword).isEmpty then 0 else 1) < 30)) = true := by rfl)
    (hline : (apos.endLine == cpos.line) = true := by rfl) (hs : starEach [e] X.env = [(false,eval e X.env)] := by rfl) (hplain : (backTo cpos (starEach [] X.env)).any (·.1) = false := by rfl)
    (hsw : swapsWith (.Call (.Attribute (.Name x p2) "append" apos) [e] [] cpos) none pos.line X.env = pure false := by rfl) : VS X (.Expr (.Call (.Attribute (.Name x p2) "append" apos) [e] [] cpos) pos :: rest) ρ Q :=
  vs_of (ps_expr (pe_bm PySem.F.plainAttrs_list PySem.F.slot_list_append PySem.F.type_list_append mt_append (pe_var (ixA_N hi) hv hd hcd) (pa_cons h pa_nil hs) hbase hfew hline hs hplain) hsw) fun H0 hs D σ H er l => by
    obtain ⟨a,h1,⟨vs,h2,h3⟩,h4⟩ := er.own i xs hr
    refine ⟨_,h1,.inl ⟨rfl,vs,SqL.of h2⟩,⟨H0,hs,er⟩,fun v H' s rv => ?_⟩
    have e2 := er.grow s
    have h2' := s _ _ h2
    have h3' := Reps.mono (TupLe.of_same (K := X.K) s) _ _ h3
    exact ⟨a,vs,v,rfl,rfl,h2',by rw [h3.length]; exact hz,l.nx _ _ ⟨_,k,e2.write hr h1 h2' (h3'.append (.one rv))⟩⟩
theorem vs_pop {i j : Nat} {x y : Str} {xs : List PyData} {apos cpos : Pos} (nd : X.N.Nodup) (hi : ixA x X.N 0 = some i) (hj : ixA y X.N 0 = some j) (hr : ρ[i]? = some (.o (xs ++ [d]))) (k : VS X rest ((ρ.set i (.o xs)).set j (.d d)) Q)
    (hv : Vis X.env.scope x := by first | exact Or.inl rfl | exact Or.inr (Or.inl rfl) | exact Or.inr (Or.inr rfl)) (hd : (x == ("__debug__" : Str)) = false := by decide) (hcd : (x == ("__classdict__" : Str)) = false := by decide)
    (hbase : attributeBase (.Name x p2) "pop" X.env (eval (.Name x p2) X.env) = eval (.Name x p2) X.env := by rfl) (hline : (apos.endLine == cpos.line) = true := by rfl)
    (hx : Loc X.env.scope y := by exact Or.inl rfl) (hs : swapsWith (.Call (.Attribute (.Name x p2) "pop" apos) [] [] cpos) (some (.Name y p3)) pos.line X.env = pure false := by rfl)
    (hf : X.fn y = true ∨ X.env.scope.names.lookup y = some .local := by first | exact .inl rfl | exact .inr rfl | assumption) : VS X (.Assign [.Name y p3] (.Call (.Attribute (.Name x p2) "pop" apos) [] [] cpos) pos :: rest) ρ Q :=
  vs_of (ps_set nd (ixA_N hj) hx (pe_bm0 PySem.F.plainAttrs_list PySem.F.slot_list_pop PySem.F.type_list_pop mt_pop (pe_var (ixA_N hi) hv hd hcd) hbase hline) hs hf) fun H0 hs D σ H er l => by
    obtain ⟨a,h1,⟨vs,h2,h3⟩,h4⟩ := er.own i _ hr
    obtain ⟨ws,v,rfl,h5,h6⟩ := h3.snoc
    refine ⟨_,h1,.inl ⟨rfl,_,SqL.of h2⟩,a,_,v,rfl,rfl,h2,by simp,?_⟩
    rw [List.dropLast_concat]
    have e2 := er.write hr h1 h2 h5
    exact l.nx _ _ ⟨_,k,e2.setD (Rep.mono ((SameBut.upd _).tup h2) _ _ h6)⟩
theorem vs_extend {i : Nat} {x : Str} {xs ys : List PyData} {apos cpos : Pos} (hi : ixA x X.N 0 = some i) (hr : ρ[i]? = some (.o xs)) (h : VE X ρ e ra) (ea : ra.its = some ys) (hz : xs.length + ys.length ≤ sizeLine) (k : VS X rest (ρ.set i (.o (xs ++ ys))) Q)
    (hv : Vis X.env.scope x := by first | exact Or.inl rfl | exact Or.inr (Or.inl rfl) | exact Or.inr (Or.inr rfl)) (hd : (x == ("__debug__" : Str)) = false := by decide) (hcd : (x == ("__classdict__" : Str)) = false := by decide)
    (hbase : attributeBase (.Name x p2) "extend" X.env (eval (.Name x p2) X.env) = eval (.Name x p2) X.env := by rfl)
    (hfew : ((backTo cpos (starEach [e] X.env)).all (fun x => !x.1) && (backToKw cpos (keywordEach [] X.env)).all (fun x => x.1.isSome) && decide ([e].length + ([] : List Keyword).length + (if ([] : List Keyword).isEmpty then 0 else 1) < 30)) = true := by rfl)
    (hline : (apos.endLine == cpos.line) = true := by rfl) (hs : starEach [e] X.env = [(false,eval e X.env)] := by rfl) (hplain : (backTo cpos (starEach [] X.env)).any (·.1) = false := by rfl)
    (hsw : swapsWith (.Call (.Attribute (.Name x p2) "extend" apos) [e] [] cpos) none pos.line X.env = pure false := by rfl) : VS X (.Expr (.Call (.Attribute (.Name x p2) "extend" apos) [e] [] cpos) pos :: rest) ρ Q :=
  vs_of (ps_expr (pe_bm PySem.F.plainAttrs_list PySem.F.slot_list_extend PySem.F.type_list_extend mt_extend (pe_var (ixA_N hi) hv hd hcd) (pa_cons h pa_nil hs) hbase hfew hline hs hplain) hsw) fun H0 hs D σ H er l => by
    obtain ⟨a,h1,⟨vs,h2,h3⟩,h4⟩ := er.own i xs hr
    refine ⟨_,h1,.inl ⟨rfl,vs,SqL.of h2⟩,⟨H0,hs,er⟩,fun v H' s rv => ?_⟩
    obtain ⟨b,ws,rfl,g1,g2⟩ := rv.rd.lst ea
    have e2 := er.grow s
    have h2' := s _ _ h2
    have h3' := Reps.mono (TupLe.of_same (K := X.K) s) _ _ h3
    exact ⟨a,b,vs,ws,rfl,rfl,h2',g1,by rw [h3.length,g2.length]; exact hz,l.nx _ _ ⟨_,k,e2.write hr h1 h2' (h3'.append g2)⟩⟩
def loopQ (X : Cx) (rest : List Stmt) (Q : Out → Prop) (J : List Sl → Prop) : Out → Prop
  | .nx ρ => J ρ
  | .ct ρ => J ρ
  | .bk ρ => VS X rest ρ Q
  | .rt r => Q (.rt r)
theorem vs_while {body : List Stmt} (hp : PassesOwn (model X.prog X.w) X.A X.env X.xe) (W : Nat → List Sl → Prop) (h0 : ∃ m, W m ρ)
    (turn : ∀ m ρ', W m ρ' → ∃ k, VT X ρ' c k ∧ (k = true → VS X body ρ' (loopQ X rest Q fun ρ2 => ∃ m', m' < m ∧ W m' ρ2)) ∧ (k = false → VS X rest ρ' Q)) : VS X (.While c body [] pos :: rest) ρ Q := by
  have hc : PT X c (fun σ H R => ∃ m ρ', W m ρ' ∧ ∃ k, VT X ρ' c k ∧ (∃ H0 hs, ER X.K H0 hs ρ' σ H) ∧ ∀ H', Same H H' → R k H') := by
    rintro pins s σ H R I ⟨m, ρ', w, k, v, er, q⟩
    exact v pins s σ H R I ⟨er, q⟩
  have hb : PSs X body (fun D σ H => ∃ ρ' Q', VS X body ρ' Q' ∧ tRS X.K ρ' Q' D σ H) := by
    rintro pins s σ H D I ⟨ρ', Q', v, q⟩
    exact v pins s σ H D I q
  refine vs_of (ps_while hp hc hb) fun H0 hs D σ H er l => ?_
  obtain ⟨m0, w0⟩ := h0
  refine ⟨fun m σ H => ∃ ρ', W m ρ' ∧ ER X.K H0 hs ρ' σ H, ⟨m0, ρ, w0, er⟩, ?_⟩
  rintro m σ H ⟨ρ', w, er⟩
  obtain ⟨k, v, yes, no⟩ := turn m ρ' w
  refine ⟨m, ρ', w, k, v, ⟨H0, hs, er⟩, fun H' s => ?_⟩
  cases k with
  | true =>
    rw [if_pos rfl]
    refine ⟨fun σ' H' => ∃ m', m' < m ∧ ∃ ρ2, W m' ρ2 ∧ ER X.K H0 hs ρ2 σ' H', fun σ' H' ⟨m', lt, ρ2, w2, e2⟩ => ⟨m', lt, ρ2, w2, e2⟩, ρ', _, yes rfl, H0, hs, er.grow s, ?_⟩
    exact ⟨fun σ H ⟨ρ2, ⟨m', lt, w2⟩, e⟩ => ⟨m', lt, ρ2, w2, e⟩, fun v H ⟨r, q, e⟩ => l.rt v H ⟨r, q, e⟩, fun σ H ⟨ρ2, q, e⟩ => l.nx σ H ⟨ρ2, q, e⟩, fun σ H ⟨ρ2, ⟨m', lt, w2⟩, e⟩ => ⟨m', lt, ρ2, w2, e⟩⟩
  | false =>
    refine iteF ?_
    exact l.nx _ _ ⟨ρ', no rfl, er.grow s⟩
end
end L2
namespace L2
open PySem PySem.Spec PyProof.Rows
structure ItOk (K : PySem.W.Frag) (J : It) (h : V × Sl) (xs : List PyData) : Prop where
  go : ∀ (i : Nat) H,RdR K H h.2 h.1 → i < xs.length → J.go i H
  yld : ∀ (i : Nat) H v H',RdR K H h.2 h.1 → i < xs.length → J.yld i H v H' → Same H H' ∧ ∃ d,xs[i]? = some d ∧ Rep K H' d v
  stop : ∀ H,RdR K H h.2 h.1 → J.stop xs.length H
def VI (X : Cx) (ρ : List Sl) (tg iter : Expr) (xs : List PyData) : Prop := ∃ wi,PI X tg iter wi ∧ ∀ H0 hs σ H R,ER X.K H0 hs ρ σ H →
  (∀ J H1 h,Same H H1 → RdR X.K H1 h.2 h.1 → (∀ ys,h.2.its = some ys → ∀ (i : Nat) zs a,ρ[i]? = some (.o zs) → σ[i]? = some (some (.ref a)) → h.1 ≠ .ref a) → ItOk X.K J h xs → R J H1) → wi σ H R
def VG (X : Cx) (tg : Expr) (bind : PyData → List Sl → Option (List Sl)) : Prop := ∃ g,PG X tg g ∧ ∀ H0 hs ρ ρ2 d v σ H Q,ER X.K H0 hs ρ σ H → Rep X.K H d v → bind d ρ = some ρ2 → (∀ σ2,ER X.K H0 hs ρ2 σ2 H → Q σ2 H) → g v σ H Q
section
variable {X : Cx} {ρ : List Sl} {e a b c tg iter : Expr} {es : List Expr} {r ra rb : Sl} {p pos p2 p3 : Pos} {d : PyData} {ds xs : List PyData} {rs : List Sl} {Q Q' : Out → Prop} {rest : List Stmt} {st : Stmt}
theorem itok_list {K : PySem.W.Frag} {a : Addr} : ItOk K (Itl K a) (.ref a,.l xs) xs where
  go := fun i H ⟨b,e,vs,h1,h2⟩ hi => by
    cases e
    have hv : i < vs.length := by rw [h2.length]; exact hi
    exact ⟨vs,vs[i],SqL.of h1,List.getElem?_eq_getElem hv⟩
  yld := fun i H v H' ⟨b,e,vs,h1,h2⟩ hi ⟨e2,y⟩ => by
    cases e
    subst e2
    obtain ⟨u,hu,ru⟩ := h2.get (List.getElem?_eq_getElem hi)
    have := y vs (SqL.of h1)
    rw [hu] at this
    cases this
    exact ⟨Same.refl _,_,List.getElem?_eq_getElem hi,ru⟩
  stop := fun H ⟨b,e,vs,h1,h2⟩ => by cases e; exact ⟨vs,SqL.of h1,by rw [h2.length]; exact Nat.le_refl _⟩
theorem itok_tup {K : PySem.W.Frag} {a : Addr} : ItOk K (Itt K a) (.ref a,.d (.tuple xs)) xs where
  go := fun i H h hi => by
    obtain ⟨b,vs,e,h1,h2⟩ := Rep.untuple h
    cases e
    have hv : i < vs.length := by rw [h2.length]; exact hi
    exact ⟨vs,vs[i],h1,List.getElem?_eq_getElem hv⟩
  yld := fun i H v H' h hi ⟨e2,y⟩ => by
    obtain ⟨b,vs,e,h1,h2⟩ := Rep.untuple h
    cases e
    subst e2
    obtain ⟨u,hu,ru⟩ := h2.get (List.getElem?_eq_getElem hi)
    have := y vs h1
    rw [hu] at this
    cases this
    exact ⟨Same.refl _,_,List.getElem?_eq_getElem hi,ru⟩
  stop := fun H h => by
    obtain ⟨b,vs,e,h1,h2⟩ := Rep.untuple h
    cases e
    exact ⟨vs,h1,by rw [h2.length]; exact Nat.le_refl _⟩
def rngD (lo : Int) (n : Nat) : List PyData := (List.range n).map fun i => .int (lo + (i : Nat))
theorem itok_rng {K : PySem.W.Frag} {lo : Int} {n : Nat} : ItOk K (Itr lo n) (.non,.un) (rngD lo n) where
  go := fun i H _ hi => by
    have hn : i < n := by simpa [rngD] using hi
    exact hn
  yld := fun i H v H' _ hi ⟨e1,e2⟩ => by
    subst e1 e2
    have hn : i < n := by simpa [rngD] using hi
    exact ⟨Same.refl _,_,by simp [rngD,hn],Rep.int _⟩
  stop := fun H _ => by show n ≤ (rngD lo n).length; simp [rngD]
theorem sep_new {K : PySem.W.Frag} {H0 H : Hp} {hs : List (V × Sl)} {σ : St} {a : Addr} (er : ER K H0 hs ρ σ H) (n : H a = none) : ∀ (i : Nat) zs b,ρ[i]? = some (.o zs) → σ[i]? = some (some (.ref b)) → V.ref a ≠ .ref b := by
  intro i zs b q1 q2 z
  cases z
  obtain ⟨c,h1,⟨vs,h2,_⟩,_⟩ := er.own i zs q1
  rw [q2] at h1
  cases h1
  rw [n] at h2
  cases h2
theorem vi_new (h : VE X ρ iter (.o xs)) : VI X ρ tg iter xs :=
  ⟨_,pi_list h,fun H0 hs σ H R er k => ⟨⟨H0,hs,er⟩,fun v H1 s1 ⟨a,e,n,q⟩ => by
    subst e
    obtain ⟨vs,q1,q2⟩ := q
    exact ⟨a,rfl,⟨vs,SqL.of q1⟩,k _ H1 (.ref a,.l xs) s1 ⟨a,rfl,vs,q1,q2⟩ (fun _ _ => sep_new er n) itok_list⟩⟩⟩
theorem vi_tup (h : VE X ρ iter (.d (.tuple xs))) : VI X ρ tg iter xs :=
  ⟨_,pi_tup h,fun H0 hs σ H R er k => ⟨⟨H0,hs,er⟩,fun v H1 s1 q => by
    obtain ⟨a,vs,rfl,q1,q2⟩ := RsR.tup q
    exact ⟨a,rfl,⟨vs,q1⟩,k _ H1 (.ref a,.d (.tuple xs)) s1 (.tuple q1 q2) (fun _ z => nomatch z) itok_tup⟩⟩⟩
theorem vi_name {i : Nat} {x : Str} (hi : ixA x X.N 0 = some i) (hr : ρ[i]? = some (.l xs)) (hv : Vis X.env.scope x := by first | exact Or.inl rfl | exact Or.inr (Or.inl rfl) | exact Or.inr (Or.inr rfl)) (hd : (x == ("__debug__" : Str)) = false := by decide)
    (hcd : (x == ("__classdict__" : Str)) = false := by decide) : VI X ρ tg (.Name x p) xs :=
  ⟨_,pi_list (pe_var (ixA_N hi) hv hd hcd),fun H0 hs σ H R er k => by
    obtain ⟨a,h1,vs,h2,h3⟩ := er.lst i xs hr
    exact ⟨_,h1,a,rfl,⟨vs,SqL.of h2⟩,k _ H (.ref a,.l xs) (Same.refl H) ⟨a,rfl,vs,h2,h3⟩ (fun _ _ j zs b q1 q2 z => er.sepL j i b zs xs q1 hr q2 (by rw [← z]; exact h1)) itok_list⟩⟩
theorem vi_range {n : Nat} (hm : X.mg "range" = none) (h : VE X ρ e (.d (.int n))) (hz : n < 2 ^ 62) (hg : Gl X "range" := by rfl) (hs : starEach [e] X.env = [(false,eval e X.env)] := by rfl) : VI X ρ tg (.Call (.Name "range" p) [e] [] pos) (rngD 0 n) :=
  ⟨_,pi_range1 hg hm (pa_cons h pa_nil hs) hs,fun H0 hs σ H R er k => ⟨⟨H0,hs,er⟩,fun v H1 s1 q => by
    obtain rfl := RsR.is_int q
    refine ⟨n,rfl,by omega,by omega,?_⟩
    rw [Int.toNat_natCast]
    exact k _ H1 (.non,.un) s1 trivial (fun _ z => nomatch z) itok_rng⟩⟩
theorem vg_name {i : Nat} {x : Str} (nd : X.N.Nodup) (hi : ixA x X.N 0 = some i) (hx : Loc X.env.scope x := by exact Or.inl rfl) (hf : X.fn x = true ∨ X.env.scope.names.lookup x = some .local := by first | exact .inl rfl | exact .inr rfl | assumption) : VG X (.Name x pos) (fun d ρ => some (ρ.set i (.d d))) :=
  ⟨_,pg_name nd (ixA_N hi) hx hf,fun H0 hs ρ ρ2 d v σ H Q er rv hb k => by cases hb; exact k _ (er.setD rv)⟩
def bind2 (i j : Nat) : PyData → List Sl → Option (List Sl)
  | .tuple [x,y],ρ => some ((ρ.set i (.d x)).set j (.d y))
  | _,_ => none
theorem vg_pair {i j : Nat} {x y : Str} {k : Nat} (nd : X.N.Nodup) (hc : X.calm = true) (hi : ixA x X.N 0 = some i) (hj : ixA y X.N 0 = some j) (hx : Loc X.env.scope x := by exact Or.inl rfl) (hy : Loc X.env.scope y := by exact Or.inl rfl)
    (hf : X.fn x = true ∨ X.env.scope.names.lookup x = some .local := by first | exact .inl rfl | exact .inr rfl | assumption) (hf2 : X.fn y = true ∨ X.env.scope.names.lookup y = some .local := by first | exact .inl rfl | exact .inr rfl | assumption) : VG X (.Tuple [.Name x p2,.Name y p3] k pos) (bind2 i j) :=
  ⟨_,pg_tup hc (pgs_cons (pg_name nd (ixA_N hi) hx hf) (pgs_cons (pg_name nd (ixA_N hj) hy hf2) pgs_nil)),fun H0 hs ρ ρ2 d v σ H Q er rv hb k => by
    have hd : ∃ x y,d = .tuple [x,y] ∧ ρ2 = (ρ.set i (.d x)).set j (.d y) := by
      unfold bind2 at hb
      split at hb
      · exact ⟨_,_,rfl,(Option.some.inj hb).symm⟩
      · cases hb
    obtain ⟨dx,dy,rfl,rfl⟩ := hd
    obtain ⟨a,vs,rfl,h1,h2⟩ := Rep.untuple rv
    obtain ⟨v1,r1,rfl,q1,h2⟩ := h2.split
    obtain ⟨v2,r2,rfl,q2,h2⟩ := h2.split
    rw [Reps] at h2
    subst h2
    exact ⟨a,_,rfl,h1,rfl,v1,_,rfl,v2,_,rfl,rfl,k _ ((er.setD q1).setD q2)⟩⟩
theorem vs_for {body : List Stmt} {bind : PyData → List Sl → Option (List Sl)} (hp : PassesOwn (model X.prog X.w) X.A X.env X.xe) (hc : X.calm = true) (hi : VI X ρ tg iter xs) (hg : VG X tg bind) (J : Nat → List Sl → Prop) (h0 : J 0 ρ)
    (step : ∀ (i : Nat) d ρ',xs[i]? = some d → J i ρ' → ∃ ρ2,bind d ρ' = some ρ2 ∧ VS X body ρ2 (loopQ X rest Q (J (i + 1)))) (fin : ∀ ρ',J xs.length ρ' → VS X rest ρ' Q)
    (hs : ∀ x,foldedSetIterable iter X.env x = pure x := by intro _; rfl) : VS X (.For tg iter body [] pos :: rest) ρ Q := by
  obtain ⟨wi,pi,hwi⟩ := hi
  obtain ⟨g,pg,hgg⟩ := hg
  have hb : PSs X body (fun D σ H => ∃ ρ' Q',VS X body ρ' Q' ∧ tRS X.K ρ' Q' D σ H) := by
    rintro pins s σ H D I ⟨ρ',Q',v,q⟩
    exact v pins s σ H D I q
  refine vs_of (ps_for hp hc pi pg hb hs) fun H0 hs D σ H er l => ?_
  refine hwi H0 hs σ H _ er fun It H1 h s1 hh sep ok => ?_
  refine ⟨fun i m σ H => m = xs.length - i ∧ i ≤ xs.length ∧ ∃ ρ',J i ρ' ∧ ER X.K H0 (h :: hs) ρ' σ H,⟨_,rfl,Nat.zero_le _,ρ,h0,(er.grow s1).hold hh sep⟩,?_⟩
  rintro i m σ H ⟨rfl,hi,ρ',j,er⟩
  have hh := er.held h List.mem_cons_self
  by_cases hlt : i < xs.length
  · obtain ⟨d,hd⟩ : ∃ d,xs[i]? = some d := ⟨_,List.getElem?_eq_getElem hlt⟩
    obtain ⟨ρ2,hb2,hv⟩ := step i d ρ' hd j
    refine .inr ⟨ok.go i H hh hlt,fun σ' H' => ∃ ρ3,J (i + 1) ρ3 ∧ ER X.K H0 (h :: hs) ρ3 σ' H',fun σ' H' ⟨ρ3,j3,e3⟩ => ⟨xs.length - (i + 1),by omega,rfl,hlt,ρ3,j3,e3⟩,fun v H' y => ?_⟩
    obtain ⟨sy,d',hd',rd⟩ := ok.yld i H v H' hh hlt y
    rw [hd] at hd'
    cases hd'
    refine hgg H0 (h :: hs) ρ' ρ2 d v σ H' _ (er.grow sy) rd hb2 fun σ2 e2 => ⟨ρ2,_,hv,H0,h :: hs,e2,?_⟩
    exact ⟨fun σ H ⟨ρ3,q,e⟩ => ⟨ρ3,q,e⟩,fun v H ⟨r,q,e⟩ => l.rt v H ⟨r,q,e⟩,fun σ H ⟨ρ3,q,e⟩ => l.nx σ H ⟨ρ3,q,e.unhold⟩,fun σ H ⟨ρ3,q,e⟩ => ⟨ρ3,q,e⟩⟩
  · have e : i = xs.length := by omega
    subst e
    exact .inl ⟨ok.stop H hh,l.nx _ _ ⟨ρ',fin ρ' j,er.unhold⟩⟩
theorem ER.args {K : PySem.W.Frag} {H0 H : Hp} {hs : List (V × Sl)} {σ : St} (e : ER K H0 hs ρ σ H) : ER K H0 hs (ρ.map Sl.arg) σ H := by
  have no : ∀ {i : Nat} {xs : List PyData}, (ρ.map Sl.arg)[i]? ≠ some (.o xs) := by
    intro i xs h
    rw [List.getElem?_map] at h
    cases q : ρ[i]? with
    | none => rw [q] at h; cases h
    | some s => rw [q] at h; cases s <;> cases h
  refine ⟨e.same, by rw [List.length_map, e.len], fun i x h => ?_, fun i x h => ?_, fun i x h => ?_, fun i x h => absurd h no, fun i j a xs ys h => absurd h no, fun i j a xs ys _ h => absurd h no, e.held, fun i xs a h => absurd h no⟩
  · rw [List.getElem?_map] at h
    cases q : ρ[i]? with
    | none => rw [q] at h; cases h
    | some s =>
      rw [q] at h
      cases s with
      | d y => cases h; exact e.dat i _ q
      | _ => cases h
  · rw [List.getElem?_map] at h
    cases q : ρ[i]? with
    | none => rw [q] at h; cases h
    | some s =>
      rw [q] at h
      cases s with
      | l y => cases h; exact e.lst i _ q
      | o y => cases h; obtain ⟨a, h1, h2, _⟩ := e.own i _ q; exact ⟨a, h1, h2⟩
      | _ => cases h
  · rw [List.getElem?_map] at h
    cases q : ρ[i]? with
    | none => rw [q] at h; cases h
    | some s =>
      rw [q] at h
      cases s with
      | h y => cases h; exact e.per i _ q
      | _ => cases h
theorem ER.comp {K : PySem.W.Frag} {H0 H : Hp} {hs : List (V × Sl)} {σ : St} {v : V} {x : PyData} (e : ER K H0 hs (ρ.map Sl.arg) σ H) (rv : Rep K H x v) : ER K H0 hs (.d x :: ρ.map Sl.arg) (some v :: σ) H := by
  have no : ∀ {i : Nat} {xs : List PyData}, (Sl.d x :: ρ.map Sl.arg)[i]? ≠ some (.o xs) := by
    intro i xs h
    cases i with
    | zero => cases h
    | succ i =>
      rw [List.getElem?_cons_succ, List.getElem?_map] at h
      cases q : ρ[i]? with
      | none => rw [q] at h; cases h
      | some s => rw [q] at h; cases s <;> cases h
  refine ⟨e.same, by rw [List.length_cons, List.length_cons, e.len], fun i y h => ?_, fun i y h => ?_, fun i y h => ?_, fun i x h => absurd h no, fun i j a xs ys h => absurd h no, fun i j a xs ys _ h => absurd h no, e.held, fun i xs a h => absurd h no⟩
  · cases i with
    | zero => cases h; exact ⟨v, rfl, rv⟩
    | succ i => exact e.dat i y (by simpa using h)
  · cases i with
    | zero => cases h
    | succ i => exact e.lst i y (by simpa using h)
  · cases i with
    | zero => cases h
    | succ i => exact e.per i y (by simpa using h)
theorem comp_read {x : Str} {px : Pos} {elt : Expr} {scope : Scope} {ys : List PyData} (hc : X.calm = true) (hi : VI X ρ (.Name x px) iter xs) (hl : ys.length = xs.length) (hz : xs.length ≤ sizeLine)
    (he : ∀ (i : Nat) a y,xs[i]? = some a → ys[i]? = some y → ∀ cl C s0 H0 fp pins,VE (X.comp scope cl x C s0 H0 fp pins) (.d a :: ρ.map Sl.arg) elt (.d y)) :
    ∃ wi te,PI X (.Name x px) iter wi ∧ (∀ cl C s0 H0 fp pins,PE (X.comp scope cl x C s0 H0 fp pins) elt te) ∧ ∀ H0 hs σ H (R : V → Hp → Prop),ER X.K H0 hs ρ σ H → (∀ p H',Same H H' → H p = none → LsR X.K H' p ys → R (.ref p) H') → tComp wi te σ H R := by
  obtain ⟨wi,pi,hwi⟩ := hi
  refine ⟨wi,fun σ H Q => ∃ (a y : PyData) (H0 : Hp) (hs : List (V × Sl)),(∀ cl C s0 H0 fp pins,VE (X.comp scope cl x C s0 H0 fp pins) (.d a :: ρ.map Sl.arg) elt (.d y)) ∧ ER X.K H0 hs (.d a :: ρ.map Sl.arg) σ H ∧ ∀ v H',Same H H' → Rep X.K H' y v → Q v H',pi,fun cl C s0 H0 fp pins => ?_,fun H0 hs σ H R er k => ?_⟩
  · rintro pins' s σ H Q I ⟨a,y,H0',hs,ve,er,q⟩
    exact ve cl C s0 H0 fp pins pins' s σ H Q I ⟨⟨H0',hs,er⟩,q⟩
  refine hwi H0 hs σ H _ er fun It H1 h s1 hh sep ok => ?_
  have er1 : ER X.K H0 (h :: hs) (ρ.map Sl.arg) σ H1 := (er.grow s1).args.hold hh fun _ _ i xs a q => by
    exfalso
    rw [List.getElem?_map] at q
    cases q' : ρ[i]? with
    | none => rw [q'] at q; cases q
    | some s => rw [q'] at q; cases s <;> cases q
  refine ⟨fun i m zs H => m = xs.length - i ∧ i ≤ xs.length ∧ Same H1 H ∧ zs.length = i ∧ ER X.K H0 (h :: hs) (ρ.map Sl.arg) σ H ∧ Reps X.K H (ys.take i) zs,⟨_,rfl,Nat.zero_le _,Same.refl _,rfl,er1,by rw [List.take_zero]; exact .nil⟩,?_⟩
  rintro i m zs H' ⟨rfl,hi,sm,hzl,er',rp⟩
  have hh := er'.held h List.mem_cons_self
  by_cases hlt : i < xs.length
  · have hy : i < ys.length := by omega
    refine .inr ⟨ok.go i H' hh hlt,by omega,fun v H2 y => ?_⟩
    obtain ⟨sy,d,hd,rd⟩ := ok.yld i H' v H2 hh hlt y
    refine ⟨fun z H3 => Same H2 H3 ∧ Rep X.K H3 ys[i] z,fun z H3 ⟨s3,r3⟩ => ⟨xs.length - (i + 1),by omega,rfl,hlt,sm.trans (sy.trans s3),by simp [hzl],er'.grow (sy.trans s3),?_⟩,d,ys[i],H0,h :: hs,he i d ys[i] hd (List.getElem?_eq_getElem hy),(er'.grow sy).comp rd,fun z H3 s3 r3 => ⟨s3,r3⟩⟩
    rw [List.take_add_one,List.getElem?_eq_getElem hy]
    exact (Reps.mono (TupLe.of_same (sy.trans s3)) _ _ rp).append (.one r3)
  · have e : i = xs.length := by omega
    subst e
    refine .inl ⟨ok.stop H' hh,by omega,fun p np => ?_⟩
    rw [List.take_of_length_le (by omega)] at rp
    have s2 := same_upd np (.lst zs)
    exact k p _ ((s1.trans sm).trans s2) ((s1.trans sm).free np) ⟨zs,upd_same,Reps.mono (TupLe.of_same s2) _ _ rp⟩
theorem ve_comp {x : Str} {px : Pos} {elt : Expr} {scope : Scope} {ys : List PyData} (hc : X.calm = true) (S : CompSc X.N X.env.scope scope x) (hi : VI X ρ (.Name x px) iter xs) (hl : ys.length = xs.length) (hz : xs.length ≤ sizeLine)
    (he : ∀ (i : Nat) a y,xs[i]? = some a → ys[i]? = some y → ∀ cl C s0 H0 fp pins,VE (X.comp scope cl x C s0 H0 fp pins) (.d a :: ρ.map Sl.arg) elt (.d y))
    (hs : ∀ v,foldedSetIterable iter X.env v = pure v := by intro _; rfl) : VE X ρ (.ListComp elt [⟨.Name x px,iter,[],0⟩] scope pos) (.o ys) := by
  obtain ⟨wi,te,h1,h2,h3⟩ := comp_read hc hi hl hz he
  exact PE.weak (pe_comp hc S h1 h2 hs) fun σ H Q ⟨⟨H0,hs,er⟩,q⟩ => h3 H0 hs σ H Q er fun p H' s n l => q _ H' s ⟨p,rfl,n,l⟩
theorem vs_setComp {i : Nat} {x y : Str} {px py : Pos} {elt : Expr} {scope : Scope} {ys : List PyData} (nd : X.N.Nodup) (hc : X.calm = true) (S : CompSc X.N X.env.scope scope x) (hy : ixA y X.N 0 = some i) (hi : VI X ρ (.Name x px) iter xs) (hl : ys.length = xs.length) (hz : xs.length ≤ sizeLine)
    (he : ∀ (i : Nat) a y,xs[i]? = some a → ys[i]? = some y → ∀ cl C s0 H0 fp pins,VE (X.comp scope cl x C s0 H0 fp pins) (.d a :: ρ.map Sl.arg) elt (.d y)) (k : VS X rest (ρ.set i (.o ys)) Q) (hlo : X.env.scope.names.lookup y = some .local := by rfl)
    (hsw : swapsWith (.ListComp elt [⟨.Name x px,iter,[],0⟩] scope pos) (some (.Name y py)) p2.line X.env = pure true := by rfl) (hs : ∀ v,foldedSetIterable iter X.env v = pure v := by intro _; rfl) : VS X (.Assign [.Name y py] (.ListComp elt [⟨.Name x px,iter,[],0⟩] scope pos) p2 :: rest) ρ Q := by
  obtain ⟨wi,te,h1,h2,h3⟩ := comp_read hc hi hl hz he
  exact vs_of (ps_setComp hc S nd (ixA_N hy) hlo h1 h2 hsw hs) fun H0 hs D σ H er l => h3 H0 hs σ H _ er fun p H' s n q => l.nx _ _ ⟨_,k,er.setO s n q⟩
end
theorem er_start {K : PySem.W.Frag} {H : Hp} {as : List Sl} {vs : List V} {N : List Str} (h : RdRs K H as vs) (no : ∀ r ∈ as,∀ xs,r ≠ .o xs) : ER K H [] (as ++ List.replicate (N.length - as.length) .un) (start N vs) H := by
  have hl := h.length
  have no' : ∀ {i : Nat} {xs : List PyData},(as ++ List.replicate (N.length - as.length) Sl.un)[i]? ≠ some (.o xs) := by
    intro i xs q
    rcases List.mem_append.mp (List.mem_of_getElem? q) with m | m
    · exact no _ m xs rfl
    · cases (List.mem_replicate.mp m).2
  have at' : ∀ {i : Nat} {r : Sl},(as ++ List.replicate (N.length - as.length) Sl.un)[i]? = some r → r ≠ .un → ∃ v,(start N vs)[i]? = some (some v) ∧ RdR K H r v := by
    intro i r q nu
    by_cases hi : i < as.length
    · rw [List.getElem?_append_left hi] at q
      obtain ⟨v,h1,h2⟩ := h.get q
      refine ⟨v,?_,h2⟩
      unfold start
      rw [List.getElem?_append_left (by rw [List.length_map,hl]; exact hi),List.getElem?_map,h1]
      rfl
    · rw [List.getElem?_append_right (by omega)] at q
      exact absurd (List.mem_replicate.mp (List.mem_of_getElem? q)).2 nu
  refine ⟨Same.refl H,by unfold start; simp [hl],fun i x q => at' q (fun z => nomatch z),fun i xs q => ?_,fun i P q => at' q (fun z => nomatch z),fun i xs q => absurd q no',fun i j a xs ys q => absurd q no',fun i j a xs ys _ q => absurd q no',fun p hp => (nomatch hp),fun i xs a q => absurd q no'⟩
  obtain ⟨v,h1,a,rfl,h2⟩ := at' q (fun z => nomatch z)
  exact ⟨a,h1,h2⟩
section
variable {P : Program} {w : World} {K : PySem.W.Frag} {mg : Str → Option Value} {base : Heap}
theorem Fun.okV {x qual : Str} {st : Stmt} {f : Addr} {fd : FuncData} {N ps : List Str} {k : Nat} {R : List Sl → Sl → Prop} (F : Fun K x qual st f fd) (S : FnScope N ps (defScope st)) (len : ∀ as r,R as r → as.length = ps.length ∧ ∀ q ∈ as,∀ xs,q ≠ .o xs)
    (hbody : ∀ (cdv : Value) (A : Around) (outer : List Env) (s : Shared) (H : Hp) (E : XK) (as : List Sl) (r : Sl),Room k (A.deeper (envOfC qual (defScope st) s.heap.objs.size f cdv)) → R as r →
      VS (cxOf CX0 P w K mg base N qual (defScope st) f cdv A outer s H E).nox (defBody st) (as ++ List.replicate (N.length - as.length) .un) fun o => o = .rt r ∨ (r = .d .none ∧ ∃ ρ,o = .nx ρ)) : FnOk P w K mg base CX0 (k + 1) f fd ps (spV K R) := by
  refine F.ok S (fun vs H Q E h => ?_) (fun cdv A outer s H vs Q E hr h => ?_)
  · obtain ⟨as,r,h1,h2,_⟩ := h
    rw [h1.length]; exact (len as r h2).1
  obtain ⟨as,r,h1,h2,q⟩ := h
  refine ⟨_,hbody cdv A outer s H E as r hr h2,H,[],er_start h1 (len as r h2).2,?_⟩
  refine ⟨fun σ H' ⟨ρ,z,e⟩ => ?_,fun v H' ⟨r',z,e1,e2⟩ => ?_,fun σ H' ⟨ρ,z,e⟩ => ?_,fun σ H' ⟨ρ,z,e⟩ => ?_⟩
  · rcases z with z | ⟨rfl,_⟩
    · cases z
    · exact q _ H' e.same RsR.non
  · rcases z with z | ⟨_,_,z⟩
    · cases z
      exact q v H' e1 e2
    · cases z
  · rcases z with z | ⟨_,_,z⟩ <;> cases z
  · rcases z with z | ⟨_,_,z⟩ <;> cases z
end
end L2
namespace Wk
open PySem L2
end Wk
namespace L2
open PySem PySem.Spec PyProof.Rows
section
variable {X : Cx} {ρ : List Sl} {e a b c : Expr} {es : List Expr} {r ra rb : Sl} {pos p2 p3 : Pos} {d : PyData} {Q : Out → Prop} {rest : List Stmt}
theorem vs_ifT {A B : List Stmt} {k : Bool} (hc : VT X ρ c k) (hk : k = true) (h : VS X A ρ (thenS X rest Q)) : VS X (.If c A B pos :: rest) ρ Q := vs_if hc (fun _ => h) fun z => by rw [hk] at z; cases z
theorem vs_ifF {A B : List Stmt} {k : Bool} (hc : VT X ρ c k) (hk : k = false) (h : VS X B ρ (thenS X rest Q)) : VS X (.If c A B pos :: rest) ρ Q := vs_if hc (fun z => by rw [hk] at z; cases z) fun _ => h
theorem vs_ifN {A : List Stmt} {k : Bool} (hc : VT X ρ c k) (hk : k = false) (h : VS X rest ρ Q) : VS X (.If c A [] pos :: rest) ρ Q := vs_ifF hc hk (vs_nil h)
end
end L2
namespace Wk
open PySem L2 PySem.Spec PyProof.Rows
section
variable {X : Cx} {ρ : List Sl} {a b : Expr} {pos p2 : Pos} {sc : Sc} {x : Str} {k : Kd}
end
end Wk
namespace Wk
open PySem L2 PySem.Spec PyProof.Rows
section
variable {K : PySem.W.Frag} {H H' : Hp} {xs ys : List (List Nat × Ex)} {vs ws : List V} {x : List Nat × Ex} {v : V}
end
end Wk
namespace Wk
open PySem L2
end Wk
namespace Wk
open PySem L2
end Wk
namespace Wk
end Wk
namespace Wk
variable {α : Type}
end Wk
namespace L2
open PySem PySem.Spec PyProof.Rows
theorem RdRs.one {K : PySem.W.Frag} {H : Hp} {r : Sl} {vs : List V} (h : RdRs K H [r] vs) : ∃ v,vs = [v] ∧ RdR K H r v := by
  cases h with | cons a t => cases t; exact ⟨_,rfl,a⟩
theorem RdRs.two {K : PySem.W.Frag} {H : Hp} {r q : Sl} {vs : List V} (h : RdRs K H [r,q] vs) : ∃ v u,vs = [v,u] ∧ RdR K H r v ∧ RdR K H q u := by
  cases h with | cons a t => cases t with | cons b t => cases t; exact ⟨_,_,rfl,a,b⟩
section
variable {X : Cx} {ρ : List Sl} {e a b c : Expr} {r ra rb : Sl} {pos p2 p3 : Pos} {d : PyData} {Q : Out → Prop} {rest : List Stmt}
theorem ve_mulS {z : Str} {n : Int} (ha : VE X ρ a (.d (.str z))) (hb : VE X ρ b (.d (.int n))) (h0 : 0 < z.length) (h1 : 1 < n) (h2 : n ≤ 1000) (h3 : z.length ≤ 1000) : VE X ρ (.BinOp a .Mult b pos) (.d (.str (Txt.mul z n))) :=
  ve_op op_mulS ha hb fun H x y Q rx ry q => ⟨z,n,RdR.is_str rx,RdR.is_int ry,h0,h1,h2,h3,q _ H (Same.refl H) RsR.str⟩
theorem ve_eq {r' : Sl} (h : VE X ρ e r) (q : r = r') : VE X ρ e r' := by rw [← q]; exact h
end
end L2
namespace Wk
open PySem L2 PySem.Spec PyProof.Rows
section
variable {K : PySem.W.Frag} {vs : List V} {H : Hp} {Q : VK} {E : XK}
end
def kdep : Kd → Nat
  | .num => 1
  | .truth => 1
  | .list k => kdep k + 1
  | .to k m => max (kdep k) (kdep m) + 1
end Wk
namespace Wk
open PySem L2 PySem.Spec PyProof.Rows
end Wk
namespace Wk
open PySem L2 PySem.Spec PyProof.Rows
section
variable {K : PySem.W.Frag} {H H' : Hp} {acc : Nts} {kvs : List (List Key × V)}
end
end Wk
namespace Wk
open PySem L2 PySem.Spec PyProof.Rows
section
variable {X : Cx} {ρ : List Sl} {a b : Expr} {pos : Pos} {ra rb : Sl}
end
end Wk
namespace L2
open PySem PySem.Spec PyProof.Rows
def SqS (K : PySem.W.Frag) (H : Hp) (a : Addr) (xs : List V) : Prop :=
  (∃ o,H a = some (.frz o (.lst xs))) ∨ ∃ (o : Obj) (its : Array Value) (n : Nat),K.lookup a = some o ∧ o.cls = .type "list" ∧ o.dict = none ∧ o.data = .seq its n ∧ its.size ≤ sizeLine ∧ Vals xs its.toList
theorem SqS.sq {K : PySem.W.Frag} {H : Hp} {a : Addr} {xs : List V} (h : SqS K H a xs) : SqL K H a xs := by
  rcases h with h | h
  · exact .inl (.inr h)
  · exact .inr h
theorem SqS.of {K : PySem.W.Frag} {H : Hp} {a : Addr} {xs : List V} (h : SqL K H a xs) (o : Only H) : SqS K H a xs := by
  rcases h with (h | h) | h
  · rcases o a with z | ⟨ob,ys,z⟩
    · rw [h] at z; cases z
    · rw [h] at z; cases z
  · exact .inl h
  · exact .inr h
def scrPer (K : PySem.W.Frag) (ns : List Int) : Per := ⟨fun H v => ∃ a,v = .ref a ∧ SqS K H a (ns.map V.int),fun _ _ _ e ⟨a,h1,h2⟩ => ⟨a,h1,by
  rcases h2 with ⟨o,h2⟩ | h2
  · exact .inl ⟨o,e _ _ h2 (fun _ z => nomatch z)⟩
  · exact .inr h2⟩⟩
section
variable {X : Cx} {ρ : List Sl} {e : Expr} {pos p2 : Pos} {Q : Out → Prop} {rest : List Stmt}
end
end L2
namespace Wk
open PySem L2 PySem.Spec PyProof.Rows
def RLaw (K : PySem.W.Frag) : List Sl → Sl → Prop := fun as r => ∃ ns : List Int,as = [.h (scrPer K ns)] ∧ ns.length ≤ 63 ∧ r = .d (.bool true)
theorem law_of {K : PySem.W.Frag} {H : Hp} {a : Addr} {ns : List Int} {E : XK} (hl : ns.length ≤ 63) (ho : Only H) (hs : SqL K H a (ns.map V.int)) : spV K (RLaw K) [.ref a] H (fun v _ => v = .bl true) E :=
  ⟨[.h (scrPer K ns)],.d (.bool true),.cons (r := .h (scrPer K ns)) ⟨a,rfl,SqS.of hs ho⟩ .nil,⟨ns,rfl,hl,rfl⟩,fun _ _ _ r => RsR.is_bool r⟩
end Wk
namespace Wk
open PySem L2
end Wk
namespace Wk
open PySem L2
end Wk
namespace Wk
open PySem L2
end Wk
namespace Wk
open PySem L2
end Wk
namespace L2
open PySem PySem.Spec PyProof.Rows PySem.W
section
variable {X : Cx} {tg : Expr}
end
section
variable {X : Cx} {ρ : List Sl} {e a b c tg : Expr} {r ra rb : Sl} {p pos p2 p3 : Pos} {d : PyData} {xs : List PyData} {Q : Out → Prop} {rest : List Stmt}
theorem ve_neg {i : Int} (ha : VE X ρ a (.d (.int i))) : VE X ρ (.UnaryOp .USub a pos) (.d (.int (-i))) := PE.weak (pe_un un_neg ha) fun σ H Q ⟨er,q⟩ => ⟨er,fun v H1 s1 r1 => ⟨i,RsR.is_int r1,q _ H1 s1 RsR.int⟩⟩
end
end L2
namespace Wk
open PySem L2
end Wk
namespace L2
open PySem PySem.Spec PyProof.Rows
section
variable {prog : Program} {w : World} {A : Around} {E : Value → Shared → Prop} {s : Shared} {a : Addr} {o : Obj} {items : Array Value} {n : Nat} {ts : List Str}
end
section
variable {X : Cx}
end
end L2
namespace Wk
open PySem L2 PySem.Spec PyProof.Rows
section
variable {X : Cx} {ρ : List Sl} {a b : Expr} {pos : Pos}
end
section
variable {X : Cx} {ρ : List Sl} {a : Expr} {ra : Sl} {pos : Pos}
end
end Wk
namespace L2
open PySem PySem.Spec PyProof.Rows
section
variable {X : Cx} {pins : List (Addr × Obj)} {σ : St} {H : Hp} {s : Shared}
end
end L2
namespace L2
open PySem PySem.Spec PyProof.Rows
section
variable {X : Cx}
variable {ρ : List Sl}
theorem ve_eqSb {a b : Expr} {x y : Str} {pos : Pos} (ha : VE X ρ a (.d (.str x))) (hb : VE X ρ b (.d (.str y))) : VE X ρ (.Compare a [.Eq] [b] pos) (.d (.bool (decide (x = y)))) :=
  ve_cmp op_eq ha hb (fun H u w Q rx ry q => by
    obtain rfl := RdR.is_str rx
    obtain rfl := RdR.is_str ry
    refine ⟨rfl,?_⟩
    rw [show decide (V.str x = V.str y) = decide (x = y) from by simp]; exact q _ H (Same.refl H) RsR.bool) (nomark _)
end
end L2
namespace Wk
open PySem L2 PySem.Spec PyProof.Rows
end Wk
namespace Wk
open PySem
end Wk
namespace Wk
open PySem
end Wk
namespace Wk
open PySem
end Wk
namespace L2
open PySem PySem.Spec PyProof.Rows
section
variable {K : PySem.W.Frag} {H H' : Hp} {C : Addr} {fds : List (Str × PyData)} {v : V}
end
section
variable {X : Cx} {ρ : List Sl} {e : Expr} {es : List Expr} {pos p p2 : Pos} {d : PyData} {ds : List PyData} {C : Addr} {fds : List (Str × PyData)} {f : Str}
end
end L2
namespace L2
open PySem PySem.Spec PyProof.Rows
def DX (K : PySem.W.Frag) (Φ : Hp → St → Prop) (H0 : Hp) (hs : List (V × Sl)) (Q : Out → Prop) : Ends where
  nx := fun σ H => ∃ ρ,Q (.nx ρ) ∧ Φ H0 σ ∧ ER K H0 hs ρ σ H
  bk := fun σ H => ∃ ρ,Q (.bk ρ) ∧ Φ H0 σ ∧ ER K H0 hs ρ σ H
  ct := fun σ H => ∃ ρ,Q (.ct ρ) ∧ Φ H0 σ ∧ ER K H0 hs ρ σ H
  rt := fun v H => ∃ r,Q (.rt r) ∧ Same H0 H ∧ RsR K H0 H r v
def tXS (K : PySem.W.Frag) (Φ : Hp → St → Prop) (ρ : List Sl) (Q : Out → Prop) : TS := fun D σ H => ∃ H0 hs,Φ H0 σ ∧ ER K H0 hs ρ σ H ∧ (DX K Φ H0 hs Q).le D
def VX (X : Cx) (Φ : Hp → St → Prop) (ss : List Stmt) (ρ : List Sl) (Q : Out → Prop) : Prop := PSs X ss (tXS X.K Φ ρ Q)
def thenX (X : Cx) (Φ : Hp → St → Prop) (rest : List Stmt) (Q : Out → Prop) : Out → Prop
  | .nx ρ => VX X Φ rest ρ Q
  | o => Q o
def VEX (X : Cx) (Φ : Hp → St → Prop) (ρ : List Sl) (e : Expr) (o : Sl ⊕ Addr) : Prop := PE X e fun σ H Q => ∃ H0 hs,Φ H0 σ ∧ ER X.K H0 hs ρ σ H ∧ ∀ r,o = .inl r → ∀ v H',Same H H' → RsR X.K H H' r v → Q v H'
def spVX (K : PySem.W.Frag) (R : List Sl → Sl ⊕ Addr → Prop) : Sp := fun vs H Q E => ∃ as o,RdRs K H as vs ∧ R as o ∧ (∀ r,o = .inl r → ∀ v H',Same H H' → RsR K H H' r v → Q v H') ∧ ∀ C,o = .inr C → ∀ H',Same H H' → E (.ref C) none H'
section
variable {X : Cx} {Φ : Hp → St → Prop} {E : XK} {ρ ρ' : List Sl} {e a b c : Expr} {es : List Expr} {r ra rb : Sl} {pos p p2 p3 : Pos} {d : PyData} {ds : List PyData} {rs : List Sl} {Q Q' : Out → Prop} {rest : List Stmt} {st : Stmt} {o : Sl ⊕ Addr}
theorem vx_nil (h : Q (.nx ρ)) : VX X Φ [] ρ Q := PSs.weak pss_nil fun D σ H ⟨H0,hs,φ,er,l⟩ => l.nx σ H ⟨ρ,h,φ,er⟩
theorem vx_of {t : TS} (h : PS X st t) (w : ∀ H0 hs D σ H,Φ H0 σ → ER X.K H0 hs ρ σ H → (DX X.K Φ H0 hs (thenX X Φ rest Q)).le D → t D σ H) : VX X Φ (st :: rest) ρ Q := by
  refine PSs.weak (pss_cons (u := fun D σ H => ∃ ρ' H0 hs,Φ H0 σ ∧ ER X.K H0 hs ρ' σ H ∧ (DX X.K Φ H0 hs Q).le D ∧ VX X Φ rest ρ' Q) h ?_) fun D σ H ⟨H0,hs,φ,er,l⟩ => w H0 hs _ σ H φ er ⟨?_,fun v H q => l.rt v H q,fun σ H q => l.bk σ H q,fun σ H q => l.ct σ H q⟩
  · intro pins s σ H D I ⟨ρ',H0,hs,φ,er,l,v⟩
    exact v pins s σ H D I ⟨H0,hs,φ,er,l⟩
  · rintro σ' H' ⟨ρ',q,φ',e⟩
    exact ⟨ρ',H0,hs,φ',e,l,q⟩
theorem vx_ret (h : VE X ρ e r) (q : Q (.rt r)) : VX X Φ (.Return (some e) pos :: rest) ρ Q :=
  vx_of (ps_ret h) fun H0 hs D σ H φ er l => ⟨⟨H0,hs,er⟩,fun v H' s rv => l.rt v H' ⟨r,q,er.same.trans s,rv.since er.same⟩⟩
theorem vx_if {A B : List Stmt} {k : Bool} (hc : VT X ρ c k) (ha : k = true → VX X Φ A ρ (thenX X Φ rest Q)) (hb : k = false → VX X Φ B ρ (thenX X Φ rest Q)) : VX X Φ (.If c A B pos :: rest) ρ Q := by
  cases k with
  | true => exact vx_of (ps_if (u := tNever) hc (ha rfl) pss_never) fun H0 hs D σ H φ er l => ⟨⟨H0,hs,er⟩,fun H' s => iteT ⟨H0,hs,φ,er.grow s,l⟩⟩
  | false => exact vx_of (ps_if (t := tNever) hc pss_never (hb rfl)) fun H0 hs D σ H φ er l => ⟨⟨H0,hs,er⟩,fun H' s => iteF ⟨H0,hs,φ,er.grow s,l⟩⟩
def Kept (Φ : Hp → St → Prop) (i : Nat) : Prop := ∀ H0 σ v,Φ H0 σ → Φ H0 (σ.set i (some v))
theorem vx_set {i : Nat} {x : Str} (nd : X.N.Nodup) (hi : ixA x X.N 0 = some i) (kp : Kept Φ i) (h : VE X ρ e (.d d)) (k : VX X Φ rest (ρ.set i (.d d)) Q) (hx : Loc X.env.scope x := by exact Or.inl rfl) (hs : swapsWith e (some (.Name x p2)) pos.line X.env = pure false := by rfl)
    (hf : X.fn x = true ∨ X.env.scope.names.lookup x = some .local := by first | exact .inl rfl | exact .inr rfl | assumption) : VX X Φ (.Assign [.Name x p2] e pos :: rest) ρ Q :=
  vx_of (ps_set nd (ixA_N hi) hx h hs hf) fun H0 hs D σ H φ er l => ⟨⟨H0,hs,er⟩,fun v H' s rv => l.nx _ _ ⟨_,k,kp _ _ _ φ,(er.grow s).setD rv⟩⟩
theorem vx_setO {i : Nat} {x : Str} {xs : List PyData} (nd : X.N.Nodup) (hi : ixA x X.N 0 = some i) (kp : Kept Φ i) (h : VE X ρ e (.o xs)) (k : VX X Φ rest (ρ.set i (.o xs)) Q) (hx : Loc X.env.scope x := by exact Or.inl rfl) (hs : swapsWith e (some (.Name x p2)) pos.line X.env = pure false := by rfl)
    (hf : X.fn x = true ∨ X.env.scope.names.lookup x = some .local := by first | exact .inl rfl | exact .inr rfl | assumption) : VX X Φ (.Assign [.Name x p2] e pos :: rest) ρ Q :=
  vx_of (ps_set nd (ixA_N hi) hx h hs hf) fun H0 hs D σ H φ er l => ⟨⟨H0,hs,er⟩,fun v H' s rv => by
    obtain ⟨a,rfl,n,q⟩ := rv
    exact l.nx _ _ ⟨_,k,kp _ _ _ φ,er.setO s n q⟩⟩
theorem vx_appendX {i : Nat} {x : Str} {xs : List PyData} {apos cpos : Pos} (hi : ixA x X.N 0 = some i) (hr : ρ[i]? = some (.o xs)) (h : VEX X Φ ρ e o) (ho : ∀ r,o = .inl r → ∃ d,r = .d d) (hz : xs.length < sizeLine) (k : ∀ d,o = .inl (.d d) → VX X Φ rest (ρ.set i (.o (xs ++ [d]))) Q)
    (hv : Vis X.env.scope x := by first | exact Or.inl rfl | exact Or.inr (Or.inl rfl) | exact Or.inr (Or.inr rfl)) (hd : (x == ("__debug__" : Str)) = false := by decide) (hcd : (x == ("__classdict__" : Str)) = false := by decide)
    (hbase : attributeBase (.Name x p2) "append" X.env (eval (.Name x p2) X.env) = eval (.Name x p2) X.env := by rfl)
    (hfew : ((backTo cpos (starEach [e] X.env)).all (fun x => !x.1) && (backToKw cpos (keywordEach [] X.env)).all (fun x => x.1.isSome) && decide ([e].length + ([] : List Keyword).length + (if ([] : List Keyword).isEmpty then 0 else 1) < 30)) = true := by rfl)
    (hline : (apos.endLine == cpos.line) = true := by rfl) (hs : starEach [e] X.env = [(false,eval e X.env)] := by rfl) (hplain : (backTo cpos (starEach [] X.env)).any (·.1) = false := by rfl)
    (hsw : swapsWith (.Call (.Attribute (.Name x p2) "append" apos) [e] [] cpos) none pos.line X.env = pure false := by rfl) : VX X Φ (.Expr (.Call (.Attribute (.Name x p2) "append" apos) [e] [] cpos) pos :: rest) ρ Q :=
  vx_of (ps_expr (pe_bm PySem.F.plainAttrs_list PySem.F.slot_list_append PySem.F.type_list_append mt_append (pe_var (ixA_N hi) hv hd hcd) (pa_cons h pa_nil hs) hbase hfew hline hs hplain) hsw) fun H0 hs D σ H φ er l => by
    obtain ⟨a,h1,⟨vs,h2,h3⟩,h4⟩ := er.own i xs hr
    refine ⟨_,h1,.inl ⟨rfl,vs,SqL.of h2⟩,H0,hs,φ,er,fun r z v H' s rv => ?_⟩
    obtain ⟨d,rfl⟩ := ho r z
    have e2 := er.grow s
    have h2' := s _ _ h2
    have h3' := Reps.mono (TupLe.of_same (K := X.K) s) _ _ h3
    exact ⟨a,vs,v,rfl,rfl,h2',by rw [h3.length]; exact hz,l.nx _ _ ⟨_,k d z,φ,e2.write hr h1 h2' (h3'.append (.one rv))⟩⟩
theorem vx_raise {C : Addr} {x : Str} {cpos : Pos} {y : Str} {j : Nat} (R : Raising X E) (cx : ExcC X.K X.mg x C) (hE : ∀ H0 σ,Φ H0 σ → ∀ H',Same H0 H' → E (.ref C) none H') (hg : Gl X x := by rfl) (hdb : (x == ("__debug__" : Str)) = false := by decide)
    (he : starEach [.Constant (.str y) j p3] X.env = (false,eval (.Constant (.str y) j p3) X.env) :: starEach [] X.env := by rfl) (hpl : (backTo cpos (starEach [] X.env)).any (·.1) = false := by rfl) :
    VX X Φ (.Raise (some (.Call (.Name x p) [.Constant (.str y) j p3] [] cpos)) none pos :: rest) ρ Q :=
  vx_of (ps_raise R cx hg (pa_cons pe_str pa_nil he) hdb he hpl) fun H0 hs D σ H φ er l => ⟨by show 1 ≤ 1000; decide,hE H0 σ φ H er.same⟩
theorem vex_call {k : Nat} {x : Str} {ps : List Str} {Rl : List Sl → Sl ⊕ Addr → Prop} (R : Raising X E) (D : DefX X.prog X.w X.K X.mg X.base k x ps (spVX X.K Rl)) (hr : Room k X.A) (ha : VA X ρ (e :: es) rs) (h : Rl (rs.map Sl.arg) o) (hE : ∀ C,o = .inr C → ∀ H0 σ,Φ H0 σ → ∀ H',Same H0 H' → E (.ref C) none H')
    (hg : Gl X x := by rfl) (hdb : (x == ("__debug__" : Str)) = false := by decide) (he : starEach (e :: es) X.env = (false,eval e X.env) :: starEach es X.env := by rfl) (hpl : (backTo pos (starEach es X.env)).any (·.1) = false := by rfl) : VEX X Φ ρ (.Call (.Name x p) (e :: es) [] pos) o :=
  PE.weak (pe_callX R D hr hg ha hdb he hpl) fun σ H Q ⟨H0,hs,φ,er,q⟩ => ⟨⟨H0,hs,er⟩,fun vs H1 s1 r1 => by
    show spVX X.K Rl (vs ++ []) H1 Q E
    rw [List.append_nil]
    exact ⟨rs.map Sl.arg,o,r1.arg,h,fun r z v H2 s2 r2 => q r z v H2 (s1.trans s2) (r2.since s1),fun C z H2 s2 => hE C z H0 σ φ H2 (er.same.trans (s1.trans s2))⟩⟩
def loopX (X : Cx) (Φ : Hp → St → Prop) (rest : List Stmt) (Q : Out → Prop) (J : List Sl → Prop) : Out → Prop
  | .nx ρ => J ρ
  | .ct ρ => J ρ
  | .bk ρ => VX X Φ rest ρ Q
  | .rt r => Q (.rt r)
def tMA (K : PySem.W.Frag) (Φ : Hp → St → Prop) (ρ ρ' : List Sl) (ds : List PyData) : TA := fun σ H Q => ∃ H0 hs,Φ H0 σ ∧ ER K H0 hs ρ σ H ∧ ∀ vs H',TupLe K H H' → ER K H0 hs ρ' σ H' → Reps K H' ds vs → Q vs H'
def VMA (X : Cx) (Φ : Hp → St → Prop) (ρ : List Sl) (es : List Expr) (ds : List PyData) (ρ' : List Sl) : Prop := PA X es (tMA X.K Φ ρ ρ' ds)
end
section
variable {P : Program} {w : World} {K : PySem.W.Frag} {mg : Str → Option Value} {base : Heap}
theorem Fun.okVX {x qual : Str} {st : Stmt} {f : Addr} {fd : FuncData} {N ps : List Str} {k : Nat} {R : List Sl → Sl ⊕ Addr → Prop} (F : Fun K x qual st f fd) (S : FnScope N ps (defScope st)) (len : ∀ as o,R as o → as.length = ps.length ∧ ∀ q ∈ as,∀ xs,q ≠ .o xs)
    (hbody : ∀ (cdv : Value) (A : Around) (outer : List Env) (s : Shared) (H : Hp) (E : XK) (as : List Sl) (o : Sl ⊕ Addr),Room k (A.deeper (envOfC qual (defScope st) s.heap.objs.size f cdv)) → R as o →
      (∀ C,o = .inr C → ∀ H0 (σ : St),H0 = H → ∀ H',Same H0 H' → E (.ref C) none H') →
      VX (cxOf (CX1 P w base) P w K mg base N qual (defScope st) f cdv A outer s H E) (fun H0 _ => H0 = H) (defBody st) (as ++ List.replicate (N.length - as.length) .un) fun t => ∃ r,o = .inl r ∧ (t = .rt r ∨ (r = .d .none ∧ ∃ ρ,t = .nx ρ))) :
    FnOk P w K mg base (CX1 P w base) (k + 1) f fd ps (spVX K R) := by
  refine F.okX S (fun vs H Q E h => ?_) (fun cdv A outer s H vs Q E hr h => ?_)
  · obtain ⟨as,o,h1,h2,_⟩ := h
    rw [h1.length]; exact (len as o h2).1
  obtain ⟨as,o,h1,h2,q,qE⟩ := h
  refine ⟨_,hbody cdv A outer s H E as o hr h2 (fun C z H0 σ e H' s' => by subst e; exact qE C z H' s'),H,[],rfl,er_start h1 (len as o h2).2,?_⟩
  refine ⟨fun σ H' ⟨ρ,⟨r,zo,z⟩,_,e⟩ => ?_,fun v H' ⟨r',⟨r,zo,z⟩,e1,e2⟩ => ?_,fun σ H' ⟨ρ,⟨r,zo,z⟩,e⟩ => ?_,fun σ H' ⟨ρ,⟨r,zo,z⟩,e⟩ => ?_⟩
  · rcases z with z | ⟨rfl,_⟩
    · cases z
    · exact q _ zo _ H' e.same RsR.non
  · rcases z with z | ⟨_,_,z⟩
    · cases z
      exact q _ zo v H' e1 e2
    · cases z
  · rcases z with z | ⟨_,_,z⟩ <;> cases z
  · rcases z with z | ⟨_,_,z⟩ <;> cases z
end
section
variable {K : PySem.W.Frag} {H0 H H' : Hp} {hs : List (V × Sl)} {ρ : List Sl} {σ : St} {wa da : Addr} {i j : Nat} {xs ys xs' ys' : List PyData}
end
section
variable {P : Program} {w : World} {K : PySem.W.Frag} {mg : Str → Option Value} {base : Heap}
end
section
variable {X : Cx} {Φ : Hp → St → Prop} {E : XK} {ρ : List Sl} {a b : Expr} {pos p p2 p3 cpos : Pos} {Q : Out → Prop} {rest : List Stmt}
end
end L2
namespace Wk
open PySem L2 PySem.Spec PyProof.Rows
section
variable {K : PySem.W.Frag} {mg : Str → Option Value} {c : Cs} {CS CT : Addr}
end
section
variable {K : PySem.W.Frag}
end
end Wk
namespace L2
open PySem PySem.Spec PyProof.Rows
theorem Rep.unlist {K : PySem.W.Frag} {H : Hp} {ds : List PyData} {v : V} (h : Rep K H (.list ds) v) : ∃ a o vs,v = .ref a ∧ H a = some (.frz o (.lst vs)) ∧ Reps K H ds vs := by rw [Rep] at h; exact h
theorem Rep.list {K : PySem.W.Frag} {H : Hp} {ds : List PyData} {a : Addr} {o : Obj} {vs : List V} (h : H a = some (.frz o (.lst vs))) (r : Reps K H ds vs) : Rep K H (.list ds) (.ref a) := by rw [Rep]; exact ⟨a,o,vs,rfl,h,r⟩
section
variable {X : Cx} {pins : List (Addr × Obj)} {σ : St} {H : Hp} {s : Shared}
theorem Inv.freezeL {a : Addr} {vs : List V} (I : Inv X pins σ H s) (h : H a = some (.lst vs)) : ∃ o,Inv X pins σ (upd H a (.frz o (.lst vs))) s := by
  have hx := I.hok a _ h
  obtain ⟨z,its,n,r,e⟩ := id hx
  refine ⟨{ cls := .type "list",data := .seq its.toArray n },?_⟩
  have := I.un (h' := s.heap) (t' := s.toks) (H' := upd H a (.frz { cls := .type "list",data := .seq its.toArray n } (.lst vs))) ⟨fun b o q _ _ _ => q,fun b o q _ _ _ => ⟨o.slots,q⟩,fun b o q hb _ => by rw [upd_ne (fun z => by rw [z,h] at hb; cases hb)]; exact hb,fun b o q _ => ⟨o,q⟩,
    fun b xs q => by rw [upd_ne (ne_of q h (by intro z; cases z))]; exact q,fun b o u q => by rw [upd_ne (ne_of q h (by intro z; cases z))]; exact q,fun b ps q => ⟨#[],by rw [upd_ne (ne_of q h (by intro z; cases z)),q]; simp⟩⟩ ?_
  · exact this
  · intro b o q
    have key : ∀ {b o},H b = some o → ObjOk X.prog X.w (upd H a (.frz { cls := .type "list",data := .seq its.toArray n } (.lst vs))) s.heap b o := fun {b o} q =>
      (I.hok b o q).stay (fun _ _ _ q => q) (fun c q => by rw [upd_ne (ne_of q h (by intro z; cases z))]; exact q) fun c xs q => by rw [upd_ne (ne_of q h (by intro z; cases z))]; exact q
    by_cases hb : b = a
    · subst hb
      rw [upd_same] at q
      cases q
      exact ⟨e,key h⟩
    · rw [upd_ne hb] at q
      exact key q
variable {ρ : List Sl} {e : Expr} {es : List Expr} {r : Sl} {pos p p2 p3 : Pos} {d : PyData} {ds xs : List PyData} {rs : List Sl} {tg : Expr}
variable {Q : Out → Prop} {rest : List Stmt}
end
end L2
namespace L2
open PySem PySem.Spec PyProof.Rows
section
variable {X : Cx} {ρ : List Sl} {a e c : Expr} {pos p p2 : Pos} {Q : Out → Prop} {rest : List Stmt}
theorem ints_reps {K : PySem.W.Frag} {H : Hp} : ∀ (ns : List Int),Reps K H (ns.map PyData.int) (ns.map V.int)
  | [] => .nil
  | n :: ns => .cons (.int n) (ints_reps ns)
theorem ve_slScr {ns : List Int} {lo hi : Option Expr} {i j : Option Int} (ha : VE X ρ a (.h (scrPer X.K ns))) (hl : VO X ρ lo i) (hh : VO X ρ hi j) : VE X ρ (.Subscript a (.Slice lo hi none p2) pos) (.o (cutD (ns.map .int) i j)) :=
  PE.weak (pe_slice sl_list ha hl hh) fun σ H Q ⟨er,q⟩ => ⟨er,fun x H1 s1 r1 => ⟨er_grow er s1,fun H2 s2 => ⟨er_grow er (s1.trans s2),fun H3 s3 => by
    obtain ⟨p,rfl,hq⟩ := (r1.rd.mono (s2.trans s3) : RdR X.K H3 (.h (scrPer X.K ns)) x)
    refine ⟨p,_,rfl,hq.sq,fun c hc => q _ _ ((s1.trans (s2.trans s3)).trans (same_upd hc _)) ⟨c,rfl,(s1.trans (s2.trans s3)).free hc,_,upd_same,?_⟩⟩
    exact cut_reps (ints_reps ns) i j⟩⟩⟩
theorem cutD_ints (ns : List Int) (lo hi : Option Int) : ∃ cs : List Int,cutD (ns.map PyData.int) lo hi = cs.map .int ∧ cs.length ≤ ns.length ∧ ∀ c ∈ cs,c ∈ ns := by
  refine ⟨(ns.drop (HT.sIx (ns.map PyData.int).length 0 lo)).take (HT.sIx (ns.map PyData.int).length (ns.map PyData.int).length hi - HT.sIx (ns.map PyData.int).length 0 lo),?_,?_,?_⟩
  · unfold cutD; rw [List.map_take,List.map_drop]
  · rw [List.length_take,List.length_drop]; omega
  · intro c hc; exact List.mem_of_mem_drop (List.mem_of_mem_take hc)
end
end L2
namespace Wk
open PySem L2 PySem.Spec PyProof.Rows
def RAtS (K : PySem.W.Frag) : List Sl → Sl → Prop := fun as r => ∃ (ns : List Int) (k : Nat),as = [.h (scrPer K ns),.d (.int (k : Int))] ∧ r = .d (.int (ns.getD k 0))
end Wk
namespace L2
open PySem PySem.Spec PyProof.Rows
section
variable {P : Program} {w : World} {H H' : Hp} {h h' : Heap} {b : Addr} {o : HO} {fs : List Addr}
end
section
variable {P : Program} {w : World} {K : PySem.W.Frag} {mg : Str → Option Value} {base : Heap} {k : Nat} {f : Addr} {fd : FuncData} {ps : List Str} {sp : Sp}
end
end L2
namespace L2
open PySem PySem.Spec PyProof.Rows
def Sl.itsF : Sl → Option (List PyData)
  | .l xs => some xs
  | .o xs => some xs
  | .d (.list xs) => some xs
  | _ => none
theorem RdR.lstF {K : PySem.W.Frag} {H : Hp} {r : Sl} {v : V} {xs : List PyData} (h : RdR K H r v) (e : r.itsF = some xs) : ∃ a vs, v = .ref a ∧ Rd H a (.lst vs) ∧ Reps K H xs vs := by
  cases r with
  | un => cases e
  | d x =>
    cases x with
    | list ys => cases e; obtain ⟨a, o, vs, rfl, h1, h2⟩ := Rep.unlist (K := K) (H := H) h; exact ⟨a, vs, rfl, .inr ⟨o, h1⟩, h2⟩
    | _ => cases e
  | l ys => cases e; obtain ⟨a, e, vs, q1, q2⟩ := h; exact ⟨a, vs, e, .inl q1, q2⟩
  | o ys => cases e; obtain ⟨a, e, vs, q1, q2⟩ := h; exact ⟨a, vs, e, .inl q1, q2⟩
  | h P => cases e
section
variable {X : Cx} {ρ : List Sl} {a b e : Expr} {ra rb : Sl} {pos p p2 : Pos} {d : PyData} {xs ys : List PyData}
end
end L2
namespace Wk
open PySem L2 PySem.Spec PyProof.Rows
end Wk
namespace L2
open PySem PySem.Spec PyProof.Rows
section
variable {X : Cx} {pins : List (Addr × Obj)} {σ : St} {s : Shared}
end
end L2
namespace Wk
open PySem L2 PySem.Spec PyProof.Rows
end Wk
namespace L2
open PySem PySem.Spec PyProof.Rows
section
variable {P : Program} {w : World} {K : PySem.W.Frag} {mg : Str → Option Value} {base : Heap}
end
section
variable {X : Cx} {Φ : Hp → St → Prop} {ρ : List Sl} {pos p p2 : Pos} {Q : Out → Prop} {rest : List Stmt}
end
end L2
namespace Wk
open PySem L2 PySem.Spec PyProof.Rows
end Wk
namespace L2
open PySem PySem.Spec PyProof.Rows
section
variable {K : PySem.W.Frag} {H0 H H' : Hp} {hs : List (V × Sl)} {ρ ρ' : List Sl} {σ : St}
theorem ER.lentP (er : ER K H0 hs ρ σ H) (L : Nat → Prop) (hl : ρ'.length = ρ.length) (hin : ∀ i,L i → ∃ xs ys a,ρ[i]? = some (.o xs) ∧ σ[i]? = some (some (.ref a)) ∧ ρ'[i]? = some (.o ys) ∧ LsR K H' a ys) (hout : ∀ i,¬ L i → ρ'[i]? = ρ[i]?)
    (off : ∀ b o,(∀ i,L i → σ[i]? ≠ some (some (.ref b))) → H b = some o → H' b = some o) : ER K H0 hs ρ' σ H' := by
  have own0 : ∀ i,L i → ∀ a,σ[i]? = some (some (.ref a)) → (∃ vs,H a = some (.lst vs)) ∧ H0 a = none := fun i li a e => by
    obtain ⟨xs,ys,a',h1,h2,h3,h4⟩ := hin i li
    obtain ⟨b,g1,⟨vs,g2,_⟩,g3⟩ := er.own i xs h1
    rw [e] at g1
    cases g1
    exact ⟨⟨vs,g2⟩,g3⟩
  have keep : ∀ b o,(∀ xs,o ≠ .lst xs) → H b = some o → H' b = some o := fun b o n e => off b o (fun i li z => by
    obtain ⟨⟨vs,q⟩,_⟩ := own0 i li b z
    rw [e] at q; cases q; exact n _ rfl) e
  have ext : Ext H H' := fun b o h n => keep b o n h
  have tl : TupLe K H H' := TupLe.of_ext ext
  have lsr : ∀ a xs,(∀ i,L i → σ[i]? ≠ some (some (.ref a))) → LsR K H a xs → LsR K H' a xs := fun a xs n ⟨vs,e,q⟩ => ⟨vs,off a _ n e,Reps.mono tl _ _ q⟩
  have back : ∀ {i : Nat} {r : Sl},ρ'[i]? = some r → (L i ∧ ∃ ys,r = .o ys) ∨ (¬ L i ∧ ρ[i]? = some r) := fun {i r} e => by
    by_cases li : L i
    · obtain ⟨xs,ys,a,_,_,h3,_⟩ := hin i li
      rw [h3] at e; cases e
      exact .inl ⟨li,ys,rfl⟩
    · rw [hout i li] at e; exact .inr ⟨li,e⟩
  have oo : ∀ {i : Nat} {ys : List PyData},ρ'[i]? = some (.o ys) → ∃ xs,ρ[i]? = some (.o xs) := fun {i ys} e => by
    by_cases li : L i
    · obtain ⟨xs,_,_,h1,_⟩ := hin i li; exact ⟨xs,h1⟩
    · rw [hout i li] at e; exact ⟨ys,e⟩
  refine ⟨fun b o e => off b o (fun i li z => by rw [(own0 i li b z).2] at e; cases e) (er.same b o e),by rw [hl]; exact er.len,fun i x q => ?_,fun i x q => ?_,fun i x q => ?_,fun i x q => ?_,fun i j a xs ys q1 q2 q3 => ?_,fun i j a xs ys n q1 q2 q3 => ?_,fun p hp => ?_,fun i xs a q1 q2 => ?_⟩
  · rcases back q with ⟨_,ys,z⟩ | ⟨_,q⟩
    · cases z
    · obtain ⟨v,h1,h2⟩ := er.dat i x q; exact ⟨v,h1,Rep.mono tl _ _ h2⟩
  · rcases back q with ⟨_,ys,z⟩ | ⟨_,q⟩
    · cases z
    · obtain ⟨a,h1,h2⟩ := er.lst i x q
      exact ⟨a,h1,lsr a x (fun j lj z => by obtain ⟨xs,_,_,g1,_⟩ := hin j lj; exact er.sepL j i a xs x g1 q z h1) h2⟩
  · rcases back q with ⟨_,ys,z⟩ | ⟨_,q⟩
    · cases z
    · obtain ⟨v,h1,h2⟩ := er.per i x q; exact ⟨v,h1,x.mono _ _ _ ext h2⟩
  · rcases back q with ⟨li,ys,z⟩ | ⟨ni,q⟩
    · cases z
      obtain ⟨xs,ys',a,h1,h2,h3,h4⟩ := hin i li
      rw [q] at h3; cases h3
      exact ⟨a,h2,h4,(own0 i li a h2).2⟩
    · obtain ⟨a,h1,h2,h3⟩ := er.own i x q
      exact ⟨a,h1,lsr a x (fun j lj z => by obtain ⟨xs,_,_,g1,_⟩ := hin j lj; exact er.sepO j i a xs x (fun e => ni (e ▸ lj)) g1 q z h1) h2,h3⟩
  · obtain ⟨xs',e1⟩ := oo q1
    rcases back q2 with ⟨_,_,z⟩ | ⟨_,q2⟩
    · cases z
    · exact er.sepL i j a xs' ys e1 q2 q3
  · obtain ⟨xs',e1⟩ := oo q1
    obtain ⟨ys',e2⟩ := oo q2
    exact er.sepO i j a xs' ys' n e1 e2 q3
  · have hh := er.held p hp
    obtain ⟨pv,ps⟩ := p
    have ne : ∀ zs,ps.its = some zs → ∀ i,L i → ∀ b,pv = .ref b → σ[i]? ≠ some (some (.ref b)) := fun zs hz i li b e z => by
      obtain ⟨xs,_,_,g1,_⟩ := hin i li
      exact er.sepH i xs b g1 z _ hp zs hz e
    cases ps with
    | un => trivial
    | d x => exact Rep.mono tl _ _ hh
    | l zs => obtain ⟨b,rfl,q⟩ := hh; exact ⟨b,rfl,lsr b zs (fun i li => ne zs rfl i li b rfl) q⟩
    | o zs => obtain ⟨b,rfl,q⟩ := hh; exact ⟨b,rfl,lsr b zs (fun i li => ne zs rfl i li b rfl) q⟩
    | h P => exact P.mono _ _ _ ext hh
  · obtain ⟨xs',e1⟩ := oo q1
    exact er.sepH i xs' a e1 q2
theorem ER.lent1 {i : Nat} {a : Addr} {xs ys : List PyData} (er : ER K H0 hs ρ σ H) (hi : ρ[i]? = some (.o xs)) (ha : σ[i]? = some (some (.ref a))) (off : ∀ b o,b ≠ a → H b = some o → H' b = some o) (h : LsR K H' a ys) : ER K H0 hs (ρ.set i (.o ys)) σ H' := by
  have li : i < ρ.length := (List.getElem?_eq_some_iff.mp hi).1
  refine er.lentP (fun j => j = i) (by rw [List.length_set]) (fun j e => ?_) (fun j n => ?_) (fun b o n e => off b o (fun z => n i rfl (by rw [z]; exact ha)) e)
  · subst e; exact ⟨xs,ys,a,hi,ha,set_eq li,h⟩
  · rw [List.getElem?_set,if_neg (fun z => n z.symm)]
open Classical in
noncomputable def hidP (A : Addr → Prop) (H : Hp) : Hp := fun b => if A b then none else H b
theorem hidP_same {A : Addr → Prop} : Same (hidP A H) H := fun b o e => by
  unfold hidP at e
  by_cases z : A b
  · rw [if_pos z] at e; cases e
  · rwa [if_neg z] at e
theorem hidP_at {A : Addr → Prop} {b : Addr} (z : A b) : hidP A H b = none := by unfold hidP; rw [if_pos z]
theorem hidP_of {A : Addr → Prop} {b : Addr} {o : HO} (z : ¬ A b) (e : H b = some o) : hidP A H b = some o := by unfold hidP; rw [if_neg z]; exact e
def LentP (as : List Sl) (vs : List V) (b : Addr) : Prop := ∃ (i : Nat) (xs : List PyData),as[i]? = some (Sl.o xs) ∧ vs[i]? = some (V.ref b)
theorem er_startP {as : List Sl} {vs : List V} {N : List Str} (h : RdRs K H as vs) (nol : ∀ r ∈ as,∀ xs,r ≠ .l xs) (ap : ∀ (i j : Nat) a xs ys,i ≠ j → as[i]? = some (.o xs) → as[j]? = some (.o ys) → vs[i]? = some (.ref a) → vs[j]? ≠ some (.ref a)) :
    ER K (hidP (LentP as vs) H) [] (as ++ List.replicate (N.length - as.length) .un) (start N vs) H := by
  have hl := h.length
  have inn : ∀ {i : Nat} {r : Sl},(as ++ List.replicate (N.length - as.length) Sl.un)[i]? = some r → r ≠ .un → as[i]? = some r ∧ ∃ v,vs[i]? = some v ∧ (start N vs)[i]? = some (some v) ∧ RdR K H r v := by
    intro i r q nu
    by_cases hi : i < as.length
    · rw [List.getElem?_append_left hi] at q
      obtain ⟨v,h1,h2⟩ := h.get q
      refine ⟨q,v,h1,?_,h2⟩
      unfold start
      rw [List.getElem?_append_left (by rw [List.length_map,hl]; exact hi),List.getElem?_map,h1]
      rfl
    · rw [List.getElem?_append_right (by omega)] at q
      exact absurd (List.mem_replicate.mp (List.mem_of_getElem? q)).2 nu
  have vat : ∀ {i : Nat} {r : Sl} {a : Addr},as[i]? = some r → (start N vs)[i]? = some (some (V.ref a)) → vs[i]? = some (.ref a) := fun {i r a} e1 e2 => by
    have hi : i < as.length := (List.getElem?_eq_some_iff.mp e1).1
    unfold start at e2
    rw [List.getElem?_append_left (by rw [List.length_map,hl]; exact hi),List.getElem?_map] at e2
    cases q : vs[i]? with
    | none => rw [q] at e2; cases e2
    | some v => rw [q] at e2; cases e2; rfl
  refine ⟨hidP_same,by unfold start; simp [hl],fun i x q => ?_,fun i xs q => ?_,fun i P q => ?_,fun i xs q => ?_,fun i j a xs ys _ q2 => ?_,fun i j a xs ys n q1 q2 q3 q4 => ?_,fun p hp => (nomatch hp),fun i xs a _ _ p hp => nomatch hp⟩
  · obtain ⟨_,v,_,h2,h3⟩ := inn q (fun z => nomatch z); exact ⟨v,h2,h3⟩
  · obtain ⟨h1,_⟩ := inn q (fun z => nomatch z); exact absurd rfl (nol _ (List.mem_of_getElem? h1) xs)
  · obtain ⟨_,v,_,h2,h3⟩ := inn q (fun z => nomatch z); exact ⟨v,h2,h3⟩
  · obtain ⟨h1,v,h2,h3,a,rfl,h4⟩ := inn q (fun z => nomatch z); exact ⟨a,h3,h4,hidP_at ⟨i,xs,h1,h2⟩⟩
  · obtain ⟨h1,_⟩ := inn q2 (fun z => nomatch z); exact absurd rfl (nol _ (List.mem_of_getElem? h1) ys)
  · have e1 := (inn q1 (fun z => nomatch z)).1
    have e2 := (inn q2 (fun z => nomatch z)).1
    exact ap i j a xs ys n e1 e2 (vat e1 q3) (vat e2 q4)
end
def tM (K : PySem.W.Frag) (Φ : Hp → St → Prop) (ρ ρ' : List Sl) (d : PyData) : TE := fun σ H Q => ∃ H0 hs,Φ H0 σ ∧ ER K H0 hs ρ σ H ∧ ∀ v H',TupLe K H H' → ER K H0 hs ρ' σ H' → Rep K H' d v → Q v H'
def VM (X : Cx) (Φ : Hp → St → Prop) (ρ : List Sl) (e : Expr) (d : PyData) (ρ' : List Sl) : Prop := PE X e (tM X.K Φ ρ ρ' d)
section
variable {X : Cx} {Φ : Hp → St → Prop} {ρ ρ' ρ1 ρ2 : List Sl} {e e2 : Expr} {es : List Expr} {pos p p2 p3 : Pos} {d : PyData} {ds : List PyData} {Q : Out → Prop} {rest : List Stmt}
theorem vm_ve (h : VE X ρ e (.d d)) : VM X Φ ρ e d ρ := PE.weak h fun σ H Q ⟨H0,hs,φ,er,q⟩ => ⟨⟨H0,hs,er⟩,fun v H' s' rv => q v H' (TupLe.of_same s') (er.grow s') rv⟩
theorem vma_nil : VMA X Φ ρ [] [] ρ := PA.weak pa_nil fun σ H Q ⟨H0,hs,φ,er,q⟩ => q [] H (TupLe.refl H) er .nil
theorem vma_consM (h : VM X Φ ρ e d ρ1) (t : VMA X Φ ρ1 es ds ρ2) (hs : starEach (e :: es) X.env = (false,eval e X.env) :: starEach es X.env := by rfl) : VMA X Φ ρ (e :: es) (d :: ds) ρ2 :=
  PA.weak (pa_cons h t hs) fun σ H Q ⟨H0,hs,φ,er,q⟩ => ⟨H0,hs,φ,er,fun v H1 t1 e1 r1 => ⟨H0,hs,φ,e1,fun vs H2 t2 e2 r2 => q (v :: vs) H2 (t1.trans t2) e2 (.cons (Rep.mono t2 _ _ r1) r2)⟩⟩
theorem vm_pop {i : Nat} {x : Str} {xs : List PyData} {apos cpos : Pos} (hi : ixA x X.N 0 = some i) (hr : ρ[i]? = some (.o (xs ++ [d])))
    (hv : Vis X.env.scope x := by first | exact Or.inl rfl | exact Or.inr (Or.inl rfl) | exact Or.inr (Or.inr rfl)) (hd : (x == ("__debug__" : Str)) = false := by decide) (hcd : (x == ("__classdict__" : Str)) = false := by decide)
    (hbase : attributeBase (.Name x p2) "pop" X.env (eval (.Name x p2) X.env) = eval (.Name x p2) X.env := by rfl) (hline : (apos.endLine == cpos.line) = true := by rfl) : VM X Φ ρ (.Call (.Attribute (.Name x p2) "pop" apos) [] [] cpos) d (ρ.set i (.o xs)) :=
  PE.weak (pe_bm0 PySem.F.plainAttrs_list PySem.F.slot_list_pop PySem.F.type_list_pop mt_pop (pe_var (ixA_N hi) hv hd hcd) hbase hline) fun σ H Q ⟨H0,hs,φ,er,q⟩ => by
    obtain ⟨a,h1,⟨vs,h2,h3⟩,h4⟩ := er.own i _ hr
    obtain ⟨ws,v,rfl,h5,h6⟩ := h3.snoc
    refine ⟨_,h1,.inl ⟨rfl,_,SqL.of h2⟩,a,_,v,rfl,rfl,h2,by simp,?_⟩
    rw [List.dropLast_concat]
    have tl : TupLe X.K H (upd H a (.lst ws)) := (SameBut.upd _).tup h2
    exact q v _ tl (er.write hr h1 h2 h5) (Rep.mono tl _ _ h6)
def popT (d : PyData) : List PyData → PyData × List PyData
  | [] => (d,[])
  | x :: r => (x,r)
theorem vx_ifN {A : List Stmt} {c : Expr} {k : Bool} (hc : VT X ρ c k) (hk : k = false) (h : VX X Φ rest ρ Q) : VX X Φ (.If c A [] pos :: rest) ρ Q := vx_if hc (fun z => by rw [hk] at z; cases z) fun _ => vx_nil h
theorem vx_ifT {A B : List Stmt} {c : Expr} {k : Bool} (hc : VT X ρ c k) (hk : k = true) (h : VX X Φ A ρ (thenX X Φ rest Q)) : VX X Φ (.If c A B pos :: rest) ρ Q := vx_if hc (fun _ => h) fun z => by rw [hk] at z; cases z
theorem vx_ifF {A B : List Stmt} {c : Expr} {k : Bool} (hc : VT X ρ c k) (hk : k = false) (h : VX X Φ B ρ (thenX X Φ rest Q)) : VX X Φ (.If c A B pos :: rest) ρ Q := vx_if hc (fun z => by rw [hk] at z; cases z) fun _ => h
theorem ve_ixScr {a b : Expr} {ns : List Int} {i : Nat} {n : Int} (ha : VE X ρ a (.h (scrPer X.K ns))) (hb : VE X ρ b (.d (.int (i : Int)))) (h : ns[i]? = some n) (hs : PlainIx b := by exact fun _ _ => rfl) : VE X ρ (.Subscript a b pos) (.d (.int n)) :=
  PE.weak (pe_ix ix_list ha hb hs) fun σ H Q ⟨er,q⟩ => ⟨er,fun x H1 s1 r1 => ⟨er_grow er s1,fun y H2 s2 r2 => by
    obtain ⟨p,rfl,hq⟩ := (r1.rd.mono s2 : RdR X.K H2 (.h (scrPer X.K ns)) x)
    obtain rfl := RsR.is_int r2
    exact ⟨p,_,_,_,rfl,rfl,hq.sq,atI_nat (by rw [List.getElem?_map,h]; rfl),q _ H2 (s1.trans s2) RsR.int⟩⟩⟩
theorem ve_eqb {a b : Expr} {x y : Int} (ha : VE X ρ a (.d (.int x))) (hb : VE X ρ b (.d (.int y))) : VE X ρ (.Compare a [.Eq] [b] pos) (.d (.bool (decide (x = y)))) :=
  ve_cmp op_eq ha hb (fun H u w Q rx ry q => by
    obtain rfl := RdR.is_int rx
    obtain rfl := RdR.is_int ry
    refine ⟨rfl,?_⟩
    rw [show decide (V.int x = V.int y) = decide (x = y) from by simp]; exact q _ H (Same.refl H) RsR.bool) (nomark _)
theorem ve_ixS {a b : Expr} {z c : Str} {i : Int} (ha : VE X ρ a (.d (.str z))) (hb : VE X ρ b (.d (.int i))) (hz : z.length ≤ sizeLine) (h : ∃ k,atI z.cps.toList i = some k ∧ c = ⟨#[k]⟩) (hs : PlainIx b := by exact fun _ _ => rfl) : VE X ρ (.Subscript a b pos) (.d (.str c)) :=
  PE.weak (pe_ix ix_str ha hb hs) fun σ H Q ⟨er,q⟩ => ⟨er,fun x H1 s1 r1 => ⟨er_grow er s1,fun y H2 s2 r2 => by
    obtain ⟨k,h1,rfl⟩ := h
    exact ⟨z,i,k,RsR.is_str r1,RsR.is_int r2,hz,h1,q _ H2 (s1.trans s2) RsR.str⟩⟩⟩
theorem call_intT : CallR X (.type "int") (fun xs H Q => ∃ x n, xs = [.str x] ∧ PySem.intText? x = some n ∧ x.length ≤ 640 ∧ Q (.int n) H) := by
  intro pins s σ H xs us Q I r h
  obtain ⟨x, n, rfl, h1, h2, q⟩ := h
  cases r with
  | cons r1 t =>
    cases t
    obtain ⟨tk, rfl⟩ := r1
    exact PySem.W.KIN.call_text h1 h2 ⟨.int n, H, I.tok _, ⟨_, rfl⟩, q⟩
theorem ve_intT {a : Expr} {x : Str} {n : Int} (hm : X.mg "int" = none) (ha : VE X ρ a (.d (.str x))) (h1 : PySem.intText? x = some n) (h2 : x.length ≤ 640) (hg : Gl X "int" := by rfl) (hs : starEach [a] X.env = [(false,eval a X.env)] := by rfl) : VE X ρ (.Call (.Name "int" p) [a] [] pos) (.d (.int n)) :=
  PE.weak (pe_callTy call_intT hg hm PyProof.Rows.boot_int (pa_cons ha pa_nil hs) (by decide) (by decide) hs) fun σ H Q ⟨er,q⟩ => ⟨er,fun v H1 s1 r1 => ⟨x,n,by rw [RsR.is_str r1],h1,h2,q _ H1 s1 RsR.int⟩⟩
end
end L2
namespace Wk
open PySem
inductive WT where
  | num (i : Int) | truth (b : Bool) | nil (k : Kd) | name (x : Str) | lam (x : Str) (k : Kd) (b : WT)
  | add (a b : WT) | less (a b : WT) | front (a b : WT) | call (a b : WT) | cond (a b c : WT) | case (k : Kd) (h t : Str) (a b c : WT)
def WT.word : WT → Str
  | .num _ => "num"
  | .truth _ => "truth"
  | .nil _ => "nil"
  | .name _ => "name"
  | .lam .. => "fun"
  | .add .. => "add"
  | .less .. => "less"
  | .front .. => "front"
  | .call .. => "call"
  | .cond .. => "if"
  | .case .. => "case"
def WT.marks : WT → List PyData
  | .num i => [.int i]
  | .truth b => [.bool b]
  | .nil k => [kdD k]
  | .name x => [.str x]
  | .lam x k _ => [.str x,kdD k]
  | .case k h t _ _ _ => [kdD k,.str h,.str t]
  | _ => []
def WT.own : WT → List WT
  | .lam _ _ b => [b]
  | .add a b => [a,b]
  | .less a b => [a,b]
  | .front a b => [a,b]
  | .call a b => [a,b]
  | .cond a b c => [a,b,c]
  | .case _ _ _ a b c => [a,b,c]
  | _ => []
def wtD : WT → PyData
  | .num i => .tuple [.str "num",.tuple [.int i],.tuple []]
  | .truth b => .tuple [.str "truth",.tuple [.bool b],.tuple []]
  | .nil k => .tuple [.str "nil",.tuple [kdD k],.tuple []]
  | .name x => .tuple [.str "name",.tuple [.str x],.tuple []]
  | .lam x k b => .tuple [.str "fun",.tuple [.str x,kdD k],.tuple [wtD b]]
  | .add a b => .tuple [.str "add",.tuple [],.tuple [wtD a,wtD b]]
  | .less a b => .tuple [.str "less",.tuple [],.tuple [wtD a,wtD b]]
  | .front a b => .tuple [.str "front",.tuple [],.tuple [wtD a,wtD b]]
  | .call a b => .tuple [.str "call",.tuple [],.tuple [wtD a,wtD b]]
  | .cond a b c => .tuple [.str "if",.tuple [],.tuple [wtD a,wtD b,wtD c]]
  | .case k h t a b c => .tuple [.str "case",.tuple [kdD k,.str h,.str t],.tuple [wtD a,wtD b,wtD c]]
inductive Pc where
  | text (s : Str) | name (s : Str) | kind (k : Kd) | part (t : WT)
def pcD : Pc → PyData
  | .text s => .tuple [.str "text",.str s]
  | .name s => .tuple [.str "name",.str s]
  | .kind k => .tuple [.str "kind",kdD k]
  | .part t => .tuple [.str "part",wtD t]
def figs : Nat → Nat → List Nat
  | 0,_ => []
  | f + 1,n => n % 10 :: (if n < 10 then [] else figs f (n / 10))
def digit (d : Nat) : Str := Str.ofString (toString (d : Int))
def numT (i : Int) : Str := (if i < 0 then ("-" : Str) else "") ++ Txt.join "" ((figs (i.natAbs + 1) i.natAbs).reverse.map digit)
def bl : Pc := .text " "
def kpcs : Kd → List Pc
  | .num => [.text "num"]
  | .truth => [.text "truth"]
  | .list k => [.text "(list",bl,.kind k,.text ")"]
  | .to a b => [.text "(to",bl,.kind a,bl,.kind b,.text ")"]
def wpcs : WT → List Pc
  | .num i => [.text (numT i)]
  | .truth b => [.text (if b then "yes" else "no")]
  | .name x => [.name x]
  | .nil k => [.text "(nil",bl,.kind k,.text ")"]
  | .lam x k b => [.text "(fun",bl,.name x,bl,.kind k,bl,.part b,.text ")"]
  | .add a b => [.text "(add",bl,.part a,bl,.part b,.text ")"]
  | .less a b => [.text "(less",bl,.part a,bl,.part b,.text ")"]
  | .front a b => [.text "(front",bl,.part a,bl,.part b,.text ")"]
  | .call a b => [.text "(call",bl,.part a,bl,.part b,.text ")"]
  | .cond a b c => [.text "(if",bl,.part a,bl,.part b,bl,.part c,.text ")"]
  | .case k h t a b c => [.text "(case",bl,.kind k,bl,.part a,bl,.part b,bl,.name h,bl,.name t,bl,.part c,.text ")"]
def kwt : Kd → Nat
  | .num => 2
  | .truth => 2
  | .list k => kwt k + 5
  | .to a b => kwt a + kwt b + 7
def wwt : WT → Nat
  | .num _ => 2
  | .truth _ => 2
  | .name _ => 2
  | .nil k => kwt k + 5
  | .lam _ k b => kwt k + wwt b + 9
  | .add a b => wwt a + wwt b + 7
  | .less a b => wwt a + wwt b + 7
  | .front a b => wwt a + wwt b + 7
  | .call a b => wwt a + wwt b + 7
  | .cond a b c => wwt a + wwt b + wwt c + 9
  | .case k _ _ a b c => kwt k + wwt a + wwt b + wwt c + 15
def Pc.wt : Pc → Nat
  | .text _ => 1
  | .name _ => 1
  | .kind k => kwt k
  | .part t => wwt t
def pwts : List Pc → Nat
  | [] => 0
  | p :: r => p.wt + pwts r
theorem pwts_append (a b : List Pc) : pwts (a ++ b) = pwts a + pwts b := by
  induction a with
  | nil => simp [pwts]
  | cons p r ih => simp only [List.cons_append,pwts,ih]; omega
theorem kpcs_wt (k : Kd) : pwts (kpcs k) + 1 ≤ kwt k := by cases k <;> simp [kpcs,pwts,Pc.wt,kwt,bl] <;> omega
theorem wpcs_wt (t : WT) : pwts (wpcs t) + 1 ≤ wwt t := by cases t <;> simp [wpcs,pwts,Pc.wt,wwt,bl] <;> omega
abbrev S (l : List Str) : List Str := l
def ktx : Kd → List Str
  | .num => ["num"]
  | .truth => ["truth"]
  | .list k => S ["(list"," "] ++ ktx k ++ S [")"]
  | .to a b => S ["(to"," "] ++ ktx a ++ S [" "] ++ ktx b ++ S [")"]
def wtx : WT → List Str
  | .num i => [numT i]
  | .truth b => [if b then "yes" else "no"]
  | .name x => [x]
  | .nil k => S ["(nil"," "] ++ ktx k ++ S [")"]
  | .lam x k b => S ["(fun"," ",x," "] ++ ktx k ++ S [" "] ++ wtx b ++ S [")"]
  | .add a b => S ["(add"," "] ++ wtx a ++ S [" "] ++ wtx b ++ S [")"]
  | .less a b => S ["(less"," "] ++ wtx a ++ S [" "] ++ wtx b ++ S [")"]
  | .front a b => S ["(front"," "] ++ wtx a ++ S [" "] ++ wtx b ++ S [")"]
  | .call a b => S ["(call"," "] ++ wtx a ++ S [" "] ++ wtx b ++ S [")"]
  | .cond a b c => S ["(if"," "] ++ wtx a ++ S [" "] ++ wtx b ++ S [" "] ++ wtx c ++ S [")"]
  | .case k h t a b c => S ["(case"," "] ++ ktx k ++ S [" "] ++ wtx a ++ S [" "] ++ wtx b ++ S [" ",h," ",t," "] ++ wtx c ++ S [")"]
def Pc.tx : Pc → List Str
  | .text s => [s]
  | .name s => [s]
  | .kind k => ktx k
  | .part t => wtx t
def ptxs : List Pc → List Str
  | [] => []
  | p :: r => p.tx ++ ptxs r
theorem ptxs_append (a b : List Pc) : ptxs (a ++ b) = ptxs a ++ ptxs b := by
  induction a with
  | nil => simp [ptxs]
  | cons p r ih => simp only [List.cons_append,ptxs,ih,List.append_assoc]
theorem kpcs_tx (k : Kd) : ptxs (kpcs k) = ktx k := by cases k <;> simp [kpcs,ptxs,Pc.tx,ktx,bl]
theorem wpcs_tx (t : WT) : ptxs (wpcs t) = wtx t := by cases t <;> simp [wpcs,ptxs,Pc.tx,wtx,bl]
def lineT (t : WT) : Str := Txt.join "" (wtx t)
end Wk
namespace L2
open PySem PySem.Spec PyProof.Rows
section
variable {X : Cx} {pins : List (Addr × Obj)} {σ : St} {H : Hp} {s : Shared}
theorem vals_strs : ∀ {xs : List Str} {us : List Value},Vals (xs.map V.str) us → StrsAre us xs
  | [],_,.nil => .nil
  | x :: xs,_,.cons r t => by obtain ⟨tk,rfl⟩ := r; exact .cons _ _ (vals_strs t)
def rJoin : V → List V → Hp → VK → Prop := fun x vs H Q => ∃ (sep : Str) (l : Addr) (xs : List Str),x = .str sep ∧ vs = [.ref l] ∧ Rd H l (.lst (xs.map V.str)) ∧ (xs.map (·.length)).sum + xs.length * sep.length ≤ 16777216 ∧ Q (.str (Txt.join sep xs)) H
theorem mt_join : MtM X "str.join" rJoin := by
  intro pins s σ H x vs v us Q I rx rv h
  obtain ⟨sep,l,xs,rfl,rfl,hH,hz,q⟩ := h
  obtain ⟨t,rfl⟩ := rx
  obtain ⟨u,rfl,ru⟩ := rv.one
  cases ru
  obtain ⟨z,its,n,r,e⟩ := hH.ok I.hok
  exact join_list ⟨_,e,rfl,n,rfl⟩ (by simpa using vals_strs r) hz fun t' k => ⟨.str _,H,I.tok _,⟨_,rfl⟩,q⟩
variable {ρ ρ' : List Sl} {Φ : Hp → St → Prop} {a b e : Expr} {ra rb : Sl} {pos p p2 p3 apos cpos : Pos} {d d1 : PyData} {xs : List PyData}
theorem reps_strs {K : PySem.W.Frag} {H : Hp} : ∀ {xs : List Str} {vs : List V}, Reps K H (xs.map PyData.str) vs → vs = xs.map V.str
  | [], vs, h => by rw [List.map_nil, Reps] at h; exact h
  | x :: xs, vs, h => by
    obtain ⟨v, r, rfl, h1, h2⟩ := h.split
    rw [h1.is_str, reps_strs h2]; rfl
theorem ve_join {sep : Str} {xs : List Str} (ha : VE X ρ a (.d (.str sep))) (hb : VE X ρ b rb) (eb : rb.itsF = some (xs.map .str)) (hz : (xs.map (·.length)).sum + xs.length * sep.length ≤ 16777216)
    (hbase : attributeBase a "join" X.env (eval a X.env) = eval a X.env := by rfl)
    (hfew : ((backTo cpos (starEach [b] X.env)).all (fun x => !x.1) && (backToKw cpos (keywordEach [] X.env)).all (fun x => x.1.isSome) && decide ([b].length + ([] : List Keyword).length + (if ([] : List Keyword).isEmpty then 0 else 1) < 30)) = true := by rfl)
    (hline : (apos.endLine == cpos.line) = true := by rfl) (hs : starEach [b] X.env = (false,eval b X.env) :: starEach [] X.env := by rfl) (hplain : (backTo cpos (starEach [] X.env)).any (·.1) = false := by rfl) : VE X ρ (.Call (.Attribute a "join" apos) [b] [] cpos) (.d (.str (Txt.join sep xs))) :=
  PE.weak (pe_bm PySem.F.plainAttrs_str PySem.F.slot_str_join PySem.F.type_str_join mt_join ha (pa_cons hb pa_nil hs) hbase hfew hline hs hplain) fun σ H Q ⟨er,q⟩ => ⟨er,fun v H1 s1 r1 => by
    obtain rfl := RsR.is_str r1
    refine ⟨rfl,er_grow er s1,fun u H2 s2 r2 => ?_⟩
    obtain ⟨l,vs,rfl,hq,rp⟩ := r2.rd.lstF eb
    obtain rfl := reps_strs rp
    exact ⟨sep,l,xs,rfl,rfl,hq,hz,q _ H2 (s1.trans s2) RsR.str⟩⟩
theorem ve_strI {i : Int} (hm : X.mg "str" = none) (ha : VE X ρ a (.d (.int i))) (hz : i.natAbs.log2 < 1920) (hg : Gl X "str" := by rfl) (hs : starEach [a] X.env = [(false,eval a X.env)] := by rfl) : VE X ρ (.Call (.Name "str" p) [a] [] pos) (.d (.str (Str.ofString (toString i)))) :=
  PE.weak (pe_callTy call_str_int hg hm PyProof.Rows.boot_str (pa_cons ha pa_nil hs) (by decide) (by decide) hs) fun σ H Q ⟨er,q⟩ => ⟨er,fun v H1 s1 r1 => ⟨i,by rw [RsR.is_int r1],hz,q _ H1 s1 RsR.str⟩⟩
theorem ve_abs {i : Int} (hm : X.mg "abs" = none) (ha : VE X ρ a (.d (.int i))) (hg : Gl X "abs" := by rfl) (hs : starEach [a] X.env = [(false,eval a X.env)] := by rfl) : VE X ρ (.Call (.Name "abs" p) [a] [] pos) (.d (.int (i.natAbs : Int))) :=
  PE.weak (pe_callB call_abs hg hm PyProof.Rows.boot_abs (pa_cons ha pa_nil hs) (by decide) (by decide) hs) fun σ H Q ⟨er,q⟩ => ⟨er,fun v H1 s1 r1 => ⟨i,by rw [RsR.is_int r1],by
    rw [show (if i < 0 then -i else i) = (i.natAbs : Int) from by split <;> omega]
    exact q _ H1 s1 RsR.int⟩⟩
theorem vm_pop0 {i : Nat} {x : Str} {j : Nat} (hi : ixA x X.N 0 = some i) (hr : ρ[i]? = some (.o (d :: xs)))
    (hv : Vis X.env.scope x := by first | exact Or.inl rfl | exact Or.inr (Or.inl rfl) | exact Or.inr (Or.inr rfl)) (hd : (x == ("__debug__" : Str)) = false := by decide) (hcd : (x == ("__classdict__" : Str)) = false := by decide)
    (hbase : attributeBase (.Name x p2) "pop" X.env (eval (.Name x p2) X.env) = eval (.Name x p2) X.env := by rfl)
    (hfew : ((backTo cpos (starEach [.Constant (.int 0) j p3] X.env)).all (fun x => !x.1) && (backToKw cpos (keywordEach [] X.env)).all (fun x => x.1.isSome) && decide ([Expr.Constant (.int 0) j p3].length + ([] : List Keyword).length + (if ([] : List Keyword).isEmpty then 0 else 1) < 30)) = true := by rfl)
    (hline : (apos.endLine == cpos.line) = true := by rfl) (hs : starEach [.Constant (.int 0) j p3] X.env = (false,eval (.Constant (.int 0) j p3) X.env) :: starEach [] X.env := by rfl) (hplain : (backTo cpos (starEach [] X.env)).any (·.1) = false := by rfl) :
    VM X Φ ρ (.Call (.Attribute (.Name x p2) "pop" apos) [.Constant (.int 0) j p3] [] cpos) d (ρ.set i (.o xs)) :=
  PE.weak (pe_bm PySem.F.plainAttrs_list PySem.F.slot_list_pop PySem.F.type_list_pop mt_popAt (pe_var (ixA_N hi) hv hd hcd) (pa_cons pe_int pa_nil hs) hbase hfew hline hs hplain) fun σ H Q ⟨H0,hs,φ,er,q⟩ => by
    obtain ⟨a,h1,⟨vs,h2,h3⟩,h4⟩ := er.own i _ hr
    obtain ⟨v,ws,rfl,h5,h6⟩ := h3.split
    have tl : TupLe X.K H (upd H a (.lst ws)) := (SameBut.upd _).tup h2
    refine ⟨_,h1,.inl ⟨rfl,_,SqL.of h2⟩,?_⟩
    exact ⟨a,_,0,0,v,rfl,rfl,h2,by decide,by decide,by simp [seqIndex?],rfl,q v _ tl (er.write hr h1 h2 h6) (Rep.mono tl _ _ h5)⟩
theorem vm_tup2 {k : Nat} (h1 : VE X ρ a (.d d1)) (h2 : VM X Φ ρ b d ρ') (hs : starEach [a,b] X.env = (false,eval a X.env) :: starEach [b] X.env := by rfl) (hs2 : starEach [b] X.env = (false,eval b X.env) :: starEach [] X.env := by rfl) : VM X Φ ρ (.Tuple [a,b] k pos) (.tuple [d1,d]) ρ' :=
  PE.weak (pe_tup (pa_cons h1 (pa_cons h2 pa_nil hs2) hs)) fun σ H Q ⟨H0,hs,φ,er,q⟩ => ⟨⟨H0,hs,er⟩,fun v H1 s1 r1 => ⟨H0,hs,φ,er.grow s1,fun u H2 t2 e2 r2 => ⟨by show 2 ≤ sizeLine; decide,fun t nt => by
    have s3 := same_upd nt (.tup [v,u])
    exact q _ _ (((TupLe.of_same s1).trans t2).trans (TupLe.of_same s3)) (e2.grow s3) (Rep.tuple (SqT.of upd_same) (.cons (Rep.mono (t2.trans (TupLe.of_same s3)) _ _ r1) (.cons (Rep.mono (TupLe.of_same s3) _ _ r2) .nil)))⟩⟩⟩
structure TabK (P : Program) (w : World) (K : PySem.W.Frag) (mg : Str → Option Value) (x : Str) (f : Str → Option (List Str)) : Prop where
  ex : ∃ F o vs,mg x = some (.ref F) ∧ K.lookup F = some o ∧ o.IsDictOf (mixKind P w) vs ∧ (F == sysModules) = false ∧ ∀ y,match f y with
    | some ds => ∃ t,valueAt vs (.inr y : Key) = some (.ref t) ∧ ∀ H,SqT K H t (ds.map V.str)
    | none => valueAt vs (.inr y : Key) = none
theorem strs_reps {K : PySem.W.Frag} {H : Hp} : ∀ (xs : List Str),Reps K H (xs.map PyData.str) (xs.map V.str)
  | [] => .nil
  | x :: xs => .cons (.str x) (strs_reps xs)
theorem ve_tabK {x y : Str} {f : Str → Option (List Str)} {ds : List Str} (T : TabK X.prog X.w X.K X.mg x f) (hb : VE X ρ b (.d (.str y))) (h : f y = some ds) (hg : Gl X x := by rfl) (hd : (x == ("__debug__" : Str)) = false := by decide) (hs : NoSl b := by exact fun _ _ => rfl) :
    VE X ρ (.Subscript (.Name x p2) b pos) (.d (.tuple (ds.map .str))) := by
  obtain ⟨F,o,vs,h1,h2,h3,h4,h5⟩ := T.ex
  have h6 := h5 y
  rw [h] at h6
  obtain ⟨t,h7,h8⟩ := h6
  have go : PE X (.Subscript (.Name x p2) b pos) (fun σ H Q => (tR X.K ρ (.d (.str y))) σ H fun _ H1 => Q (.ref t) H1) := by
    intro pins s σ H Q I hq
    refine subD_of PySem.F.slot_dict_getitem.lookup hs (thn (pe_glob (v := .ref F) hg h1 rfl hd pins s σ H (fun u H' => u = .ref F ∧ H' = H) I ⟨rfl,rfl⟩) fun u s1 ⟨v,H1,I1,rx,e1,e2⟩ => ?_)
    subst e1 e2
    refine thn (hb pins s1 σ H1 (fun z H' => z = .str y ∧ Q (.ref t) H') I1 ⟨hq.1,fun v H' s' r => ⟨RsR.is_str r,hq.2 v H' s' r⟩⟩) fun iv s2 ⟨z,H2,I2,ry,e3,q2⟩ => ?_
    subst e3
    cases rx
    have dd : s2.heap.DictOf (mixKind X.prog X.w) F vs := Heap.dictOf_iff.mpr ⟨o,I2.kIn F o h2,h3⟩
    exact ⟨dd.typeIs,wpAny_getItem_of (kV_is (k := .inr y) ry) dd.mapOf h7 ⟨.ref t,H2,I2.tok _,rfl,q2⟩⟩
  exact PE.weak go fun σ H Q ⟨er,q⟩ => ⟨er,fun u H2 s2 r2 => q _ H2 s2 (RsR.mk (h8 H2) (strs_reps ds))⟩
end
end L2
namespace L2
open PySem PySem.Spec PyProof.Rows
section
variable {X : Cx} {ρ ρ' : List Sl} {e : Expr} {pos p p2 : Pos} {d : PyData} {Q : Out → Prop} {rest : List Stmt}
theorem vs_appendV {i : Nat} {x : Str} {ys xs : List PyData} {apos cpos : Pos} (hi : ixA x X.N 0 = some i) (hr0 : ρ[i]? = some (.o ys)) (hr : ρ'[i]? = some (.o xs)) (h : VM X (fun _ _ => True) ρ e d ρ') (hz : xs.length < sizeLine) (k : VS X rest (ρ'.set i (.o (xs ++ [d]))) Q)
    (hv : Vis X.env.scope x := by first | exact Or.inl rfl | exact Or.inr (Or.inl rfl) | exact Or.inr (Or.inr rfl)) (hd : (x == ("__debug__" : Str)) = false := by decide) (hcd : (x == ("__classdict__" : Str)) = false := by decide)
    (hbase : attributeBase (.Name x p2) "append" X.env (eval (.Name x p2) X.env) = eval (.Name x p2) X.env := by rfl)
    (hfew : ((backTo cpos (starEach [e] X.env)).all (fun x => !x.1) && (backToKw cpos (keywordEach [] X.env)).all (fun x => x.1.isSome) && decide ([e].length + ([] : List Keyword).length + (if ([] : List Keyword).isEmpty then 0 else 1) < 30)) = true := by rfl)
    (hline : (apos.endLine == cpos.line) = true := by rfl) (hs : starEach [e] X.env = [(false,eval e X.env)] := by rfl) (hplain : (backTo cpos (starEach [] X.env)).any (·.1) = false := by rfl)
    (hsw : swapsWith (.Call (.Attribute (.Name x p2) "append" apos) [e] [] cpos) none pos.line X.env = pure false := by rfl) : VS X (.Expr (.Call (.Attribute (.Name x p2) "append" apos) [e] [] cpos) pos :: rest) ρ Q :=
  vs_of (ps_expr (pe_bm PySem.F.plainAttrs_list PySem.F.slot_list_append PySem.F.type_list_append mt_append (pe_var (ixA_N hi) hv hd hcd) (pa_cons h pa_nil hs) hbase hfew hline hs hplain) hsw) fun H0 hs D σ H er l => by
    obtain ⟨a,h1,⟨vs,h2,h3⟩,h4⟩ := er.own i ys hr0
    refine ⟨_,h1,.inl ⟨rfl,vs,SqL.of h2⟩,H0,hs,trivial,er,fun v H' t e' rv => ?_⟩
    obtain ⟨a',g1,⟨ws,g2,g3⟩,_⟩ := e'.own i xs hr
    rw [h1] at g1
    cases g1
    exact ⟨a,ws,v,rfl,rfl,g2,by rw [g3.length]; exact hz,l.nx _ _ ⟨_,k,e'.write hr h1 g2 (g3.append (.one rv))⟩⟩
end
end L2
namespace Wk
open PySem L2 PySem.Spec PyProof.Rows
def NumOk (i : Int) : Prop := (figs (i.natAbs + 1) i.natAbs).length ≤ 1000000
def WT.ok : WT → Prop
  | .num i => NumOk i
  | .lam _ _ b => b.ok
  | .add a b => a.ok ∧ b.ok
  | .less a b => a.ok ∧ b.ok
  | .front a b => a.ok ∧ b.ok
  | .call a b => a.ok ∧ b.ok
  | .cond a b c => a.ok ∧ b.ok ∧ c.ok
  | .case _ _ _ a b c => a.ok ∧ b.ok ∧ c.ok
  | _ => True
def Pc.ok : Pc → Prop
  | .part t => t.ok
  | _ => True
theorem wpcs_ok {t : WT} (h : t.ok) : ∀ p ∈ wpcs t,p.ok := by
  intro p hp
  cases t <;> simp only [wpcs,bl,List.mem_cons,List.not_mem_nil,or_false] at hp <;> simp only [WT.ok] at h <;> (rcases hp with rfl | hp <;> try trivial) <;> (repeat' (rcases hp with rfl | hp)) <;> first | trivial | (subst hp; trivial) | exact h | exact h.1 | exact h.2 | exact h.2.1 | exact h.2.2 | (subst hp; first | exact h | exact h.1 | exact h.2 | exact h.2.1 | exact h.2.2)
theorem kpcs_ok (k : Kd) : ∀ p ∈ kpcs k,p.ok := by
  intro p hp
  cases k <;> simp only [kpcs,bl,List.mem_cons,List.not_mem_nil,or_false] at hp <;> (repeat' (rcases hp with rfl | hp)) <;> first | trivial | (subst hp; trivial)
def formOf (x : Str) : Option (List Str) :=
  if x = "list" then some ["kind"] else if x = "to" then some ["kind","kind"] else if x = "add" then some ["part","part"] else if x = "less" then some ["part","part"] else if x = "if" then some ["part","part","part"]
  else if x = "nil" then some ["kind"] else if x = "front" then some ["part","part"] else if x = "case" then some ["kind","part","part","name","name","part"] else if x = "fun" then some ["name","kind","part"] else if x = "call" then some ["part","part"] else none
def blD : PyData := .tuple [.str "text",.str " "]
def asm : List Str → List PyData → List PyData → Option (List PyData)
  | [], _, _ => some []
  | due :: r, ms, os =>
    if due = "part" then match os with
      | o :: os => (asm r ms os).map fun t => blD :: .tuple [.str due, o] :: t
      | [] => none
    else match ms with
      | m :: ms => (asm r ms os).map fun t => blD :: .tuple [.str due, m] :: t
      | [] => none
def RFigs : List Sl → Sl → Prop := fun as r => ∃ i : Int,as = [.d (.int i)] ∧ NumOk i ∧ r = .d (.str (numT i))
def RBrk : List Sl → Sl → Prop := fun as r => ∃ (x : Str) (ms os ps : List PyData) (ds : List Str),as = [.d (.str x),.d (.tuple ms),.d (.tuple os)] ∧ x.length ≤ 100 ∧ formOf x = some ds ∧ asm ds ms os = some ps ∧ r = .o ([.tuple [.str "text",.str ("(" ++ x)]] ++ ps ++ [.tuple [.str "text",.str ")"]])
def RPKind : List Sl → Sl → Prop := fun as r => ∃ k : Kd,as = [.d (kdD k)] ∧ r = .o ((kpcs k).map pcD)
def RPPart : List Sl → Sl → Prop := fun as r => ∃ t : WT,as = [.d (wtD t)] ∧ t.ok ∧ r = .o ((wpcs t).map pcD)
def RSpell : List Sl → Sl → Prop := fun as r => ∃ ps : List Pc,as = [.l (ps.map pcD)] ∧ (∀ p ∈ ps,p.ok) ∧ pwts ps ≤ 1000000 ∧ ((ptxs ps).map (·.length)).sum ≤ 16777216 ∧ r = .d (.str (Txt.join "" (ptxs ps)))
def RShownW : List Sl → Sl → Prop := fun as r => ∃ t : WT,as = [.d (wtD t)] ∧ t.ok ∧ wwt t ≤ 1000000 ∧ ((wtx t).map (·.length)).sum ≤ 16777216 ∧ r = .d (.str (lineT t))
end Wk
namespace L2
open PySem PySem.Spec PyProof.Rows
def PEpos (X : Cx) (e : Expr) (t : TE) : Prop :=
  ∀ (pins : List (Addr × Obj)) (s : Shared) (σ : St) (H : Hp) (Q : VK),1 ≤ s.toks → Inv X pins σ H s → t σ H Q → wpAny (model X.prog X.w) X.A (eval e X.env) (EP X pins σ Q) X.xe s
def PSpos (X : Cx) (st : Stmt) (t : TS) : Prop :=
  ∀ (pins : List (Addr × Obj)) (s : Shared) (σ : St) (H : Hp) (D : Ends),1 ≤ s.toks → Inv X pins σ H s → t D σ H → wpAny (model X.prog X.w) X.A (exec st X.env) (SP X pins D) X.xe s
def PSspos (X : Cx) (st : List Stmt) (t : TS) : Prop :=
  ∀ (pins : List (Addr × Obj)) (s : Shared) (σ : St) (H : Hp) (D : Ends),1 ≤ s.toks → Inv X pins σ H s → t D σ H → wpAny (model X.prog X.w) X.A (execs st X.env) (SP X pins D) X.xe s
def PIpos (X : Cx) (tg iter : Expr) (wi : TI) : Prop :=
  ∀ (pins : List (Addr × Obj)) (s : Shared) (σ : St) (H : Hp) (R : It → Hp → Prop),1 ≤ s.toks → Inv X pins σ H s → wi σ H R →
    wpAny (model X.prog X.w) X.A (eval iter X.env) (fun v s1 => wpAny (model X.prog X.w) X.A (pyIter v) (PIE X pins σ tg R) X.xe s1) X.xe s
structure FnOkP (P : Program) (w : World) (K : PySem.W.Frag) (mg : Str → Option Value) (base : Heap) (CX : CXT) (k : Nat) (f : Addr) (fd : FuncData) (ps : List Str) (sp : Sp) : Prop where
  len : ∀ vs H Q E,sp vs H Q E → vs.length = ps.length
  run : ∀ (A : Around) (outer : List Env) (s : Shared) (H : Hp) (args : Args) (us : List Value) (vs : List V) (Q : VK) (E : XK),Room k A → 1 ≤ s.toks → Env0 P w K mg base A outer s H → BindsTo s fd args (ps.zip us) → Vals vs us → sp vs H Q E →
    codeAny (model P w) A (.call (.ref f) args) (CR CX outer P w H s Q E) s
theorem PE.pos {X : Cx} {e : Expr} {t : TE} (h : PE X e t) : PEpos X e t := fun pins s σ H Q _ I q => h pins s σ H Q I q
theorem PEpos.weak {X : Cx} {e : Expr} {t t' : TE} (h : PEpos X e t) (w : ∀ σ H Q,t' σ H Q → t σ H Q) : PEpos X e t' := fun pins s σ H Q tp I q => h pins s σ H Q tp I (w σ H Q q)
theorem PSspos.weak {X : Cx} {st : List Stmt} {t t' : TS} (h : PSspos X st t) (w : ∀ D σ H,t' D σ H → t D σ H) : PSspos X st t' := fun pins s σ H D tp I q => h pins s σ H D tp I (w D σ H q)
theorem PSspos.nox {X : Cx} {st : List Stmt} {t : TS} (h : PSspos X.nox st t) : PSspos X st t := fun pins s σ H D tp I hw =>
  wpAny_mono (h pins s σ H D tp (I.wish _) hw) (fun _ _ q => q.unwish) fun _ _ z => False.elim z
section
variable {X : Cx} {tg : Expr} {st : Stmt} {rest : List Stmt} {t u : TS} {e : Expr} {te : TE} {pos : Pos}
theorem pssp_cons (h1 : PSpos X st t) (h2 : PSs X rest u) : PSspos X (st :: rest) (tSeq t u) := by
  intro pins s σ H D tp I h
  refine wpAny_execs_cons (thn (h1 pins s σ H { D with nx := u D } tp I h) fun f s1 q => ?_)
  cases f with
  | next =>
    obtain ⟨σ', H', I', q⟩ := q
    exact h2 pins s1 σ' H' D I' q
  | ret v => exact q
  | brk => exact q
  | cont => exact q
theorem pssp_next (h1 : PS X st t) (h2 : PSspos X rest u) : PSspos X (st :: rest) (tSeq t u) := by
  intro pins s σ H D tp I h
  refine wpAny_execs_cons (wpAny_mono (wpAny_toks_of tp (h1 pins s σ H { D with nx := u D } I h)) (fun f s1 ⟨tp1, q⟩ => ?_) fun _ _ z => z.2)
  cases f with
  | next =>
    obtain ⟨σ', H', I', q⟩ := q
    exact h2 pins s1 σ' H' D tp1 I' q
  | ret v => exact q
  | brk => exact q
  | cont => exact q
theorem psp_set {i : Nat} {x : Str} {pos' : Pos} (hN : X.N.Nodup) (hi : X.N[i]? = some x) (hx : Loc X.env.scope x) (he : PEpos X e te) (hs : swapsWith e (some (.Name x pos')) pos.line X.env = pure false := by rfl) (hf : X.fn x = true ∨ X.env.scope.names.lookup x = some .local := by first | exact .inl rfl | exact .inr rfl | assumption) :
    PSpos X (.Assign [.Name x pos'] e pos) (tAsg te (gName i)) := by
  intro pins s σ H D tp I h
  refine wpAny_Assign_Name (thn (he pins s σ H _ tp I h) fun v s1 ⟨y,H1,I1,r1,q1⟩ => ?_) hs
  exact store_ok I1 hN hi hx r1 (fun s2 I2 => ⟨_,H1,I2,q1⟩) hf
theorem psp_for {iter : Expr} {body : List Stmt} {wi : TI} {g : TG} {tb : TS} {pos : Pos} (hp : PassesOwn (model X.prog X.w) X.A X.env X.xe) (hc : X.calm = true) (hi : PIpos X tg iter wi) (hg : PG X tg g) (hb : PSs X body tb)
    (hs : ∀ x,foldedSetIterable iter X.env x = pure x := by intro _; rfl) : PSpos X (.For tg iter body [] pos) (tFor wi g tb) := by
  intro pins s σ H D tp I h
  refine wpAny_For (thn (hi pins s σ H _ tp I h) fun v s1 h1 => thn h1 fun itv s2 h2 => ?_) hs
  obtain ⟨it,fp,tn,J,H2,e,I2,T,st2,f2,W,⟨m0,w0⟩,turn⟩ := h2
  subst e
  have stat : ∀ {H' : Hp},(∀ b ∈ fp,H' b = none) → ∀ b ∈ fp,FpOk X pins H' b := fun hn b hb => ⟨hn b hb,(f2 b hb).2⟩
  refine codeAny_forLoop_any (fun n s' => ∃ i σ' H',Inv X pins σ' H' s' ∧ tn i s'.heap ∧ (∀ b ∈ fp,H' b = none) ∧ W i n σ' H') ?_ m0 ⟨0,σ,H2,I2,st2,fun b hb => (f2 b hb).1,w0⟩
  rintro n s3 ⟨i,σ3,H3,I3,st3,fr3,w3⟩
  rcases turn i n σ3 H3 w3 with ⟨stop,qn⟩ | ⟨go,N,hN,step⟩
  · refine wpAny_passesOwn hp (thn (T.done X rfl rfl rfl hc i pins s3 σ3 H3 X.xe I3 (stat fr3) st3 stop) fun r s4 ⟨hr,I4⟩ => ?_)
    subst hr
    exact wpAny_execs_nil ⟨σ3,H3,I4,qn⟩
  · refine wpAny_passesOwn hp (thn (T.item X rfl rfl rfl hc i pins s3 σ3 H3 X.xe I3 (stat fr3) st3 go) fun r s4 ⟨u,hr,h4⟩ => ?_)
    subst hr
    refine wpAny_passesOwn hp (thn h4 fun _ s5 ⟨x,H5,I5,r5,y5,st5,fr5⟩ => ?_)
    have I5' := I5.pinned (stat fr5) (T.obj _ _ st5)
    refine wpAny_passesOwn hp (thn (hg _ s5 σ3 H5 x u _ I5' r5 (step x H5 y5)) fun _ s6 ⟨σ6,H6,I6,q6⟩ => ?_)
    refine wpAny_passesOwn hp (thn (hb _ s6 σ6 H6 _ I6 q6) fun f s7 q7 => ?_)
    have again : ∀ {σ7 : St} {H7 : Hp},Inv X (pins ++ pinsAt fp s5.heap) σ7 H7 s7 → N σ7 H7 → ∃ m,m < n ∧ ∃ i σ' H',Inv X pins σ' H' s7 ∧ tn i s7.heap ∧ (∀ b ∈ fp,H' b = none) ∧ W i m σ' H' := fun {σ7 H7} I7 n7 => by
      obtain ⟨m',hm,w7⟩ := hN σ7 H7 n7
      refine ⟨m',hm,i + 1,σ7,H7,I7.unpinned,T.keep _ _ _ st5 fun b hb o e => (I7.pin (b,o) (List.mem_append_right _ (List.mem_append_right _ (mem_pinsAt hb e)))).1,fun b hb => ?_,w7⟩
      obtain ⟨o,e,d⟩ := T.obj _ _ st5 b hb
      exact (I7.pin (b,o) (List.mem_append_right _ (List.mem_append_right _ (mem_pinsAt hb e)))).2.1
    cases f with
    | next => obtain ⟨σ7,H7,I7,n7⟩ := q7; exact again I7 n7
    | cont => obtain ⟨σ7,H7,I7,n7⟩ := q7; exact again I7 n7
    | brk => obtain ⟨σ7,H7,I7,q7⟩ := q7; exact ⟨σ7,H7,I7.unpinned,q7⟩
    | ret v => obtain ⟨x7,σ7,H7,I7,r7,q7⟩ := q7; exact ⟨x7,σ7,H7,I7.unpinned,r7,q7⟩
theorem pip_list {l : Expr} {tl : TE} (hl : PEpos X l tl) : PIpos X tg l (iList X.K tl) := by
  intro pins s σ H R tp I h
  refine thn (hl pins s σ H _ tp I h) fun v s1 ⟨x,H1,I1,r1,q1⟩ => ?_
  obtain ⟨a,e,⟨xs,hq⟩,q⟩ := q1
  subst e
  cases r1
  obtain ⟨its,rv,p,hz⟩ := I1.list hq
  refine wpAny_pyIter_list p.isList ?_
  refine ⟨s1.heap.objs.size,[s1.heap.objs.size],_,_,H1,rfl,I1.kept (t' := s1.toks) fun b o e => Heap.get?_push_of_some _ e,turn_list a _,⟨_,Heap.get?_push_size _ rfl,rfl,rfl⟩,fun b hb => ?_,q⟩
  have e : b = s1.heap.objs.size := by simpa using hb
  subst e
  exact I1.fpOk (Nat.le_refl _) (I1.hok.fresh (Nat.le_refl _))
end
section
variable {X : Cx} {CX : CXT} {k : Nat} {f C : Addr} {fd : FuncData} {ps : List Str} {sp : Sp} {dvs : List V} {ds : List Value} {E : XK} {x m : Str} {p pos apos : Pos} {e o : Expr} {es : List Expr} {ta : TE} {t : TA}
theorem run_fnp {pins : List (Addr × Obj)} {σ : St} {H : Hp} {s : Shared} {Q : VK} {us : List Value} {vs : List V} (F : FnOkP X.prog X.w X.K X.mg X.base CX k f fd ps sp) (hr : Room k X.A) (hb : Binds X.K fd ps ds) (hd : Vals dvs ds) (hx : Passes CX X E) (tp : 1 ≤ s.toks)
    (I : Inv X pins σ H s) (r : Vals vs us) (h : sp (vs ++ dvs) H Q E) : wpAny (model X.prog X.w) X.A (call (.ref f) us) (EP X pins σ Q) X.xe s := by
  have r2 : Vals (vs ++ dvs) (us ++ ds) := r.append hd
  have hl : (us ++ ds).length = ps.length := by rw [← r2.length]; exact F.len _ _ _ _ h
  refine wpAny_call (codeAny_mono (F.run X.A X.stack s H ⟨us, []⟩ (us ++ ds) (vs ++ dvs) Q E hr tp I.env0 (hb s us I.kIn hl) r2 h) fun r s' hq => ?_)
  cases r with
  | error e => exact hx pins σ H s e s' I hq
  | ok fl =>
    cases fl with
    | ret u => exact I.after hq
    | next => exact False.elim hq
    | brk => exact False.elim hq
    | cont => exact False.elim hq
theorem pep_call (F : FnOkP X.prog X.w X.K X.mg X.base CX k f fd ps sp) (hr : Room k X.A) (hg : Gl X x) (hm : X.mg x = some (.ref f)) (hk : PySem.W.keepIn X.K (.ref f) = true) (hb : Binds X.K fd ps ds) (hd : Vals dvs ds) (hx : Passes CX X E)
    (ha : PA X (e :: es) t) (hdb : (x == ("__debug__" : Str)) = false := by decide) (he : starEach (e :: es) X.env = (false,eval e X.env) :: starEach es X.env := by rfl) (hpl : (backTo pos (starEach es X.env)).any (·.1) = false := by rfl) :
    PEpos X (.Call (.Name x p) (e :: es) [] pos) (tCall sp dvs E t) := by
  intro pins s σ H Q tp I h
  refine wpAny_Call_Name_kw (ld_glob I hg hm ?_ hdb)
  refine PySem.W.callWith_K (h₀ := X.base) I.ok.mod.kin hk (wpAny_mono (wpAny_toks_of tp (ha pos pins s σ H _ I h)) (fun us s1 ⟨tp1,vs,H1,I1,r,q⟩ => ⟨I1.kIn,?_⟩) fun _ _ z => z.2) he hpl
  exact run_fnp F hr hb hd hx tp1 I1 r q
end
def DefOkP (P : Program) (w : World) (K : PySem.W.Frag) (mg : Str → Option Value) (base : Heap) (k : Nat) (x : Str) (ps : List Str) (sp : Sp) : Prop :=
  ∃ (f : Addr) (fd : FuncData),FnOkP P w K mg base CX0 k f fd ps sp ∧ Binds K fd ps [] ∧ PySem.W.keepIn K (.ref f) = true ∧ mg x = some (.ref f)
theorem fnp_of {CX : CXT} {P : Program} {w : World} {K : PySem.W.Frag} {mg : Str → Option Value} {base : Heap} {k : Nat} {f : Addr} {name qual : Str} {params : Arguments} {body : List Stmt} {scope : Scope} {dV kV doc pm cdv ct oc : Value} {an od : Option Addr}
    {osl : Array (Option Value)} {N ps : List Str} {sp : Sp} (lk : K.lookup f = some ⟨oc, od, .func (PySem.W.fnOf name qual params body scope dV kV doc pm an cdv ct), osl⟩) (hcd : PySem.W.codeIn K cdv qual = true) (S : FnScope N ps scope)
    (len : ∀ vs H Q E, sp vs H Q E → vs.length = ps.length)
    (hbody : ∀ (A : Around) (outer : List Env) (s : Shared) (H : Hp) (vs : List V) (Q : VK) (E : XK), Room k (A.deeper (envOfC qual scope s.heap.objs.size f cdv)) → sp vs H Q E →
      ∃ t, PSspos (cxOf CX P w K mg base N qual scope f cdv A outer s H E) body t ∧ t { nx := fun _ H' => Q .non H', rt := Q } (start N vs) H) :
    FnOkP P w K mg base CX (k + 1) f (PySem.W.fnOf name qual params body scope dV kV doc pm an cdv ct) ps sp := by
  refine ⟨len, fun A outer s H args us vs Q E hr tp e0 hb r hsp => ?_⟩
  have hl := len _ _ _ _ hsp
  have KX : K.In s.heap := e0.mod.kin.keeps fun b o e => (e0.bs b o e).1
  have lim : s.heap.NoLimit := e0.mod.nolimit.keeps fun b o e => (e0.bs b o e).1
  have hkind : ∀ y ∈ ps.zip us, scope.names.lookup y.1 = some .local ∨ (scope.names.lookup y.1 = some .cell ∧ ((cellsFrom (s.heap.objs.size + 1) scope.names []).lookup y.1).isSome = true) := fun ⟨n, v⟩ hy => by
    rcases S.par n (List.of_mem_zip hy).1 with q | q
    · exact .inl q
    · exact .inr ⟨q, PySem.W.cellsFrom_some _ _ _ (.inl q)⟩
  refine codeAny_call_function hr.depth (KX _ _ lk) rfl S.co S.gen rfl (PySem.W.codeRec_of KX hcd) (hb _ _ _ _ ?_)
  refine wpAny_with_toks tp (wpAny_newFunctionEnv_cells S.kind hkind fun env he s1 x tp1 => ?_)
  subst he
  refine ⟨lim.keeps x.toInCall.keep, codeAny_func ?_⟩
  obtain ⟨t, ht, hq⟩ := hbody A outer s H vs Q E (hr.deeper _) hsp
  have I : Inv (cxOf CX P w K mg base N qual scope f cdv A outer s H E) [] (start N vs) H s1 := inv_start S hr.hd e0 hl r x
  refine wpAny_mono (ht [] s1 (start N vs) H _ tp1 I hq) (fun fl s' hs => ?_) fun e s' hs => hs
  have fin : ∀ {σ' : St} {H' : Hp} {v : V} {u : Value}, Inv (cxOf CX P w K mg base N qual scope f cdv A outer s H E) [] σ' H' s' → RelV v u → Q v H' → CE outer P w H s Q u s' :=
    fun {σ' H' v u} J rv q => ⟨v, H', J.os, J.bare, J.base, J.hok, rv, q⟩
  cases fl with
  | ret u =>
    obtain ⟨v, σ', H', J, rv, q⟩ := hs
    exact fin J rv q
  | next =>
    obtain ⟨σ', H', J, q⟩ := hs
    exact fin (v := V.non) (u := Value.none) J rfl q
  | brk =>
    obtain ⟨_, _, _, q⟩ := hs
    exact False.elim q
  | cont =>
    obtain ⟨_, _, _, q⟩ := hs
    exact False.elim q
section
variable {P : Program} {w : World} {K : PySem.W.Frag} {mg : Str → Option Value} {base : Heap}
theorem Fun.okPos {x qual : Str} {st : Stmt} {f : Addr} {fd : FuncData} {N ps : List Str} {k : Nat} {sp : Sp} (F : Fun K x qual st f fd) (S : FnScope N ps (defScope st)) (len : ∀ vs H Q E,sp vs H Q E → vs.length = ps.length)
    (hbody : ∀ (cdv : Value) (A : Around) (outer : List Env) (s : Shared) (H : Hp) (vs : List V) (Q : VK) (E : XK),Room k (A.deeper (envOfC qual (defScope st) s.heap.objs.size f cdv)) → sp vs H Q E →
      ∃ t,PSspos (cxOf CX0 P w K mg base N qual (defScope st) f cdv A outer s H E).nox (defBody st) t ∧ t { nx := fun _ H' => Q .non H',rt := Q } (start N vs) H) : FnOkP P w K mg base CX0 (k + 1) f fd ps sp := by
  obtain ⟨oc,od,kV,doc,pm,an,cdv,ct,osl,rfl,lk,hcd⟩ := F.ex
  refine fnp_of lk hcd S len fun A outer s H vs Q E hr hsp => ?_
  obtain ⟨t,h,q⟩ := hbody cdv A outer s H vs Q E hr hsp
  exact ⟨t,h.nox,q⟩
end
def VEpos (X : Cx) (ρ : List Sl) (e : Expr) (r : Sl) : Prop := PEpos X e (tR X.K ρ r)
def VSpos (X : Cx) (ss : List Stmt) (ρ : List Sl) (Q : Out → Prop) : Prop := PSspos X ss (tRS X.K ρ Q)
section
variable {X : Cx} {ρ : List Sl} {e a b c tg iter : Expr} {es : List Expr} {r ra rb : Sl} {p pos p2 p3 : Pos} {d : PyData} {ds xs : List PyData} {rs : List Sl} {Q Q' : Out → Prop} {rest : List Stmt} {st : Stmt}
theorem VE.toPos (h : VE X ρ e r) : VEpos X ρ e r := PE.pos h
theorem vsp_of {t : TS} (h : PSpos X st t) (w : ∀ H0 hs D σ H,ER X.K H0 hs ρ σ H → (DE X.K H0 hs (thenS X rest Q)).le D → t D σ H) : VSpos X (st :: rest) ρ Q := by
  refine PSspos.weak (pssp_cons (u := fun D σ H => ∃ ρ' H0 hs,ER X.K H0 hs ρ' σ H ∧ (DE X.K H0 hs Q).le D ∧ VS X rest ρ' Q) h ?_) fun D σ H ⟨H0,hs,er,l⟩ => w H0 hs _ σ H er ⟨?_,fun v H q => l.rt v H q,fun σ H q => l.bk σ H q,fun σ H q => l.ct σ H q⟩
  · intro pins s σ H D I ⟨ρ',H0,hs,er,l,v⟩
    exact v pins s σ H D I ⟨H0,hs,er,l⟩
  · rintro σ' H' ⟨ρ',q,e⟩
    exact ⟨ρ',H0,hs,e,l,q⟩
theorem vsp_set {i : Nat} {x : Str} (nd : X.N.Nodup) (hi : ixA x X.N 0 = some i) (h : VEpos X ρ e (.d d)) (k : VS X rest (ρ.set i (.d d)) Q) (hx : Loc X.env.scope x := by exact Or.inl rfl) (hs : swapsWith e (some (.Name x p2)) pos.line X.env = pure false := by rfl)
    (hf : X.fn x = true ∨ X.env.scope.names.lookup x = some .local := by first | exact .inl rfl | exact .inr rfl | assumption) : VSpos X (.Assign [.Name x p2] e pos :: rest) ρ Q :=
  vsp_of (psp_set nd (ixA_N hi) hx h hs hf) fun H0 hs D σ H er l => ⟨⟨H0,hs,er⟩,fun v H' s rv => l.nx _ _ ⟨_,k,(er.grow s).setD rv⟩⟩
theorem vep_call {k : Nat} {x : Str} {ps : List Str} {R : List Sl → Sl → Prop} (D : DefOkP X.prog X.w X.K X.mg X.base k x ps (spV X.K R)) (hr : Room k X.A) (ha : VA X ρ (e :: es) rs) (h : R (rs.map Sl.arg) r) (hg : Gl X x := by rfl) (hdb : (x == ("__debug__" : Str)) = false := by decide)
    (he : starEach (e :: es) X.env = (false,eval e X.env) :: starEach es X.env := by rfl) (hpl : (backTo pos (starEach es X.env)).any (·.1) = false := by rfl) : VEpos X ρ (.Call (.Name x p) (e :: es) [] pos) r := by
  obtain ⟨f,fd,G,b,kp,m⟩ := D
  exact PEpos.weak (pep_call G hr hg m kp b .nil pass0 ha hdb he hpl) fun σ H Q ⟨er,q⟩ => ⟨er,fun vs H1 s1 r1 => by
    show spV X.K R (vs ++ []) H1 Q E0
    rw [List.append_nil]
    exact ⟨rs.map Sl.arg,r,r1.arg,h,fun v H2 s2 r2 => q v H2 (s1.trans s2) (r2.since s1)⟩⟩
end
section
variable {P : Program} {w : World} {K : PySem.W.Frag} {mg : Str → Option Value} {base : Heap}
theorem Fun.okVP {x qual : Str} {st : Stmt} {f : Addr} {fd : FuncData} {N ps : List Str} {k : Nat} {R : List Sl → Sl → Prop} (F : Fun K x qual st f fd) (S : FnScope N ps (defScope st)) (len : ∀ as r,R as r → as.length = ps.length ∧ ∀ q ∈ as,∀ xs,q ≠ .o xs)
    (hbody : ∀ (cdv : Value) (A : Around) (outer : List Env) (s : Shared) (H : Hp) (E : XK) (as : List Sl) (r : Sl),Room k (A.deeper (envOfC qual (defScope st) s.heap.objs.size f cdv)) → R as r →
      VSpos (cxOf CX0 P w K mg base N qual (defScope st) f cdv A outer s H E).nox (defBody st) (as ++ List.replicate (N.length - as.length) .un) fun o => o = .rt r ∨ (r = .d .none ∧ ∃ ρ,o = .nx ρ)) : FnOkP P w K mg base CX0 (k + 1) f fd ps (spV K R) := by
  refine F.okPos S (fun vs H Q E h => ?_) (fun cdv A outer s H vs Q E hr h => ?_)
  · obtain ⟨as,r,h1,h2,_⟩ := h
    rw [h1.length]; exact (len as r h2).1
  obtain ⟨as,r,h1,h2,q⟩ := h
  refine ⟨_,hbody cdv A outer s H E as r hr h2,H,[],er_start h1 (len as r h2).2,?_⟩
  refine ⟨fun σ H' ⟨ρ,z,e⟩ => ?_,fun v H' ⟨r',z,e1,e2⟩ => ?_,fun σ H' ⟨ρ,z,e⟩ => ?_,fun σ H' ⟨ρ,z,e⟩ => ?_⟩
  · rcases z with z | ⟨rfl,_⟩
    · cases z
    · exact q _ H' e.same RsR.non
  · rcases z with z | ⟨_,_,z⟩
    · cases z
      exact q v H' e1 e2
    · cases z
  · rcases z with z | ⟨_,_,z⟩ <;> cases z
  · rcases z with z | ⟨_,_,z⟩ <;> cases z
end
end L2
namespace Wk
open PySem
def codes (x : Str) : List Nat := x.cps.toList
theorem codes_inj {a b : Str} (h : codes a = codes b) : a = b := PyProof.Rows.ext_toList h
theorem codes_app (a b : Str) : codes (a ++ b) = codes a ++ codes b := by
  show (a ++ b).cps.toList = _
  exact Array.toList_append
def splitL (c : Nat) : List Nat → List (List Nat)
  | [] => [[]]
  | a :: r => if a = c then [] :: splitL c r else match splitL c r with
    | [] => [[a]]
    | w :: ws => (a :: w) :: ws
theorem splitL_ne (c : Nat) (l : List Nat) : splitL c l ≠ [] := by
  cases l with
  | nil => simp [splitL]
  | cons a r =>
    rw [splitL]
    split
    · simp
    · split <;> simp
def joinL (c : List Nat) : List (List Nat) → List Nat
  | [] => []
  | [w] => w
  | w :: v :: r => w ++ c ++ joinL c (v :: r)
theorem splitL_free {c : Nat} : ∀ {w : List Nat}, c ∉ w → splitL c w = [w]
  | [], _ => rfl
  | a :: w, h => by
    have h1 : a ≠ c := fun z => h (z ▸ List.mem_cons_self)
    have h2 : c ∉ w := fun z => h (List.mem_cons_of_mem _ z)
    rw [splitL, if_neg h1, splitL_free h2]
theorem splitL_cut {c : Nat} : ∀ {w : List Nat} (l : List Nat), c ∉ w → splitL c (w ++ c :: l) = w :: splitL c l
  | [], l, _ => by rw [List.nil_append, splitL, if_pos rfl]
  | a :: w, l, h => by
    have h1 : a ≠ c := fun z => h (z ▸ List.mem_cons_self)
    have h2 : c ∉ w := fun z => h (List.mem_cons_of_mem _ z)
    rw [List.cons_append, splitL, if_neg h1, splitL_cut l h2]
theorem splitL_join {c : Nat} : ∀ {ws : List (List Nat)}, ws ≠ [] → (∀ w ∈ ws, c ∉ w) → splitL c (joinL [c] ws) = ws
  | [], h, _ => absurd rfl h
  | [w], _, h => splitL_free (h w List.mem_cons_self)
  | w :: v :: r, _, h => by
    rw [joinL, List.append_assoc, List.singleton_append, splitL_cut _ (h w List.mem_cons_self), splitL_join (by simp) fun u hu => h u (List.mem_cons_of_mem _ hu)]
theorem codes_join (y : Str) : ∀ ws : List Str, codes (Str.join y ws) = joinL (codes y) (ws.map codes)
  | [] => rfl
  | [w] => by simp [Str.join, joinL]
  | w :: v :: r => by
    have e : Str.join y (w :: v :: r) = w ++ y ++ Str.join y (v :: r) := by simp [Str.join]
    rw [e, codes_app, codes_app, codes_join y (v :: r)]
    simp [joinL]
theorem split_codes (x : Str) (c : Nat) : (Txt.split x ⟨#[c]⟩).map codes = splitL c (codes x) := by
  have h1 := StrLaws.join_split x ⟨#[c]⟩
  have h2 := StrLaws.split_free x c
  have h3 : (Txt.split x ⟨#[c]⟩).map codes ≠ [] := by
    have hp := PyProof.Rows.split_pos x ⟨#[c]⟩
    intro z
    have hz : Txt.split x ⟨#[c]⟩ = [] := List.map_eq_nil_iff.mp z
    rw [hz] at hp
    exact absurd hp (by simp)
  have h4 : codes x = joinL [c] ((Txt.split x ⟨#[c]⟩).map codes) := by
    conv => lhs; rw [← h1]
    rw [codes_join]; rfl
  rw [h4,splitL_join h3 fun w hw => by obtain ⟨p,hp,rfl⟩ := List.mem_map.mp hw; exact h2 p hp]
def repl (c : Nat) (z : List Nat) : List Nat → List Nat
  | [] => []
  | a :: r => (if a = c then z else [a]) ++ repl c z r
theorem repl_app (c : Nat) (z : List Nat) : ∀ a b : List Nat,repl c z (a ++ b) = repl c z a ++ repl c z b
  | [],b => rfl
  | x :: a,b => by rw [List.cons_append,repl,repl,repl_app c z a b,List.append_assoc]
theorem join_split_repl (c : Nat) (z : List Nat) : ∀ l : List Nat, joinL z (splitL c l) = repl c z l
  | [] => rfl
  | a :: r => by
    have ih := join_split_repl c z r
    rw [splitL, repl]
    by_cases h : a = c
    · rw [if_pos h, if_pos h, ← ih]
      cases q : splitL c r with
      | nil => exact absurd q (splitL_ne c r)
      | cons w ws => simp [joinL]
    · rw [if_neg h, if_neg h, ← ih]
      cases q : splitL c r with
      | nil => exact absurd q (splitL_ne c r)
      | cons w ws => cases ws <;> simp [joinL]
theorem replace_codes (x z : Str) (c : Nat) : codes (Txt.replace x ⟨#[c]⟩ z) = repl c (codes z) (codes x) := by
  rw [StrLaws.replace_one,codes_join,split_codes,join_split_repl]
def wordsL (l : List Nat) : List (List Nat) := (splitL 32 l).filter (· ≠ [])
def spread (l : List Nat) : List Nat := repl 41 [32,41,32] (repl 40 [32,40,32] l)
def tokL (l : List Nat) : List (List Nat) := wordsL (spread l)
theorem spread_app (a b : List Nat) : spread (a ++ b) = spread a ++ spread b := by unfold spread; rw [repl_app,repl_app]
theorem words_bl (l : List Nat) : wordsL (32 :: l) = wordsL l := by unfold wordsL; rw [splitL,if_pos rfl]; simp
theorem words_cut {w : List Nat} (l : List Nat) (h : 32 ∉ w) (hn : w ≠ []) : wordsL (w ++ 32 :: l) = w :: wordsL l := by unfold wordsL; rw [splitL_cut _ h]; simp [hn]
theorem words_end {w : List Nat} (h : 32 ∉ w) (hn : w ≠ []) : wordsL w = [w] := by unfold wordsL; rw [splitL_free h]; simp [hn]
theorem tok_bl (l : List Nat) : tokL (32 :: l) = tokL l := by
  show wordsL (spread ([32] ++ l)) = _
  rw [spread_app,show spread [32] = [32] from by decide,List.singleton_append,words_bl]; rfl
theorem tok_open (l : List Nat) : tokL (40 :: l) = [40] :: tokL l := by
  show wordsL (spread ([40] ++ l)) = _
  rw [spread_app,show spread [40] = [32,40,32] from by decide]
  show wordsL (32 :: ([40] ++ 32 :: spread l)) = _
  rw [words_bl,words_cut _ (by decide) (by decide)]; rfl
theorem tok_close (l : List Nat) : tokL (41 :: l) = [41] :: tokL l := by
  show wordsL (spread ([41] ++ l)) = _
  rw [spread_app,show spread [41] = [32,41,32] from by decide]
  show wordsL (32 :: ([41] ++ 32 :: spread l)) = _
  rw [words_bl,words_cut _ (by decide) (by decide)]; rfl
def isWord (w : List Nat) : Prop := w ≠ [] ∧ ∀ c ∈ w,c ≠ 32 ∧ c ≠ 40 ∧ c ≠ 41
theorem spread_word : ∀ {w : List Nat}, (∀ c ∈ w, c ≠ 32 ∧ c ≠ 40 ∧ c ≠ 41) → spread w = w
  | [], _ => rfl
  | a :: w, h => by
    obtain ⟨_, h1, h2⟩ := h a List.mem_cons_self
    have : spread ([a] ++ w) = spread [a] ++ spread w := spread_app [a] w
    rw [spread_word fun c hc => h c (List.mem_cons_of_mem _ hc)] at this
    rw [← List.singleton_append, this]
    congr 1
    simp [spread, repl, h1, h2]
def Bdy (r : List Nat) : Prop := r = [] ∨ ∃ s,r = 32 :: s ∨ r = 41 :: s ∨ r = 40 :: s
theorem tok_word {w r : List Nat} (h : isWord w) (b : Bdy r) : tokL (w ++ r) = w :: tokL r := by
  have h32 : 32 ∉ w := fun z => (h.2 32 z).1 rfl
  unfold tokL
  rw [spread_app,spread_word h.2]
  rcases b with rfl | ⟨s,rfl | rfl | rfl⟩
  · rw [show spread [] = [] from rfl,List.append_nil,words_end h32 h.1]; rfl
  · rw [show (32 :: s) = [32] ++ s from rfl,spread_app,show spread [32] = [32] from by decide,List.singleton_append,words_cut _ h32 h.1,words_bl]
  · rw [show (41 :: s) = [41] ++ s from rfl,spread_app,show spread [41] = [32,41,32] from by decide]
    show wordsL (w ++ 32 :: ([41] ++ 32 :: spread s)) = w :: wordsL (32 :: ([41] ++ 32 :: spread s))
    rw [words_cut _ h32 h.1,words_bl]
  · rw [show (40 :: s) = [40] ++ s from rfl,spread_app,show spread [40] = [32,40,32] from by decide]
    show wordsL (w ++ 32 :: ([40] ++ 32 :: spread s)) = w :: wordsL (32 :: ([40] ++ 32 :: spread s))
    rw [words_cut _ h32 h.1,words_bl]
end Wk
namespace Wk
open PySem
instance (w : List Nat) : Decidable (isWord w) := by unfold isWord; infer_instance
def flat (xs : List Str) : List Nat := (xs.map codes).flatten
theorem flat_cons (a : Str) (b : List Str) : flat (a :: b) = codes a ++ flat b := by simp [flat]
theorem codes_join0 (xs : List Str) : codes (Txt.join "" xs) = flat xs := by
  show codes (Builtin.Str.glued "" xs) = _
  rw [StrLaws.glued_eq_join, codes_join]
  have h0 : codes ("" : Str) = [] := by decide
  rw [h0]
  unfold flat
  generalize xs.map codes = l
  induction l with
  | nil => rfl
  | cons w l ih =>
    cases l with
    | nil => simp [joinL]
    | cons v l => rw [joinL, ih]; simp
def letter (c : Nat) : Prop := 97 ≤ c ∧ c ≤ 122
structure IsName (x : Str) : Prop where
  ne : codes x ≠ []
  let' : ∀ c ∈ codes x,letter c
  form : formOf x = none
  num : x ≠ "num"
  truth : x ≠ "truth"
  yes : x ≠ "yes"
  no : x ≠ "no"
theorem IsName.word {x : Str} (h : IsName x) : isWord (codes x) := ⟨h.ne,fun c hc => by have := h.let' c hc; unfold letter at this; omega⟩
def WT.wf : WT → Prop
  | .name x => IsName x
  | .lam x _ b => IsName x ∧ b.wf
  | .add a b => a.wf ∧ b.wf
  | .less a b => a.wf ∧ b.wf
  | .front a b => a.wf ∧ b.wf
  | .call a b => a.wf ∧ b.wf
  | .cond a b c => a.wf ∧ b.wf ∧ c.wf
  | .case _ h t a b c => IsName h ∧ IsName t ∧ a.wf ∧ b.wf ∧ c.wf
  | _ => True
def ktk : Kd → List Str
  | .num => S ["num"]
  | .truth => S ["truth"]
  | .list k => S ["(","list"] ++ ktk k ++ S [")"]
  | .to a b => S ["(","to"] ++ ktk a ++ ktk b ++ S [")"]
def wtk : WT → List Str
  | .num i => S [numT i]
  | .truth b => S [if b then "yes" else "no"]
  | .name x => S [x]
  | .nil k => S ["(","nil"] ++ ktk k ++ S [")"]
  | .lam x k b => S ["(","fun",x] ++ ktk k ++ wtk b ++ S [")"]
  | .add a b => S ["(","add"] ++ wtk a ++ wtk b ++ S [")"]
  | .less a b => S ["(","less"] ++ wtk a ++ wtk b ++ S [")"]
  | .front a b => S ["(","front"] ++ wtk a ++ wtk b ++ S [")"]
  | .call a b => S ["(","call"] ++ wtk a ++ wtk b ++ S [")"]
  | .cond a b c => S ["(","if"] ++ wtk a ++ wtk b ++ wtk c ++ S [")"]
  | .case k h t a b c => S ["(","case"] ++ ktk k ++ wtk a ++ wtk b ++ S [h,t] ++ wtk c ++ S [")"]
def Pt (l : List Nat) (ts : List Str) : Prop := ∀ r,Bdy r → tokL (l ++ r) = ts.map codes ++ tokL r
theorem pt_word {x : Str} (h : isWord (codes x)) : Pt (codes x) [x] := fun r b => by rw [tok_word h b]; rfl
theorem bdy_cl (r : List Nat) : Bdy (41 :: r) := .inr ⟨r,.inr (.inl rfl)⟩
theorem digit_word {d : Nat} (h : d < 10) : ∃ c,codes (digit d) = [c] ∧ 48 ≤ c ∧ c ≤ 57 ∧ c = 48 + d := by
  match d,h with
  | 0,_ => exact ⟨48,by decide,by decide,by decide,rfl⟩
  | 1,_ => exact ⟨49,by decide,by decide,by decide,rfl⟩
  | 2,_ => exact ⟨50,by decide,by decide,by decide,rfl⟩
  | 3,_ => exact ⟨51,by decide,by decide,by decide,rfl⟩
  | 4,_ => exact ⟨52,by decide,by decide,by decide,rfl⟩
  | 5,_ => exact ⟨53,by decide,by decide,by decide,rfl⟩
  | 6,_ => exact ⟨54,by decide,by decide,by decide,rfl⟩
  | 7,_ => exact ⟨55,by decide,by decide,by decide,rfl⟩
  | 8,_ => exact ⟨56,by decide,by decide,by decide,rfl⟩
  | 9,_ => exact ⟨57,by decide,by decide,by decide,rfl⟩
theorem figs_lt : ∀ (f n d : Nat), d ∈ figs f n → d < 10
  | 0, n, d, h => by cases h
  | f + 1, n, d, h => by
    rw [figs] at h
    rcases List.mem_cons.mp h with rfl | h
    · exact Nat.mod_lt _ (by decide)
    · split at h
      · cases h
      · exact figs_lt f _ d h
theorem flat_digits : ∀ {l : List Nat}, (∀ d ∈ l, d < 10) → flat (l.map digit) = l.map (48 + ·)
  | [], _ => rfl
  | d :: l, h => by
    obtain ⟨c, e, _, _, hc⟩ := digit_word (h d List.mem_cons_self)
    rw [List.map_cons, flat_cons, e, flat_digits fun x hx => h x (List.mem_cons_of_mem _ hx), hc]; rfl
def figsOf (i : Int) : List Nat := (figs (i.natAbs + 1) i.natAbs).reverse
theorem figsOf_lt (i : Int) : ∀ d ∈ figsOf i,d < 10 := fun d hd => figs_lt _ _ d (List.mem_reverse.mp hd)
theorem figsOf_ne (i : Int) : figsOf i ≠ [] := by unfold figsOf; rw [figs]; simp
theorem numT_codes (i : Int) : codes (numT i) = (if i < 0 then [45] else []) ++ (figsOf i).map (48 + ·) := by
  unfold numT
  rw [codes_app,codes_join0,show (figs (i.natAbs + 1) i.natAbs).reverse = figsOf i from rfl,flat_digits (figsOf_lt i)]
  congr 1
  split <;> decide
theorem num_word (i : Int) : isWord (codes (numT i)) := by
  rw [numT_codes]
  refine ⟨by have := figsOf_ne i; simp [this],fun c hc => ?_⟩
  rcases List.mem_append.mp hc with hc | hc
  · split at hc
    · simp at hc; subst hc; decide
    · cases hc
  · obtain ⟨d,hd,rfl⟩ := List.mem_map.mp hc
    have := figsOf_lt i d hd
    omega
def body : List (List Nat × List Str) → List Nat
  | [] => []
  | p :: r => 32 :: p.1 ++ body r
def btk : List (List Nat × List Str) → List Str
  | [] => []
  | p :: r => p.2 ++ btk r
theorem bdy_body (ps : List (List Nat × List Str)) {r : List Nat} (b : Bdy r) : Bdy (body ps ++ r) := by
  cases ps with
  | nil => exact b
  | cons p ps => exact .inr ⟨_,.inl rfl⟩
theorem body_ok : ∀ {ps : List (List Nat × List Str)}, (∀ p ∈ ps, Pt p.1 p.2) → ∀ r, Bdy r → tokL (body ps ++ r) = (btk ps).map codes ++ tokL r
  | [], _, r, b => rfl
  | p :: ps, h, r, b => by
    show tokL (32 :: (p.1 ++ body ps ++ r)) = _
    rw [tok_bl, List.append_assoc, h p List.mem_cons_self _ (bdy_body ps b), body_ok (fun q hq => h q (List.mem_cons_of_mem _ hq)) r b, btk, List.map_append, List.append_assoc]
theorem pt_brk {x : Str} {ps : List (List Nat × List Str)} (h : isWord (codes x)) (hp : ∀ p ∈ ps,Pt p.1 p.2) (ne : ps ≠ []) : Pt (40 :: codes x ++ body ps ++ [41]) (S ["(",x] ++ btk ps ++ S [")"]) := fun r b => by
  obtain ⟨p,qs,rfl⟩ : ∃ p qs,ps = p :: qs := by cases ps with | nil => exact absurd rfl ne | cons p qs => exact ⟨p,qs,rfl⟩
  show tokL (40 :: (codes x ++ body (p :: qs) ++ [41] ++ r)) = _
  rw [tok_open,List.append_assoc,List.append_assoc,List.singleton_append,tok_word h (bdy_body _ (bdy_cl r)),body_ok hp _ (bdy_cl r),tok_close]
  simp [S,show codes "(" = [40] from by decide,show codes ")" = [41] from by decide]
theorem pt_eq {l m : List Nat} {ts us : List Str} (h : Pt l ts) (e : l = m) (q : ts = us) : Pt m us := e ▸ q ▸ h
theorem kind_pt : ∀ k : Kd,Pt (flat (ktx k)) (ktk k)
  | .num => pt_eq (pt_word (x := "num") (by decide)) (by decide) rfl
  | .truth => pt_eq (pt_word (x := "truth") (by decide)) (by decide) rfl
  | .list k => pt_eq (pt_brk (x := "list") (ps := [(flat (ktx k),ktk k)]) (by decide) (fun p hp => by rw [List.mem_singleton] at hp; subst hp; exact kind_pt k) (by simp)) (by simp [ktx,flat,body,show codes "(list" = [40,108,105,115,116] from by decide,show codes "list" = [108,105,115,116] from by decide,show codes " " = [32] from by decide,show codes ")" = [41] from by decide]) (by simp [ktk,btk])
  | .to a b => pt_eq (pt_brk (x := "to") (ps := [(flat (ktx a),ktk a),(flat (ktx b),ktk b)]) (by decide) (fun p hp => by simp only [List.mem_cons,List.not_mem_nil,or_false] at hp; rcases hp with rfl | rfl; exact kind_pt a; exact kind_pt b) (by simp)) (by simp [ktx,flat,body,show codes "(to" = [40,116,111] from by decide,show codes "to" = [116,111] from by decide,show codes " " = [32] from by decide,show codes ")" = [41] from by decide]) (by simp [ktk,btk])
theorem cd_close : codes ")" = [41] := by decide
theorem cd_bl : codes " " = [32] := by decide
theorem part_pt : ∀ t : WT,t.wf → Pt (flat (wtx t)) (wtk t)
  | .num i,_ => pt_eq (pt_word (num_word i)) (by simp [wtx,flat]) rfl
  | .truth true,_ => pt_eq (pt_word (x := "yes") (by decide)) (by decide) rfl
  | .truth false,_ => pt_eq (pt_word (x := "no") (by decide)) (by decide) rfl
  | .name x,h => pt_eq (pt_word (IsName.word h)) (by simp [wtx,flat]) rfl
  | .nil k,_ => pt_eq (pt_brk (x := "nil") (ps := [(flat (ktx k),ktk k)]) (by decide) (by simp only [List.forall_mem_cons]; exact ⟨kind_pt k,nofun⟩) (by simp)) (by simp [wtx,flat,body,show codes "(nil" = 40 :: codes "nil" from by decide,cd_bl,cd_close]) (by simp [wtk,btk])
  | .lam x k b,h => pt_eq (pt_brk (x := "fun") (ps := [(codes x,[x]),(flat (ktx k),ktk k),(flat (wtx b),wtk b)]) (by decide) (by simp only [List.forall_mem_cons]; exact ⟨pt_word (IsName.word h.1),kind_pt k,part_pt b h.2,nofun⟩) (by simp)) (by simp [wtx,flat,body,show codes "(fun" = 40 :: codes "fun" from by decide,cd_bl,cd_close]) (by simp [wtk,btk])
  | .add a b,h => pt_eq (pt_brk (x := "add") (ps := [(flat (wtx a),wtk a),(flat (wtx b),wtk b)]) (by decide) (by simp only [List.forall_mem_cons]; exact ⟨part_pt a h.1,part_pt b h.2,nofun⟩) (by simp)) (by simp [wtx,flat,body,show codes "(add" = 40 :: codes "add" from by decide,cd_bl,cd_close]) (by simp [wtk,btk])
  | .less a b,h => pt_eq (pt_brk (x := "less") (ps := [(flat (wtx a),wtk a),(flat (wtx b),wtk b)]) (by decide) (by simp only [List.forall_mem_cons]; exact ⟨part_pt a h.1,part_pt b h.2,nofun⟩) (by simp)) (by simp [wtx,flat,body,show codes "(less" = 40 :: codes "less" from by decide,cd_bl,cd_close]) (by simp [wtk,btk])
  | .front a b,h => pt_eq (pt_brk (x := "front") (ps := [(flat (wtx a),wtk a),(flat (wtx b),wtk b)]) (by decide) (by simp only [List.forall_mem_cons]; exact ⟨part_pt a h.1,part_pt b h.2,nofun⟩) (by simp)) (by simp [wtx,flat,body,show codes "(front" = 40 :: codes "front" from by decide,cd_bl,cd_close]) (by simp [wtk,btk])
  | .call a b,h => pt_eq (pt_brk (x := "call") (ps := [(flat (wtx a),wtk a),(flat (wtx b),wtk b)]) (by decide) (by simp only [List.forall_mem_cons]; exact ⟨part_pt a h.1,part_pt b h.2,nofun⟩) (by simp)) (by simp [wtx,flat,body,show codes "(call" = 40 :: codes "call" from by decide,cd_bl,cd_close]) (by simp [wtk,btk])
  | .cond a b c,h => pt_eq (pt_brk (x := "if") (ps := [(flat (wtx a),wtk a),(flat (wtx b),wtk b),(flat (wtx c),wtk c)]) (by decide) (by simp only [List.forall_mem_cons]; exact ⟨part_pt a h.1,part_pt b h.2.1,part_pt c h.2.2,nofun⟩) (by simp)) (by simp [wtx,flat,body,show codes "(if" = 40 :: codes "if" from by decide,cd_bl,cd_close]) (by simp [wtk,btk])
  | .case k x y a b c,h => pt_eq (pt_brk (x := "case") (ps := [(flat (ktx k),ktk k),(flat (wtx a),wtk a),(flat (wtx b),wtk b),(codes x,[x]),(codes y,[y]),(flat (wtx c),wtk c)]) (by decide) (by simp only [List.forall_mem_cons]; exact ⟨kind_pt k,part_pt a h.2.2.1,part_pt b h.2.2.2.1,pt_word (IsName.word h.1),pt_word (IsName.word h.2.1),part_pt c h.2.2.2.2,nofun⟩) (by simp)) (by simp [wtx,flat,body,show codes "(case" = 40 :: codes "case" from by decide,cd_bl,cd_close]) (by simp [wtk,btk])
theorem line_toks {t : WT} (h : t.wf) : tokL (codes (lineT t)) = (wtk t).map codes := by
  have := part_pt t h [] (.inl rfl)
  rw [List.append_nil,show tokL [] = [] from by decide,List.append_nil] at this
  rw [← this,lineT,codes_join0]
def toks (x : Str) : List Str := ((Txt.split (Txt.replace (Txt.replace x "(" " ( ") ")" " ) ") " ").filter (· ≠ ("" : Str)))
theorem filter_codes (l : List Str) : (l.filter (· ≠ ("" : Str))).map codes = (l.map codes).filter (· ≠ []) := by
  induction l with
  | nil => rfl
  | cons x l ih =>
    have e : (x ≠ "") ↔ (codes x ≠ []) := by
      constructor
      · intro h z; exact h (codes_inj (by rw [z]; decide))
      · intro h z; exact h (by rw [z]; decide)
    by_cases h : x = ""
    · subst h
      simp only [List.map_cons]
      rw [List.filter_cons_of_neg (by simp), List.filter_cons_of_neg (by decide), ih]
    · simp only [List.map_cons]
      rw [List.filter_cons_of_pos (by simpa using h), List.filter_cons_of_pos (by simpa using e.mp h), List.map_cons, ih]
theorem map_codes_inj : ∀ {a b : List Str}, a.map codes = b.map codes → a = b
  | [], [], _ => rfl
  | [], _ :: _, h => by cases h
  | _ :: _, [], h => by cases h
  | x :: a, y :: b, h => by
    rw [List.map_cons, List.map_cons] at h
    injection h with h1 h2
    rw [codes_inj h1, map_codes_inj h2]
theorem toks_line {t : WT} (h : t.wf) : toks (lineT t) = wtk t := by
  have e : (toks (lineT t)).map codes = (wtk t).map codes := by
    rw [← line_toks h]
    unfold toks
    rw [filter_codes]
    show List.filter _ ((Txt.split _ ⟨#[32]⟩).map codes) = _
    rw [split_codes]
    show List.filter _ (splitL 32 (codes (Txt.replace _ ⟨#[41]⟩ _))) = _
    rw [replace_codes]
    show List.filter _ (splitL 32 (repl 41 _ (codes (Txt.replace _ ⟨#[40]⟩ _)))) = _
    rw [replace_codes]
    rfl
  exact map_codes_inj e
end Wk
namespace L2
open PySem PySem.Spec PyProof.Rows
section
variable {X : Cx} {o e : Expr} {es : List Expr} {to : TE} {t : TA} {apos cpos pos p p1 p2 p3 : Pos} {j1 j2 : Nat} {y z : Str}
def tRepl (y z : Str) (to : TE) : TE := fun σ H Q => to σ H fun x H1 => ∃ l : Str,x = .str l ∧ l.length + (l.length + 1) * z.length ≤ 16777216 ∧ Q (.str (Txt.replace l y z)) H1
theorem lits2 {env : Env} {M : Model} {A : Around} {E : Value → Shared → Prop} {s : Shared} : wpAny M A (spliced (backTo pos (starEach [.Constant (.str y) j1 p1,.Constant (.str z) j2 p2] env))) (fun us s1 => us = [.str y s.toks,.str z (s.toks + 1)] ∧ s1 = { s with toks := s.toks + 2 }) E s := by
  show wpAny _ _ (spliced ((false,eval (.Constant (.str y) j1 p1) env) :: backTo pos (starEach [.Constant (.str z) j2 p2] env))) _ _ s
  refine Calls.spliced_cons (Calls.Constant_str ?_)
  show wpAny _ _ (spliced ((false,eval (.Constant (.str z) j2 p2) env) :: backTo pos (starEach [] env))) _ _ _
  refine Calls.spliced_cons (Calls.Constant_str ?_)
  exact Calls.spliced_nil ⟨rfl,rfl⟩
theorem pep_replace (ho : PEpos X o to) (hyz : (y == z) = false := by decide)
    (hbase : attributeBase o "replace" X.env (eval o X.env) = eval o X.env := by rfl)
    (hfew : ((backTo cpos (starEach [.Constant (.str y) j1 p1,.Constant (.str z) j2 p2] X.env)).all (fun x => !x.1) && (backToKw cpos (keywordEach [] X.env)).all (fun x => x.1.isSome)
      && decide ([Expr.Constant (.str y) j1 p1,.Constant (.str z) j2 p2].length + ([] : List Keyword).length + (if ([] : List Keyword).isEmpty then 0 else 1) < 30)) = true := by rfl)
    (hline : (apos.endLine == cpos.line) = true := by rfl) :
    PEpos X (.Call (.Attribute o "replace" apos) [.Constant (.str y) j1 p1,.Constant (.str z) j2 p2] [] cpos) (tRepl y z to) := by
  intro pins s σ H Q tp I h
  refine wpAny_Call_method_late hbase hfew hline rfl (wpAny_mono (wpAny_toks_of tp (ho pins s σ H _ tp I h)) (fun v s1 ⟨tp1,x,H1,I1,r1,l,e,hz,q⟩ => ?_) fun _ _ z => z.2)
  subst e
  obtain ⟨u,rfl⟩ := r1
  obtain ⟨h1,h2⟩ := tyV_is I1 (x := .str l) (v := .str l u) (T := "str") ⟨u,rfl⟩ rfl
  refine ⟨"str","str.replace",PySem.F.plainAttrs_str,PySem.F.slot_str_replace,PySem.F.type_str_replace,h1,h2,?_⟩
  refine Calls.callWith_builtin rfl (Calls.evalArgs_plain ?_)
  refine wpAny_mono (lits2 (pos := cpos) (env := X.env)) (fun us s2 ⟨e1,e2⟩ => ?_) fun _ _ z => z
  subst e1 e2
  exact SC.replace (show (s1.toks : Nat) ≠ 0 by omega) (show (s1.toks + 1 : Nat) ≠ 0 by omega) (show (s1.toks : Nat) ≠ s1.toks + 1 by omega) hyz hz fun t' k => ⟨.str _,H1,I1.tok _,⟨_,rfl⟩,q⟩
end
end L2
namespace L2
open PySem PySem.Spec PyProof.Rows
section
variable {prog : Program} {w : World} {A : Around} {R : Result → Shared → Prop} {s : Shared}
theorem compLoop_goC {elt tgt iter tst : Expr} {scope : Scope} {pos : Pos} {it acc : Value} {env : Env} (J : Nat → Shared → Prop)
    (turn : ∀ n s, J n s → wpAny (model prog w) A (pyNext it) (fun r s1 => match r with
      | none => R (.ok .next) s1
      | some v => wpAny (model prog w) A (letOwnedTupleGo tgt it v) (fun _ s2 => wpAny (model prog w) A (assign tgt env v) (fun _ s3 =>
          wpAny (model prog w) A (isTrue tst env (eval tst env)) (fun b s3 => if b = true then wpAny (model prog w) A (eval elt env) (fun x s4 => wpAny (model prog w) A (call (.builtin "list.append") [acc, x]) (fun _ s5 => ∃ m, m < n ∧ J m s5) noE s4) noE s3 else ∃ m, m < n ∧ J m s3) noE s3) noE s2) noE s1) noE s)
    (n : Nat) (h : J n s) : codeAny (model prog w) A (.compLoop (.ListComp elt [⟨tgt, iter, [tst], 0⟩] scope pos) 0 it acc env) R s := by
  refine codeAny_loop rfl J (fun k s' hJ => ?_) n h
  show wpAny _ A ((compTurn (.ListComp elt [⟨tgt, iter, [tst], 0⟩] scope pos) 0 it acc env).onRaise (fun x => do noteFrame x env; theTreesLotGoes x)) _ _ s'
  refine wpAny_noted ?_
  rw [compTurn_list]
  refine wpAny_bind (wpAny_standAt (wpAny_bind (wpAny_mono (turn k s' hJ) (fun r s1 h1 => ?_) fun _ _ z => z.elim)))
  cases r with
  | none => exact wpAny_pure h1
  | some v =>
    refine wpAny_bind (wpAny_mono h1 (fun _ s2 h2 => wpAny_bind (wpAny_mono h2 (fun _ s3 h3 => ?_) fun _ _ z => z.elim)) fun _ _ z => z.elim)
    refine wpAny_bind (wpAny_tests_one (wpAny_mono h3 (fun b s3 h3 => ?_) fun _ _ z => z.elim))
    cases b with
    | true =>
      rw [if_pos rfl] at h3 ⊢
      exact wpAny_bind (wpAny_bind (wpAny_mono h3 (fun x s4 h4 => wpAny_bind (wpAny_mono h4 (fun _ s5 h5 => wpAny_pure (wpAny_pure ⟨rfl, h5⟩)) fun _ _ z => z.elim)) fun _ _ z => z.elim))
    | false =>
      rw [if_neg Bool.false_ne_true] at h3 ⊢
      exact wpAny_bind (wpAny_pure (wpAny_pure ⟨rfl, h3⟩))
end
def CompWC (tc : TT) (te : TE) (σ : St) (J : It) (H1 : Hp) (Fin : List V → Hp → Prop) : Prop :=
  ∃ W : Nat → Nat → List V → Hp → Prop,(∃ m,W 0 m [] H1) ∧ ∀ i m ys H,W i m ys H →
    (J.stop i H ∧ ys.length ≤ sizeLine ∧ Fin ys H) ∨ (J.go i H ∧ ys.length < sizeLine ∧ ∀ v H',J.yld i H v H' → tc (some v :: σ) H' fun b H2 => if b = true then ∃ N : V → Hp → Prop,(∀ y H3,N y H3 → ∃ m',m' < m ∧ W (i + 1) m' (ys ++ [y]) H3) ∧ te (some v :: σ) H2 N else ∃ m',m' < m ∧ W (i + 1) m' ys H2)
section
variable {X : Cx} {pins : List (Addr × Obj)} {σ : St} {H : Hp} {s : Shared} {scope : Scope} {x : Str} {elt iter tst : Expr} {px pos cpos : Pos} {wi : TI} {te : TE} {tc : TT} {use : Option (Value → Sem Unit)} {Q : Value → Shared → Prop} {Fin : List V → Hp → Prop}
theorem comp_coreC (hc : X.calm = true) (S : CompSc X.N X.env.scope scope x) (hi : PI X (.Name x px) iter wi) (he : ∀ cl C s0 H0 fp pins, PE (X.comp scope cl x C s0 H0 fp pins) elt te) (ht : ∀ cl C s0 H0 fp pins, PT (X.comp scope cl x C s0 H0 fp pins) tst tc) (I : Inv X pins σ H s)
    (h : wi σ H fun J H1 => CompWC tc te σ J H1 Fin)
    (fin : ∀ (ys : List V) (H' : Hp) (s' : Shared) (D C : Addr) (m : Str → Option Value) (its : List Value) (n : Nat), Fin ys H' → Inv X pins σ H' s' → FpOk X pins H' D → ys.length ≤ sizeLine → Vals ys its → s'.heap.get? D = some { cls := .type "list", data := .seq its.toArray n } →
      FpOk X pins H' C → D ≠ C → s'.heap.Ns C m → compPost (model X.prog X.w) X.A X.xe use Q (.ref D) C (.ok .next) s')
    (hs : ∀ v, foldedSetIterable iter X.env v = pure v := by intro _; rfl) :
    wpAny (model X.prog X.w) X.A (comprehension (.ListComp elt [⟨.Name x px, iter, [tst], 0⟩] scope pos) scope X.env cpos (newList []) false (eval iter X.env) use) Q X.xe s := by
  obtain ⟨cl, hcl, sub, has⟩ := closure_of (scope := scope) (env := X.env) (fun y hy hy2 => by
    rcases S.free y hy hy2 with z | z
    · exact I.ok.has y.1 (.inl z)
    · exact I.ok.has y.1 (.inr z))
  refine wpAny_comprehension_free (g := ⟨.Name x px, iter, [tst], 0⟩) (gs := []) rfl hs hcl S.kind S.names (thn (hi pins s σ H _ I h) fun v s1 h1 => thn h1 fun itv s2 h2 => ?_)
  obtain ⟨it, fp, tn, J, H2, e, I2, T, st2, f2, W, ⟨m0, w0⟩, turn⟩ := h2
  subst e
  refine wpAny_newObj_type (wpAny_newFunctionEnv S.nocell (by intro y hy; simp at hy) (fun h4 hns hsb => ?_) S.kind)
  dsimp only at hns hsb ⊢
  have hCz : (s2.heap.push { cls := .type "list", dict := none, data := .seq ([] : List Value).toArray }).objs.size = s2.heap.objs.size + 1 := Heap.size_push ..
  generalize hG : s2.heap.push { cls := .type "list", dict := none, data := .seq ([] : List Value).toArray } = G at hns hsb hCz ⊢
  have lt : ∀ {b : Addr} {o : Obj}, s2.heap.get? b = some o → b < s2.heap.objs.size := fun e => Heap.lt_size e
  have hk : ∀ b o, s2.heap.get? b = some o → h4.get? b = some o := fun b o e => hsb.extBut b o (Nat.ne_of_lt (by rw [hCz]; exact Nat.lt_succ_of_lt (lt e))) (Heap.get?_push_of_some _ (hG ▸ Heap.get?_push_of_some _ e))
  have hD : h4.get? s2.heap.objs.size = some { cls := .type "list", data := .seq ([] : List Value).toArray 0 } :=
    hsb.extBut _ _ (Nat.ne_of_lt (by rw [hCz]; exact Nat.lt_succ_self _)) (Heap.get?_push_of_some _ (hG ▸ Heap.get?_push_size _ rfl))
  have hfp : ∀ b ∈ fp, b < s2.heap.objs.size := fun b hb => let ⟨o, e, _⟩ := T.obj _ _ st2 b hb; lt e
  have hDC : s2.heap.objs.size ≠ G.objs.size := by rw [hCz]; exact Nat.ne_of_lt (Nat.lt_succ_self _)
  have hCge : s2.heap.objs.size ≤ G.objs.size := by rw [hCz]; exact Nat.le_succ _
  let Y := X.comp scope cl x G.objs.size s2 H2 fp pins
  have I4 : Inv Y [] (none :: σ) H2 { s2 with heap := h4, toks := s2.toks + ([] : List (Str × Value)).length } := inv_comp I2 S sub has hk hCge hns fun b hb => ⟨f2 b hb, hfp b hb⟩
  have stat : ∀ {H' : Hp} {pl : List (Addr × Obj)}, (∀ b ∈ fp, H' b = none) → (∀ p ∈ pl, s2.heap.objs.size ≤ p.1) → ∀ b ∈ fp, FpOk Y pl H' b := fun {H' pl} hn hpl b hb => by
    obtain ⟨f0, f1, f3, f4, f5, f6⟩ := f2 b hb
    refine ⟨hn b hb, Nat.ne_of_lt (Nat.lt_of_lt_of_le (hfp b hb) hCge), I2.stkNot f1 f3, .inl hb, fun y c e => f5 y c (sub y c e), fun p hp => ?_⟩
    rcases List.mem_append.mp hp with z | z
    · exact f6 p z
    · exact fun q => absurd (hfp b hb) (Nat.not_lt.mpr (by rw [← q]; exact hpl p z))
  have statD : ∀ {H' : Hp}, H' s2.heap.objs.size = none → FpOk Y [] H' s2.heap.objs.size := fun {H'} hn => by
    refine ⟨hn, hDC, fun hb => ?_, .inr (Nat.le_refl _), fun y c e z => ?_, fun p hp z => ?_⟩
    · exact I2.stkNot (Nat.ne_of_gt I2.lt) (I2.nofs (Nat.le_refl _)) hb
    · obtain ⟨v, q⟩ := I2.cell y c (sub y c e)
      exact absurd q.lt (by rw [z]; exact Nat.lt_irrefl _)
    · have hp' : p ∈ X.pn ++ pins := by simpa [Y, Cx.comp] using hp
      exact absurd (lt (I2.pin p hp').1) (by rw [z]; exact Nat.lt_irrefl _)
  have pinD : ∀ {τ : St} {H' : Hp} {s' : Shared} {ob : Obj}, Inv Y [] τ H' s' → H' s2.heap.objs.size = none → s'.heap.get? s2.heap.objs.size = some ob → (∀ v, ob.data ≠ .cell v) → Inv Y [(s2.heap.objs.size, ob)] τ H' s' := fun {τ H' s' ob} J0 hn ho hd =>
    J0.pins_of fun p hp => by
      have e : p = (s2.heap.objs.size, ob) := by simpa using hp
      subst e
      exact ⟨ho, hn, (statD hn).2.1, (statD hn).2.2.1, hd⟩
  have loop : ∀ s3 : Shared, s3 = { s2 with heap := h4, toks := s2.toks + ([] : List (Str × Value)).length } →
      codeAny (model X.prog X.w) X.A (.compLoop (.ListComp elt [⟨.Name x px, iter, [tst], 0⟩] scope pos) 0 (.ref it) (.ref s2.heap.objs.size) Y.env)
        (compPost (model X.prog X.w) X.A X.xe use Q (.ref s2.heap.objs.size) G.objs.size) s3 := by
    rintro s3 rfl
    refine compLoop_goC (fun k s' => ∃ i ys v0 H' its n, Inv Y [] (v0 :: σ) H' s' ∧ tn i s'.heap ∧ (∀ b ∈ fp, H' b = none) ∧ H' s2.heap.objs.size = none ∧ Vals ys its ∧ s'.heap.get? s2.heap.objs.size = some { cls := .type "list", data := .seq its.toArray n } ∧ W i k ys H') ?_ m0
      ⟨0, [], none, H2, [], 0, I4, T.keep _ _ _ st2 fun b _ o e => hk b o e, fun b hb => (f2 b hb).1, I2.hok.fresh (Nat.le_refl _), .nil, hD, w0⟩
    rintro k s' ⟨i, ys, v0, H', its, n, I5, st5, fr5, nD5, rv5, oD5, w5⟩
    have I5' := pinD I5 nD5 oD5 (fun v z => by cases z)
    have fp5 := stat (pl := [(s2.heap.objs.size, { cls := .type "list", data := .seq its.toArray n })]) fr5 (fun p hp => by have e : p = _ := List.mem_singleton.mp hp; rw [e]; exact Nat.le_refl _)
    rcases turn i k ys H' w5 with ⟨stop, hz, qf⟩ | ⟨go, hz, step⟩
    · refine wpAny_mono (T.done Y rfl rfl rfl hc i _ s' _ H' noE I5' fp5 st5 stop) (fun r s6 ⟨hr, I6⟩ => ?_) fun _ _ z => z
      subst hr
      show compPost _ _ _ _ _ _ _ _ s6
      have oD6 := (I6.pin (s2.heap.objs.size, _) (List.mem_append_right _ List.mem_cons_self)).1
      have nD6 := (I6.pin (s2.heap.objs.size, _) (List.mem_append_right _ List.mem_cons_self)).2.1
      obtain ⟨m6, ns6, _⟩ := I6.loc
      have I7 : Inv X pins σ H' s6 := I2.call' I6.os I6.base I6.hok I6.bare fun b hb => ⟨(f2 b hb).2.2.2.1, (f2 b hb).2.1, (f2 b hb).2.2.2.2.1, (f2 b hb).2.2.2.2.2⟩
      exact fin ys H' s6 s2.heap.objs.size G.objs.size m6 its n qf I7 (I2.fpOk (Nat.le_refl _) nD6) hz rv5 oD6 (I2.fpOk hCge I6.free) hDC ns6
    · refine wpAny_mono (T.item Y rfl rfl rfl hc i _ s' _ H' noE I5' fp5 st5 go) (fun r s6 ⟨u, hr, h6⟩ => ?_) fun _ _ z => z
      subst hr
      show wpAny _ _ (letOwnedTupleGo (.Name x px) (.ref it) u) _ _ s6
      refine wpAny_mono h6 (fun _ s7 ⟨v, H7, I7, r7, y7, st7, fr7⟩ => ?_) fun _ _ z => z
      have I7' := I7.pinned (stat (pl := [(s2.heap.objs.size, { cls := .type "list", data := .seq its.toArray n })]) fr7 (fun p hp => by have e : p = _ := List.mem_singleton.mp hp; rw [e]; exact Nat.le_refl _)) (T.obj _ _ st7)
      have hx : Loc Y.env.scope x := .inl (lookup_relabel_local S.own)
      refine wpAny_assign_Name (store_ok (i := 0) I7' S.nd rfl hx r7 (fun s8 I8 => ?_) (.inr (lookup_relabel_local S.own)))
      refine thn (ht cl G.objs.size s2 H2 fp pins _ s8 (some v :: σ) H7 _ I8 (step v H7 y7)) fun b s8' ⟨H8, I8', stepB⟩ => ?_
      cases b with
      | false =>
        rw [if_neg Bool.false_ne_true] at stepB ⊢
        obtain ⟨m', hm, w9⟩ := stepB
        have oD9 := (I8'.pin (s2.heap.objs.size, _) (List.mem_append_right _ (List.mem_append_left _ List.mem_cons_self))).1
        have nD9 := (I8'.pin (s2.heap.objs.size, _) (List.mem_append_right _ (List.mem_append_left _ List.mem_cons_self))).2.1
        have pinF : ∀ b ∈ fp, ∀ o, s7.heap.get? b = some o → s8'.heap.get? b = some o ∧ H8 b = none := fun b hb o e =>
          ⟨(I8'.pin (b, o) (List.mem_append_right _ (List.mem_append_right _ (mem_pinsAt hb e)))).1, (I8'.pin (b, o) (List.mem_append_right _ (List.mem_append_right _ (mem_pinsAt hb e)))).2.1⟩
        have I9u : Inv Y [] (some v :: σ) H8 s8' := I8'.pins_of fun p hp => absurd hp (by simp)
        refine ⟨m', hm, i + 1, ys, some v, H8, its, n, I9u, T.keep _ _ _ st7 fun b hb o e => (pinF b hb o e).1, fun b hb => ?_, nD9, rv5, oD9, w9⟩
        obtain ⟨o, e, _⟩ := T.obj _ _ st7 b hb
        exact (pinF b hb o e).2
      | true =>
      rw [if_pos rfl] at stepB ⊢
      obtain ⟨N, hN, stepN⟩ := stepB
      refine thn (he cl G.objs.size s2 H2 fp pins _ s8' (some v :: σ) H8 _ I8' stepN) fun yu s9 ⟨y, H9, I9, r9, n9⟩ => ?_
      obtain ⟨m', hm, w9⟩ := hN y H9 n9
      have oD9 := (I9.pin (s2.heap.objs.size, _) (List.mem_append_right _ (List.mem_append_left _ List.mem_cons_self))).1
      have nD9 := (I9.pin (s2.heap.objs.size, _) (List.mem_append_right _ (List.mem_append_left _ List.mem_cons_self))).2.1
      have pinF : ∀ b ∈ fp, ∀ o, s7.heap.get? b = some o → s9.heap.get? b = some o ∧ H9 b = none := fun b hb o e =>
        ⟨(I9.pin (b, o) (List.mem_append_right _ (List.mem_append_right _ (mem_pinsAt hb e)))).1, (I9.pin (b, o) (List.mem_append_right _ (List.mem_append_right _ (mem_pinsAt hb e)))).2.1⟩
      have hlen := rv5.length
      refine call_meets F.slot_list_append ⟨_, oD9, rfl⟩ F.entry_list_append (F.args_list_append_2 _ _) (PySem.list_append s2.heap.objs.size its.toArray n yu (by rw [List.size_toArray]; omega)) ⟨oD9, ?_⟩
      obtain ⟨n9, q9⟩ : ∃ n9, (s9.heap.update s2.heap.objs.size (Obj.mapSeq fun a => a.push yu)).get? s2.heap.objs.size = some { cls := .type "list", data := .seq (its.toArray.push yu) n9 } := ⟨_, PySem.IsL.update oD9 (fun a => a.push yu)⟩
      have I9u : Inv Y [] (some v :: σ) H9 s9 := I9.pins_of fun p hp => absurd hp (by simp)
      obtain ⟨g0, g1, g2, g3, g4, g5⟩ := statD nD9
      have I10 : Inv Y [] (some v :: σ) H9 { s9 with heap := s9.heap.update s2.heap.objs.size (Obj.mapSeq fun a => a.push yu) } :=
        I9u.turned (t' := s9.toks) (fun b o hb e => (Heap.get?_update_other s9.heap _ (Ne.symm hb)).trans e) g0 g1 g3 g4 g5
      refine ⟨m', hm, i + 1, ys ++ [y], some v, H9, its ++ [yu], n9, I10, T.keep _ _ _ st7 fun b hb o e => ?_, fun b hb => ?_, nD9, rv5.append (.cons r9 .nil), ?_, w9⟩
      · exact (Heap.get?_update_other s9.heap _ (Nat.ne_of_gt (hfp b hb))).trans (pinF b hb o e).1
      · obtain ⟨o, e, _⟩ := T.obj _ _ st7 b hb
        exact (pinF b hb o e).2
      · rw [show (its ++ [yu]).toArray = its.toArray.push yu by simp]
        exact q9
  exact codeAny_compStart_list (loop _ rfl) (T.self X.A 0 _ _ _ (T.keep _ _ _ st2 fun b _ o e => hk b o e) (loop _ rfl))
end
def tCompC (wi : TI) (tc : TT) (te : TE) : TE := fun σ H Q => wi σ H fun J H1 => CompWC tc te σ J H1 fun ys H2 => ∀ p,H2 p = none → Q (.ref p) (upd H2 p (.lst ys))
section
variable {X : Cx} {scope : Scope} {x : Str} {elt iter tst : Expr} {px pos spos py : Pos} {wi : TI} {te : TE} {tc : TT}
theorem pe_compC (hc : X.calm = true) (S : CompSc X.N X.env.scope scope x) (hi : PI X (.Name x px) iter wi) (he : ∀ cl C s0 H0 fp pins,PE (X.comp scope cl x C s0 H0 fp pins) elt te) (ht : ∀ cl C s0 H0 fp pins,PT (X.comp scope cl x C s0 H0 fp pins) tst tc)
    (hs : ∀ v,foldedSetIterable iter X.env v = pure v := by intro _; rfl) : PE X (.ListComp elt [⟨.Name x px,iter,[tst],0⟩] scope pos) (tCompC wi tc te) := by
  intro pins s σ H Q I h
  rw [eval_ListComp]
  refine comp_coreC (use := none) hc S hi he ht I h (fun ys H' s' D C m its n q I' fD hz rv oD fC hDC hns => ?_) hs
  refine ⟨m,hns,fun h' hsb => ?_⟩
  have I2 := I'.afterComp fC hsb
  have oD' : h'.get? D = some { cls := .type "list",data := .seq its.toArray n } := (hsb.2 D hDC).trans oD
  exact ⟨.ref D,_,I2.adopt (o := .lst ys) fD ⟨hz,its,n,rv,oD'⟩,rfl,q D fD.1⟩
end
section
variable {X : Cx} {ρ : List Sl} {iter tst : Expr} {xs : List PyData} {pos : Pos}
theorem comp_readC {x : Str} {px : Pos} {elt : Expr} {scope : Scope} {g : PyData → PyData} {ok : PyData → Bool} (hc : X.calm = true) (hi : VI X ρ (.Name x px) iter xs) (hz : xs.length ≤ sizeLine)
    (he : ∀ a ∈ xs,ok a = true → ∀ cl C s0 H0 fp pins,VE (X.comp scope cl x C s0 H0 fp pins) (.d a :: ρ.map Sl.arg) elt (.d (g a))) (ht : ∀ a ∈ xs,∀ cl C s0 H0 fp pins,VT (X.comp scope cl x C s0 H0 fp pins) (.d a :: ρ.map Sl.arg) tst (ok a)) :
    ∃ wi te tc,PI X (.Name x px) iter wi ∧ (∀ cl C s0 H0 fp pins,PE (X.comp scope cl x C s0 H0 fp pins) elt te) ∧ (∀ cl C s0 H0 fp pins,PT (X.comp scope cl x C s0 H0 fp pins) tst tc) ∧ ∀ H0 hs σ H (R : V → Hp → Prop),ER X.K H0 hs ρ σ H → (∀ p H',Same H H' → H p = none → LsR X.K H' p ((xs.filter ok).map g) → R (.ref p) H') → tCompC wi tc te σ H R := by
  obtain ⟨wi,pi,hwi⟩ := hi
  refine ⟨wi,fun σ H Q => ∃ (a y : PyData) (H0 : Hp) (hs : List (V × Sl)),(∀ cl C s0 H0 fp pins,VE (X.comp scope cl x C s0 H0 fp pins) (.d a :: ρ.map Sl.arg) elt (.d y)) ∧ ER X.K H0 hs (.d a :: ρ.map Sl.arg) σ H ∧ ∀ v H',Same H H' → Rep X.K H' y v → Q v H',
    fun σ H Q => ∃ (a : PyData) (b : Bool) (H0 : Hp) (hs : List (V × Sl)),(∀ cl C s0 H0 fp pins,VT (X.comp scope cl x C s0 H0 fp pins) (.d a :: ρ.map Sl.arg) tst b) ∧ ER X.K H0 hs (.d a :: ρ.map Sl.arg) σ H ∧ ∀ H',Same H H' → Q b H',pi,fun cl C s0 H0 fp pins => ?_,fun cl C s0 H0 fp pins => ?_,fun H0 hs σ H R er k => ?_⟩
  · rintro pins' s σ H Q I ⟨a,y,H0',hs,ve,er,q⟩
    exact ve cl C s0 H0 fp pins pins' s σ H Q I ⟨⟨H0',hs,er⟩,q⟩
  · rintro pins' s σ H Q I ⟨a,y,H0',hs,ve,er,q⟩
    exact ve cl C s0 H0 fp pins pins' s σ H Q I ⟨⟨H0',hs,er⟩,q⟩
  refine hwi H0 hs σ H _ er fun It H1 h s1 hh sep iok => ?_
  have er1 : ER X.K H0 (h :: hs) (ρ.map Sl.arg) σ H1 := (er.grow s1).args.hold hh fun _ _ i xs a q => by
    exfalso
    rw [List.getElem?_map] at q
    cases q' : ρ[i]? with
    | none => rw [q'] at q; cases q
    | some s => rw [q'] at q; cases s <;> cases q
  refine ⟨fun i m zs H => m = xs.length - i ∧ i ≤ xs.length ∧ Same H1 H ∧ zs.length ≤ i ∧ ER X.K H0 (h :: hs) (ρ.map Sl.arg) σ H ∧ Reps X.K H (((xs.take i).filter ok).map g) zs,⟨_,rfl,Nat.zero_le _,Same.refl _,Nat.le_refl _,er1,by rw [List.take_zero]; exact .nil⟩,?_⟩
  rintro i m zs H' ⟨rfl,hi,sm,hzl,er',rp⟩
  have hh := er'.held h List.mem_cons_self
  by_cases hlt : i < xs.length
  · refine .inr ⟨iok.go i H' hh hlt,by omega,fun v H2 y => ?_⟩
    obtain ⟨sy,d,hd,rd⟩ := iok.yld i H' v H2 hh hlt y
    have hm := List.mem_of_getElem? hd
    have tk : xs.take (i + 1) = xs.take i ++ [d] := by rw [List.take_add_one,hd]; rfl
    refine ⟨d,ok d,H0,h :: hs,ht d hm,(er'.grow sy).comp rd,fun H3 s3 => ?_⟩
    by_cases hok : ok d = true
    · show ite (ok d = true) _ _
      rw [if_pos hok]
      refine ⟨fun z H4 => Same H3 H4 ∧ Rep X.K H4 (g d) z,fun z H4 ⟨s4,r4⟩ => ⟨xs.length - (i + 1),by omega,rfl,hlt,sm.trans (sy.trans (s3.trans s4)),by simp; omega,er'.grow (sy.trans (s3.trans s4)),?_⟩,d,g d,H0,h :: hs,he d hm hok,((er'.grow sy).comp rd).grow s3,fun z H4 s4 r4 => ⟨s4,r4⟩⟩
      rw [tk,List.filter_append,List.map_append,List.filter_cons_of_pos hok]
      exact (Reps.mono (TupLe.of_same (sy.trans (s3.trans s4))) _ _ rp).append (.one r4)
    · show ite (ok d = true) _ _
      rw [if_neg hok]
      refine ⟨xs.length - (i + 1),by omega,rfl,hlt,sm.trans (sy.trans s3),by omega,er'.grow (sy.trans s3),?_⟩
      rw [tk,List.filter_append,List.map_append,List.filter_cons_of_neg hok,List.filter_nil,List.map_nil,List.append_nil]
      exact Reps.mono (TupLe.of_same (sy.trans s3)) _ _ rp
  · have e : i = xs.length := by omega
    subst e
    refine .inl ⟨iok.stop H' hh,by omega,fun p np => ?_⟩
    rw [List.take_length] at rp
    have s2 := same_upd np (.lst zs)
    exact k p _ ((s1.trans sm).trans s2) ((s1.trans sm).free np) ⟨zs,upd_same,Reps.mono (TupLe.of_same s2) _ _ rp⟩
theorem ve_compC {x : Str} {px : Pos} {elt : Expr} {scope : Scope} {g : PyData → PyData} {ok : PyData → Bool} (hc : X.calm = true) (S : CompSc X.N X.env.scope scope x) (hi : VI X ρ (.Name x px) iter xs) (hz : xs.length ≤ sizeLine)
    (he : ∀ a ∈ xs,ok a = true → ∀ cl C s0 H0 fp pins,VE (X.comp scope cl x C s0 H0 fp pins) (.d a :: ρ.map Sl.arg) elt (.d (g a))) (ht : ∀ a ∈ xs,∀ cl C s0 H0 fp pins,VT (X.comp scope cl x C s0 H0 fp pins) (.d a :: ρ.map Sl.arg) tst (ok a))
    (hs : ∀ v,foldedSetIterable iter X.env v = pure v := by intro _; rfl) : VE X ρ (.ListComp elt [⟨.Name x px,iter,[tst],0⟩] scope pos) (.o ((xs.filter ok).map g)) := by
  obtain ⟨wi,te,tc,h1,h2,h3,h4⟩ := comp_readC hc hi hz he ht
  exact PE.weak (pe_compC hc S h1 h2 h3 hs) fun σ H Q ⟨⟨H0,hs,er⟩,q⟩ => h4 H0 hs σ H Q er fun p H' s n l => q _ H' s ⟨p,rfl,n,l⟩
end
end L2
namespace L2
open PySem PySem.Spec PyProof.Rows
open Wk (codes)
def sg (c : Nat) : Str := ⟨#[c]⟩
def Its (x : Str) : It := ⟨fun i _ => i < x.cps.size,fun i H v H' => H' = H ∧ ∃ c,x.cps[i]? = some c ∧ v = .str (sg c),fun i _ => x.cps.size ≤ i⟩
theorem turn_str {P : Program} {w : World} {K : PySem.W.Frag} {tg : Expr} (it : Addr) (x : Str) (t : Tok) (ty : String) (ht : ty = "str_ascii_iterator" ∨ ty = "str_iterator") : Turn P w K tg (Its x) [it] it (fun i h => h.IsStrIter it ty x t i) where
  mem := by simp
  obj := fun i h st b hb => by
    have e : b = it := by simpa using hb
    subst e
    obtain ⟨o,e,c,d⟩ := st
    exact ⟨o,e,fun v z => by rw [d] at z; cases z⟩
  keep := fun i h h' st k => by obtain ⟨o,e,r⟩ := st; exact ⟨o,k it (by simp) o e,r⟩
  item := by
    intro X hP hw hK hc i pins s σ H E I hf st hg
    subst hP hw hK
    have hi : i < x.cps.size := hg
    obtain ⟨f0,f1,f2,f3,f4,f5⟩ := hf it (by simp)
    have fin : ∀ h' : Heap,h'.IsStrIter it ty x t (i + 1) → Heap.SameBut it s.heap h' → ∃ u,some (Value.str (sg x.cps[i]) s.toks) = some u ∧ wpAny (model X.prog X.w) X.A (letOwnedTupleGo tg (.ref it) u) (fun _ s2 => ∃ y H',Inv X pins σ H' s2 ∧ RelV y u ∧ (Its x).yld i H y H' ∧ s2.heap.IsStrIter it ty x t (i + 1) ∧ ∀ b ∈ [it],H' b = none) E { s with heap := h',toks := s.toks + 1 } := by
      intro h' st' sb
      have I1 : Inv X pins σ H { s with heap := h',toks := s.toks + 1 } := I.turned (t' := s.toks + 1) (fun b o hb e => (sb.2 b hb).trans e) f0 f1 f3 f4 f5
      obtain ⟨o,e,c,d⟩ := id st'
      refine ⟨_,rfl,go_of (s := { s with heap := h',toks := s.toks + 1 }) e c d (by rcases ht with rfl | rfl <;> decide) ⟨.str (sg x.cps[i]),H,I1,⟨_,rfl⟩,⟨rfl,x.cps[i],by simp [hi],rfl⟩,st',fun b hb => (hf b hb).1⟩⟩
    rcases ht with rfl | rfl
    · exact wpAny_pyNext_ascii_item st (c := x.cps[i]) (by simp [hi]) fun h' hit' hs' => fin h' hit' hs'
    · exact wpAny_pyNext_wide_item st (c := x.cps[i]) (by simp [hi]) fun h' hit' hs' => fin h' hit' hs'
  done := by
    intro X hP hw hK hc i pins s σ H E I hf st hg
    subst hP hw hK
    have hi : x.cps.size ≤ i := hg
    obtain ⟨f0,f1,f2,f3,f4,f5⟩ := hf it (by simp)
    rcases ht with rfl | rfl
    · exact wpAny_pyNext_ascii_end (I.ok.hd hc) st (by simp [hi]) fun h' eb => ⟨rfl,I.turned (t' := s.toks) (fun b o hb e => eb b o hb e) f0 f1 f3 f4 f5⟩
    · exact wpAny_pyNext_wide_end (I.ok.hd hc) st (by simp [hi]) fun h' eb => ⟨rfl,I.turned (t' := s.toks) (fun b o hb e => eb b o hb e) f0 f1 f3 f4 f5⟩
  self := fun _ _ _ _ _ st h => by
    rcases ht with rfl | rfl
    · exact wpAny_pyIter_striter_ascii st h
    · exact wpAny_pyIter_striter_wide st h
def iStr (tl : TE) : TI := fun σ H R => tl σ H fun v H1 => ∃ x,v = .str x ∧ R (Its x) H1
section
variable {X : Cx} {tg : Expr}
theorem pi_str {l : Expr} {tl : TE} (hl : PE X l tl) : PI X tg l (iStr tl) := by
  intro pins s σ H R I h
  refine thn (hl pins s σ H _ I h) fun v s1 ⟨y,H1,I1,r1,x,e,q⟩ => ?_
  subst e
  obtain ⟨t,rfl⟩ := r1
  have fin : ∀ ty,ty = "str_ascii_iterator" ∨ ty = "str_iterator" → PIE X pins σ tg R (.ref s1.heap.objs.size) { s1 with heap := s1.heap.push { cls := .type ty,data := .fields #[.str x t,.int 0 0] } } := by
    intro ty ht
    refine ⟨s1.heap.objs.size,[s1.heap.objs.size],_,_,H1,rfl,I1.kept (t' := s1.toks) fun b o e => Heap.get?_push_of_some _ e,turn_str _ x t ty ht,⟨_,Heap.get?_push_size _ rfl,rfl,rfl⟩,fun b hb => ?_,q⟩
    have e : b = s1.heap.objs.size := by simpa using hb
    subst e
    exact I1.fpOk (Nat.le_refl _) (I1.hok.fresh (Nat.le_refl _))
  cases ha : x.cps.all (· < 128)
  · exact wpAny_pyIter_wide ha (fin _ (.inr rfl))
  · exact wpAny_pyIter_ascii ha (fin _ (.inl rfl))
end
section
variable {X : Cx} {ρ : List Sl} {e a b c tg iter : Expr} {es : List Expr} {r ra rb : Sl} {p pos p2 p3 apos cpos : Pos} {d : PyData} {ds xs : List PyData} {rs : List Sl}
def sgs (x : Str) : List PyData := (codes x).map fun c => .str (sg c)
theorem itok_str {K : PySem.W.Frag} {x : Str} : ItOk K (Its x) (.non,.un) (sgs x) where
  go := fun i H _ hi => by show i < x.cps.size; simpa [sgs,codes] using hi
  yld := fun i H v H' _ hi ⟨e,c,hc,hv⟩ => by
    subst e hv
    refine ⟨Same.refl _,.str (sg c),?_,.str _⟩
    show ((codes x).map fun c => PyData.str (sg c))[i]? = _
    rw [List.getElem?_map,show (codes x)[i]? = some c from by show x.cps.toList[i]? = some c; rw [Array.getElem?_toList]; exact hc]
    rfl
  stop := fun H _ => by show x.cps.size ≤ (sgs x).length; simp [sgs,codes]
theorem vi_str {x : Str} (h : VE X ρ iter (.d (.str x))) : VI X ρ tg iter (sgs x) :=
  ⟨_,pi_str h,fun H0 hs σ H R er k => ⟨⟨H0,hs,er⟩,fun v H1 s1 q => by
    obtain rfl := RsR.is_str q
    exact ⟨x,rfl,k _ H1 (.non,.un) s1 trivial (fun _ z => nomatch z) itok_str⟩⟩⟩
theorem op_inS : OpR X (compareOp .In) (fun x y H Q => ∃ (c : Nat) (z : Str),x = .str (sg c) ∧ y = .str z ∧ Q (.bl (decide (c ∈ codes z))) H) := by
  intro pins s σ H x y v u Q I rx ry h
  obtain ⟨c,z,rfl,rfl,q⟩ := h
  obtain ⟨t,rfl⟩ := rx
  obtain ⟨t2,rfl⟩ := ry
  refine in_str ⟨.bl _,H,I,rfl,?_⟩
  rw [show (sg c) = ⟨#[c]⟩ from rfl,StrLaws.found_one]
  exact q
theorem ve_inS {c : Nat} {z : Str} (ha : VE X ρ a (.d (.str (sg c)))) (hb : VE X ρ b (.d (.str z))) (hm : behindInMarks .In b = false := by rfl) : VE X ρ (.Compare a [.In] [b] pos) (.d (.bool (decide (c ∈ codes z)))) :=
  ve_cmp op_inS ha hb (fun H u w Q rx ry q => ⟨c,z,RdR.is_str rx,RdR.is_str ry,q _ H (Same.refl H) RsR.bool⟩) hm
end
end L2
namespace L2
open PySem PySem.Spec PyProof.Rows Builtin Builtin.Str
open Wk (codes)
section
variable {X : Cx} {pins : List (Addr × Obj)} {σ : St} {H : Hp} {s : Shared}
def rSplit : V → List V → Hp → VK → Prop := fun x vs H Q => ∃ (l y : Str),x = .str l ∧ vs = [.str y] ∧ (y.length == 0) = false ∧ l.length ≤ sizeLine ∧ (Txt.split l y).length ≤ sizeLine ∧
  (partsBetween l (occurrences l y 0 l.length (l.length + 1)) y.length).length ≤ sizeLine ∧ ∀ p,H p = none → Q (.ref p) (upd H p (.lst ((Txt.split l y).map V.str)))
theorem strs_vals : ∀ (l : List (Str × Tok)),Vals ((l.map (·.1)).map V.str) (strValues l)
  | [] => .nil
  | p :: l => .cons ⟨p.2,rfl⟩ (strs_vals l)
theorem mt_split : MtM X "str.split" rSplit := by
  intro pins s σ H x vs v us Q I rx rv h
  obtain ⟨l,y,rfl,rfl,hy,hl,hn,hp,q⟩ := h
  obtain ⟨t,rfl⟩ := rx
  obtain ⟨u',rfl,ru⟩ := rv.one
  obtain ⟨u,rfl⟩ := ru
  have fin : ∀ (ls : List (Str × Tok)) (tk : Nat),ls.map (·.1) = Txt.split l y → EP X pins σ Q (.ref s.heap.objs.size) { s with toks := tk,heap := s.heap.push { cls := .type "list",data := .seq (strValues ls).toArray } } := by
    intro ls tk e
    have hf : H s.heap.objs.size = none := I.hok.fresh (Nat.le_refl _)
    refine ⟨.ref s.heap.objs.size,_,I.laid (t' := tk) (a := s.heap.objs.size) (o := .lst ((Txt.split l y).map V.str)) (fun b o e => Heap.get?_push_of_some _ e) (Nat.le_refl _) ⟨by rw [List.length_map]; exact hn,strValues ls,0,?_,Heap.get?_push_size _ rfl⟩,rfl,q _ hf⟩
    rw [← e]; exact strs_vals ls
  cases h1 : (decide (l.length < y.length) || decide (strKind l < strKind y))
  · cases hf : (occurrences l y 0 l.length (l.length + 1)).isEmpty
    · refine call_meets F.slot_str_split (typeIs_str _ _ _) F.entry_str_split (F.args_str_split_2 _ _) (meets_str_split_sep l y t u h1 hy hf hl hp) ?_
      show wants (EP X pins σ Q) X.xe _ { s with toks := _,heap := s.heap.push { cls := .type "list",data := .seq (strsFrom s.toks (partsBetween l (occurrences l y 0 l.length (l.length + 1)) y.length)).toArray } }
      rw [strsFrom_eq]
      exact fin (numbered s.toks _) _ ((numbered_texts _ _).trans ((if_neg (ne_true_of_eq_false h1)).trans (if_neg (ne_true_of_eq_false hf))).symm)
    · exact call_meets F.slot_str_split (typeIs_str _ _ _) F.entry_str_split (F.args_str_split_2 _ _) (meets_str_split_not_found l y t u h1 hy hf) (fin [(l,t)] s.toks ((if_neg (ne_true_of_eq_false h1)).trans (if_pos hf)).symm)
  · exact call_meets F.slot_str_split (typeIs_str _ _ _) F.entry_str_split (F.args_str_split_2 _ _) (meets_str_split_cannot_occur l y t u h1) (fin [(l,t)] s.toks (if_pos h1).symm)
def rIndex : V → List V → Hp → VK → Prop := fun x vs H Q => ∃ (l : Str) (c i : Nat) (rest : List Nat),x = .str l ∧ vs = [.str (sg c)] ∧ occurrences l (sg c) 0 l.length 1 = i :: rest ∧ Q (.int i) H
theorem mt_index : MtM X "str.index" rIndex := by
  intro pins s σ H x vs v us Q I rx rv h
  obtain ⟨l,c,i,rest,rfl,rfl,ho,q⟩ := h
  obtain ⟨t,rfl⟩ := rx
  obtain ⟨u',rfl,ru⟩ := rv.one
  obtain ⟨u,rfl⟩ := ru
  exact SC.index ho ⟨.int i,H,I.tok _,⟨_,rfl⟩,q⟩
theorem vals_bools : ∀ {bs : List Bool} {us : List Value},Vals (bs.map V.bl) us → us = bs.map Value.bool
  | [],_,.nil => rfl
  | b :: bs,_,.cons r t => by rw [vals_bools t]; cases r; rfl
theorem call_allB (hc : X.calm = true) : CallR X (.builtin "all") (fun xs H Q => ∃ (l : Addr) (bs : List Bool), xs = [.ref l] ∧ SqL X.K H l (bs.map V.bl) ∧ Q (.bl (bs.all id)) H) := by
  intro pins s σ H xs us Q I rv h
  obtain ⟨l, bs, rfl, hq, q⟩ := h
  obtain ⟨u, rfl, ru⟩ := rv.one
  cases ru
  obtain ⟨its, r, p, hz⟩ := I.list hq
  obtain rfl := vals_bools r
  have lt : l < s.heap.objs.size := by obtain ⟨o, e, _⟩ := p.isList; exact Heap.lt_size e
  refine call_all_walk (wpAny_pyIter_list p.isList ⟨s.heap.objs.size, [s.heap.objs.size, l], [s.heap.objs.size], _, _, _, fun i => (bs[i]?).getD true, rfl, Walks.list (by first | exact I.ok.hd hc | (simpa using I.ok.hd hc)) _ l (Nat.ne_of_lt lt) ((bs.map Value.bool).toArray), ?_, ?_, ?_⟩)
  · exact ⟨⟨_, Heap.get?_push_size _ rfl, rfl, rfl⟩, p.isList.at fun o e => Heap.get?_push_of_some _ e⟩
  · intro i v s Q E hP hQ
    have hP' : (bs.map Value.bool)[i]? = some v := by simpa using hP
    rw [List.getElem?_map] at hP'
    cases hb : bs[i]? with
    | none => rw [hb] at hP'; cases hP'
    | some b =>
      rw [hb] at hP'; cases hP'
      have hQ' : Q ((bs[i]?).getD true) s := hQ
      rw [hb] at hQ'; exact wpAny_truthy_bool hQ'
  · intro h' tk kp
    have I' : Inv X pins σ H { s with heap := h', toks := tk } := I.kept fun b o e => kp b o (by simp; exact Nat.ne_of_lt (Heap.lt_size e)) (Heap.get?_push_of_some _ e)
    refine ⟨.bl _, H, I', rfl, ?_⟩
    have e : (List.range ((bs.map Value.bool).toArray.size)).all (fun i => (bs[i]?).getD true) = bs.all id := by
      rw [Bool.eq_iff_iff, List.all_eq_true, List.all_eq_true]
      constructor
      · intro h b hb
        obtain ⟨i, hi⟩ := List.mem_iff_getElem?.mp hb
        have := h i (by simp; exact (List.getElem?_eq_some_iff.mp hi).1)
        rw [hi] at this
        exact this
      · intro h i hi
        cases hb : bs[i]? with
        | none => rfl
        | some b => exact h b (List.mem_of_getElem? hb)
    show Q (.bl ((List.range ((bs.map Value.bool).toArray.size)).all (fun i => (bs[i]?).getD true))) H
    rw [e]
    exact q
end
section
variable {X : Cx} {ρ : List Sl} {e a b c tg iter : Expr} {es : List Expr} {r ra rb : Sl} {p pos p1 p2 p3 apos cpos : Pos} {j1 j2 : Nat} {d : PyData} {ds xs : List PyData} {rs : List Sl}
theorem ve_split {l y : Str} (ha : VE X ρ a (.d (.str l))) (hb : VE X ρ b (.d (.str y))) (hy : (y.length == 0) = false) (hl : l.length ≤ sizeLine) (hn : (Txt.split l y).length ≤ sizeLine) (hp : (partsBetween l (occurrences l y 0 l.length (l.length + 1)) y.length).length ≤ sizeLine)
    (hbase : attributeBase a "split" X.env (eval a X.env) = eval a X.env := by rfl)
    (hfew : ((backTo cpos (starEach [b] X.env)).all (fun x => !x.1) && (backToKw cpos (keywordEach [] X.env)).all (fun x => x.1.isSome) && decide ([b].length + ([] : List Keyword).length + (if ([] : List Keyword).isEmpty then 0 else 1) < 30)) = true := by rfl)
    (hline : (apos.endLine == cpos.line) = true := by rfl) (hs : starEach [b] X.env = (false,eval b X.env) :: starEach [] X.env := by rfl) (hplain : (backTo cpos (starEach [] X.env)).any (·.1) = false := by rfl) : VE X ρ (.Call (.Attribute a "split" apos) [b] [] cpos) (.o ((Txt.split l y).map .str)) :=
  PE.weak (pe_bm PySem.F.plainAttrs_str PySem.F.slot_str_split PySem.F.type_str_split mt_split ha (pa_cons hb pa_nil hs) hbase hfew hline hs hplain) fun σ H Q ⟨er,q⟩ => ⟨er,fun v H1 s1 r1 => by
    obtain rfl := RsR.is_str r1
    refine ⟨rfl,er_grow er s1,fun u H2 s2 r2 => ?_⟩
    obtain rfl := RsR.is_str r2
    refine ⟨l,y,rfl,rfl,hy,hl,hn,hp,fun p np => ?_⟩
    have s3 := same_upd np (.lst ((Txt.split l y).map V.str))
    exact q _ _ ((s1.trans s2).trans s3) ⟨p,rfl,(s1.trans s2).free np,_,upd_same,strs_reps _⟩⟩
theorem ve_index {l : Str} {k i : Nat} {rest : List Nat} (ha : VE X ρ a (.d (.str l))) (hb : VE X ρ b (.d (.str (sg k)))) (ho : occurrences l (sg k) 0 l.length 1 = i :: rest)
    (hbase : attributeBase a "index" X.env (eval a X.env) = eval a X.env := by rfl)
    (hfew : ((backTo cpos (starEach [b] X.env)).all (fun x => !x.1) && (backToKw cpos (keywordEach [] X.env)).all (fun x => x.1.isSome) && decide ([b].length + ([] : List Keyword).length + (if ([] : List Keyword).isEmpty then 0 else 1) < 30)) = true := by rfl)
    (hline : (apos.endLine == cpos.line) = true := by rfl) (hs : starEach [b] X.env = (false,eval b X.env) :: starEach [] X.env := by rfl) (hplain : (backTo cpos (starEach [] X.env)).any (·.1) = false := by rfl) : VE X ρ (.Call (.Attribute a "index" apos) [b] [] cpos) (.d (.int i)) :=
  PE.weak (pe_bm PySem.F.plainAttrs_str PySem.F.slot_str_index PySem.F.type_str_index mt_index ha (pa_cons hb pa_nil hs) hbase hfew hline hs hplain) fun σ H Q ⟨er,q⟩ => ⟨er,fun v H1 s1 r1 => by
    obtain rfl := RsR.is_str r1
    refine ⟨rfl,er_grow er s1,fun u H2 s2 r2 => ?_⟩
    obtain rfl := RsR.is_str r2
    exact ⟨l,k,i,rest,rfl,rfl,ho,q _ H2 (s1.trans s2) RsR.int⟩⟩
theorem reps_bools {K : PySem.W.Frag} {H : Hp} : ∀ {bs : List Bool} {vs : List V}, Reps K H (bs.map PyData.bool) vs → vs = bs.map V.bl
  | [], vs, h => by rw [List.map_nil, Reps] at h; exact h
  | x :: xs, vs, h => by
    obtain ⟨v, r, rfl, h1, h2⟩ := h.split
    rw [Rep] at h1
    rw [h1, reps_bools h2]; rfl
theorem ve_all {bs : List Bool} (hc : X.calm = true) (hm : X.mg "all" = none) (ha : VE X ρ a ra) (ea : ra.its = some (bs.map .bool)) (hg : Gl X "all" := by rfl) (hs : starEach [a] X.env = [(false,eval a X.env)] := by rfl) : VE X ρ (.Call (.Name "all" p) [a] [] pos) (.d (.bool (bs.all id))) :=
  PE.weak (pe_callB (call_allB hc) hg hm PyProof.Rows.boot_all (pa_cons ha pa_nil hs) (by decide) (by decide) hs) fun σ H Q ⟨er,q⟩ => ⟨er,fun v H1 s1 r1 => by
    obtain ⟨l,vs,rfl,hq,rp⟩ := r1.rd.lst ea
    obtain rfl := reps_bools rp
    exact ⟨l,bs,rfl,SqL.of hq,q _ H1 s1 RsR.bool⟩⟩
theorem vep_replace {l y z : Str} (ha : VEpos X ρ a (.d (.str l))) (hz : l.length + (l.length + 1) * z.length ≤ 16777216) (hyz : (y == z) = false := by decide)
    (hbase : attributeBase a "replace" X.env (eval a X.env) = eval a X.env := by rfl)
    (hfew : ((backTo cpos (starEach [.Constant (.str y) j1 p1,.Constant (.str z) j2 p2] X.env)).all (fun x => !x.1) && (backToKw cpos (keywordEach [] X.env)).all (fun x => x.1.isSome)
      && decide ([Expr.Constant (.str y) j1 p1,.Constant (.str z) j2 p2].length + ([] : List Keyword).length + (if ([] : List Keyword).isEmpty then 0 else 1) < 30)) = true := by rfl)
    (hline : (apos.endLine == cpos.line) = true := by rfl) : VEpos X ρ (.Call (.Attribute a "replace" apos) [.Constant (.str y) j1 p1,.Constant (.str z) j2 p2] [] cpos) (.d (.str (Txt.replace l y z))) :=
  PEpos.weak (pep_replace ha hyz hbase hfew hline) fun σ H Q ⟨er,q⟩ => ⟨er,fun v H1 s1 r1 => by
    obtain rfl := RsR.is_str r1
    exact ⟨l,rfl,hz,q _ H1 s1 RsR.str⟩⟩
end
end L2
namespace L2
open PySem PySem.Spec PyProof.Rows
section
variable {X : Cx} {ρ : List Sl} {b : Expr} {p pos p2 apos cpos : Pos}
def getD (f : Option (List Str)) : PyData := match f with
  | some ds => .tuple (ds.map .str)
  | none => .none
theorem ve_getK {x y : Str} {f : Str → Option (List Str)} (T : TabK X.prog X.w X.K X.mg x f) (hb : VE X ρ b (.d (.str y))) (hg : Gl X x := by rfl) (hd : (x == ("__debug__" : Str)) = false := by decide)
    (hbase : attributeBase (.Name x p2) "get" X.env (eval (.Name x p2) X.env) = eval (.Name x p2) X.env := by rfl)
    (hfew : ((backTo cpos (starEach [b] X.env)).all (fun x => !x.1) && (backToKw cpos (keywordEach [] X.env)).all (fun x => x.1.isSome) && decide ([b].length + ([] : List Keyword).length + (if ([] : List Keyword).isEmpty then 0 else 1) < 30)) = true := by rfl)
    (hline : (apos.endLine == cpos.line) = true := by rfl) (hs : starEach [b] X.env = [(false, eval b X.env)] := by rfl) (hbt : backTo cpos [(false, eval b X.env)] = [(false, eval b X.env)] := by rfl) :
    VE X ρ (.Call (.Attribute (.Name x p2) "get" apos) [b] [] cpos) (.d (getD (f y))) := by
  obtain ⟨F, o, vs, h1, h2, h3, h4, h5⟩ := T.ex
  have h6 := h5 y
  have go : ∃ v : Value, ((valueAt vs (.inr y : Key)).getD .none) = v ∧ ∃ w : V, RelV w v ∧ ∀ H H', RsR X.K H H' (.d (getD (f y))) w := by
    cases hf : f y with
    | none => rw [hf] at h6; exact ⟨_, rfl, .non, by rw [h6]; rfl, fun H H' => RsR.non⟩
    | some ds =>
      rw [hf] at h6
      obtain ⟨t, h7, h8⟩ := h6
      exact ⟨_, rfl, .ref t, by rw [h7]; rfl, fun H H' => RsR.mk (h8 H') (strs_reps ds)⟩
  obtain ⟨v, hv, w, rw', hR⟩ := go
  have key : PE X (.Call (.Attribute (.Name x p2) "get" apos) [b] [] cpos) (fun σ H Q => (tR X.K ρ (.d (.str y))) σ H fun _ H1 => Q w H1) := by
    intro pins s σ H Q I hq
    refine wpAny_Call_method_late hbase hfew hline (by rw [hs, hbt]) (thn (pe_glob (v := .ref F) hg h1 rfl hd pins s σ H (fun u H' => u = .ref F ∧ H' = H) I ⟨rfl, rfl⟩) fun u s1 ⟨v1, H1, I1, rx, e1, e2⟩ => ?_)
    subst e1 e2
    cases rx
    have dd : s1.heap.DictOf (mixKind X.prog X.w) F vs := Heap.dictOf_iff.mpr ⟨o, I1.kIn F o h2, h3⟩
    refine ⟨"dict", "dict.get", PySem.F.plainAttrs_dict, PySem.F.slot_dict_get, PySem.F.type_dict_get, dd.typeIs, dd.mapOf.noDict, ?_⟩
    refine wpAny_dict_get1 (knd := mixKind X.prog X.w) h4 (thn (hb pins s1 σ H1 (fun z H' => z = .str y ∧ Q w H') I1 ⟨hq.1, fun v H' s' r => ⟨RsR.is_str r, hq.2 v H' s' r⟩⟩) fun iv s2 ⟨z, H2, I2, ry, e3, q2⟩ => ?_)
    subst e3
    have dd2 : s2.heap.DictOf (mixKind X.prog X.w) F vs := Heap.dictOf_iff.mpr ⟨o, I2.kIn F o h2, h3⟩
    exact ⟨.inr y, _, kV_is (k := .inr y) ry, dd2.mapOf, by
      show EP X pins σ Q ((valueAt vs (.inr y : Key)).getD .none) _
      rw [hv]
      exact ⟨w, H2, I2.tok _, rw', q2⟩⟩
  exact PE.weak key fun σ H Q ⟨er, q⟩ => ⟨er, fun u H2 s2 r2 => q _ H2 s2 (hR H H2)⟩
end
section
variable {X : Cx} {ρ : List Sl} {a b : Expr} {p pos p2 apos cpos : Pos}
def rSl1 : V → Option Int → Option Int → Hp → VK → Prop := fun x lo hi H Q => ∃ z : Str,x = .str z ∧ lo = some 1 ∧ hi = none ∧ z.length ≤ sizeLine ∧ Q (.str (Txt.slice z (some 1) none)) H
theorem sl_str1 : SlR X rSl1 := by
  intro pins s σ H x v vl vu lo hi sl Q I rx hs pl pu h
  obtain ⟨z, rfl, rfl, rfl, hz, q⟩ := h
  obtain ⟨t, rfl⟩ := rx
  cases pl with
  | int i u =>
    cases pu
    exact ⟨"str", _, PySem.F.slot_str_getitem.lookup, typeIs_str _ _ _, wpAny_getItem_str_slice (l := some (1, u)) (u := none) (st := none) hs rfl (post_val_or_str ⟨Nat.le_trans (Txt.slice_le z _ _) hz, fun t' k => ⟨.str _, H, I.tok _, ⟨_, rfl⟩, q⟩⟩)⟩
def tailS (z : Str) : Str := Txt.slice z (some 1) none
theorem tailS_codes {z : Str} (h : 1 ≤ z.length) : Wk.codes (tailS z) = (Wk.codes z).drop 1 := by
  unfold tailS
  rw [PyProof.Rows.slice_from_eq (i := 1) (b := (z.length : Int)) (by decide) (by omega) rfl]
  show ((z.cps.toList.drop 1).take ((z.length : Int) - 1).toNat) = z.cps.toList.drop 1
  apply List.take_of_length_le
  have : z.cps.toList.length = z.length := by simp [Str.length]
  rw [List.length_drop]; omega
theorem ve_sl1 {z : Str} (ha : VE X ρ a (.d (.str z))) (hb : VE X ρ b (.d (.int 1))) (hz : z.length ≤ sizeLine) : VE X ρ (.Subscript a (.Slice (some b) none none p2) pos) (.d (.str (tailS z))) :=
  PE.weak (pe_slice sl_str1 ha (po_some hb) po_none) fun σ H Q ⟨er,q⟩ => ⟨er,fun v H1 s1 r1 => ⟨er_grow er s1,fun u H2 s2 r2 => ⟨1,RsR.is_int r2,z,RsR.is_str r1,rfl,rfl,hz,q _ H2 (s1.trans s2) RsR.str⟩⟩⟩
end
end L2
namespace L2
open PySem PySem.Spec PyProof.Rows
theorem go_zip {prog : Program} {w : World} {A : Around} {E : Value → Shared → Prop} {s : Shared} {zp TI TO p : Addr} {elts : List Expr} {kk : Nat} {ppos : Pos} {Q : Unit → Shared → Prop} (hz : ZipAt s.heap zp TI TO) (hQ : ∀ h',ZipAt h' zp TI TO → Heap.SameBut zp s.heap h' → Q () { s with heap := h' }) :
    wpAny (model prog w) A (letOwnedTupleGo (.Tuple elts kk ppos) (.ref zp) (.ref p)) Q E s := by
  obtain ⟨f0,f1,hz0,hf⟩ := hz
  unfold letOwnedTupleGo
  refine wpAny_bind (wpAny_load hz0 ?_)
  show wpAny _ _ (if (["enumerate","zip","dict_itemiterator","dict_reverseitemiterator","odict_iterator","itertools.zip_longest","itertools.pairwise"].contains "zip" &&
      (#[f0,f1,.bool false,.ref TI,.ref TO] : Array Value)[0]? == some (rawInt p)) = true then _ else _) Q E s
  refine wpAny_ite_split (fun _ => ?_) (fun _ => wpAny_pure (hQ s.heap ⟨f0,f1,hz0,hf⟩ ⟨rfl,fun _ _ => rfl⟩))
  refine wpAny_bind (wpAny_rule ?_)
  show wpAny _ _ (setField (.ref zp) 0 .none) Q E s
  exact wpAny_setField_rec hz0 (by simp) fun h' hz' hs' => hQ h' ⟨_,_,hz',.inl rfl⟩ hs'
theorem turn_zipU {elts : List Expr} {kk : Nat} {ppos : Pos} {P : Program} {w : World} {K : PySem.W.Frag} {zp TI TO i1 i2 t1 t2 : Addr} {sr1 sr2 : Hp → List V → Prop} {si1 si2 : Nat → Heap → Prop} {ct1 ct2 : Array Value → Heap → Prop} (ap : ZipApart zp TI TO i1 i2 t1 t2)
    (S1 : Src P w K i1 t1 sr1 si1 ct1) (S2 : Src P w K i2 t2 sr2 si2 ct2) :
    Turn P w K (.Tuple elts kk ppos) (ItZ sr1 sr2) [zp, TI, TO, i1, i2] zp (fun i h => ZipAt h zp TI TO ∧ IsPair h TI (.ref i1) (.ref i2) ∧ (∃ a b, IsPair h TO a b) ∧ si1 i h ∧ si2 i h) where
  mem := by simp
  obj := fun i h ⟨⟨f0, f1, z, _⟩, h1, ⟨a, b, h2⟩, h3, h4⟩ c hc => by
    simp only [List.mem_cons, List.not_mem_nil, or_false] at hc
    rcases hc with rfl | rfl | rfl | rfl | rfl
    · exact ⟨_, z, fun v q => by cases q⟩
    · exact ⟨_, h1, fun v q => by cases q⟩
    · exact ⟨_, h2, fun v q => by cases q⟩
    · exact S1.obj i h h3
    · exact S2.obj i h h4
  keep := fun i h h' ⟨⟨f0, f1, z, zz⟩, h1, ⟨a, b, h2⟩, h3, h4⟩ k =>
    ⟨⟨f0, f1, k zp (by simp) _ z, zz⟩, k TI (by simp) _ h1, ⟨a, b, k TO (by simp) _ h2⟩, S1.keep i h h' h3 fun o e => k i1 (by simp) o e, S2.keep i h h' h4 fun o e => k i2 (by simp) o e⟩
  item := by
    intro X hP hw hK hc i pins s σ H E I hf st hg
    subst hP hw hK
    obtain ⟨xs, ys, q1, q2, hl, hi⟩ := hg
    obtain ⟨its1, r1, c1, z1⟩ := S1.items X rfl rfl rfl pins s σ H xs I q1
    obtain ⟨its2, r2, c2, z2⟩ := S2.items X rfl rfl rfl pins s σ H ys I q2
    obtain ⟨hz, hI, hO, h1, h2⟩ := st
    obtain ⟨f0, f1, hz0, _⟩ := id hz
    have hT : s.TypeIs (.ref zp) "zip" := ⟨_, hz0, rfl⟩
    have e1 := r1.length
    have e2 := r2.length
    unfold pyNext
    refine wpAny_bind (wpAny_attempt (wpAny_callSpecial?_slot (name := Str.ofString "__next__") hT F.slot_zip_next (wpAny_call_entry F.slot_zip_next hT F.entry_zip_next
      (zip_item (i := i) (S1.draws X.A.in1 (I.ok.hd hc) its1.toArray) (S2.draws X.A.in1 (I.ok.hd hc) its2.toArray) ap hz hI hO ⟨h1, c1⟩ ⟨h2, c2⟩ (by rw [List.size_toArray]; omega) (by rw [List.size_toArray]; omega) fun p h' tk x y p1 p2 hp hp' z' I' O' st1 st2 kp => wpAny_pure ?_) (F.args_zip_next_1 _))))
    refine ⟨.ref p, rfl, ?_⟩
    refine go_zip z' fun hh2 z2 sb2 => ?_
    have fp : ∀ b ∈ [zp, TO, i1, i2], FpOk X pins H b := fun b hb => hf b (by simp only [List.mem_cons, List.not_mem_nil, or_false] at hb ⊢; rcases hb with h | h | h | h <;> simp [h])
    have J : Inv X pins σ H { s with heap := hh2, toks := tk } := I.turnedL [zp, TO, i1, i2] fp fun b o hb e => by
      simp only [List.mem_cons, List.not_mem_nil, or_false, not_or] at hb
      exact (sb2.2 b hb.1).trans (kp b o hb.1 hb.2.1 hb.2.2.1 hb.2.2.2 e)
    have npz : p ≠ zp := fun q => absurd (Heap.lt_size hz0) (by rw [← q]; exact Nat.not_lt.mpr hp)
    have nI : TI ≠ zp := ap.1
    have nO : TO ≠ zp := ap.2
    have n1 : i1 ≠ zp := ap.3
    have n2 : i2 ≠ zp := ap.4
    have g1 : xs[i]? = some (xs[i]'hi) := List.getElem?_eq_getElem hi
    have g2 : ys[i]? = some (ys[i]'(hl ▸ hi)) := List.getElem?_eq_getElem (hl ▸ hi)
    obtain ⟨u1, k1, v1⟩ := r1.get g1
    obtain ⟨u2, k2, v2⟩ := r2.get g2
    have ex : u1 = x := by have q : its1[i]? = some x := by simpa using p1
                           rw [k1] at q; exact Option.some.inj q
    have ey : u2 = y := by have q : its2[i]? = some y := by simpa using p2
                           rw [k2] at q; exact Option.some.inj q
    subst ex ey
    have hpn : H p = none := I.hok.fresh hp
    have J2 := J.adopt (D := p) (o := .tup [xs[i]'hi, ys[i]'(hl ▸ hi)]) (I.fpOk hp hpn) ⟨by show 2 ≤ sizeLine; decide, [u1, u2], .cons v1 (.cons v2 .nil), ⟨_, (sb2.2 p npz).trans hp', rfl, _, rfl⟩⟩
    refine ⟨.ref p, _, J2, rfl, ⟨p, _, _, rfl, hpn, rfl, fun xs' ys' a b => ?_⟩, ⟨z2, (sb2.2 TI nI).trans I', (let ⟨a, b, q⟩ := O'; ⟨a, b, (sb2.2 TO nO).trans q⟩), S1.keep _ _ _ st1.1 fun o e => (sb2.2 i1 n1).trans e, S2.keep _ _ _ st2.1 fun o e => (sb2.2 i2 n2).trans e⟩, fun b hb => ?_⟩
    · rw [S1.inj X rfl rfl rfl pins s σ H xs' xs I a q1, S2.inj X rfl rfl rfl pins s σ H ys' ys I b q2]; exact ⟨g1, g2⟩
    · have hbl : b < s.heap.objs.size := by
        simp only [List.mem_cons, List.not_mem_nil, or_false] at hb
        obtain ⟨a', b', hO'⟩ := hO
        obtain ⟨o1, w1, _⟩ := S1.obj _ _ h1
        obtain ⟨o2, w2, _⟩ := S2.obj _ _ h2
        rcases hb with rfl | rfl | rfl | rfl | rfl
        · exact Heap.lt_size hz0
        · exact Heap.lt_size hI
        · exact Heap.lt_size hO'
        · exact Heap.lt_size w1
        · exact Heap.lt_size w2
      rw [upd_ne (Nat.ne_of_lt (Nat.lt_of_lt_of_le hbl hp))]
      exact (hf b hb).1
  done := by
    intro X hP hw hK hc i pins s σ H E I hf st hg
    subst hP hw hK
    obtain ⟨xs, ys, q1, q2, hl, hi⟩ := hg
    obtain ⟨its1, r1, c1, z1⟩ := S1.items X rfl rfl rfl pins s σ H xs I q1
    obtain ⟨hz, hI, hO, h1, h2⟩ := st
    obtain ⟨f0, f1, hz0, _⟩ := id hz
    have hT : s.TypeIs (.ref zp) "zip" := ⟨_, hz0, rfl⟩
    have e1 := r1.length
    have hin : i = its1.toArray.size := by rw [List.size_toArray]; omega
    subst hin
    unfold pyNext
    refine wpAny_bind (wpAny_attempt (wpAny_callSpecial?_slot (name := Str.ofString "__next__") hT F.slot_zip_next (wpAny_call_entry F.slot_zip_next hT F.entry_zip_next
      (zip_end (S1.draws X.A.in1 (I.ok.hd hc) its1.toArray) ap hz hI hO ⟨h1, c1⟩ fun h' e kp he => ?_) (F.args_zip_next_1 _))))
    obtain ⟨o, ho, hcl⟩ := he
    refine wpAny_bind (wpAny_isInstance (T := "StopIteration") (b := true) ⟨o, ho, hcl⟩ isSubtype_stop (wpAny_pure ⟨rfl, ?_⟩))
    exact I.turnedL (t' := s.toks) [zp, i1] (fun b hb => hf b (by simp only [List.mem_cons, List.not_mem_nil, or_false] at hb ⊢; rcases hb with h | h <;> simp [h])) fun b o hb e => by
      simp only [List.mem_cons, List.not_mem_nil, or_false, not_or] at hb
      exact kp b o hb.1 hb.2 e
  self := fun A i s Q E ⟨⟨f0, f1, z, _⟩, _⟩ h => by
    have hT : s.TypeIs (.ref zp) "zip" := ⟨_, z, rfl⟩
    exact wpAny_pyIter_slot hT F.slot_zip_iter (wpAny_call_entry F.slot_zip_iter hT F.entry_zip_iter (wpAny_pure ⟨_, rfl, "zip", _, hT, F.slot_zip_next.lookup, h⟩) (F.args_zip_iter_1 _))
abbrev zM1 (h : Heap) (l1 : Addr) : Heap := h.push { cls := .type "tuple_iterator",data := .fields #[.ref l1,.int 0 0] }
abbrev zM2 (h : Heap) (l1 l2 : Addr) : Heap := (zM1 h l1).push { cls := .type "list_iterator",data := .fields #[.ref l2,.int 0 0] }
abbrev zM3 (h : Heap) (l1 l2 : Addr) : Heap := (zM2 h l1 l2).push { cls := .type "tuple",data := .seq #[.ref h.objs.size,.ref (zM1 h l1).objs.size] }
abbrev zM4 (h : Heap) (l1 l2 : Addr) : Heap := (zM3 h l1 l2).push { cls := .type "tuple",data := .seq #[.none,.none] }
abbrev zM5 (h : Heap) (l1 l2 : Addr) : Heap := (zM4 h l1 l2).push { cls := .type "zip",data := .fields #[.none,.bool false,.bool false,.ref (zM2 h l1 l2).objs.size,.ref (zM3 h l1 l2).objs.size] }
theorem new_zipM (l1 l2 : Addr) (xs ys : Array Value) :
    Meets (Builtin.«zip.__new__» ⟨[.type "zip",.ref l1,.ref l2],[]⟩) (fun _ R s => s.heap.IsTuple l1 xs ∧ s.heap.IsList l2 ys ∧ R (.ok (.ret (.ref (zM4 s.heap l1 l2).objs.size))) { s with heap := zM5 s.heap l1 l2 }) :=
  .of_wp fun prog w A R s h => by
    obtain ⟨hp,g,d,tk,os⟩ := s; obtain ⟨hl1,hl2,h⟩ := h
    have hsub := sub_zip
    have e1 : Heap.IsTuple (Shared.heap ⟨hp,g,d,tk,os⟩) l1 xs := hl1
    have e2 : Heap.IsList (Shared.heap ⟨hp.push { cls := .type "tuple_iterator",data := .fields #[.ref l1,.int 0 0] },g,d,tk,os⟩) l2 ys := let ⟨o,q,r⟩ := hl2; ⟨o,Heap.get?_push_of_some _ q,r⟩
    wp_walk using wpAny_pyIter_tuple e1,wpAny_pyIter_list e2
    exact ⟨_,rfl,h⟩
theorem call_zipM {prog : Program} {w : World} {A : Around} {E : Value → Shared → Prop} {s : Shared} {l1 l2 : Addr} {xs ys : Array Value} {Q : Value → Shared → Prop} (e1 : s.heap.IsTuple l1 xs) (e2 : s.heap.IsList l2 ys)
    (h : ∀ h',ZipAt h' (s.heap.objs.size + 4) (s.heap.objs.size + 2) (s.heap.objs.size + 3) → IsPair h' (s.heap.objs.size + 2) (.ref s.heap.objs.size) (.ref (s.heap.objs.size + 1)) → IsPair h' (s.heap.objs.size + 3) .none .none →
      h'.IsTupleIter s.heap.objs.size l1 0 → h'.IsListIter (s.heap.objs.size + 1) l2 0 → (∀ c o,s.heap.get? c = some o → h'.get? c = some o) → Q (.ref (s.heap.objs.size + 4)) { s with heap := h' }) :
    wpAny (model prog w) A (call (.type "zip") [.ref l1,.ref l2]) Q E s := by
  refine callType_new F.called_zip (by decide) (F.typeCall_zip_2 _ _) (F.newCall_zip_2 _ _) (fun obj => F.args_object_init_3 obj _ _) F.entry_zip_new (new_zipM l1 l2 xs ys) ⟨e1,e2,?_⟩
  have n1 : (zM1 s.heap l1).objs.size = s.heap.objs.size + 1 := Heap.size_push ..
  have n2 : (zM2 s.heap l1 l2).objs.size = s.heap.objs.size + 2 := by rw [Heap.size_push,n1]
  have n3 : (zM3 s.heap l1 l2).objs.size = s.heap.objs.size + 3 := by rw [Heap.size_push,n2]
  have n4 : (zM4 s.heap l1 l2).objs.size = s.heap.objs.size + 4 := by rw [Heap.size_push,n3]
  have k5 : (zM5 s.heap l1 l2).get? (zM4 s.heap l1 l2).objs.size = some _ := Heap.get?_push_size _ rfl
  have k4 : (zM5 s.heap l1 l2).get? (zM3 s.heap l1 l2).objs.size = some _ := Heap.get?_push_of_some _ (Heap.get?_push_size _ rfl)
  have k3 : (zM5 s.heap l1 l2).get? (zM2 s.heap l1 l2).objs.size = some _ := Heap.get?_push_of_some _ (Heap.get?_push_of_some _ (Heap.get?_push_size _ rfl))
  have k2 : (zM5 s.heap l1 l2).get? (zM1 s.heap l1).objs.size = some _ := Heap.get?_push_of_some _ (Heap.get?_push_of_some _ (Heap.get?_push_of_some _ (Heap.get?_push_size _ rfl)))
  have k1 : (zM5 s.heap l1 l2).get? s.heap.objs.size = some _ := Heap.get?_push_of_some _ (Heap.get?_push_of_some _ (Heap.get?_push_of_some _ (Heap.get?_push_of_some _ (Heap.get?_push_size _ rfl))))
  show _ ∧ _
  rw [n2,n3,n4] at k5; rw [n1,n2] at k3; rw [n3] at k4; rw [n1] at k2; rw [n4]
  exact ⟨⟨_,k5,rfl⟩,h _ ⟨_,_,k5,.inl rfl⟩ k3 k4 ⟨_,k1,rfl,rfl⟩ ⟨_,k2,rfl,rfl⟩ fun c o x => Heap.get?_push_of_some _ (Heap.get?_push_of_some _ (Heap.get?_push_of_some _ (Heap.get?_push_of_some _ (Heap.get?_push_of_some _ x))))⟩
section
variable {X : Cx} {e1 e2 : Expr} {ta : TA} {p pos ppos : Pos} {elts : List Expr} {kk : Nat}
def iZU (K : PySem.W.Frag) (ta : TA) : TI := fun σ H R => ta σ H fun vs H1 => ∃ a b xs ys,vs = [.ref a,.ref b] ∧ SqT K H1 a xs ∧ SqL K H1 b ys ∧ R (ItZ (fun H zs => SqT K H a zs) fun H zs => SqL K H b zs) H1
theorem pi_zipU (hg : Gl X "zip") (hm : X.mg "zip" = none) (ha : PA X [e1,e2] ta) (hs : starEach [e1,e2] X.env = (false,eval e1 X.env) :: starEach [e2] X.env := by rfl) (hpl : (backTo pos (starEach [e2] X.env)).any (·.1) = false := by rfl) :
    PI X (.Tuple elts kk ppos) (.Call (.Name "zip" p) [e1,e2] [] pos) (iZU X.K ta) := by
  intro pins s σ H R I h
  refine Call_ (ld_blt I hg hm boot_zip (PyProof.Rows.callWith_type1 (thn (ha pos pins s σ H _ I h) fun us s1 ⟨vs,H1,I1,r1,q1⟩ => ?_) hs hpl))
  obtain ⟨a,b,xs,ys,e,hq1,hq2,q⟩ := q1
  subst e
  obtain ⟨u,v,rfl,ru,rv⟩ := vals2 r1
  cases ru
  cases rv
  obtain ⟨its1,rv1,pt1,hz1⟩ := I1.tuple hq1
  obtain ⟨its2,rv2,pt2,hz2⟩ := I1.list hq2
  have la : a < s1.heap.objs.size := pt1.lt
  have lb : b < s1.heap.objs.size := let ⟨o,e,_⟩ := pt2.isList; Heap.lt_size e
  refine call_zipM (xs := its1.toArray) (ys := its2.toArray) (show s1.heap.IsTuple a its1.toArray from pt1) pt2.isList fun h' zz p1 p2 t1 t2 kp => ?_
  have ap : ZipApart (s1.heap.objs.size + 4) (s1.heap.objs.size + 2) (s1.heap.objs.size + 3) s1.heap.objs.size (s1.heap.objs.size + 1) a b := apart_new _ a b la lb
  have ls : ∀ c,c = s1.heap.objs.size + 4 ∨ c = s1.heap.objs.size + 2 ∨ c = s1.heap.objs.size + 3 ∨ c = s1.heap.objs.size ∨ c = s1.heap.objs.size + 1 → s1.heap.objs.size ≤ c := fun c hc => by rcases hc with rfl | rfl | rfl | rfl | rfl <;> first | exact Nat.le_refl _ | exact Nat.le_add_right _ _
  have T := turn_zipU (elts := elts) (kk := kk) (ppos := ppos) (P := X.prog) (w := X.w) (K := X.K) ap (src_tup (Nat.ne_of_lt la)) (src_lst (Nat.ne_of_lt (Nat.lt_succ_of_lt lb)))
  refine T.self X.A 0 { s1 with heap := h' } _ X.xe ⟨zz,p1,⟨_,_,p2⟩,t1,t2⟩ ⟨s1.heap.objs.size + 4,_,_,_,H1,rfl,I1.kept (t' := s1.toks) kp,T,⟨zz,p1,⟨_,_,p2⟩,t1,t2⟩,fun c hc => ?_,q⟩
  have hc' : c = s1.heap.objs.size + 4 ∨ c = s1.heap.objs.size + 2 ∨ c = s1.heap.objs.size + 3 ∨ c = s1.heap.objs.size ∨ c = s1.heap.objs.size + 1 := by simpa using hc
  exact I1.fpOk (H' := H1) (ls c hc') (I1.hok.fresh (ls c hc'))
end
structure ItOk2 (K : PySem.W.Frag) (J : It) (h g : V × Sl) (xs : List PyData) : Prop where
  go : ∀ (i : Nat) H,RdR K H h.2 h.1 → RdR K H g.2 g.1 → i < xs.length → J.go i H
  yld : ∀ (i : Nat) H v H',RdR K H h.2 h.1 → RdR K H g.2 g.1 → i < xs.length → J.yld i H v H' → Same H H' ∧ ∃ d,xs[i]? = some d ∧ Rep K H' d v
  stop : ∀ H,RdR K H h.2 h.1 → RdR K H g.2 g.1 → J.stop xs.length H
def VI2 (X : Cx) (ρ : List Sl) (tg iter : Expr) (xs : List PyData) : Prop := ∃ wi,PI X tg iter wi ∧ ∀ H0 hs σ H R,ER X.K H0 hs ρ σ H →
  (∀ J H1 h g,Same H H1 → RdR X.K H1 h.2 h.1 → RdR X.K H1 g.2 g.1 → (∀ ys,h.2.its = some ys → ∀ (i : Nat) zs a,ρ[i]? = some (.o zs) → σ[i]? = some (some (.ref a)) → h.1 ≠ .ref a) → g.2.its = none → ItOk2 X.K J h g xs → R J H1) → wi σ H R
section
variable {X : Cx} {ρ : List Sl} {e a b c tg iter : Expr} {es : List Expr} {r ra rb : Sl} {p pos p2 p3 ppos : Pos} {d : PyData} {ds xs : List PyData} {rs : List Sl} {Q Q' : Out → Prop} {rest : List Stmt} {st : Stmt} {elts : List Expr} {kk : Nat}
def pairsD (xs ys : List PyData) : List PyData := (xs.zip ys).map fun q => .tuple [q.1,q.2]
theorem itok_zip {K : PySem.W.Frag} {t l : Addr} {xs ys : List PyData} (hl : xs.length = ys.length) : ItOk2 K (ItZ (fun H zs => SqT K H t zs) fun H zs => SqL K H l zs) (.ref l,.l ys) (.ref t,.d (.tuple xs)) (pairsD xs ys) where
  go := fun i H h g hi => by
    obtain ⟨_,e,vs,h1,h2⟩ := h
    cases e
    obtain ⟨_,ws,e,g1,g2⟩ := Rep.untuple g
    cases e
    have hi' : i < (xs.zip ys).length := by simpa [pairsD] using hi
    rw [List.length_zip] at hi'
    exact ⟨ws,vs,g1,SqL.of h1,by rw [g2.length,h2.length,hl],by rw [g2.length]; omega⟩
  yld := fun i H v H' h g hi y => by
    obtain ⟨_,e,vs,h1,h2⟩ := h
    cases e
    obtain ⟨_,ws,e,g1,g2⟩ := Rep.untuple g
    cases e
    obtain ⟨q,x,y',e1,e2,e3,e4⟩ := y
    subst e1 e3
    obtain ⟨k1,k2⟩ := e4 ws vs g1 (SqL.of h1)
    have hi' : i < (xs.zip ys).length := by simpa [pairsD] using hi
    rw [List.length_zip] at hi'
    have hx : i < xs.length := by omega
    have hy : i < ys.length := by omega
    have s := same_upd e2 (.tup [x,y'])
    refine ⟨s,.tuple [xs[i],ys[i]],?_,?_⟩
    · unfold pairsD
      rw [List.getElem?_map,List.getElem?_eq_getElem (by rw [List.length_zip]; exact hi'),List.getElem_zip]
      rfl
    · obtain ⟨u1,m1,r1⟩ := g2.get (List.getElem?_eq_getElem hx)
      obtain ⟨u2,m2,r2⟩ := h2.get (List.getElem?_eq_getElem hy)
      rw [k1] at m1; cases m1
      rw [k2] at m2; cases m2
      exact .tuple (SqT.of upd_same) (.cons (Rep.mono (TupLe.of_same s) _ _ r1) (.cons (Rep.mono (TupLe.of_same s) _ _ r2) .nil))
  stop := fun H h g => by
    obtain ⟨_,e,vs,h1,h2⟩ := h
    cases e
    obtain ⟨_,ws,e,g1,g2⟩ := Rep.untuple g
    cases e
    exact ⟨ws,vs,g1,SqL.of h1,by rw [g2.length,h2.length,hl],by rw [g2.length]; simp [pairsD]; omega⟩
theorem vi_zip {ys : List PyData} (hm : X.mg "zip" = none) (ha : VE X ρ a (.d (.tuple xs))) (hb : VE X ρ b (.o ys)) (hl : xs.length = ys.length) (hg : Gl X "zip" := by rfl) (hs : starEach [a,b] X.env = (false,eval a X.env) :: starEach [b] X.env := by rfl) (hs2 : starEach [b] X.env = (false,eval b X.env) :: starEach [] X.env := by rfl) (hpl : (backTo pos (starEach [b] X.env)).any (·.1) = false := by rfl) :
    VI2 X ρ (.Tuple elts kk ppos) (.Call (.Name "zip" p) [a,b] [] pos) (pairsD xs ys) :=
  ⟨_,pi_zipU hg hm (pa_cons ha (pa_cons hb pa_nil hs2) hs) hs hpl,fun H0 hs σ H R er k => ⟨⟨H0,hs,er⟩,fun v H1 s1 r1 => ⟨er_grow ⟨H0,hs,er⟩ s1,fun u H2 s2 r2 => by
    obtain ⟨l,e,n,vs,h1,h2⟩ := r2
    subst e
    have rt := r1.rd.mono s2
    obtain ⟨t,ws,e,g1,g2⟩ := Rep.untuple rt
    subst e
    exact ⟨t,l,ws,vs,rfl,g1,SqL.of h1,k _ H2 (.ref l,.l ys) (.ref t,.d (.tuple xs)) (s1.trans s2) ⟨l,rfl,vs,h1,h2⟩ rt (fun _ _ => sep_new (er.grow s1) n) rfl (itok_zip hl)⟩⟩⟩⟩
end
end L2
namespace Wk
open PySem
inductive Fd where
  | word (x : Str) | kind (k : Kd) | part (t : WT)
def fdD : Fd → PyData
  | .word x => .tuple [.str "word",.str x]
  | .kind k => .tuple [.str "kind",kdD k]
  | .part t => .tuple [.str "part",wtD t]
def Letters : Str := "abcdefghijklmnopqrstuvwxyz"
def Figures : Str := "0123456789"
theorem mem_letters (c : Nat) : c ∈ codes Letters ↔ 97 ≤ c ∧ c ≤ 122 := by
  rw [show codes Letters = List.range' 97 26 from by decide,List.mem_range'_1]; omega
theorem mem_figures (c : Nat) : c ∈ codes Figures ↔ 48 ≤ c ∧ c ≤ 57 := by
  rw [show codes Figures = List.range' 48 10 from by decide,List.mem_range'_1]; omega
def consB (x z : Str) : Bool := (!decide (x = "")) && (codes x).all fun c => decide (c ∈ codes z)
def valF (l : List Nat) : Nat := l.foldl (fun n d => n * 10 + d) 0
theorem valF_app (l : List Nat) (d : Nat) : valF (l ++ [d]) = valF l * 10 + d := by simp [valF]
theorem valF_figs : ∀ (f n : Nat), n < f → valF (figs f n).reverse = n
  | 0, n, h => absurd h (Nat.not_lt_zero _)
  | f + 1, n, h => by
    rw [figs, List.reverse_cons, valF_app]
    split
    · rename_i h10
      simp [valF]; omega
    · rename_i h10
      rw [valF_figs f (n / 10) (by omega)]; omega
theorem valF_of (i : Int) : valF (figsOf i) = i.natAbs := valF_figs _ _ (Nat.lt_succ_self _)
inductive WordF : Str → Fd → Prop
  | num : WordF "num" (.kind .num)
  | truth : WordF "truth" (.kind .truth)
  | yes : WordF "yes" (.part (.truth true))
  | no : WordF "no" (.part (.truth false))
  | word {x : Str} {ds : List Str} : formOf x = some ds → WordF x (.word x)
  | name {x : Str} : IsName x → WordF x (.part (.name x))
  | numb {i : Int} : NumOk i → WordF (numT i) (.part (.num i))
inductive BrkF : List Fd → Fd → Prop
  | list {k} : BrkF [.word "list",.kind k] (.kind (.list k))
  | to {a b} : BrkF [.word "to",.kind a,.kind b] (.kind (.to a b))
  | nil {k} : BrkF [.word "nil",.kind k] (.part (.nil k))
  | lam {x k b} : BrkF [.word "fun",.part (.name x),.kind k,.part b] (.part (.lam x k b))
  | add {a b} : BrkF [.word "add",.part a,.part b] (.part (.add a b))
  | less {a b} : BrkF [.word "less",.part a,.part b] (.part (.less a b))
  | front {a b} : BrkF [.word "front",.part a,.part b] (.part (.front a b))
  | call {a b} : BrkF [.word "call",.part a,.part b] (.part (.call a b))
  | cond {a b c} : BrkF [.word "if",.part a,.part b,.part c] (.part (.cond a b c))
  | case {k h t a b c} : BrkF [.word "case",.kind k,.part a,.part b,.part (.name h),.part (.name t),.part c] (.part (.case k h t a b c))
inductive StepG : List (List Fd) → List Fd → Str → List (List Fd) → List Fd → Prop
  | opn {lo g} : StepG lo g "(" (lo ++ [g]) []
  | cls {lo g h f} : BrkF g f → StepG (lo ++ [h]) g ")" lo (h ++ [f])
  | wrd {lo g} {x : Str} {f} : x ≠ "(" → x ≠ ")" → WordF x f → StepG lo g x lo (g ++ [f])
inductive RunG : List (List Fd) → List Fd → List Str → List (List Fd) → List Fd → Prop
  | nil {lo g} : RunG lo g [] lo g
  | cons {lo g x lo1 g1 xs lo2 g2} : StepG lo g x lo1 g1 → RunG lo1 g1 xs lo2 g2 → RunG lo g (x :: xs) lo2 g2
theorem RunG.app {lo g lo1 g1 lo2 g2} {a b : List Str} (h : RunG lo g a lo1 g1) (k : RunG lo1 g1 b lo2 g2) : RunG lo g (a ++ b) lo2 g2 := by
  induction h with
  | nil => exact k
  | cons s _ ih => exact .cons s (ih k)
theorem run_word {lo g} {x : Str} {f} (h1 : x ≠ "(") (h2 : x ≠ ")") (h : WordF x f) : RunG lo g [x] lo (g ++ [f]) := .cons (.wrd h1 h2 h) .nil
theorem word_brk {x : Str} (h : isWord (codes x)) : x ≠ "(" ∧ x ≠ ")" := by
  refine ⟨fun e => ?_,fun e => ?_⟩ <;> subst e
  · exact absurd (h.2 40 (by decide)).2.1 (by simp)
  · exact absurd (h.2 41 (by decide)).2.2 (by simp)
theorem run_brk {lo g} {x : Str} {ds : List Str} {ts : List Str} {fs : List Fd} {f : Fd} (hx : isWord (codes x)) (hf : formOf x = some ds) (ht : RunG (lo ++ [g]) [.word x] ts (lo ++ [g]) (.word x :: fs)) (hb : BrkF (.word x :: fs) f) : RunG lo g (S ["(",x] ++ ts ++ S [")"]) lo (g ++ [f]) := by
  obtain ⟨n1,n2⟩ := word_brk hx
  exact .cons .opn (.cons (.wrd n1 n2 (.word hf)) (RunG.app ht (.cons (.cls hb) .nil)))
theorem kind_run : ∀ (k : Kd) (lo g), RunG lo g (ktk k) lo (g ++ [.kind k])
  | .num, lo, g => run_word (by decide) (by decide) .num
  | .truth, lo, g => run_word (by decide) (by decide) .truth
  | .list k, lo, g => run_brk (x := "list") (by decide) rfl (kind_run k _ _) .list
  | .to a b, lo, g => by
    have := run_brk (lo := lo) (g := g) (x := "to") (by decide) rfl ((kind_run a _ [.word "to"]).app (kind_run b _ _)) .to
    simpa [ktk] using this
theorem yn (b : Bool) : WordF (if b then "yes" else "no") (.part (.truth b)) := by cases b; exact .no; exact .yes
theorem yn1 (b : Bool) : (if b then ("yes" : Str) else "no") ≠ "(" := by cases b <;> decide
theorem yn2 (b : Bool) : (if b then ("yes" : Str) else "no") ≠ ")" := by cases b <;> decide
theorem name_run {x : Str} (h : IsName x) (lo g) : RunG lo g [x] lo (g ++ [.part (.name x)]) := run_word (word_brk h.word).1 (word_brk h.word).2 (.name h)
theorem part_run : ∀ (t : WT), t.wf → t.ok → ∀ lo g, RunG lo g (wtk t) lo (g ++ [.part t])
  | .num i, _, o, lo, g => run_word (word_brk (num_word i)).1 (word_brk (num_word i)).2 (.numb o)
  | .truth b, _, _, lo, g => run_word (yn1 b) (yn2 b) (yn b)
  | .name x, h, _, lo, g => name_run h lo g
  | .nil k, _, _, lo, g => by simpa [wtk] using run_brk (lo := lo) (g := g) (x := "nil") (by decide) rfl (kind_run k _ _) .nil
  | .lam x k b, h, o, lo, g => by simpa [wtk] using run_brk (lo := lo) (g := g) (x := "fun") (by decide) rfl ((name_run h.1 _ [.word "fun"]).app ((kind_run k _ _).app (part_run b h.2 o _ _))) .lam
  | .add a b, h, o, lo, g => by simpa [wtk] using run_brk (lo := lo) (g := g) (x := "add") (by decide) rfl ((part_run a h.1 o.1 _ [.word "add"]).app (part_run b h.2 o.2 _ _)) .add
  | .less a b, h, o, lo, g => by simpa [wtk] using run_brk (lo := lo) (g := g) (x := "less") (by decide) rfl ((part_run a h.1 o.1 _ [.word "less"]).app (part_run b h.2 o.2 _ _)) .less
  | .front a b, h, o, lo, g => by simpa [wtk] using run_brk (lo := lo) (g := g) (x := "front") (by decide) rfl ((part_run a h.1 o.1 _ [.word "front"]).app (part_run b h.2 o.2 _ _)) .front
  | .call a b, h, o, lo, g => by simpa [wtk] using run_brk (lo := lo) (g := g) (x := "call") (by decide) rfl ((part_run a h.1 o.1 _ [.word "call"]).app (part_run b h.2 o.2 _ _)) .call
  | .cond a b c, h, o, lo, g => by simpa [wtk] using run_brk (lo := lo) (g := g) (x := "if") (by decide) rfl ((part_run a h.1 o.1 _ [.word "if"]).app ((part_run b h.2.1 o.2.1 _ _).app (part_run c h.2.2 o.2.2 _ _))) .cond
  | .case k x y a b c, h, o, lo, g => by
    simpa [wtk] using run_brk (lo := lo) (g := g) (x := "case") (by decide) rfl ((kind_run k _ [.word "case"]).app ((part_run a h.2.2.1 o.1 _ _).app ((part_run b h.2.2.2.1 o.2.1 _ _).app ((name_run h.1 _ _).app ((name_run h.2.1 _ _).app (part_run c h.2.2.2.2 o.2.2 _ _)))))) .case
end Wk
namespace Wk
open PySem L2 PySem.Spec PyProof.Rows
def asDueD : Str → Fd → Option PyData
  | due, .part t => if due = "part" then some (wtD t) else if due = "name" then match t with
    | .name x => some (.str x)
    | _ => none
    else none
  | due, .kind k => if due = "kind" then some (kdD k) else none
  | _, .word _ => none
def RForm : List Sl → Sl → Prop := fun as r => ∃ x : Str,as = [.d (.str x)] ∧ r = .d (getD (formOf x))
def RCons : List Sl → Sl → Prop := fun as r => ∃ x z : Str,as = [.d (.str x),.d (.str z)] ∧ x.length ≤ 10000000 ∧ r = .d (.bool (consB x z))
def RNum : List Sl → Sl → Prop := fun as r => ∃ (x : Str) (fs : List Nat),as = [.d (.str x)] ∧ codes x = fs.map (48 + ·) ∧ (∀ d ∈ fs,d < 10) ∧ r = .d (.int (valF fs))
def RTok : List Sl → Sl → Prop := fun as r => ∃ l : Str,as = [.d (.str l)] ∧ l.length ≤ 1000000 ∧ r = .o ((toks l).map .str)
def coll : List Str → List Fd → Option (List PyData × List PyData)
  | [], [] => some ([], [])
  | due :: ds, f :: fs => match asDueD due f, coll ds fs with
    | some d, some t => some (if due = "part" then (t.1, d :: t.2) else (d :: t.1, t.2))
    | _, _ => none
  | _, _ => none
theorem coll_step {ds : List Str} {fs : List Fd} {i : Nat} {tl : List PyData × List PyData} (hi : i < ds.length) (hj : i < fs.length) (h : coll (ds.drop i) (fs.drop i) = some tl) :
    ∃ d t, asDueD ds[i] fs[i] = some d ∧ coll (ds.drop (i + 1)) (fs.drop (i + 1)) = some t ∧ tl = (if ds[i] = "part" then (t.1, d :: t.2) else (d :: t.1, t.2)) := by
  rw [List.drop_eq_getElem_cons hi, List.drop_eq_getElem_cons hj, coll] at h
  cases h1 : asDueD ds[i] fs[i] with
  | none => rw [h1] at h; cases h
  | some d =>
    cases h2 : coll (ds.drop (i + 1)) (fs.drop (i + 1)) with
    | none => rw [h1, h2] at h; cases h
    | some t =>
      rw [h1, h2] at h
      cases h
      exact ⟨d, t, rfl, rfl, rfl⟩
theorem brk_coll {g : List Fd} {f : Fd} (h : BrkF g f) : ∃ (x : Str) (ds : List Str) (fs : List Fd) (ms os : List PyData),g = .word x :: fs ∧ formOf x = some ds ∧ ds.length = fs.length ∧ coll ds fs = some (ms,os) ∧
    fdD f = (if x = "list" ∨ x = "to" then .tuple [.str "kind",.tuple (.str x :: ms)] else .tuple [.str "part",.tuple [.str x,.tuple ms,.tuple os]]) ∧ fs.length ≤ 6 := by
  cases h <;> exact ⟨_,_,_,_,_,rfl,rfl,rfl,rfl,rfl,by simp⟩
theorem len_codes (x : Str) : (codes x).length = x.length := by simp [codes,Str.length]
theorem repl_len (c : Nat) (z : List Nat) (hz : z.length = 3) : ∀ l : List Nat, (repl c z l).length ≤ 3 * l.length
  | [] => by simp [repl]
  | a :: r => by
    have := repl_len c z hz r
    rw [repl, List.length_append, List.length_cons]
    split
    · omega
    · simp; omega
theorem replace_len {x z : Str} {c : Nat} (hz : z.length = 3) : (Txt.replace x ⟨#[c]⟩ z).length ≤ 3 * x.length := by
  rw [← len_codes,replace_codes,← len_codes x]
  exact repl_len c _ (by rw [len_codes]; exact hz) _
theorem splitL_len (c : Nat) : ∀ l : List Nat, (splitL c l).length ≤ l.length + 1
  | [] => by simp [splitL]
  | a :: r => by
    have := splitL_len c r
    rw [splitL]
    split
    · simp; omega
    · split
      · simp
      · rename_i w ws q
        rw [q] at this
        simp at this ⊢; omega
theorem split_len (x : Str) (c : Nat) : (Txt.split x ⟨#[c]⟩).length ≤ x.length + 1 := by
  rw [← List.length_map (f := codes),split_codes,← len_codes x]
  exact splitL_len c _
theorem index_fig {d : Nat} (h : d < 10) : Builtin.Str.occurrences Figures (sg (48 + d)) 0 Figures.length 1 = [d] := by
  match d,h with
  | 0,_ => decide +kernel | 1,_ => decide +kernel | 2,_ => decide +kernel | 3,_ => decide +kernel | 4,_ => decide +kernel | 5,_ => decide +kernel | 6,_ => decide +kernel | 7,_ => decide +kernel | 8,_ => decide +kernel | 9,_ => decide +kernel
theorem numT_head (i : Int) : ∃ c r, codes (numT i) = c :: r ∧ (c = 45 ∨ (48 ≤ c ∧ c ≤ 57)) := by
  rw [numT_codes]
  split
  · exact ⟨45, _, rfl, .inl rfl⟩
  · have h1 := figsOf_ne i
    have h2 := figsOf_lt i
    cases hq : figsOf i with
    | nil => exact absurd hq h1
    | cons d r =>
      rw [hq] at h2
      have := h2 d List.mem_cons_self
      exact ⟨48 + d, _, rfl, .inr (by omega)⟩
theorem numT_ne {i : Int} {x : Str} {c : Nat} {r : List Nat} (hx : codes x = c :: r) (hc : 97 ≤ c) : numT i ≠ x := by
  intro e
  obtain ⟨d,r',h1,h2⟩ := numT_head i
  rw [e,hx] at h1
  injection h1 with h1 _
  subst h1
  omega
theorem formOf_numT (i : Int) : formOf (numT i) = none := by
  unfold formOf
  rw [if_neg (numT_ne (i := i) (show codes "list" = 108 :: [105,115,116] from by decide) (by decide)),if_neg (numT_ne (i := i) (show codes "to" = 116 :: [111] from by decide) (by decide)),if_neg (numT_ne (i := i) (show codes "add" = 97 :: [100,100] from by decide) (by decide)),
    if_neg (numT_ne (i := i) (show codes "less" = 108 :: [101,115,115] from by decide) (by decide)),if_neg (numT_ne (i := i) (show codes "if" = 105 :: [102] from by decide) (by decide)),if_neg (numT_ne (i := i) (show codes "nil" = 110 :: [105,108] from by decide) (by decide)),
    if_neg (numT_ne (i := i) (show codes "front" = 102 :: [114,111,110,116] from by decide) (by decide)),if_neg (numT_ne (i := i) (show codes "case" = 99 :: [97,115,101] from by decide) (by decide)),if_neg (numT_ne (i := i) (show codes "fun" = 102 :: [117,110] from by decide) (by decide)),if_neg (numT_ne (i := i) (show codes "call" = 99 :: [97,108,108] from by decide) (by decide))]
theorem ne_empty {x : Str} (h : codes x ≠ []) : x ≠ "" := fun e => h (by rw [e]; decide)
theorem consB_letters_numT (i : Int) : consB (numT i) Letters = false := by
  obtain ⟨c,r,h1,h2⟩ := numT_head i
  unfold consB
  rw [h1,List.all_cons,show decide (c ∈ codes Letters) = false from decide_eq_false (by rw [mem_letters]; omega)]
  simp
theorem consB_name {x : Str} (h : IsName x) : consB x Letters = true := by
  unfold consB
  rw [show decide (x = "") = false from decide_eq_false (ne_empty h.ne),Bool.not_false,Bool.true_and,List.all_eq_true]
  intro c hc
  exact decide_eq_true ((mem_letters c).mpr (h.let' c hc))
theorem consB_figs {x : Str} {fs : List Nat} (hx : codes x = fs.map (48 + ·)) (hf : ∀ d ∈ fs,d < 10) (hn : fs ≠ []) : consB x Figures = true := by
  unfold consB
  rw [show decide (x = "") = false from decide_eq_false (ne_empty (by rw [hx]; simp [hn])),Bool.not_false,Bool.true_and,List.all_eq_true,hx]
  intro c hc
  obtain ⟨d,hd,rfl⟩ := List.mem_map.mp hc
  have := hf d hd
  exact decide_eq_true ((mem_figures _).mpr (by omega))
theorem consB_neg {i : Int} (h : i < 0) : consB (numT i) Figures = false := by
  unfold consB
  rw [numT_codes,if_pos h,List.singleton_append,List.all_cons,show decide (45 ∈ codes Figures) = false from by decide]
  simp
end Wk
namespace L2
open PySem PySem.Spec PyProof.Rows
section
variable {X : Cx} {ρ : List Sl} {a b : Expr} {pos : Pos}
theorem ve_neSb {x y : Str} (ha : VE X ρ a (.d (.str x))) (hb : VE X ρ b (.d (.str y))) : VE X ρ (.Compare a [.NotEq] [b] pos) (.d (.bool (!decide (x = y)))) :=
  ve_cmp op_ne ha hb (fun H u w Q rx ry q => by
    obtain rfl := RdR.is_str rx
    obtain rfl := RdR.is_str ry
    refine ⟨rfl,?_⟩
    rw [show decide (V.str x = V.str y) = decide (x = y) from by simp]
    exact q _ H (Same.refl H) RsR.bool) (nomark _)
end
end L2
namespace L2
open PySem PySem.Spec PyProof.Rows
open Wk (Fd fdD)
structure GS (K : PySem.W.Frag) (H0 : Hp) (T : Addr) (ts : List V) (gs : List (List Fd)) (G : Addr) (as : List Addr) (H : Hp) : Prop where
  same : Same H0 H
  newG : H0 G = none
  grp : H G = some (.lst (as.map V.ref))
  len : as.length = gs.length
  each : ∀ (i : Nat) a g,as[i]? = some a → gs[i]? = some g → LsR K H a (g.map fdD) ∧ H0 a = none
  nd : as.Nodup
  nG : G ∉ as
  nT : T ∉ as
  GT : T ≠ G
  tok : H T = some (.lst ts)
section
variable {K : PySem.W.Frag} {H0 H H' : Hp} {T G : Addr} {ts : List V} {gs lo : List (List Fd)} {g : List Fd} {as : List Addr} {p a : Addr}
theorem GS.grow (x : GS K H0 T ts gs G as H) (s : Same H H') : GS K H0 T ts gs G as H' :=
  ⟨x.same.trans s,x.newG,s _ _ x.grp,x.len,fun i a g h1 h2 => ⟨(x.each i a g h1 h2).1.mono s,(x.each i a g h1 h2).2⟩,x.nd,x.nG,x.nT,x.GT,s _ _ x.tok⟩
theorem Same.upd_new {o : HO} (s : Same H0 H) (n : H0 p = none) : Same H0 (upd H p o) := fun b u e => by
  have : b ≠ p := fun z => by rw [z,n] at e; cases e
  rw [upd_ne this]; exact s b u e
theorem GS.push (x : GS K H0 T ts gs G as H) (n : H p = none) : GS K H0 T ts (gs ++ [[]]) G (as ++ [p]) (upd (upd H p (.lst [])) G (.lst ((as ++ [p]).map V.ref))) := by
  have np : H0 p = none := x.same.free n
  have pG : G ≠ p := fun z => by rw [z] at x; rw [x.grp] at n; cases n
  have pT : T ≠ p := fun z => by have := x.tok; rw [z,n] at this; cases this
  have pa : p ∉ as := fun z => by
    obtain ⟨i,hi⟩ := List.mem_iff_getElem?.mp z
    have hl : i < gs.length := by rw [← x.len]; exact (List.getElem?_eq_some_iff.mp hi).1
    obtain ⟨⟨vs,e,_⟩,_⟩ := x.each i p _ hi (List.getElem?_eq_getElem hl)
    rw [n] at e; cases e
  have x1 := x.grow (same_upd n (.lst []))
  refine ⟨(Same.upd_new x1.same x.newG),x.newG,upd_same,by simp [x.len],fun i a g h1 h2 => ?_,?_,?_,?_,x.GT,by rw [upd_ne x.GT]; exact x1.tok⟩
  · by_cases hi : i < as.length
    · rw [List.getElem?_append_left hi] at h1
      rw [List.getElem?_append_left (by rw [← x.len]; exact hi)] at h2
      obtain ⟨q1,q2⟩ := x1.each i a g h1 h2
      exact ⟨q1.other x1.grp (fun z => x.nG (by rw [← z]; exact List.mem_of_getElem? h1)),q2⟩
    · have e : i = as.length := by
        have := (List.getElem?_eq_some_iff.mp h1).1
        rw [List.length_append,List.length_singleton] at this; omega
      subst e
      rw [List.getElem?_append_right (Nat.le_refl _),Nat.sub_self] at h1
      rw [x.len,List.getElem?_append_right (Nat.le_refl _),Nat.sub_self] at h2
      cases h1; cases h2
      exact ⟨⟨[],by rw [upd_ne (Ne.symm pG)]; exact upd_same,.nil⟩,np⟩
  · rw [List.nodup_append]
    exact ⟨x.nd,by simp,fun a ha b hb => by rw [List.mem_singleton] at hb; subst hb; exact fun z => pa (z ▸ ha)⟩
  · intro z
    rcases List.mem_append.mp z with z | z
    · exact x.nG z
    · exact pG (List.mem_singleton.mp z)
  · intro z
    rcases List.mem_append.mp z with z | z
    · exact x.nT z
    · exact pT (List.mem_singleton.mp z)
theorem GS.last (x : GS K H0 T ts (lo ++ [g]) G as H) : ∃ as' a,as = as' ++ [a] ∧ as'.length = lo.length ∧ LsR K H a (g.map fdD) ∧ H0 a = none := by
  have hl : as.length = lo.length + 1 := by rw [x.len]; simp
  have hn : as ≠ [] := fun z => by rw [z] at hl; simp at hl
  refine ⟨as.dropLast,as.getLast hn,(List.dropLast_concat_getLast hn).symm,by rw [List.length_dropLast]; omega,?_⟩
  exact x.each lo.length _ g (by rw [← List.getLast?_eq_some_getLast hn,List.getLast?_eq_getElem?,hl]; rfl) (by rw [List.getElem?_append_right (Nat.le_refl _)]; simp)
theorem GS.pop {as' : List Addr} (x : GS K H0 T ts (lo ++ [g]) G (as' ++ [a]) H) : GS K H0 T ts lo G as' (upd H G (.lst (as'.map V.ref))) ∧ LsR K (upd H G (.lst (as'.map V.ref))) a (g.map fdD) := by
  have hl : as'.length = lo.length := by have := x.len; simp at this; exact this
  have mem : ∀ {b},b ∈ as' → b ∈ as' ++ [a] := fun h => List.mem_append_left _ h
  refine ⟨⟨Same.upd_new x.same x.newG,x.newG,upd_same,hl,fun i b h h1 h2 => ?_,(List.nodup_append.mp x.nd).1,fun z => x.nG (mem z),fun z => x.nT (mem z),x.GT,by rw [upd_ne x.GT]; exact x.tok⟩,?_⟩
  · have hi : i < as'.length := (List.getElem?_eq_some_iff.mp h1).1
    obtain ⟨q1,q2⟩ := x.each i b h (by rw [List.getElem?_append_left hi]; exact h1) (by rw [List.getElem?_append_left (by omega)]; exact h2)
    exact ⟨q1.other x.grp (fun z => x.nG (by rw [← z]; exact mem (List.mem_of_getElem? h1))),q2⟩
  · obtain ⟨q1,q2⟩ := x.each as'.length a g (by rw [List.getElem?_append_right (Nat.le_refl _)]; simp) (by rw [hl,List.getElem?_append_right (Nat.le_refl _)]; simp)
    exact q1.other x.grp (fun z => x.nG (by rw [← z]; simp))
theorem GS.add {as' : List Addr} {vs : List V} {v : V} {f : Fd} (x : GS K H0 T ts (lo ++ [g]) G (as' ++ [a]) H) (h : H a = some (.lst vs)) (hr : Reps K H (g.map fdD) vs) (hv : Rep K H (fdD f) v) : GS K H0 T ts (lo ++ [g ++ [f]]) G (as' ++ [a]) (upd H a (.lst (vs ++ [v]))) := by
  have hl : as'.length = lo.length := by have := x.len; simp at this; exact this
  have ma : a ∈ as' ++ [a] := by simp
  have aG : G ≠ a := fun z => x.nG (z ▸ ma)
  have aT : T ≠ a := fun z => x.nT (z ▸ ma)
  obtain ⟨_,na⟩ := x.each as'.length a g (by rw [List.getElem?_append_right (Nat.le_refl _)]; simp) (by rw [hl,List.getElem?_append_right (Nat.le_refl _)]; simp)
  have tl : TupLe K H (upd H a (.lst (vs ++ [v]))) := (SameBut.upd _).tup h
  refine ⟨Same.upd_new x.same na,x.newG,by rw [upd_ne aG]; exact x.grp,by simp [hl],fun i b h' h1 h2 => ?_,x.nd,x.nG,x.nT,x.GT,by rw [upd_ne aT]; exact x.tok⟩
  by_cases hi : i < as'.length
  · rw [List.getElem?_append_left (by omega)] at h2
    obtain ⟨q1,q2⟩ := x.each i b h' h1 (by rw [List.getElem?_append_left (by omega)]; exact h2)
    rw [List.getElem?_append_left hi] at h1
    refine ⟨q1.other h (fun z => ?_),q2⟩
    have := (List.nodup_append.mp x.nd).2.2 b (List.mem_of_getElem? h1) a (by simp)
    exact this z
  · have e : i = as'.length := by
      have := (List.getElem?_eq_some_iff.mp h1).1
      rw [List.length_append,List.length_singleton] at this; omega
    subst e
    rw [List.getElem?_append_right (Nat.le_refl _),Nat.sub_self] at h1
    rw [hl,List.getElem?_append_right (Nat.le_refl _),Nat.sub_self] at h2
    cases h1; cases h2
    exact ⟨⟨vs ++ [v],upd_same,by rw [List.map_append]; exact (Reps.mono tl _ _ hr).append (.one (Rep.mono tl _ _ hv))⟩,na⟩
end
theorem PSs.use {X : Cx} {ss : List Stmt} {t : TS} {pins : List (Addr × Obj)} {s : Shared} {σ : St} {H : Hp} {D : Ends} (h : PSs X ss t) (I : Inv X pins σ H s) (q : t D σ H) : wpAny (model X.prog X.w) X.A (execs ss X.env) (SP X pins D) X.xe s := h pins s σ H D I q
theorem VT.pt {X : Cx} {ρ : List Sl} {e : Expr} {b : Bool} (h : VT X ρ e b) : PT X e (tRT X.K ρ b) := h
theorem er_plain {K : PySem.W.Frag} {H : Hp} {ρ : List Sl} {σ : St} (hl : ρ.length = σ.length) (h : ∀ (i : Nat) r,ρ[i]? = some r → r = .un ∨ ((∀ xs,r ≠ .o xs) ∧ ∃ v,σ[i]? = some (some v) ∧ RdR K H r v)) : ER K H [] ρ σ H := by
  have no : ∀ {i : Nat} {xs : List PyData},ρ[i]? ≠ some (.o xs) := fun {i xs} q => by
    rcases h i _ q with z | ⟨z,_⟩
    · cases z
    · exact z xs rfl
  refine ⟨Same.refl H,hl,fun i x q => ?_,fun i x q => ?_,fun i x q => ?_,fun i x q => absurd q no,fun i j a xs ys q => absurd q no,fun i j a xs ys _ q => absurd q no,(fun p hp => nomatch hp),fun i xs a q => absurd q no⟩
  · rcases h i _ q with z | ⟨_,v,h1,h2⟩
    · cases z
    · exact ⟨v,h1,h2⟩
  · rcases h i _ q with z | ⟨_,v,h1,a,e,h2⟩
    · cases z
    · subst e; exact ⟨a,h1,h2⟩
  · rcases h i _ q with z | ⟨_,v,h1,h2⟩
    · cases z
    · exact ⟨v,h1,h2⟩
section
variable {K : PySem.W.Frag} {H : Hp} {σ : St} {l x : Str} {a : Addr} {xs : List PyData}
theorem er_line (hl : σ.length = 4) (h0 : σ[0]? = some (some (.str l))) : ER K H [] [.d (.str l),.un,.un,.un] σ H := er_plain hl.symm fun i r q => by
  match i,q with
  | 0,q => cases q; exact .inr ⟨(fun _ z => nomatch z),_,h0,(.str l : Rep K H (.str l) (.str l))⟩
  | 1,q => cases q; exact .inl rfl
  | 2,q => cases q; exact .inl rfl
  | 3,q => cases q; exact .inl rfl
  | i + 4,q => simp at q
theorem er_tok (hl : σ.length = 4) (h0 : σ[0]? = some (some (.str l))) (h2 : σ[2]? = some (some (.str x))) : ER K H [] [.d (.str l),.un,.d (.str x),.un] σ H := er_plain hl.symm fun i r q => by
  match i,q with
  | 0,q => cases q; exact .inr ⟨(fun _ z => nomatch z),_,h0,(.str l : Rep K H (.str l) (.str l))⟩
  | 1,q => cases q; exact .inl rfl
  | 2,q => cases q; exact .inr ⟨(fun _ z => nomatch z),_,h2,(.str x : Rep K H (.str x) (.str x))⟩
  | 3,q => cases q; exact .inl rfl
  | i + 4,q => simp at q
end
open Wk (StepG BrkF WordF RunG)
def GSt (K : PySem.W.Frag) (H0 : Hp) (T : Addr) (ts : List V) (gs : List (List Fd)) (line : Str) (σ : St) (H : Hp) : Prop :=
  ∃ G as,σ.length = 4 ∧ σ[0]? = some (some (.str line)) ∧ σ[1]? = some (some (.ref G)) ∧ GS K H0 T ts gs G as H
end L2
namespace L2
open PySem PySem.Spec PyProof.Rows
section
variable {K : PySem.W.Frag} {H0 H H' : Hp} {hs : List (V × Sl)} {ρ : List Sl} {σ : St} {p a : Addr}
theorem LsR.otherO {xs : List PyData} {vs : List V} {o : HO} (h : LsR K H a xs) (hp : H p = some (.lst vs)) (n : a ≠ p) : LsR K (upd H p o) a xs := by
  obtain ⟨us,e,q⟩ := h
  exact ⟨us,by rw [upd_ne n]; exact e,Reps.mono ((SameBut.upd _).tup hp) _ _ q⟩
theorem ER.freeze {i : Nat} {xs : List PyData} {a : Addr} {vs : List V} {o : Obj} (e : ER K H0 hs ρ σ H) (hi : ρ[i]? = some (.o xs)) (ha : σ[i]? = some (some (.ref a))) (hv : H a = some (.lst vs)) (hw : Reps K H xs vs) : ER K H0 hs (ρ.set i (.d (.list xs))) σ (upd H a (.frz o (.lst vs))) := by
  have tl : TupLe K H (upd H a (.frz o (.lst vs))) := (SameBut.upd _).tup hv
  have li : i < ρ.length := (List.getElem?_eq_some_iff.mp hi).1
  have h0 : H0 a = none := by
    obtain ⟨b,h1,_,h3⟩ := e.own i xs hi
    rw [ha] at h1; cases h1; exact h3
  refine ⟨fun b o q => by rw [upd_ne (ne_of_none q h0)]; exact e.same b o q,by rw [List.length_set,e.len],fun j x q => ?_,fun j x q => ?_,fun j x q => ?_,fun j x q => ?_,fun j k b us zs q1 q2 q3 q4 => ?_,fun j k b us zs n q1 q2 q3 q4 => ?_,fun p hp => ?_,fun j us b q1 q2 => ?_⟩
  · rcases set_get q with ⟨rfl,z,_⟩ | ⟨n,q⟩
    · cases z; exact ⟨.ref a,ha,Rep.list (K := K) upd_same (Reps.mono tl _ _ hw)⟩
    · obtain ⟨u,h1,h2⟩ := e.dat j x q
      exact ⟨u,h1,Rep.mono tl _ _ h2⟩
  · rcases set_get q with ⟨_,z,_⟩ | ⟨n,q⟩
    · cases z
    · obtain ⟨b,h1,h2⟩ := e.lst j x q
      exact ⟨b,h1,h2.otherO hv fun z => e.sepL i j a xs x hi q ha (by rw [← z]; exact h1)⟩
  · rcases set_get q with ⟨_,z,_⟩ | ⟨n,q⟩
    · cases z
    · obtain ⟨u,h1,h2⟩ := e.per j x q
      exact ⟨u,h1,x.mono _ _ _ (Ext.write hv _) h2⟩
  · rcases set_get q with ⟨rfl,z,_⟩ | ⟨n,q⟩
    · cases z
    · obtain ⟨b,h1,h2,h3⟩ := e.own j x q
      exact ⟨b,h1,h2.otherO hv fun z => e.sepO i j a xs x n hi q ha (by rw [← z]; exact h1),h3⟩
  · rcases set_get q2 with ⟨_,z,_⟩ | ⟨n2,q2⟩
    · cases z
    rcases set_get q1 with ⟨rfl,_,_⟩ | ⟨n1,q1⟩
    · exact e.sepL i k b xs zs hi q2 q3 q4
    · exact e.sepL j k b us zs q1 q2 q3 q4
  · rcases set_get q1 with ⟨rfl,_,_⟩ | ⟨n1,q1⟩
    · rcases set_get q2 with ⟨z,_,_⟩ | ⟨n2,q2⟩
      · exact n z
      · exact e.sepO i k b xs zs n hi q2 q3 q4
    · rcases set_get q2 with ⟨rfl,_,_⟩ | ⟨n2,q2⟩
      · exact e.sepO j i b us xs n q1 hi q3 q4
      · exact e.sepO j k b us zs n q1 q2 q3 q4
  · have hh := e.held p hp
    obtain ⟨pv,ps⟩ := p
    cases ps with
    | un => trivial
    | d x => exact Rep.mono tl _ _ hh
    | l zs => obtain ⟨b,rfl,q⟩ := hh; exact ⟨b,rfl,q.otherO hv fun z => e.sepH i xs a hi ha (.ref b,.l zs) hp zs rfl (by rw [z])⟩
    | o zs => obtain ⟨b,rfl,q⟩ := hh; exact ⟨b,rfl,q.otherO hv fun z => e.sepH i xs a hi ha (.ref b,.o zs) hp zs rfl (by rw [z])⟩
    | h P => exact P.mono _ _ _ (Ext.write hv _) hh
  · rcases set_get q1 with ⟨rfl,_,_⟩ | ⟨n1,q1⟩
    · exact e.sepH i xs b hi q2
    · exact e.sepH j us b q1 q2
end
section
variable {X : Cx} {ρ : List Sl} {ss : List Stmt} {Q : Out → Prop}
theorem vs_freeze {i : Nat} {xs : List PyData} (hi : ρ[i]? = some (.o xs)) (k : VS X ss (ρ.set i (.d (.list xs))) Q) : VS X ss ρ Q := by
  intro pins s σ H D I ⟨H0,hs,er,l⟩
  obtain ⟨a,h1,⟨vs,h2,h3⟩,h4⟩ := er.own i xs hi
  obtain ⟨o,I2⟩ := I.freezeL h2
  exact k pins s σ _ D I2 ⟨H0,hs,er.freeze hi h1 h2 h3,l⟩
end
end L2
namespace L2
open PySem PySem.Spec PyProof.Rows
section
variable {X : Cx} {ρ : List Sl} {tg iter : Expr} {xs : List PyData}
theorem itok_frzW {K : PySem.W.Frag} {a : Addr} : ItOk K (Itl K a) (.ref a,.d (.list xs)) xs where
  go := fun i H h hi => by
    obtain ⟨b,o,vs,e,h1,h2⟩ := Rep.unlist h
    cases e
    have hv : i < vs.length := by rw [h2.length]; exact hi
    exact ⟨vs,vs[i],.inl (.inr ⟨o,h1⟩),List.getElem?_eq_getElem hv⟩
  yld := fun i H v H' h hi ⟨e2,y⟩ => by
    obtain ⟨b,o,vs,e,h1,h2⟩ := Rep.unlist h
    cases e
    subst e2
    obtain ⟨u,hu,ru⟩ := h2.get (List.getElem?_eq_getElem hi)
    have := y vs (.inl (.inr ⟨o,h1⟩))
    rw [hu] at this
    cases this
    exact ⟨Same.refl _,_,List.getElem?_eq_getElem hi,ru⟩
  stop := fun H h => by
    obtain ⟨b,o,vs,e,h1,h2⟩ := Rep.unlist h
    cases e
    exact ⟨vs,.inl (.inr ⟨o,h1⟩),by rw [h2.length]; exact Nat.le_refl _⟩
theorem vi_frzW (h : VE X ρ iter (.d (.list xs))) : VI X ρ tg iter xs :=
  ⟨_,pi_list h,fun H0 hs σ H R er k => ⟨⟨H0,hs,er⟩,fun v H1 s1 r1 => by
    obtain ⟨a,o,vs,rfl,h1,h2⟩ := Rep.unlist (K := X.K) (H := H1) r1
    exact ⟨a,rfl,⟨vs,.inl (.inr ⟨o,h1⟩)⟩,k _ H1 (.ref a,.d (.list xs)) s1 (Rep.list h1 h2) (fun _ z => nomatch z) itok_frzW⟩⟩⟩
end
end L2
namespace Wk
open PySem L2 PySem.Spec PyProof.Rows
abbrev Rw := List Int × Int × Int
def rowD (r : Rw) : PyData := .tuple [.tuple (r.1.map .int),.int r.2.1,.int r.2.2]
structure BI where
  e : PyData
  ln : Str
  rows : List Rw
def biD (b : BI) : PyData := .tuple [b.e,.str b.ln,.list (b.rows.map rowD)]
def oneAt (ones : List BI) (i : Nat) : BI := (ones[i]?).getD ⟨.none,"",[]⟩
def gapAt (gaps : List Str) (i : Nat) : Str := (gaps[i]?).getD ""
def lnAt (gaps : List Str) (ones : List BI) : Nat → Str
  | 0 => gapAt gaps 0
  | i + 1 => lnAt gaps ones i ++ (oneAt ones i).ln ++ gapAt gaps (i + 1)
def shiftR (k n : Nat) (r : Rw) : Rw := ((k : Int) :: r.1,(n : Int) + r.2.1,(n : Int) + r.2.2)
def rowsAt (gaps : List Str) (ones : List BI) : Nat → List Rw
  | 0 => []
  | i + 1 => rowsAt gaps ones i ++ (oneAt ones i).rows.map (shiftR i (lnAt gaps ones i).length)
def built (wd : Str) (ms : List PyData) (ones : List BI) (gaps : List Str) : BI :=
  ⟨.tuple [.str wd,.tuple ms,.tuple (ones.map BI.e)],lnAt gaps ones ones.length,rowsAt gaps ones ones.length ++ [(([],0,((lnAt gaps ones ones.length).length : Int)) : Rw)]⟩
def RBuilt : List Sl → Sl → Prop := fun as r => ∃ (wd : Str) (ms : List PyData) (ones : List BI) (gaps : List Str),as = [.d (.str wd),.d (.tuple ms),.l (ones.map biD),.l (gaps.map .str)] ∧ gaps.length = ones.length + 1 ∧ ones.length ≤ 3 ∧
  (∀ i,i ≤ ones.length → (lnAt gaps ones i).length ≤ 1000000 ∧ (rowsAt gaps ones i).length ≤ 1000000) ∧ (∀ o ∈ ones,∀ r ∈ o.rows,r.1.length ≤ 1000000) ∧ r = .d (biD (built wd ms ones gaps))
theorem oneAt_eq {ones : List BI} {i : Nat} (h : i < ones.length) : ones[i]? = some (oneAt ones i) := by unfold oneAt; rw [List.getElem?_eq_getElem h]; rfl
theorem gapAt_eq {gaps : List Str} {i : Nat} (h : i < gaps.length) : gaps[i]? = some (gapAt gaps i) := by unfold gapAt; rw [List.getElem?_eq_getElem h]; rfl
end Wk
namespace Wk
open PySem L2 PySem.Spec PyProof.Rows
def hsh (c m n : Int) : Int := c * 48271 % m % n
theorem hsh_lo (c m : Int) {n : Int} (h : 0 < n) : 0 ≤ hsh c m n := Int.emod_nonneg _ (by omega)
theorem hsh_hi (c m : Int) {n : Int} (h : 0 < n) : hsh c m n < n := Int.emod_lt_of_pos _ h
def kBase (c : Int) : Kd := if hsh c 1009 3 = 1 then .truth else .num
def kOther (w : Int) : Kd := if w = 0 then .num else if w = 1 then .truth else if w = 2 then .list .truth else .to .num .truth
def kStep (c : Int) (k : Nat) (kd : Kd) : Kd :=
  if hsh (c + k) 1019 2 = 0 then .list kd else if hsh (c + k) 1091 2 = 0 then .to kd (kOther (hsh (c + k) 1087 4)) else .to (kOther (hsh (c + k) 1087 4)) kd
def kAt (c : Int) : Nat → Kd
  | 0 => kBase c
  | i + 1 => kStep c i (kAt c i)
def kN (c : Int) : Nat := if hsh c 1013 8 = 0 then 0 else if hsh c 1013 8 = 1 then 1 else if hsh c 1013 8 = 2 then 2 else if hsh c 1013 8 = 3 then 3 else if hsh c 1013 8 = 4 then 0 else if hsh c 1013 8 = 5 then 1 else if hsh c 1013 8 = 6 then 2 else 8
def kindB (c : Int) : Kd := kAt c (kN c)
def kdT (k : Kd) : Str := Txt.join "" (ktx k)
theorem kdT_codes (k : Kd) : codes (kdT k) = flat (ktx k) := codes_join0 _
theorem kdT_num : kdT .num = "num" := codes_inj (by rw [kdT_codes]; decide)
theorem kdT_truth : kdT .truth = "truth" := codes_inj (by rw [kdT_codes]; decide)
theorem kdT_list (k : Kd) : kdT (.list k) = "(list " ++ kdT k ++ ")" := codes_inj (by
  rw [codes_app,codes_app,kdT_codes,kdT_codes,show codes "(list " = codes "(list" ++ codes " " from by decide]
  simp [ktx,flat])
theorem kdT_to (a b : Kd) : kdT (.to a b) = "(to " ++ kdT a ++ " " ++ kdT b ++ ")" := codes_inj (by
  rw [codes_app,codes_app,codes_app,codes_app,kdT_codes,kdT_codes,kdT_codes,show codes "(to " = codes "(to" ++ codes " " from by decide]
  simp [ktx,flat])
theorem len_app (a b : Str) : (a ++ b).length = a.length + b.length := by rw [← len_codes,codes_app,List.length_append,len_codes,len_codes]
theorem kOther_len (w : Int) : (kdT (kOther w)).length ≤ 14 := by
  unfold kOther
  split
  · rw [kdT_num]; decide
  · split
    · rw [kdT_truth]; decide
    · split
      · rw [kdT_list,kdT_truth]; decide
      · rw [kdT_to,kdT_num,kdT_truth]; decide
theorem kAt_len (c : Int) : ∀ i : Nat, (kdT (kAt c i)).length ≤ 5 + 20 * i
  | 0 => by
    rw [kAt, kBase]
    split
    · rw [kdT_truth]; decide
    · rw [kdT_num]; decide
  | i + 1 => by
    have ih := kAt_len c i
    have ho := kOther_len (hsh (c + i) 1087 4)
    have e1 : ("(list " : Str).length = 6 := by decide
    have e2 : (")" : Str).length = 1 := by decide
    have e3 : ("(to " : Str).length = 4 := by decide
    have e4 : (" " : Str).length = 1 := by decide
    rw [kAt, kStep]
    split
    · rw [kdT_list, len_app, len_app, e1, e2]; omega
    · split
      · rw [kdT_to, len_app, len_app, len_app, len_app, e2, e3, e4]; omega
      · rw [kdT_to, len_app, len_app, len_app, len_app, e2, e3, e4]; omega
theorem kN_le (c : Int) : kN c ≤ 8 := by unfold kN; repeat' split <;> try decide
def RDKind : List Sl → Sl → Prop := fun as r => ∃ c : Int,as = [.d (.int c)] ∧ r = .d (.tuple [kdD (kindB c),.str (kdT (kindB c))])
end Wk
namespace L2
open PySem PySem.Spec PyProof.Rows
section
variable {X : Cx} {ρ : List Sl} {e : Expr} {p1 p2 p3 p4 p5 p6 : Pos} {j1 j2 j3 : Nat}
theorem ve_hsh {c m n : Int} (h : VE X ρ e (.d (.int c))) (hm : 0 < m := by decide) (hn : 0 < n := by decide) : VE X ρ (.BinOp (.BinOp (.BinOp e .Mult (.Constant (.int 48271) j1 p1) p2) .Mod (.Constant (.int m) j2 p3) p4) .Mod (.Constant (.int n) j3 p5) p6) (.d (.int (Wk.hsh c m n))) :=
  ve_modI (ve_modI (ve_mulI h ve_int (.inr ⟨by decide,by decide⟩)) ve_int hm) ve_int hn
end
end L2
namespace Wk
open PySem L2 PySem.Spec PyProof.Rows
def wAt (c : Int) : Nat → Str
  | 0 => "q"
  | i + 1 => sg (97 + (hsh (c + 7 * i) 1123 26).toNat) ++ wAt c i
def someW (w : Int) : Str := if w = 0 then "x" else if w = 1 then "total" else if w = 2 then "note" else if w = 3 then "iffy" else if w = 4 then "number" else if w = 5 then "lists" else if w = 6 then "funny" else "t"
def wordB (c : Int) : Str := if hsh c 1103 3 = 0 then someW (hsh c 1109 8) else wAt c (hsh c 1117 9).toNat
theorem codes_sg (c : Nat) : codes (sg c) = [c] := rfl
theorem wAt_codes (c : Int) : ∀ i : Nat, ∃ p, codes (wAt c i) = p ++ [113] ∧ (∀ d ∈ p, letter d) ∧ p.length = i
  | 0 => ⟨[], (by decide : codes "q" = [] ++ [113]), by simp, rfl⟩
  | i + 1 => by
    obtain ⟨p, h1, h2, h3⟩ := wAt_codes c i
    refine ⟨(97 + (hsh (c + 7 * i) 1123 26).toNat) :: p, by rw [wAt, codes_app, h1, codes_sg]; rfl, fun d hd => ?_, by simp [h3]⟩
    rcases List.mem_cons.mp hd with rfl | hd
    · have a := hsh_lo (c + 7 * i) 1123 (n := 26) (by decide)
      have b := hsh_hi (c + 7 * i) 1123 (n := 26) (by decide)
      unfold letter
      omega
    · exact h2 d hd
theorem lastq {x y : Str} (h : ∃ p,codes x = p ++ [113]) (hy : (codes y).getLast? ≠ some 113) : x ≠ y := fun e => by
  obtain ⟨p,h⟩ := h
  rw [← e,h] at hy
  exact hy (by simp)
theorem formOf_q {x : Str} (h : ∃ p,codes x = p ++ [113]) : formOf x = none := by
  unfold formOf
  rw [if_neg (lastq h (by decide)),if_neg (lastq h (by decide)),if_neg (lastq h (by decide)),if_neg (lastq h (by decide)),if_neg (lastq h (by decide)),if_neg (lastq h (by decide)),if_neg (lastq h (by decide)),if_neg (lastq h (by decide)),if_neg (lastq h (by decide)),if_neg (lastq h (by decide))]
theorem wAt_name (c : Int) (i : Nat) : IsName (wAt c i) := by
  obtain ⟨p,h1,h2,h3⟩ := wAt_codes c i
  have hq : ∃ p,codes (wAt c i) = p ++ [113] := ⟨p,h1⟩
  refine ⟨by rw [h1]; simp,fun d hd => ?_,formOf_q hq,lastq hq (by decide),lastq hq (by decide),lastq hq (by decide),lastq hq (by decide)⟩
  rw [h1] at hd
  rcases List.mem_append.mp hd with z | z
  · exact h2 d z
  · rw [List.mem_singleton] at z; subst z; exact ⟨by decide,by decide⟩
instance (c : Nat) : Decidable (letter c) := by unfold letter; infer_instance
theorem name_of {x : Str} (h1 : codes x ≠ []) (h2 : ∀ c ∈ codes x,letter c) (h3 : formOf x = none) (h4 : x ≠ "num" ∧ x ≠ "truth" ∧ x ≠ "yes" ∧ x ≠ "no") : IsName x := ⟨h1,h2,h3,h4.1,h4.2.1,h4.2.2.1,h4.2.2.2⟩
theorem someW_name (w : Int) : IsName (someW w) := by
  unfold someW
  repeat' split
  all_goals exact name_of (by decide) (by decide) (by decide) (by decide)
theorem wordB_name (c : Int) : IsName (wordB c) := by
  unfold wordB
  split
  · exact someW_name _
  · exact wAt_name _ _
theorem wAt_len (c : Int) (i : Nat) : (wAt c i).length = i + 1 := by
  obtain ⟨p,h1,_,h3⟩ := wAt_codes c i
  rw [← len_codes,h1,List.length_append,h3]; rfl
theorem wordB_len (c : Int) : (wordB c).length ≤ 10 := by
  unfold wordB
  split
  · unfold someW; repeat' split
    all_goals decide
  · rw [wAt_len]
    have b := hsh_hi c 1117 (n := 9) (by decide)
    have a := hsh_lo c 1117 (n := 9) (by decide)
    omega
def RWordBy : List Sl → Sl → Prop := fun as r => ∃ c : Int,as = [.d (.int c)] ∧ r = .d (.str (wordB c))
theorem letters_at {w : Int} (h0 : 0 ≤ w) (h1 : w < 26) : atI (codes Letters) w = some (97 + w.toNat) := by
  rw [← Int.toNat_of_nonneg h0]
  apply atI_nat
  rw [show codes Letters = List.range' 97 26 from by decide,List.getElem?_range' (by omega)]
  simp
  omega
theorem rng_get {n i : Nat} {d : PyData} (h : (rngD 0 n)[i]? = some d) : i < n ∧ d = .int (i : Int) := by
  have hi : i < n := by have := (List.getElem?_eq_some_iff.mp h).1; simpa [rngD] using this
  refine ⟨hi,?_⟩
  simp [rngD,hi] at h
  exact h.symm
end Wk
namespace Wk
open PySem
theorem core_figs : ∀ (f n : Nat) (ds : List Char), Nat.toDigitsCore 10 f n ds = (figs f n).reverse.map Nat.digitChar ++ ds
  | 0, n, ds => by simp [Nat.toDigitsCore, figs]
  | f + 1, n, ds => by
    rw [Nat.toDigitsCore, figs]
    by_cases h : n < 10
    · rw [if_pos h, if_pos (show n / 10 = 0 by omega)]
      simp
    · rw [if_neg h, if_neg (show ¬ n / 10 = 0 by omega), core_figs f (n / 10)]
      simp
theorem digitChar_nat {d : Nat} (h : d < 10) : (Nat.digitChar d).toNat = 48 + d := by
  match d,h with
  | 0,_ => rfl | 1,_ => rfl | 2,_ => rfl | 3,_ => rfl | 4,_ => rfl | 5,_ => rfl | 6,_ => rfl | 7,_ => rfl | 8,_ => rfl | 9,_ => rfl
theorem repr_figs (n : Nat) : (Nat.repr n).toList = (figs (n + 1) n).reverse.map Nat.digitChar := by
  unfold Nat.repr Nat.toDigits
  rw [core_figs]
  simp
theorem map_digit {l : List Nat} (h : ∀ d ∈ l,d < 10) : (l.map Nat.digitChar).map Char.toNat = l.map (48 + ·) := by
  rw [List.map_map]
  apply List.map_congr_left
  intro d hd
  exact digitChar_nat (h d hd)
theorem codes_ofString (s : String) : codes (Str.ofString s) = s.toList.map Char.toNat := by
  rw [PySem.Str.ofString_eq_toList]; simp [codes]
theorem str_numT (i : Int) : Str.ofString (toString i) = numT i := by
  apply codes_inj
  rw [codes_ofString, numT_codes]
  cases i with
  | ofNat n =>
    rw [if_neg (by simp)]
    show (Nat.repr n).toList.map Char.toNat = _
    rw [repr_figs, map_digit fun d hd => figs_lt _ _ d (List.mem_reverse.mp hd)]
    rfl
  | negSucc n =>
    rw [if_pos (Int.negSucc_lt_zero n)]
    show ("-" ++ Nat.repr (n + 1)).toList.map Char.toNat = _
    rw [String.toList_append, List.map_append, repr_figs, map_digit fun d hd => figs_lt _ _ d (List.mem_reverse.mp hd)]
    rfl
end Wk
set_option exponentiation.threshold 1000
namespace L2
open PySem PySem.Spec PyProof.Rows
section
variable {X : Cx} {ρ : List Sl} {a b : Expr} {pos : Pos}
theorem op_mulG : OpR X (binaryOp .Mult) (rI IntMulOk fun i j => .int (i * j)) := opI fun _ _ _ _ _ _ _ hc q => mul_int q hc
theorem ve_mulG {i j : Int} (ha : VE X ρ a (.d (.int i))) (hb : VE X ρ b (.d (.int j))) (h : IntMulOk i j) : VE X ρ (.BinOp a .Mult b pos) (.d (.int (i * j))) :=
  ve_op op_mulG ha hb fun H x y Q rx ry q => ⟨i,j,RdR.is_int rx,RdR.is_int ry,h,q _ H (Same.refl H) RsR.int⟩
theorem call_intB : CallR X (.type "int") (fun xs H Q => ∃ b, xs = [.bl b] ∧ Q (.int (if b then 1 else 0)) H) := by
  intro pins s σ H xs us Q I r h
  obtain ⟨b, rfl, q⟩ := h
  cases r with
  | cons r1 t =>
    cases t
    cases r1
    exact call_int_bool ⟨.int _, H, I.tok _, ⟨_, rfl⟩, q⟩
theorem ve_intB {k : Bool} {p : Pos} (hm : X.mg "int" = none) (ha : VE X ρ a (.d (.bool k))) (hg : Gl X "int" := by rfl) (hs : starEach [a] X.env = [(false,eval a X.env)] := by rfl) : VE X ρ (.Call (.Name "int" p) [a] [] pos) (.d (.int (if k then 1 else 0))) :=
  PE.weak (pe_callTy call_intB hg hm PyProof.Rows.boot_int (pa_cons ha pa_nil hs) (by decide) (by decide) hs) fun σ H Q ⟨er,q⟩ => ⟨er,fun v H1 s1 r1 => ⟨k,by rw [RsR.is_bool r1],q _ H1 s1 RsR.int⟩⟩
theorem mulOk_bits {i j : Int} (hi : i.natAbs < 2 ^ 400) (hj : j.natAbs < 2 ^ 400) : IntMulOk i j := by
  have h1 := PyProof.Rows.intBits_le hi
  have h2 := PyProof.Rows.intBits_le hj
  unfold IntMulOk
  rw [show Builtin.Int.intTooBig (Builtin.Int.intBits i + Builtin.Int.intBits j) = false from decide_eq_false (by unfold bitsLine; omega)]
  simp
end
end L2
namespace Wk
open PySem L2 PySem.Spec PyProof.Rows
def numB (c : Int) : Int := (c / 4 % 1000000000000000000000 - 5) * (if hsh c 1097 3 = 0 then 1 else if hsh c 1097 3 = 1 then -1 else 10 ^ 70)
def leafT (c : Int) : WT :=
  if hsh c 1021 4 = 0 then .num (numB c) else if hsh c 1021 4 = 1 then .truth (decide (hsh c 1033 2 = 0)) else if hsh c 1021 4 = 2 then .nil (kindB (c / 4)) else .name (wordB c)
theorem lineT_codes (t : WT) : codes (lineT t) = flat (wtx t) := codes_join0 _
theorem lineT_num (i : Int) : lineT (.num i) = numT i := codes_inj (by rw [lineT_codes]; simp [wtx,flat])
theorem lineT_name (x : Str) : lineT (.name x) = x := codes_inj (by rw [lineT_codes]; simp [wtx,flat])
theorem lineT_truth (b : Bool) : lineT (.truth b) = if b then ("yes" : Str) else "no" := codes_inj (by rw [lineT_codes]; simp [wtx,flat])
theorem lineT_nil (k : Kd) : lineT (.nil k) = "(nil " ++ kdT k ++ ")" := codes_inj (by
  rw [lineT_codes,codes_app,codes_app,kdT_codes,show codes "(nil " = codes "(nil" ++ codes " " from by decide]
  simp [wtx,flat])
def leafB (c : Int) : BI := ⟨wtD (leafT c),lineT (leafT c),[([],0,((lineT (leafT c)).length : Int))]⟩
def RLeaf : List Sl → Sl → Prop := fun as r => ∃ c : Int,as = [.d (.int c)] ∧ r = .d (biD (leafB c))
theorem numB_abs (c : Int) : (numB c).natAbs < 2 ^ 400 := by
  have h1 : 0 ≤ c / 4 % 1000000000000000000000 := Int.emod_nonneg _ (by decide)
  have h2 : c / 4 % 1000000000000000000000 < 1000000000000000000000 := Int.emod_lt_of_pos _ (by decide)
  unfold numB
  generalize c / 4 % 1000000000000000000000 = x at h1 h2
  rw [show (2 : Nat) ^ 400 = 2582249878086908589655919172003011874329705792829223512830659356540647622016841194629645353280137831435903171972747493376 from by decide +kernel,show (10 : Int) ^ 70 = 10000000000000000000000000000000000000000000000000000000000000000000000 from by decide +kernel]
  split
  · omega
  · split <;> omega
theorem figs_len : ∀ (f n k : Nat), n < 10 ^ (k + 1) → (figs f n).length ≤ k + 1
  | 0, n, k, _ => by simp [figs]
  | f + 1, n, k, h => by
    rw [figs]
    split
    · simp
    · rename_i h10
      cases k with
      | zero => simp at h; omega
      | succ k =>
        have := figs_len f (n / 10) k (by rw [Nat.pow_succ] at h; omega)
        simp; omega
theorem numB_ok (c : Int) : NumOk (numB c) := by
  unfold NumOk
  have := figs_len ((numB c).natAbs + 1) (numB c).natAbs 399 (Nat.lt_trans (numB_abs c) (by decide +kernel))
  omega
theorem num_len (c : Int) : (numT (numB c)).length ≤ 1000000 := by
  have h := figs_len ((numB c).natAbs + 1) (numB c).natAbs 399 (Nat.lt_trans (numB_abs c) (by decide +kernel))
  rw [← len_codes,numT_codes,List.length_append,List.length_map]
  have e : (figsOf (numB c)).length = (figs ((numB c).natAbs + 1) (numB c).natAbs).length := by unfold figsOf; simp
  have e2 : (if numB c < 0 then [45] else ([] : List Nat)).length ≤ 1 := by split <;> simp
  omega
end Wk
namespace Wk
open PySem L2 PySem.Spec PyProof.Rows
def spTakeW (K : PySem.W.Frag) : Sp := fun vs H Q _ => ∃ a xs c,vs = [.ref a,.int c] ∧ LsR K H a xs.reverse ∧ ∀ u H',(∀ b o,b ≠ a → H b = some o → H' b = some o) → LsR K H' a (popT (biD (leafB c)) xs).2.reverse → Rep K H' (popT (biD (leafB c)) xs).1 u → Q u H'
end Wk
namespace L2
open PySem PySem.Spec PyProof.Rows
section
variable {X : Cx} {ρ : List Sl} {Φ : Hp → St → Prop} {e2 : Expr} {p p2 pos : Pos}
theorem vm_takeW {i k : Nat} {f x : Str} {ps : List Str} {xs : List PyData} {c : Int} (D : DefOk X.prog X.w X.K X.mg X.base k f ps (Wk.spTakeW X.K)) (hrm : Room k X.A) (hi : ixA x X.N 0 = some i) (hr : ρ[i]? = some (.o xs.reverse)) (h2 : VE X ρ e2 (.d (.int c)))
    (hv : Vis X.env.scope x := by first | exact Or.inl rfl | exact Or.inr (Or.inl rfl) | exact Or.inr (Or.inr rfl)) (hd : (x == ("__debug__" : Str)) = false := by decide) (hcd : (x == ("__classdict__" : Str)) = false := by decide)
    (hg : Gl X f := by rfl) (hdb : (f == ("__debug__" : Str)) = false := by decide) (he : starEach [.Name x p2,e2] X.env = (false,eval (.Name x p2) X.env) :: starEach [e2] X.env := by rfl) (he2 : starEach [e2] X.env = (false,eval e2 X.env) :: starEach [] X.env := by rfl) (hpl : (backTo pos (starEach [e2] X.env)).any (·.1) = false := by rfl) :
    VM X Φ ρ (.Call (.Name f p) [.Name x p2,e2] [] pos) (popT (Wk.biD (Wk.leafB c)) xs).1 (ρ.set i (.o (popT (Wk.biD (Wk.leafB c)) xs).2.reverse)) :=
  PE.weak (pe_callD D hrm hg (pa_cons (pe_var (ixA_N hi) hv hd hcd) (pa_cons h2 pa_nil he2) he) hdb he hpl) fun σ H Q ⟨H0,hs,φ,er,q⟩ => by
    obtain ⟨a,h1,h3,h4⟩ := er.own i _ hr
    refine ⟨_,h1,⟨H0,hs,er⟩,fun v H1 s1 r1 => ?_⟩
    obtain rfl := RsR.is_int r1
    refine ⟨a,xs,c,rfl,h3.mono s1,fun u H2 off l2 ru => ?_⟩
    have er1 := er.grow s1
    have er2 := er1.lent1 hr h1 off l2
    obtain ⟨ws,g1,_⟩ := h3.mono s1
    have tl : TupLe X.K H H2 := (TupLe.of_same s1).trans (SameBut.tup (p := a) (fun b o n e => off b o n e) g1)
    exact q u H2 tl er2 ru
end
end L2
namespace Wk
open PySem L2 PySem.Spec PyProof.Rows
def WT.kok : WT → Prop
  | .nil k => kdep k ≤ 19
  | .lam _ k b => kdep k ≤ 19 ∧ b.kok
  | .add a b => a.kok ∧ b.kok
  | .less a b => a.kok ∧ b.kok
  | .front a b => a.kok ∧ b.kok
  | .call a b => a.kok ∧ b.kok
  | .cond a b c => a.kok ∧ b.kok ∧ c.kok
  | .case k _ _ a b c => kdep k ≤ 19 ∧ a.kok ∧ b.kok ∧ c.kok
  | _ => True
theorem lineT_lam (x : Str) (k : Kd) (b : WT) : lineT (.lam x k b) = ("(fun " ++ x ++ " " ++ kdT k ++ " ") ++ lineT b ++ ")" := codes_inj (by
  simp only [codes_app,lineT_codes,kdT_codes,show codes "(fun " = codes "(fun" ++ codes " " from by decide]
  simp [wtx,flat])
theorem lineT_add (a b : WT) : lineT (.add a b) = "(add " ++ lineT a ++ " " ++ lineT b ++ ")" := codes_inj (by
  simp only [codes_app,lineT_codes,show codes "(add " = codes "(add" ++ codes " " from by decide]
  simp [wtx,flat])
theorem lineT_less (a b : WT) : lineT (.less a b) = "(less " ++ lineT a ++ " " ++ lineT b ++ ")" := codes_inj (by
  simp only [codes_app,lineT_codes,show codes "(less " = codes "(less" ++ codes " " from by decide]
  simp [wtx,flat])
theorem lineT_front (a b : WT) : lineT (.front a b) = "(front " ++ lineT a ++ " " ++ lineT b ++ ")" := codes_inj (by
  simp only [codes_app,lineT_codes,show codes "(front " = codes "(front" ++ codes " " from by decide]
  simp [wtx,flat])
theorem lineT_call (a b : WT) : lineT (.call a b) = "(call " ++ lineT a ++ " " ++ lineT b ++ ")" := codes_inj (by
  simp only [codes_app,lineT_codes,show codes "(call " = codes "(call" ++ codes " " from by decide]
  simp [wtx,flat])
theorem lineT_cond (a b c : WT) : lineT (.cond a b c) = "(if " ++ lineT a ++ " " ++ lineT b ++ " " ++ lineT c ++ ")" := codes_inj (by
  simp only [codes_app,lineT_codes,show codes "(if " = codes "(if" ++ codes " " from by decide]
  simp [wtx,flat])
theorem lineT_case (k : Kd) (x y : Str) (a b c : WT) : lineT (.case k x y a b c) = ("(case " ++ kdT k ++ " ") ++ lineT a ++ " " ++ lineT b ++ (" " ++ x ++ " " ++ y ++ " ") ++ lineT c ++ ")" := codes_inj (by
  simp only [codes_app,lineT_codes,kdT_codes,show codes "(case " = codes "(case" ++ codes " " from by decide]
  simp [wtx,flat])
theorem line_sum (t : WT) : ((wtx t).map (·.length)).sum = (lineT t).length := by
  rw [← len_codes,lineT_codes]
  generalize wtx t = l
  induction l with
  | nil => rfl
  | cons x r ih => rw [List.map_cons,List.sum_cons,ih,flat_cons,List.length_append,len_codes]
structure BOk (n : Nat) (b : BI) : Prop where
  ex : ∃ t : WT,b.e = wtD t ∧ b.ln = lineT t ∧ t.wf ∧ t.ok ∧ t.kok ∧ wwt t ≤ n
  ln : b.ln.length ≤ n
  rows : b.rows.length ≤ n
  path : ∀ r ∈ b.rows,r.1.length ≤ n
theorem shift_path {n k m : Nat} {l : List Rw} (h : ∀ r ∈ l,r.1.length ≤ n) : ∀ r ∈ l.map (shiftR k m),r.1.length ≤ n + 1 := fun r hr => by
  obtain ⟨q,hq,rfl⟩ := List.mem_map.mp hr
  have := h q hq
  simp [shiftR]
  exact this
theorem built1 {n n1 : Nat} {wd : Str} {ms : List PyData} {a : BI} {g0 g1 : Str} {t : WT} (ha : BOk n1 a) (he : PyData.tuple [.str wd,.tuple ms,.tuple [a.e]] = wtD t) (hl : g0 ++ a.ln ++ g1 = lineT t) (h1 : t.wf) (h2 : t.ok) (h3 : t.kok) (h4 : wwt t ≤ n) (hg : g0.length + g1.length + n1 + 1 ≤ n) : BOk n (built wd ms [a] [g0,g1]) := by
  have hlen : (g0 ++ a.ln ++ g1).length ≤ n := by rw [len_app,len_app]; have := ha.ln; omega
  refine ⟨⟨t,he,hl,h1,h2,h3,h4⟩,hlen,?_,?_⟩
  · have := ha.rows
    simp [built,rowsAt,oneAt]; omega
  · intro r hr
    simp only [built,rowsAt,oneAt,List.length_cons,List.length_nil,List.mem_append,List.mem_singleton,List.nil_append] at hr
    rcases hr with hr | rfl
    · have := shift_path ha.path r hr; omega
    · simp
theorem built2 {n n1 n2 : Nat} {wd : Str} {ms : List PyData} {a b : BI} {g0 g1 g2 : Str} {t : WT} (ha : BOk n1 a) (hb : BOk n2 b) (he : PyData.tuple [.str wd,.tuple ms,.tuple [a.e,b.e]] = wtD t) (hl : g0 ++ a.ln ++ g1 ++ b.ln ++ g2 = lineT t) (h1 : t.wf) (h2 : t.ok) (h3 : t.kok) (h4 : wwt t ≤ n) (hg : g0.length + g1.length + g2.length + n1 + n2 + 1 ≤ n) : BOk n (built wd ms [a,b] [g0,g1,g2]) := by
  have hlen : (g0 ++ a.ln ++ g1 ++ b.ln ++ g2).length ≤ n := by simp only [len_app]; have := ha.ln; have := hb.ln; omega
  refine ⟨⟨t,he,hl,h1,h2,h3,h4⟩,hlen,?_,?_⟩
  · have := ha.rows
    have := hb.rows
    simp [built,rowsAt,oneAt]; omega
  · intro r hr
    simp only [built,rowsAt,oneAt,List.length_cons,List.length_nil,List.mem_append,List.mem_singleton,List.nil_append] at hr
    rcases hr with (hr | hr) | rfl
    · have := shift_path ha.path r hr; omega
    · have := shift_path hb.path r hr; omega
    · simp
theorem built3 {n n1 n2 n3 : Nat} {wd : Str} {ms : List PyData} {a b c : BI} {g0 g1 g2 g3 : Str} {t : WT} (ha : BOk n1 a) (hb : BOk n2 b) (hc : BOk n3 c) (he : PyData.tuple [.str wd,.tuple ms,.tuple [a.e,b.e,c.e]] = wtD t) (hl : g0 ++ a.ln ++ g1 ++ b.ln ++ g2 ++ c.ln ++ g3 = lineT t) (h1 : t.wf) (h2 : t.ok) (h3 : t.kok) (h4 : wwt t ≤ n) (hg : g0.length + g1.length + g2.length + g3.length + n1 + n2 + n3 + 1 ≤ n) : BOk n (built wd ms [a,b,c] [g0,g1,g2,g3]) := by
  have hlen : (g0 ++ a.ln ++ g1 ++ b.ln ++ g2 ++ c.ln ++ g3).length ≤ n := by simp only [len_app]; have := ha.ln; have := hb.ln; have := hc.ln; omega
  refine ⟨⟨t,he,hl,h1,h2,h3,h4⟩,hlen,?_,?_⟩
  · have := ha.rows
    have := hb.rows
    have := hc.rows
    simp [built,rowsAt,oneAt]; omega
  · intro r hr
    simp only [built,rowsAt,oneAt,List.length_cons,List.length_nil,List.mem_append,List.mem_singleton,List.nil_append] at hr
    rcases hr with ((hr | hr) | hr) | rfl
    · have := shift_path ha.path r hr; omega
    · have := shift_path hb.path r hr; omega
    · have := shift_path hc.path r hr; omega
    · simp
theorem bspW {n : Nat} {wd : Str} {ms : List PyData} {ones : List BI} {gaps : List Str} (hg : gaps.length = ones.length + 1) (h3 : ones.length ≤ 3) (hb : BOk n (built wd ms ones gaps)) (hn : n ≤ 1000000) (ho : ∀ o ∈ ones, ∃ k, k ≤ 1000000 ∧ BOk k o) : RBuilt [.d (.str wd), .d (.tuple ms), .l (ones.map biD), .l (gaps.map .str)] (.d (biD (built wd ms ones gaps))) := by
  have up : ∀ i j, i ≤ j → (lnAt gaps ones i).length ≤ (lnAt gaps ones j).length ∧ (rowsAt gaps ones i).length ≤ (rowsAt gaps ones j).length := by
    intro i j h
    induction h with
    | refl => exact ⟨Nat.le_refl _, Nat.le_refl _⟩
    | step h ih =>
      refine ⟨Nat.le_trans ih.1 ?_, Nat.le_trans ih.2 ?_⟩
      · rw [lnAt, len_app, len_app]; omega
      · rw [rowsAt, List.length_append]; omega
  refine ⟨wd, ms, ones, gaps, rfl, hg, h3, fun i hi => ?_, fun o hz r hr => ?_, rfl⟩
  · have a := up i _ hi
    have b : (lnAt gaps ones ones.length).length ≤ n := hb.ln
    have c : (rowsAt gaps ones ones.length ++ _).length ≤ n := hb.rows
    rw [List.length_append] at c
    exact ⟨by omega, by omega⟩
  · obtain ⟨k, hk, q⟩ := ho o hz
    exact Nat.le_trans (q.path r hr) hk
end Wk
namespace Wk
open PySem L2 PySem.Spec PyProof.Rows
theorem kOther_dep (w : Int) : kdep (kOther w) ≤ 2 := by unfold kOther; (repeat' split) <;> decide
theorem kOther_wt (w : Int) : kwt (kOther w) ≤ 11 := by unfold kOther; (repeat' split) <;> decide
theorem kAt_dep (c : Int) : ∀ i : Nat, kdep (kAt c i) ≤ 2 + i
  | 0 => by rw [kAt, kBase]; split <;> decide
  | i + 1 => by
    have ih := kAt_dep c i
    have ho := kOther_dep (hsh (c + i) 1087 4)
    rw [kAt, kStep]
    split
    · simp only [kdep]; omega
    · split <;> simp only [kdep] <;> omega
theorem kAt_wt (c : Int) : ∀ i : Nat, kwt (kAt c i) ≤ 2 + 18 * i
  | 0 => by rw [kAt, kBase]; split <;> decide
  | i + 1 => by
    have ih := kAt_wt c i
    have ho := kOther_wt (hsh (c + i) 1087 4)
    rw [kAt, kStep]
    split
    · simp only [kwt]; omega
    · split <;> simp only [kwt] <;> omega
theorem kindB_dep (c : Int) : kdep (kindB c) ≤ 19 := by have := kAt_dep c (kN c); have := kN_le c; unfold kindB; omega
theorem kindB_wt (c : Int) : kwt (kindB c) ≤ 146 := by have := kAt_wt c (kN c); have := kN_le c; unfold kindB; omega
theorem kindB_len (c : Int) : (kdT (kindB c)).length ≤ 165 := by have := kAt_len c (kN c); have := kN_le c; unfold kindB; omega
theorem num_len4 (c : Int) : (numT (numB c)).length ≤ 401 := by
  have h := figs_len ((numB c).natAbs + 1) (numB c).natAbs 399 (Nat.lt_trans (numB_abs c) (by decide +kernel))
  rw [← len_codes,numT_codes,List.length_append,List.length_map]
  have e : (figsOf (numB c)).length = (figs ((numB c).natAbs + 1) (numB c).natAbs).length := by unfold figsOf; simp
  have e2 : (if numB c < 0 then [45] else ([] : List Nat)).length ≤ 1 := by split <;> simp
  omega
theorem leaf_ok (c : Int) : BOk 500 (leafB c) := by
  have hl : (lineT (leafT c)).length ≤ 500 ∧ (leafT c).wf ∧ (leafT c).ok ∧ (leafT c).kok ∧ wwt (leafT c) ≤ 500 := by
    unfold leafT
    split
    · rw [lineT_num]; exact ⟨Nat.le_trans (num_len4 c) (by decide),trivial,numB_ok c,trivial,by simp [wwt]⟩
    · split
      · rw [lineT_truth]; exact ⟨by split <;> decide,trivial,trivial,trivial,by simp [wwt]⟩
      · split
        · have e1 : ("(nil " : Str).length = 5 := by decide
          have e2 : (")" : Str).length = 1 := by decide
          have := kindB_len (c / 4)
          have := kindB_wt (c / 4)
          rw [lineT_nil,len_app,len_app,e1,e2]
          exact ⟨by omega,trivial,trivial,kindB_dep _,by simp only [wwt]; omega⟩
        · rw [lineT_name]; exact ⟨by have := wordB_len c; omega,wordB_name c,trivial,trivial,by simp [wwt]⟩
  obtain ⟨h1,h2,h3,h4,h5⟩ := hl
  exact ⟨⟨leafT c,rfl,rfl,h2,h3,h4,h5⟩,h1,by simp [leafB],fun r hr => by simp only [leafB,List.mem_singleton] at hr; subst hr; simp⟩
def funB (x : Str) (k : Kd) (a : BI) : BI := built "fun" [.str x,kdD k] [a] ["(fun " ++ x ++ " " ++ kdT k ++ " ",")"]
def opB (w : Str) (a b : BI) : BI := built w [] [a,b] ["(" ++ w ++ " "," ",")"]
def addB (a b : BI) : BI := built "add" [] [a,b] ["(add "," ",")"]
def ifB (a b c : BI) : BI := built "if" [] [a,b,c] ["(if "," "," ",")"]
def caseB (k : Kd) (x y : Str) (a b c : BI) : BI := built "case" [kdD k,.str x,.str y] [a,b,c] ["(case " ++ kdT k ++ " "," "," " ++ x ++ " " ++ y ++ " ",")"]
def opW (w : Int) : Str := if w = 0 then "add" else if w = 1 then "less" else if w = 2 then "front" else "call"
section
variable {n1 n2 n3 : Nat} {a b c : BI}
theorem funB_ok {x : Str} {k : Kd} (hx : IsName x) (lx : x.length ≤ 10) (lk : (kdT k).length ≤ 165) (dk : kdep k ≤ 19) (wk : kwt k ≤ 146) (ha : BOk n1 a) : BOk (n1 + 300) (funB x k a) := by
  obtain ⟨t,e1,e2,e3,e4,e5,e6⟩ := ha.ex
  have q1 : ("(fun " : Str).length = 5 := by decide
  have q2 : (")" : Str).length = 1 := by decide
  have q3 : (" " : Str).length = 1 := by decide
  refine built1 (t := .lam x k t) ha (by rw [e1]; rfl) (by rw [e2,lineT_lam]) ⟨hx,e3⟩ e4 ⟨dk,e5⟩ (by simp only [wwt]; omega) ?_
  simp only [len_app,q1,q2,q3]
  omega
theorem addB_ok (ha : BOk n1 a) (hb : BOk n2 b) : BOk (n1 + n2 + 20) (addB a b) := by
  obtain ⟨t,e1,e2,e3,e4,e5,e6⟩ := ha.ex
  obtain ⟨u,f1,f2,f3,f4,f5,f6⟩ := hb.ex
  refine built2 (t := .add t u) ha hb (by rw [e1,f1]; rfl) (by rw [e2,f2,lineT_add]) ⟨e3,f3⟩ ⟨e4,f4⟩ ⟨e5,f5⟩ (by simp only [wwt]; omega) ?_
  rw [show ("(add " : Str).length + (" " : Str).length + (")" : Str).length = 7 from by decide]
  omega
theorem opB_ok (w : Int) (ha : BOk n1 a) (hb : BOk n2 b) : BOk (n1 + n2 + 20) (opB (opW w) a b) := by
  obtain ⟨t,e1,e2,e3,e4,e5,e6⟩ := ha.ex
  obtain ⟨u,f1,f2,f3,f4,f5,f6⟩ := hb.ex
  unfold opW
  split
  · refine built2 (t := .add t u) ha hb (by rw [e1,f1]; rfl) (by rw [e2,f2,lineT_add,show ("(" ++ "add" ++ " " : Str) = "(add " from by decide]) ⟨e3,f3⟩ ⟨e4,f4⟩ ⟨e5,f5⟩ (by simp only [wwt]; omega) ?_
    rw [show ("(" ++ "add" ++ " " : Str).length + (" " : Str).length + (")" : Str).length = 7 from by decide]; omega
  · split
    · refine built2 (t := .less t u) ha hb (by rw [e1,f1]; rfl) (by rw [e2,f2,lineT_less,show ("(" ++ "less" ++ " " : Str) = "(less " from by decide]) ⟨e3,f3⟩ ⟨e4,f4⟩ ⟨e5,f5⟩ (by simp only [wwt]; omega) ?_
      rw [show ("(" ++ "less" ++ " " : Str).length + (" " : Str).length + (")" : Str).length = 8 from by decide]; omega
    · split
      · refine built2 (t := .front t u) ha hb (by rw [e1,f1]; rfl) (by rw [e2,f2,lineT_front,show ("(" ++ "front" ++ " " : Str) = "(front " from by decide]) ⟨e3,f3⟩ ⟨e4,f4⟩ ⟨e5,f5⟩ (by simp only [wwt]; omega) ?_
        rw [show ("(" ++ "front" ++ " " : Str).length + (" " : Str).length + (")" : Str).length = 9 from by decide]; omega
      · refine built2 (t := .call t u) ha hb (by rw [e1,f1]; rfl) (by rw [e2,f2,lineT_call,show ("(" ++ "call" ++ " " : Str) = "(call " from by decide]) ⟨e3,f3⟩ ⟨e4,f4⟩ ⟨e5,f5⟩ (by simp only [wwt]; omega) ?_
        rw [show ("(" ++ "call" ++ " " : Str).length + (" " : Str).length + (")" : Str).length = 8 from by decide]; omega
theorem ifB_ok (ha : BOk n1 a) (hb : BOk n2 b) (hc : BOk n3 c) : BOk (n1 + n2 + n3 + 20) (ifB a b c) := by
  obtain ⟨t,e1,e2,e3,e4,e5,e6⟩ := ha.ex
  obtain ⟨u,f1,f2,f3,f4,f5,f6⟩ := hb.ex
  obtain ⟨v,g1,g2,g3,g4,g5,g6⟩ := hc.ex
  refine built3 (t := .cond t u v) ha hb hc (by rw [e1,f1,g1]; rfl) (by rw [e2,f2,g2,lineT_cond]) ⟨e3,f3,g3⟩ ⟨e4,f4,g4⟩ ⟨e5,f5,g5⟩ (by simp only [wwt]; omega) ?_
  rw [show ("(if " : Str).length + (" " : Str).length + (" " : Str).length + (")" : Str).length = 7 from by decide]
  omega
theorem caseB_ok {x y : Str} {k : Kd} (hx : IsName x) (hy : IsName y) (lx : x.length ≤ 10) (ly : y.length ≤ 10) (lk : (kdT k).length ≤ 165) (dk : kdep k ≤ 19) (wk : kwt k ≤ 146) (ha : BOk n1 a) (hb : BOk n2 b) (hc : BOk n3 c) : BOk (n1 + n2 + n3 + 300) (caseB k x y a b c) := by
  obtain ⟨t,e1,e2,e3,e4,e5,e6⟩ := ha.ex
  obtain ⟨u,f1,f2,f3,f4,f5,f6⟩ := hb.ex
  obtain ⟨v,g1,g2,g3,g4,g5,g6⟩ := hc.ex
  have q1 : ("(case " : Str).length = 6 := by decide
  have q2 : (")" : Str).length = 1 := by decide
  have q3 : (" " : Str).length = 1 := by decide
  refine built3 (t := .case k x y t u v) ha hb hc (by rw [e1,f1,g1]; rfl) (by rw [e2,f2,g2,lineT_case]) ⟨hx,hy,e3,f3,g3⟩ ⟨e4,f4,g4⟩ ⟨dk,e5,f5,g5⟩ (by simp only [wwt]; omega) ?_
  simp only [len_app,q1,q2,q3]
  omega
end
def popB (d : BI) : List BI → BI × List BI
  | [] => (d,[])
  | x :: r => (x,r)
theorem popB_D (d : BI) (xs : List BI) : popT (biD d) (xs.map biD) = (biD (popB d xs).1,(popB d xs).2.map biD) := by cases xs <;> rfl
theorem popB_len (d : BI) (xs : List BI) : (popB d xs).2.length ≤ xs.length := by cases xs <;> simp [popB]
inductive PileOk : Nat → List BI → Prop where
  | nil {m : Nat} : PileOk m []
  | cons {k n m : Nat} {b : BI} {xs : List BI} : BOk k b → PileOk n xs → k + n ≤ m → PileOk m (b :: xs)
theorem pop_ok {m j : Nat} {d : BI} {xs : List BI} (h : PileOk m xs) (hd : BOk j d) : ∃ k n,BOk k (popB d xs).1 ∧ PileOk n (popB d xs).2 ∧ k + n ≤ m + j := by
  cases h with
  | nil => exact ⟨j,0,hd,.nil,by omega⟩
  | cons h1 h2 h3 => exact ⟨_,_,h1,h2,by omega⟩
def oneB (c : Int) (xs : List BI) : BI × List BI := popB (leafB (c / 5)) xs
def twoB (c : Int) (xs : List BI) : BI × List BI := popB (leafB (c / 7)) (oneB c xs).2
def thrB (c : Int) (xs : List BI) : BI × List BI := popB (leafB (c / 11)) (twoB c xs).2
def combB (c : Int) (xs : List BI) : BI × List BI :=
  if 4 + hsh c 1039 8 < 6 then (funB (wordB (c / 3)) (kindB (c / 12)) (oneB c xs).1,(oneB c xs).2)
  else if 4 + hsh c 1039 8 < 10 then (opB (opW (4 + hsh c 1039 8 - 6)) (twoB c xs).1 (oneB c xs).1,(twoB c xs).2)
  else if 4 + hsh c 1039 8 = 10 then (ifB (thrB c xs).1 (twoB c xs).1 (oneB c xs).1,(thrB c xs).2)
  else (caseB (kindB (c / 12)) (wordB (c / 3)) (wordB (c / 7)) (thrB c xs).1 (twoB c xs).1 (oneB c xs).1,(thrB c xs).2)
theorem comb_pops {m : Nat} {xs : List BI} (c : Int) (h : PileOk m xs) : ∃ k1 k2 k3 n1 n2 n3,BOk k1 (oneB c xs).1 ∧ PileOk n1 (oneB c xs).2 ∧ BOk k2 (twoB c xs).1 ∧ PileOk n2 (twoB c xs).2 ∧ BOk k3 (thrB c xs).1 ∧ PileOk n3 (thrB c xs).2 ∧ k1 + n1 ≤ m + 500 ∧ k2 + n2 ≤ n1 + 500 ∧ k3 + n3 ≤ n2 + 500 := by
  obtain ⟨k1,n1,a1,b1,e1⟩ := pop_ok h (leaf_ok (c / 5))
  obtain ⟨k2,n2,a2,b2,e2⟩ := pop_ok b1 (leaf_ok (c / 7))
  obtain ⟨k3,n3,a3,b3,e3⟩ := pop_ok b2 (leaf_ok (c / 11))
  exact ⟨k1,k2,k3,n1,n2,n3,a1,b1,a2,b2,a3,b3,e1,e2,e3⟩
theorem comb_ok {m : Nat} {xs : List BI} (c : Int) (h : PileOk m xs) : PileOk (m + 2000) ((combB c xs).1 :: (combB c xs).2) := by
  obtain ⟨k1,k2,k3,n1,n2,n3,a1,b1,a2,b2,a3,b3,e1,e2,e3⟩ := comb_pops c h
  unfold combB
  split
  · exact .cons (funB_ok (wordB_name _) (wordB_len _) (kindB_len _) (kindB_dep _) (kindB_wt _) a1) b1 (by omega)
  · split
    · exact .cons (opB_ok _ a2 a1) b2 (by omega)
    · split
      · exact .cons (ifB_ok a3 a2 a1) b3 (by omega)
      · exact .cons (caseB_ok (wordB_name _) (wordB_name _) (wordB_len _) (wordB_len _) (kindB_len _) (kindB_dep _) (kindB_wt _) a3 a2 a1) b3 (by omega)
theorem comb_len (c : Int) (xs : List BI) : (combB c xs).2.length ≤ xs.length := by
  have h1 : (oneB c xs).2.length ≤ xs.length := popB_len _ _
  have h2 : (twoB c xs).2.length ≤ (oneB c xs).2.length := popB_len _ _
  have h3 : (thrB c xs).2.length ≤ (twoB c xs).2.length := popB_len _ _
  unfold combB
  split
  · exact h1
  · split
    · exact Nat.le_trans h2 h1
    · split <;> exact Nat.le_trans h3 (Nat.le_trans h2 h1)
def cellAt (cs : List Int) (i : Nat) : Int := (cs[i]?).getD 0 + 7 * (i : Int)
def pileAt (cs : List Int) : Nat → List BI
  | 0 => []
  | i + 1 => if hsh (cellAt cs i) 1051 12 < 4 then leafB (cellAt cs i / 12) :: pileAt cs i else (combB (cellAt cs i) (pileAt cs i)).1 :: (combB (cellAt cs i) (pileAt cs i)).2
theorem pileAt_ok (cs : List Int) : ∀ i : Nat, PileOk (2000 * i) (pileAt cs i) ∧ (pileAt cs i).length ≤ i
  | 0 => ⟨.nil, by simp [pileAt]⟩
  | i + 1 => by
    obtain ⟨h1, h2⟩ := pileAt_ok cs i
    rw [pileAt]
    split
    · exact ⟨.cons (leaf_ok _) h1 (by omega), by rw [List.length_cons]; omega⟩
    · exact ⟨comb_ok _ h1, by have := comb_len (cellAt cs i) (pileAt cs i); rw [List.length_cons]; omega⟩
def addsB (x : BI) : List BI → BI
  | [] => x
  | y :: r => addsB (addB y x) r
def grownB (cs : List Int) : BI := addsB (popB (leafB 0) (pileAt cs cs.length)).1 (popB (leafB 0) (pileAt cs cs.length)).2
theorem adds_ok : ∀ {xs : List BI} {x : BI} {k m : Nat}, BOk k x → PileOk m xs → BOk (k + m + 20 * xs.length) (addsB x xs)
  | [], x, k, m, hx, _ => ⟨by obtain ⟨t, a, b, c, d, e, f⟩ := hx.ex; exact ⟨t, a, b, c, d, e, Nat.le_trans f (by omega)⟩, Nat.le_trans hx.ln (by omega), Nat.le_trans hx.rows (by omega), fun r hr => Nat.le_trans (hx.path r hr) (by omega)⟩
  | y :: r, x, k, m, hx, h => by
    cases h with
    | cons h1 h2 h3 =>
      have q := adds_ok (addB_ok h1 hx) h2
      rw [addsB]
      refine ⟨?_, Nat.le_trans q.ln ?_, Nat.le_trans q.rows ?_, fun r hr => Nat.le_trans (q.path r hr) ?_⟩
      · obtain ⟨t, a, b, c, d, e, f⟩ := q.ex; exact ⟨t, a, b, c, d, e, Nat.le_trans f (by rw [List.length_cons]; omega)⟩
      all_goals (rw [List.length_cons]; omega)
end Wk
namespace L2
open PySem PySem.Spec PyProof.Rows
abbrev YR (K : PySem.W.Frag) (Φ : Hp → St → Prop) (H0 : Hp) (hs : List (V × Sl)) (R : List Sl → PyData → Prop) (v : V) (H : Hp) : Prop := ∃ σ ρ d,R ρ d ∧ Φ H0 σ ∧ ER K H0 hs ρ σ H ∧ Rep K H d v
def tYS (K : PySem.W.Frag) (Φ : Hp → St → Prop) (ρ : List Sl) (R : List Sl → PyData → Prop) : TS := fun D σ H => ∃ H0 hs,Φ H0 σ ∧ ER K H0 hs ρ σ H ∧ ∀ v H',YR K Φ H0 hs R v H' → D.rt v H'
def VY (X : Cx) (Φ : Hp → St → Prop) (ss : List Stmt) (ρ : List Sl) (R : List Sl → PyData → Prop) : Prop := PSs X ss (tYS X.K Φ ρ R)
section
variable {X : Cx} {Φ : Hp → St → Prop} {ρ ρ' : List Sl} {R : List Sl → PyData → Prop} {e c : Expr} {d : PyData} {pos p2 : Pos} {rest : List Stmt} {st : Stmt}
theorem vy_of {t : TS} (h : PS X st t) (w : ∀ H0 hs (D : Ends) σ H,Φ H0 σ → ER X.K H0 hs ρ σ H → (∀ v H',YR X.K Φ H0 hs R v H' → D.rt v H') → (∀ σ' H' ρ',Φ H0 σ' → ER X.K H0 hs ρ' σ' H' → VY X Φ rest ρ' R → D.nx σ' H') → t D σ H) : VY X Φ (st :: rest) ρ R := by
  refine PSs.weak (pss_cons (u := fun D σ H => ∃ ρ' H0 hs,Φ H0 σ ∧ ER X.K H0 hs ρ' σ H ∧ (∀ v H',YR X.K Φ H0 hs R v H' → D.rt v H') ∧ VY X Φ rest ρ' R) h ?_) fun D σ H ⟨H0,hs,φ,er,l⟩ => w H0 hs _ σ H φ er (fun v H' q => l v H' q) ?_
  · intro pins s σ H D I ⟨ρ',H0,hs,φ,er,l,v⟩
    exact v pins s σ H D I ⟨H0,hs,φ,er,l⟩
  · intro σ' H' ρ' φ' e' v
    exact ⟨ρ',H0,hs,φ',e',l,v⟩
theorem vy_ret (h : VE X ρ e (.d d)) (q : R ρ d) : VY X Φ (.Return (some e) pos :: rest) ρ R :=
  vy_of (ps_ret h) fun H0 hs D σ H φ er l _ => ⟨⟨H0,hs,er⟩,fun v H' s rv => l v H' ⟨σ,ρ,d,q,φ,er.grow s,rv⟩⟩
theorem vy_set {i : Nat} {x : Str} (nd : X.N.Nodup) (hi : ixA x X.N 0 = some i) (kp : Kept Φ i) (h : VE X ρ e (.d d)) (k : VY X Φ rest (ρ.set i (.d d)) R) (hx : Loc X.env.scope x := by exact Or.inl rfl) (hs : swapsWith e (some (.Name x p2)) pos.line X.env = pure false := by rfl)
    (hf : X.fn x = true ∨ X.env.scope.names.lookup x = some .local := by first | exact .inl rfl | exact .inr rfl | assumption) : VY X Φ (.Assign [.Name x p2] e pos :: rest) ρ R :=
  vy_of (ps_set nd (ixA_N hi) hx h hs hf) fun H0 hs D σ H φ er _ n => ⟨⟨H0,hs,er⟩,fun v H' s rv => n _ _ _ (kp _ _ _ φ) ((er.grow s).setD rv) k⟩
theorem vy_setO {i : Nat} {x : Str} {xs : List PyData} (nd : X.N.Nodup) (hi : ixA x X.N 0 = some i) (kp : Kept Φ i) (h : VE X ρ e (.o xs)) (k : VY X Φ rest (ρ.set i (.o xs)) R) (hx : Loc X.env.scope x := by exact Or.inl rfl) (hs : swapsWith e (some (.Name x p2)) pos.line X.env = pure false := by rfl)
    (hf : X.fn x = true ∨ X.env.scope.names.lookup x = some .local := by first | exact .inl rfl | exact .inr rfl | assumption) : VY X Φ (.Assign [.Name x p2] e pos :: rest) ρ R :=
  vy_of (ps_set nd (ixA_N hi) hx h hs hf) fun H0 hs D σ H φ er _ n => ⟨⟨H0,hs,er⟩,fun v H' s rv => by
    obtain ⟨a,rfl,np,q⟩ := rv
    exact n _ _ _ (kp _ _ _ φ) (er.setO s np q) k⟩
theorem vy_setM {i : Nat} {x : Str} (nd : X.N.Nodup) (hi : ixA x X.N 0 = some i) (kp : Kept Φ i) (h : VM X Φ ρ e d ρ') (k : VY X Φ rest (ρ'.set i (.d d)) R) (hx : Loc X.env.scope x := by exact Or.inl rfl) (hs : swapsWith e (some (.Name x p2)) pos.line X.env = pure false := by rfl)
    (hf : X.fn x = true ∨ X.env.scope.names.lookup x = some .local := by first | exact .inl rfl | exact .inr rfl | assumption) : VY X Φ (.Assign [.Name x p2] e pos :: rest) ρ R :=
  vy_of (ps_set nd (ixA_N hi) hx h hs hf) fun H0 hs D σ H φ er _ n => ⟨H0,hs,φ,er,fun v H' t e' rv => n _ _ _ (kp _ _ _ φ) (e'.setD rv) k⟩
theorem vy_ifT {A B : List Stmt} {k : Bool} (hc : VT X ρ c k) (hk : k = true) (h : VY X Φ A ρ R) : VY X Φ (.If c A B pos :: rest) ρ R := by
  subst hk
  exact vy_of (ps_if (u := tNever) hc h pss_never) fun H0 hs D σ H φ er l n => ⟨⟨H0,hs,er⟩,fun H' s => iteT ⟨H0,hs,φ,er.grow s,l⟩⟩
theorem vy_ifN {A : List Stmt} {k : Bool} (hc : VT X ρ c k) (hk : k = false) (h : VY X Φ rest ρ R) : VY X Φ (.If c A [] pos :: rest) ρ R := by
  subst hk
  exact vy_of (ps_if (t := tNever) hc pss_never pss_nil) fun H0 hs D σ H φ er l n => ⟨⟨H0,hs,er⟩,fun H' s => iteF (n _ _ _ φ (er.grow s) h)⟩
theorem vs_setM {i : Nat} {x : Str} {Q : Out → Prop} (nd : X.N.Nodup) (hi : ixA x X.N 0 = some i) (h : VM X (fun _ _ => True) ρ e d ρ') (k : VS X rest (ρ'.set i (.d d)) Q) (hx : Loc X.env.scope x := by exact Or.inl rfl) (hs : swapsWith e (some (.Name x p2)) pos.line X.env = pure false := by rfl)
    (hf : X.fn x = true ∨ X.env.scope.names.lookup x = some .local := by first | exact .inl rfl | exact .inr rfl | assumption) : VS X (.Assign [.Name x p2] e pos :: rest) ρ Q :=
  vs_of (ps_set nd (ixA_N hi) hx h hs hf) fun H0 hs D σ H er l => ⟨H0,hs,trivial,er,fun v H' t e' rv => l.nx _ _ ⟨_,k,e'.setD rv⟩⟩
theorem vm_call4 {k : Nat} {f : Str} {ps : List Str} {Rl : List Sl → Sl → Prop} {e1 e2 e4 : Expr} {es : List Expr} {d1 d2 : PyData} {ds xs : List PyData} {p p3 : Pos} (D : DefOk X.prog X.w X.K X.mg X.base k f ps (spV X.K Rl)) (hrm : Room k X.A) (h1 : VE X ρ e1 (.d d1)) (h2 : VE X ρ e2 (.d d2)) (h3 : VMA X Φ ρ es ds ρ') (h4 : VE X ρ' e4 (.o xs)) (h : Rl [.d d1,.d d2,.l ds,.l xs] (.d d)) (hz : ds.length ≤ sizeLine)
    (hg : Gl X f := by rfl) (hdb : (f == ("__debug__" : Str)) = false := by decide) (s1 : starEach [e1,e2,.List es p3,e4] X.env = (false,eval e1 X.env) :: starEach [e2,.List es p3,e4] X.env := by rfl) (s2 : starEach [e2,.List es p3,e4] X.env = (false,eval e2 X.env) :: starEach [.List es p3,e4] X.env := by rfl) (s3 : starEach [.List es p3,e4] X.env = (false,eval (.List es p3) X.env) :: starEach [e4] X.env := by rfl) (s4 : starEach [e4] X.env = (false,eval e4 X.env) :: starEach [] X.env := by rfl) (hpl : (backTo pos (starEach [e2,.List es p3,e4] X.env)).any (·.1) = false := by rfl) : VM X Φ ρ (.Call (.Name f p) [e1,e2,.List es p3,e4] [] pos) d ρ' :=
  PE.weak (pe_callD D hrm hg (pa_cons h1 (pa_cons h2 (pa_cons (pe_lst h3) (pa_cons h4 pa_nil s4) s3) s2) s1) hdb s1 hpl) fun σ H Q ⟨H0,hs,φ,er,q⟩ => ⟨⟨H0,hs,er⟩,fun v1 H1 t1 r1 => ⟨⟨H0,hs,er.grow t1⟩,fun v2 H2 t2 r2 => ⟨H0,hs,φ,(er.grow t1).grow t2,fun vs H3 t3 er3 r3 => ⟨by rw [r3.length]; exact hz,fun a na => ⟨⟨H0,hs,er3.grow (same_upd na _)⟩,fun v4 H5 t5 r5 => by
    have tu : Same H3 (upd H3 a (.lst vs)) := same_upd na _
    have t35 : TupLe X.K H3 H5 := TupLe.of_same (tu.trans t5)
    have t25 : TupLe X.K H2 H5 := t3.trans t35
    have t15 : TupLe X.K H1 H5 := (TupLe.of_same t2).trans t25
    have a1 : Rep X.K H5 d1 v1 := Rep.mono t15 _ _ r1
    have a2 : Rep X.K H5 d2 v2 := Rep.mono t25 _ _ r2
    have a3 : LsR X.K H5 a ds := ⟨vs,t5 _ _ upd_same,Reps.mono t35 _ _ r3⟩
    obtain ⟨b,rfl,_,a4⟩ := r5
    exact ⟨[.d d1,.d d2,.l ds,.l xs],.d d,.cons a1 (.cons a2 (.cons ⟨a,rfl,a3⟩ (.cons ⟨b,rfl,a4⟩ .nil))),h,fun v H6 s6 r6 => q v H6 ((TupLe.of_same t1).trans (t15.trans (TupLe.of_same s6))) (((er3.grow tu).grow t5).grow s6) r6⟩⟩⟩⟩⟩⟩
end
end L2
namespace Wk
open PySem L2 PySem.Spec PyProof.Rows
def spComb (K : PySem.W.Frag) : Sp := fun vs H Q _ => ∃ a ys c,vs = [.ref a,.int c] ∧ LsR K H a (ys.map biD).reverse ∧ (∃ m,m ≤ 500000 ∧ PileOk m ys) ∧ ∀ u H',(∀ b o,b ≠ a → H b = some o → H' b = some o) → LsR K H' a ((combB c ys).2.map biD).reverse → Rep K H' (biD (combB c ys).1) u → Q u H'
def RGrown : List Sl → Sl → Prop := fun as r => ∃ cs : List Int,as = [.l (cs.map .int)] ∧ cs.length ≤ 64 ∧ r = .d (biD (grownB cs))
def PhiL (a : Addr) (H : Hp) : Hp → L2.St → Prop := fun H0 σ => H0 = hidP (fun b => b = a) H ∧ σ[0]? = some (some (.ref a))
theorem PhiL.kept {a : Addr} {H : Hp} {i : Nat} (h : i ≠ 0) : Kept (PhiL a H) i := fun H0 σ v ⟨p,q⟩ => ⟨p,by rw [List.getElem?_set,if_neg h]; exact q⟩
theorem er_start1 {K : PySem.W.Frag} {H : Hp} {N : List Str} {a : Addr} {xs : List PyData} {c : Int} (h : LsR K H a xs) : ER K (hidP (fun b => b = a) H) [] ([.o xs,.d (.int c)] ++ List.replicate (N.length - 2) .un) (start N [.ref a,.int c]) H := by
  have e : hidP (LentP [.o xs,.d (.int c)] [.ref a,.int c]) H = hidP (fun b => b = a) H := by
    have : (LentP [.o xs,.d (.int c)] [.ref a,.int c]) = fun b => b = a := by
      funext b
      apply propext
      refine ⟨fun ⟨i,ys,p,q⟩ => ?_,fun p => ⟨0,xs,rfl,by rw [p]; rfl⟩⟩
      match i,p,q with
      | 0,p,q => cases q; rfl
      | 1,p,q => cases p
    rw [this]
  rw [← e]
  refine er_startP (as := [.o xs,.d (.int c)]) (.cons ⟨a,rfl,h⟩ (.cons (Rep.int (K := K) (H := H) c) .nil)) (fun r hr ys z => ?_) (fun i j b ys zs n p q => ?_)
  · subst z
    simp at hr
  · match i,j,p,q with
    | 0,0,_,_ => exact absurd rfl n
    | 0,1,_,q => cases q
    | 1,_,p,_ => cases p
end Wk
namespace L2
open PySem PySem.Spec PyProof.Rows
section
variable {X : Cx} {ρ : List Sl} {Φ : Hp → St → Prop} {e2 : Expr} {p p2 pos : Pos}
theorem vm_comb {i k : Nat} {f x : Str} {ps : List Str} {ys : List Wk.BI} {c : Int} {m : Nat} (D : DefOk X.prog X.w X.K X.mg X.base k f ps (Wk.spComb X.K)) (hrm : Room k X.A) (hi : ixA x X.N 0 = some i) (hr : ρ[i]? = some (.o (ys.map Wk.biD).reverse)) (hm : m ≤ 500000) (hp : Wk.PileOk m ys) (h2 : VE X ρ e2 (.d (.int c)))
    (hv : Vis X.env.scope x := by first | exact Or.inl rfl | exact Or.inr (Or.inl rfl) | exact Or.inr (Or.inr rfl)) (hd : (x == ("__debug__" : Str)) = false := by decide) (hcd : (x == ("__classdict__" : Str)) = false := by decide)
    (hg : Gl X f := by rfl) (hdb : (f == ("__debug__" : Str)) = false := by decide) (he : starEach [.Name x p2,e2] X.env = (false,eval (.Name x p2) X.env) :: starEach [e2] X.env := by rfl) (he2 : starEach [e2] X.env = (false,eval e2 X.env) :: starEach [] X.env := by rfl) (hpl : (backTo pos (starEach [e2] X.env)).any (·.1) = false := by rfl) :
    VM X Φ ρ (.Call (.Name f p) [.Name x p2,e2] [] pos) (Wk.biD (Wk.combB c ys).1) (ρ.set i (.o ((Wk.combB c ys).2.map Wk.biD).reverse)) :=
  PE.weak (pe_callD D hrm hg (pa_cons (pe_var (ixA_N hi) hv hd hcd) (pa_cons h2 pa_nil he2) he) hdb he hpl) fun σ H Q ⟨H0,hs,φ,er,q⟩ => by
    obtain ⟨a,h1,h3,h4⟩ := er.own i _ hr
    refine ⟨_,h1,⟨H0,hs,er⟩,fun v H1 s1 r1 => ?_⟩
    obtain rfl := RsR.is_int r1
    refine ⟨a,ys,c,rfl,h3.mono s1,⟨m,hm,hp⟩,fun u H2 off l2 ru => ?_⟩
    have er1 := er.grow s1
    have er2 := er1.lent1 hr h1 off l2
    obtain ⟨ws,g1,_⟩ := h3.mono s1
    have tl : TupLe X.K H H2 := (TupLe.of_same s1).trans (SameBut.tup (p := a) (fun b o n e => off b o n e) g1)
    exact q u H2 tl er2 ru
theorem vm_takeB {i k : Nat} {f x : Str} {ps : List Str} {ys : List Wk.BI} {c : Int} (D : DefOk X.prog X.w X.K X.mg X.base k f ps (Wk.spTakeW X.K)) (hrm : Room k X.A) (hi : ixA x X.N 0 = some i) (hr : ρ[i]? = some (.o (ys.map Wk.biD).reverse)) (h2 : VE X ρ e2 (.d (.int c)))
    (hv : Vis X.env.scope x := by first | exact Or.inl rfl | exact Or.inr (Or.inl rfl) | exact Or.inr (Or.inr rfl)) (hd : (x == ("__debug__" : Str)) = false := by decide) (hcd : (x == ("__classdict__" : Str)) = false := by decide)
    (hg : Gl X f := by rfl) (hdb : (f == ("__debug__" : Str)) = false := by decide) (he : starEach [.Name x p2,e2] X.env = (false,eval (.Name x p2) X.env) :: starEach [e2] X.env := by rfl) (he2 : starEach [e2] X.env = (false,eval e2 X.env) :: starEach [] X.env := by rfl) (hpl : (backTo pos (starEach [e2] X.env)).any (·.1) = false := by rfl) :
    VM X Φ ρ (.Call (.Name f p) [.Name x p2,e2] [] pos) (Wk.biD (Wk.popB (Wk.leafB c) ys).1) (ρ.set i (.o ((Wk.popB (Wk.leafB c) ys).2.map Wk.biD).reverse)) := by
  have h := vm_takeW (Φ := Φ) (p := p) (p2 := p2) (pos := pos) D hrm hi hr h2 hv hd hcd hg hdb he he2 hpl
  rw [Wk.popB_D] at h
  exact h
end
end L2
namespace L2
open PySem PySem.Spec PyProof.Rows
section
variable {X : Cx} {ρ : List Sl} {a : Expr} {r : Sl} {p p2 p3 pos : Pos} {d : PyData} {xs : List PyData}
end
end L2
namespace Wk
open PySem L2 PySem.Spec PyProof.Rows
end Wk
namespace Wk
open PySem L2 PySem.Spec PyProof.Rows
def TabAt1 (K : PySem.W.Frag) (vs : List (Key × Value)) (o : Option (List Str)) (y : Str) : Prop := match o with
  | some ds => ∃ t,valueAt vs (.inr y : Key) = some (.ref t) ∧ ∀ H,SqT K H t (ds.map V.str)
  | none => valueAt vs (.inr y : Key) = none
theorem tab_step {K : PySem.W.Frag} {vs : List (Key × Value)} {o : Option (List Str)} {x y : Str} {g : Addr} {ds : List Str} (h : ∀ H,SqT K H g (ds.map V.str)) (r : TabAt1 K vs o y) : TabAt1 K ((.inr x,.ref g) :: vs) (if y = x then some ds else o) y := by
  by_cases e : y = x
  · subst e
    rw [if_pos rfl]
    exact ⟨g,by simp [valueAt],h⟩
  · rw [if_neg e]
    have q : valueAt ((.inr x,.ref g) :: vs) (.inr y : Key) = valueAt vs (.inr y) := by
      unfold valueAt
      rw [List.find?_cons_of_neg]
      simp
      exact fun z => e z.symm
    unfold TabAt1 at r ⊢
    rw [q]
    exact r
theorem tab_forms {P : Program} {w : World} {K : PySem.W.Frag} {mg : Str → Option Value} {aF : Addr} {nF : Nat} {h1 h2 h3 h4 h5 h6 h7 h8 h9 h10 : Int} {u1 u2 u3 u4 u5 u6 u7 u8 u9 u10 : Tok} {g1 g2 g3 g4 g5 g6 g7 g8 g9 g10 : Addr} (m : mg "FORMS" = some (.ref aF))
    (l : K.lookup aF = some ⟨.type "dict",none,.dict #[⟨h1,.str "list" u1,.ref g1⟩,⟨h2,.str "to" u2,.ref g2⟩,⟨h3,.str "add" u3,.ref g3⟩,⟨h4,.str "less" u4,.ref g4⟩,⟨h5,.str "if" u5,.ref g5⟩,⟨h6,.str "nil" u6,.ref g6⟩,⟨h7,.str "front" u7,.ref g7⟩,⟨h8,.str "case" u8,.ref g8⟩,⟨h9,.str "fun" u9,.ref g9⟩,⟨h10,.str "call" u10,.ref g10⟩] nF,#[]⟩)
    (e1 : h1 = keyH w (.inr "list")) (e2 : h2 = keyH w (.inr "to")) (e3 : h3 = keyH w (.inr "add")) (e4 : h4 = keyH w (.inr "less")) (e5 : h5 = keyH w (.inr "if")) (e6 : h6 = keyH w (.inr "nil")) (e7 : h7 = keyH w (.inr "front")) (e8 : h8 = keyH w (.inr "case")) (e9 : h9 = keyH w (.inr "fun")) (e10 : h10 = keyH w (.inr "call"))
    (s1 : ∀ H,SqT K H g1 [.str "kind"]) (s2 : ∀ H,SqT K H g2 [.str "kind",.str "kind"]) (s3 : ∀ H,SqT K H g3 [.str "part",.str "part"]) (s4 : ∀ H,SqT K H g4 [.str "part",.str "part"]) (s5 : ∀ H,SqT K H g5 [.str "part",.str "part",.str "part"]) (s6 : ∀ H,SqT K H g6 [.str "kind"]) (s7 : ∀ H,SqT K H g7 [.str "part",.str "part"])
    (s8 : ∀ H,SqT K H g8 [.str "kind",.str "part",.str "part",.str "name",.str "name",.str "part"]) (s9 : ∀ H,SqT K H g9 [.str "name",.str "kind",.str "part"]) (s10 : ∀ H,SqT K H g10 [.str "part",.str "part"]) (ns : (aF == sysModules) = false) : TabK P w K mg "FORMS" formOf := by
  refine ⟨aF,_,[(.inr "list",.ref g1),(.inr "to",.ref g2),(.inr "add",.ref g3),(.inr "less",.ref g4),(.inr "if",.ref g5),(.inr "nil",.ref g6),(.inr "front",.ref g7),(.inr "case",.ref g8),(.inr "fun",.ref g9),(.inr "call",.ref g10)],m,l,⟨_,_,⟨rfl,rfl,rfl⟩,rfl,fun e he => ?_,?_,?_⟩,ns,fun y => ?_⟩
  · simp only [List.mem_toArray,List.mem_cons,List.not_mem_nil,or_false] at he
    rcases he with rfl | rfl | rfl | rfl | rfl | rfl | rfl | rfl | rfl | rfl
    · exact ⟨.inr "list",keyIs_str "list" u1,e1⟩
    · exact ⟨.inr "to",keyIs_str "to" u2,e2⟩
    · exact ⟨.inr "add",keyIs_str "add" u3,e3⟩
    · exact ⟨.inr "less",keyIs_str "less" u4,e4⟩
    · exact ⟨.inr "if",keyIs_str "if" u5,e5⟩
    · exact ⟨.inr "nil",keyIs_str "nil" u6,e6⟩
    · exact ⟨.inr "front",keyIs_str "front" u7,e7⟩
    · exact ⟨.inr "case",keyIs_str "case" u8,e8⟩
    · exact ⟨.inr "fun",keyIs_str "fun" u9,e9⟩
    · exact ⟨.inr "call",keyIs_str "call" u10,e10⟩
  · exact .cons (keyIs_str "list" u1) rfl (.cons (keyIs_str "to" u2) rfl (.cons (keyIs_str "add" u3) rfl (.cons (keyIs_str "less" u4) rfl (.cons (keyIs_str "if" u5) rfl (.cons (keyIs_str "nil" u6) rfl (.cons (keyIs_str "front" u7) rfl (.cons (keyIs_str "case" u8) rfl (.cons (keyIs_str "fun" u9) rfl (.cons (keyIs_str "call" u10) rfl (.nil))))))))))
  · show ([.inr "list",.inr "to",.inr "add",.inr "less",.inr "if",.inr "nil",.inr "front",.inr "case",.inr "fun",.inr "call"] : List Key).Nodup
    decide
  · exact tab_step s1 (tab_step s2 (tab_step s3 (tab_step s4 (tab_step s5 (tab_step s6 (tab_step s7 (tab_step s8 (tab_step s9 (tab_step s10 (show TabAt1 K [] none y from rfl))))))))))
end Wk
namespace Wk
open PySem L2
def figC (x : Str) : List Nat := (codes x).map (· - 48)
def wordR (x : Str) : Option Fd :=
  if x = "num" then some (.kind .num) else if x = "truth" then some (.kind .truth) else if x = "yes" then some (.part (.truth true)) else if x = "no" then some (.part (.truth false))
  else if (formOf x).isSome then some (.word x) else if consB x Letters = true then some (.part (.name x)) else if consB x Figures = true then some (.part (.num (valF (figC x) : Nat)))
  else if (codes x).head? = some 45 ∧ consB (tailS x) Figures = true then some (.part (.num (-(valF (figC (tailS x)) : Nat)))) else none
def brkR : List Fd → Option Fd
  | [.word x,.kind k] => if x = "list" then some (.kind (.list k)) else if x = "nil" then some (.part (.nil k)) else none
  | [.word x,.kind a,.kind b] => if x = "to" then some (.kind (.to a b)) else none
  | [.word x,.part a,.part b] => if x = "add" then some (.part (.add a b)) else if x = "less" then some (.part (.less a b)) else if x = "front" then some (.part (.front a b)) else if x = "call" then some (.part (.call a b)) else none
  | [.word x,.part a,.part b,.part c] => if x = "if" then some (.part (.cond a b c)) else none
  | [.word x,.part (.name y),.kind k,.part b] => if x = "fun" then some (.part (.lam y k b)) else none
  | [.word x,.kind k,.part a,.part b,.part (.name y),.part (.name z),.part c] => if x = "case" then some (.part (.case k y z a b c)) else none
  | _ => none
theorem brkF_R {g : List Fd} {f : Fd} (h : BrkF g f) : brkR g = some f := by cases h <;> rfl
theorem brkR_F {g : List Fd} {f : Fd} (h : brkR g = some f) : BrkF g f := by
  unfold brkR at h
  split at h
  · split at h
    · rename_i e; subst e; cases h; exact .list
    · split at h
      · rename_i e; subst e; cases h; exact .nil
      · cases h
  · split at h
    · rename_i e; subst e; cases h; exact .to
    · cases h
  · split at h
    · rename_i e; subst e; cases h; exact .add
    · split at h
      · rename_i e; subst e; cases h; exact .less
      · split at h
        · rename_i e; subst e; cases h; exact .front
        · split at h
          · rename_i e; subst e; cases h; exact .call
          · cases h
  · split at h
    · rename_i e; subst e; cases h; exact .cond
    · cases h
  · split at h
    · rename_i e; subst e; cases h; exact .lam
    · cases h
  · split at h
    · rename_i e; subst e; cases h; exact .case
    · cases h
  · cases h
theorem due_part {f : Fd} {d : PyData} (h : asDueD "part" f = some d) : ∃ t, f = .part t ∧ d = wtD t := by
  cases f with
  | word x => cases h
  | kind k => rw [asDueD, if_neg (by decide)] at h; cases h
  | part t =>
    rw [show asDueD "part" (.part t) = some (wtD t) from by cases t <;> rfl] at h
    cases h; exact ⟨t, rfl, rfl⟩
theorem due_kind {f : Fd} {d : PyData} (h : asDueD "kind" f = some d) : ∃ k,f = .kind k ∧ d = kdD k := by
  cases f with
  | word x => cases h
  | kind k => rw [asDueD,if_pos rfl] at h; cases h; exact ⟨k,rfl,rfl⟩
  | part t => rw [show asDueD "kind" (.part t) = none from by cases t <;> rfl] at h; cases h
theorem due_name {f : Fd} {d : PyData} (h : asDueD "name" f = some d) : ∃ x, f = .part (.name x) ∧ d = .str x := by
  cases f with
  | word x => cases h
  | kind k => rw [asDueD, if_neg (by decide)] at h; cases h
  | part t =>
    cases t with
    | name x =>
      rw [show asDueD "name" (.part (.name x)) = some (.str x) from rfl] at h
      cases h; exact ⟨x, rfl, rfl⟩
    | _ => cases h
theorem coll_cons {due : Str} {ds : List Str} {fs : List Fd} {p : List PyData × List PyData} (h : coll (due :: ds) fs = some p) : ∃ f r d q, fs = f :: r ∧ asDueD due f = some d ∧ coll ds r = some q := by
  cases fs with
  | nil => cases h
  | cons f r =>
    rw [coll] at h
    cases h1 : asDueD due f with
    | none => rw [h1] at h; cases h
    | some d =>
      cases h2 : coll ds r with
      | none => rw [h1, h2] at h; cases h
      | some q => exact ⟨f, r, d, q, rfl, h1, h2⟩
theorem coll_nil {fs : List Fd} {p : List PyData × List PyData} (h : coll [] fs = some p) : fs = [] := by cases fs with | nil => rfl | cons => cases h
theorem coll_F {x : Str} {ds : List Str} {fs : List Fd} {p : List PyData × List PyData} (hx : formOf x = some ds) (h : coll ds fs = some p) : ∃ f,BrkF (.word x :: fs) f := by
  unfold formOf at hx
  split at hx
  · rename_i e; subst e; cases hx
    obtain ⟨f1,r1,d1,q1,rfl,a1,h⟩ := coll_cons h; obtain rfl := coll_nil h
    obtain ⟨k,rfl,_⟩ := due_kind a1; exact ⟨_,.list⟩
  split at hx
  · rename_i e; subst e; cases hx
    obtain ⟨f1,r1,d1,q1,rfl,a1,h⟩ := coll_cons h; obtain ⟨f2,r2,d2,q2,rfl,a2,h⟩ := coll_cons h; obtain rfl := coll_nil h
    obtain ⟨k,rfl,_⟩ := due_kind a1; obtain ⟨m,rfl,_⟩ := due_kind a2; exact ⟨_,.to⟩
  split at hx
  · rename_i e; subst e; cases hx
    obtain ⟨f1,r1,d1,q1,rfl,a1,h⟩ := coll_cons h; obtain ⟨f2,r2,d2,q2,rfl,a2,h⟩ := coll_cons h; obtain rfl := coll_nil h
    obtain ⟨k,rfl,_⟩ := due_part a1; obtain ⟨m,rfl,_⟩ := due_part a2; exact ⟨_,.add⟩
  split at hx
  · rename_i e; subst e; cases hx
    obtain ⟨f1,r1,d1,q1,rfl,a1,h⟩ := coll_cons h; obtain ⟨f2,r2,d2,q2,rfl,a2,h⟩ := coll_cons h; obtain rfl := coll_nil h
    obtain ⟨k,rfl,_⟩ := due_part a1; obtain ⟨m,rfl,_⟩ := due_part a2; exact ⟨_,.less⟩
  split at hx
  · rename_i e; subst e; cases hx
    obtain ⟨f1,r1,d1,q1,rfl,a1,h⟩ := coll_cons h; obtain ⟨f2,r2,d2,q2,rfl,a2,h⟩ := coll_cons h; obtain ⟨f3,r3,d3,q3,rfl,a3,h⟩ := coll_cons h; obtain rfl := coll_nil h
    obtain ⟨k,rfl,_⟩ := due_part a1; obtain ⟨m,rfl,_⟩ := due_part a2; obtain ⟨n,rfl,_⟩ := due_part a3; exact ⟨_,.cond⟩
  split at hx
  · rename_i e; subst e; cases hx
    obtain ⟨f1,r1,d1,q1,rfl,a1,h⟩ := coll_cons h; obtain rfl := coll_nil h
    obtain ⟨k,rfl,_⟩ := due_kind a1; exact ⟨_,.nil⟩
  split at hx
  · rename_i e; subst e; cases hx
    obtain ⟨f1,r1,d1,q1,rfl,a1,h⟩ := coll_cons h; obtain ⟨f2,r2,d2,q2,rfl,a2,h⟩ := coll_cons h; obtain rfl := coll_nil h
    obtain ⟨k,rfl,_⟩ := due_part a1; obtain ⟨m,rfl,_⟩ := due_part a2; exact ⟨_,.front⟩
  split at hx
  · rename_i e; subst e; cases hx
    obtain ⟨f1,r1,d1,q1,rfl,a1,h⟩ := coll_cons h; obtain ⟨f2,r2,d2,q2,rfl,a2,h⟩ := coll_cons h; obtain ⟨f3,r3,d3,q3,rfl,a3,h⟩ := coll_cons h
    obtain ⟨f4,r4,d4,q4,rfl,a4,h⟩ := coll_cons h; obtain ⟨f5,r5,d5,q5,rfl,a5,h⟩ := coll_cons h; obtain ⟨f6,r6,d6,q6,rfl,a6,h⟩ := coll_cons h; obtain rfl := coll_nil h
    obtain ⟨k,rfl,_⟩ := due_kind a1; obtain ⟨m,rfl,_⟩ := due_part a2; obtain ⟨n,rfl,_⟩ := due_part a3; obtain ⟨y,rfl,_⟩ := due_name a4; obtain ⟨z,rfl,_⟩ := due_name a5; obtain ⟨c,rfl,_⟩ := due_part a6; exact ⟨_,.case⟩
  split at hx
  · rename_i e; subst e; cases hx
    obtain ⟨f1,r1,d1,q1,rfl,a1,h⟩ := coll_cons h; obtain ⟨f2,r2,d2,q2,rfl,a2,h⟩ := coll_cons h; obtain ⟨f3,r3,d3,q3,rfl,a3,h⟩ := coll_cons h; obtain rfl := coll_nil h
    obtain ⟨y,rfl,_⟩ := due_name a1; obtain ⟨k,rfl,_⟩ := due_kind a2; obtain ⟨n,rfl,_⟩ := due_part a3; exact ⟨_,.lam⟩
  split at hx
  · rename_i e; subst e; cases hx
    obtain ⟨f1,r1,d1,q1,rfl,a1,h⟩ := coll_cons h; obtain ⟨f2,r2,d2,q2,rfl,a2,h⟩ := coll_cons h; obtain rfl := coll_nil h
    obtain ⟨k,rfl,_⟩ := due_part a1; obtain ⟨m,rfl,_⟩ := due_part a2; exact ⟨_,.call⟩
  · cases hx
theorem coll_some {ds : List Str} : ∀ {fs : List Fd}, ds.length = fs.length → (∀ (j : Nat) due f, ds[j]? = some due → fs[j]? = some f → asDueD due f ≠ none) → ∃ p, coll ds fs = some p := by
  induction ds with
  | nil => intro fs h _; cases fs with | nil => exact ⟨_, rfl⟩ | cons => simp at h
  | cons a ds ih =>
    intro fs h hs
    cases fs with
    | nil => simp at h
    | cons f fs =>
      obtain ⟨q, hq⟩ := ih (by simpa using h) fun j due f' h1 h2 => hs (j + 1) due f' (by simpa using h1) (by simpa using h2)
      have h0 := hs 0 a f rfl rfl
      cases e : asDueD a f with
      | none => exact absurd e h0
      | some d => exact ⟨_, by rw [coll, e, hq]⟩
theorem figC_figs {x : Str} {fs : List Nat} (h : codes x = fs.map (48 + ·)) : figC x = fs := by
  unfold figC
  rw [h,List.map_map]
  conv => rhs; rw [← List.map_id fs]
  apply List.map_congr_left
  intro a _
  simp
theorem figC_ok {x : Str} (h : consB x Figures = true) : codes x = (figC x).map (48 + ·) ∧ (∀ d ∈ figC x,d < 10) ∧ figC x ≠ [] := by
  unfold consB at h
  rw [Bool.and_eq_true,List.all_eq_true] at h
  have hc : ∀ c ∈ codes x,48 ≤ c ∧ c ≤ 57 := fun c hc => (mem_figures c).mp (of_decide_eq_true (h.2 c hc))
  refine ⟨?_,fun d hd => ?_,fun z => ?_⟩
  · unfold figC
    rw [List.map_map]
    conv => lhs; rw [← List.map_id (codes x)]
    apply List.map_congr_left
    intro a ha
    have := hc a ha
    simp
    omega
  · unfold figC at hd
    obtain ⟨c,q,rfl⟩ := List.mem_map.mp hd
    have := hc c q
    omega
  · unfold figC at z
    rw [List.map_eq_nil_iff] at z
    have : x = "" := codes_inj (by rw [z]; decide)
    rw [this] at h
    exact absurd h.1 (by decide)
theorem wordF_R {x : Str} {f : Fd} (h : WordF x f) : wordR x = some f := by
  cases h with
  | num => rfl
  | truth => rfl
  | yes => rfl
  | no => rfl
  | @word _ ds hf =>
    have n1 : x ≠ "num" := fun e => by subst e; cases hf
    have n2 : x ≠ "truth" := fun e => by subst e; cases hf
    have n3 : x ≠ "yes" := fun e => by subst e; cases hf
    have n4 : x ≠ "no" := fun e => by subst e; cases hf
    unfold wordR
    rw [if_neg n1, if_neg n2, if_neg n3, if_neg n4, if_pos (by rw [hf]; rfl)]
  | name hn =>
    unfold wordR
    rw [if_neg hn.num, if_neg hn.truth, if_neg hn.yes, if_neg hn.no, if_neg (by rw [hn.form]; simp), if_pos (consB_name hn)]
  | @numb i ok =>
    unfold wordR
    rw [if_neg (numT_ne (show codes "num" = 110 :: [117, 109] from by decide) (by decide)), if_neg (numT_ne (show codes "truth" = 116 :: [114, 117, 116, 104] from by decide) (by decide)), if_neg (numT_ne (show codes "yes" = 121 :: [101, 115] from by decide) (by decide)), if_neg (numT_ne (show codes "no" = 110 :: [111] from by decide) (by decide)),
      if_neg (by rw [formOf_numT]; simp), if_neg (by rw [consB_letters_numT]; simp)]
    by_cases hi : i < 0
    · have hc : codes (numT i) = 45 :: (figsOf i).map (48 + ·) := by rw [numT_codes, if_pos hi]; rfl
      have hl1 : 1 ≤ (numT i).length := by rw [← len_codes, hc]; simp
      have ht : codes (tailS (numT i)) = (figsOf i).map (48 + ·) := by rw [tailS_codes hl1, hc]; rfl
      rw [if_neg (by rw [consB_neg hi]; simp), if_pos ⟨by rw [hc]; rfl, consB_figs ht (figsOf_lt i) (figsOf_ne i)⟩, figC_figs ht, valF_of, show -((i.natAbs : Nat) : Int) = i from by omega]
    · have hc : codes (numT i) = (figsOf i).map (48 + ·) := by rw [numT_codes, if_neg hi]; rfl
      rw [if_pos (consB_figs hc (figsOf_lt i) (figsOf_ne i)), figC_figs hc, valF_of, show ((i.natAbs : Nat) : Int) = i from by omega]
def stepR (st : List (List Fd)) (x : Str) : Option (List (List Fd)) :=
  if x = "(" then some ([] :: st) else if x = ")" then (match st with
      | g :: h :: r => (match brkR g with
        | some f => some ((h ++ [f]) :: r)
        | none => none)
      | _ => none)
    else (match st with
      | g :: r => (match wordR x with
        | some f => some ((g ++ [f]) :: r)
        | none => none)
      | [] => none)
def runR : List (List Fd) → List Str → Option (List (List Fd))
  | st, [] => some st
  | st, x :: xs => match stepR st x with
    | some st' => runR st' xs
    | none => none
theorem runR_app (a b : List Str) : ∀ st, runR st (a ++ b) = (match runR st a with | some st' => runR st' b | none => none) := by
  induction a with
  | nil => intro st; rfl
  | cons x a ih =>
    intro st
    rw [List.cons_append, runR, runR]
    cases stepR st x with
    | none => rfl
    | some st' => exact ih st'
theorem stepG_R {lo g x lo' g'} (h : StepG lo g x lo' g') : stepR (g :: lo.reverse) x = some (g' :: lo'.reverse) := by
  cases h with
  | opn => unfold stepR; rw [if_pos rfl]; simp
  | @cls lo g h f hb =>
    unfold stepR
    rw [if_neg (by decide), if_pos rfl, List.reverse_append]
    simp [brkF_R hb]
  | @wrd lo g x f n1 n2 hw =>
    unfold stepR
    rw [if_neg n1, if_neg n2]
    simp [wordF_R hw]
theorem runG_R {lo g xs lo' g'} (h : RunG lo g xs lo' g') : runR (g :: lo.reverse) xs = some (g' :: lo'.reverse) := by
  induction h with
  | nil => rfl
  | cons s _ ih => rw [runR,stepG_R s]; exact ih
theorem part_R {t : WT} (h : t.wf) (o : t.ok) (g : List Fd) (r : List (List Fd)) : runR (g :: r) (wtk t) = some ((g ++ [.part t]) :: r) := by
  have := runG_R (part_run t h o r.reverse g)
  rw [List.reverse_reverse] at this
  exact this
def gathR (l : Str) : Option WT := match runR [[]] (toks l) with
  | some [[.part t]] => some t
  | _ => none
theorem gathR_line {t : WT} (h : t.wf) (o : t.ok) : gathR (lineT t) = some t := by
  unfold gathR
  rw [toks_line h,part_R h o [] []]
  rfl
end Wk
namespace Wk
open PySem L2
def nb (l : List Nat) : Nat := (l.filter (· ≠ 32)).length
theorem nb_app (a b : List Nat) : nb (a ++ b) = nb a + nb b := by simp [nb]
theorem nb_le (l : List Nat) : nb l ≤ l.length := List.length_filter_le _ _
theorem nb_repl (c : Nat) (hc : c ≠ 32) : ∀ l : List Nat, nb (repl c [32, c, 32] l) = nb l
  | [] => rfl
  | a :: r => by
    rw [repl, nb_app, nb_repl c hc r, show a :: r = [a] ++ r from rfl, nb_app]
    congr 1
    split
    · rename_i e; subst e; simp [nb, hc]
    · rfl
theorem nb_spread (l : List Nat) : nb (spread l) = nb l := by unfold spread; rw [nb_repl _ (by decide),nb_repl _ (by decide)]
def lens (l : List (List Nat)) : Nat := (l.map List.length).sum
theorem lens_split : ∀ l : List Nat, lens (splitL 32 l) = nb l
  | [] => rfl
  | a :: r => by
    have ih := lens_split r
    rw [splitL]
    split
    · rename_i e; subst e; simp only [lens, List.map_cons, List.sum_cons, List.length_nil, Nat.zero_add] at ih ⊢; rw [ih]; simp [nb]
    · rename_i e
      cases q : splitL 32 r with
      | nil => exact absurd q (splitL_ne 32 r)
      | cons w ws =>
        rw [q] at ih
        simp only [lens, List.map_cons, List.sum_cons, List.length_cons] at ih ⊢
        rw [show nb (a :: r) = nb r + 1 from by simp [nb, e], ← ih]; omega
theorem lens_words (l : List Nat) : lens (wordsL l) = nb l := by
  rw [← lens_split]
  unfold wordsL
  generalize splitL 32 l = ws
  induction ws with
  | nil => rfl
  | cons w ws ih =>
    by_cases h : w = []
    · subst h; rw [List.filter_cons_of_neg (by simp), ih]; simp [lens]
    · rw [List.filter_cons_of_pos (by simpa using h)]
      simp only [lens, List.map_cons, List.sum_cons] at ih ⊢
      rw [ih]
theorem lens_tok (l : List Nat) : lens (tokL l) ≤ l.length := by
  unfold tokL
  rw [lens_words,nb_spread]
  exact nb_le l
theorem toks_codes (l : Str) : (toks l).map codes = tokL (codes l) := by
  unfold toks
  rw [filter_codes]
  show List.filter _ ((Txt.split _ ⟨#[32]⟩).map codes) = _
  rw [split_codes]
  show List.filter _ (splitL 32 (codes (Txt.replace _ ⟨#[41]⟩ _))) = _
  rw [replace_codes]
  show List.filter _ (splitL 32 (repl 41 _ (codes (Txt.replace _ ⟨#[40]⟩ _)))) = _
  rw [replace_codes]
  rfl
def lenS (l : List Str) : Nat := (l.map (·.length)).sum
theorem lenS_toks (l : Str) : lenS (toks l) ≤ l.length := by
  have h := lens_tok (codes l)
  rw [← toks_codes,len_codes] at h
  refine Nat.le_trans (Nat.le_of_eq ?_) h
  unfold lenS lens
  rw [List.map_map]
  refine congrArg List.sum (List.map_congr_left fun a _ => ?_)
  simp [len_codes]
theorem toks_ne {l x : Str} (h : x ∈ toks l) : x ≠ "" := by
  unfold toks at h
  have := (List.mem_filter.mp h).2
  simpa using this
theorem str_pos {x : Str} (h : x ≠ "") : 1 ≤ x.length := by
  rw [← len_codes]
  cases q : codes x with
  | nil => exact absurd (codes_inj (by rw [q]; decide)) h
  | cons => simp
theorem count_le : ∀ {ts : List Str}, (∀ x ∈ ts, x ≠ "") → ts.length ≤ lenS ts
  | [], _ => Nat.le_refl _
  | x :: ts, h => by
    have a := str_pos (h x List.mem_cons_self)
    have b := count_le fun y hy => h y (List.mem_cons_of_mem _ hy)
    simp only [lenS, List.map_cons, List.sum_cons, List.length_cons] at b ⊢
    omega
theorem toks_count (l : Str) : (toks l).length ≤ l.length := Nat.le_trans (count_le fun _ h => toks_ne h) (lenS_toks l)
theorem tok_le : ∀ {ts : List Str} {x : Str}, x ∈ ts → x.length ≤ lenS ts
  | y :: ts, x, h => by
    simp only [lenS, List.map_cons, List.sum_cons]
    rcases List.mem_cons.mp h with rfl | h
    · omega
    · have := tok_le h
      unfold lenS at this
      omega
def fW : Fd → Nat
  | .word _ => 3
  | .kind k => kwt k + 1
  | .part t => wwt t + 1
def fX : Fd → Nat
  | .word x => x.length + 1
  | .kind k => (kdT k).length + 1
  | .part t => (lineT t).length + 1
def FOk : Fd → Prop
  | .word x => (formOf x).isSome = true
  | .kind _ => True
  | .part t => t.ok
def gW (g : List Fd) : Nat := (g.map fW).sum
def gX (g : List Fd) : Nat := (g.map fX).sum
def sW (st : List (List Fd)) : Nat := (st.map gW).sum + 3 * st.length
def sX (st : List (List Fd)) : Nat := (st.map gX).sum + 2 * st.length
def SOk (st : List (List Fd)) : Prop := ∀ g ∈ st,∀ f ∈ g,FOk f
theorem gW_snoc (g : List Fd) (f : Fd) : gW (g ++ [f]) = gW g + fW f := by simp [gW]
theorem gX_snoc (g : List Fd) (f : Fd) : gX (g ++ [f]) = gX g + fX f := by simp [gX]
theorem brk_big {g : List Fd} {f : Fd} (h : BrkF g f) (o : ∀ f ∈ g, FOk f) : fW f ≤ gW g + 6 ∧ fX f ≤ gX g + 4 ∧ FOk f := by
  have w1 : ("(list " : Str).length = 6 := by decide
  have w2 : ("(to " : Str).length = 4 := by decide
  have w3 : ("(nil " : Str).length = 5 := by decide
  have w4 : ("(fun " : Str).length = 5 := by decide
  have w5 : ("(add " : Str).length = 5 := by decide
  have w6 : ("(less " : Str).length = 6 := by decide
  have w7 : ("(front " : Str).length = 7 := by decide
  have w8 : ("(call " : Str).length = 6 := by decide
  have w9 : ("(if " : Str).length = 4 := by decide
  have w10 : ("(case " : Str).length = 6 := by decide
  have b1 : (" " : Str).length = 1 := by decide
  have b2 : (")" : Str).length = 1 := by decide
  have v1 : ("list" : Str).length = 4 := by decide
  have v2 : ("to" : Str).length = 2 := by decide
  have v3 : ("nil" : Str).length = 3 := by decide
  have v4 : ("fun" : Str).length = 3 := by decide
  have v5 : ("add" : Str).length = 3 := by decide
  have v6 : ("less" : Str).length = 4 := by decide
  have v7 : ("front" : Str).length = 5 := by decide
  have v8 : ("call" : Str).length = 4 := by decide
  have v9 : ("if" : Str).length = 2 := by decide
  have v10 : ("case" : Str).length = 4 := by decide
  cases h with
  | list =>
    refine ⟨?_, ?_, trivial⟩
    · simp only [gW, fW, List.map_cons, List.map_nil, List.sum_cons, List.sum_nil, kwt]; omega
    · simp only [gX, fX, List.map_cons, List.map_nil, List.sum_cons, List.sum_nil, kdT_list, len_app, w1, b2, v1]; omega
  | to =>
    refine ⟨?_, ?_, trivial⟩
    · simp only [gW, fW, List.map_cons, List.map_nil, List.sum_cons, List.sum_nil, kwt]; omega
    · simp only [gX, fX, List.map_cons, List.map_nil, List.sum_cons, List.sum_nil, kdT_to, len_app, w2, b1, b2, v2]; omega
  | nil =>
    refine ⟨?_, ?_, trivial⟩
    · simp only [gW, fW, List.map_cons, List.map_nil, List.sum_cons, List.sum_nil, wwt]; omega
    · simp only [gX, fX, List.map_cons, List.map_nil, List.sum_cons, List.sum_nil, lineT_nil, len_app, w3, b2, v3]; omega
  | lam =>
    simp only [List.forall_mem_cons] at o
    refine ⟨?_, ?_, o.2.2.2.1⟩
    · simp only [gW, fW, List.map_cons, List.map_nil, List.sum_cons, List.sum_nil, wwt]; omega
    · simp only [gX, fX, List.map_cons, List.map_nil, List.sum_cons, List.sum_nil, lineT_lam, lineT_name, len_app, w4, b1, b2, v4]; omega
  | add =>
    simp only [List.forall_mem_cons] at o
    refine ⟨?_, ?_, o.2.1, o.2.2.1⟩
    · simp only [gW, fW, List.map_cons, List.map_nil, List.sum_cons, List.sum_nil, wwt]; omega
    · simp only [gX, fX, List.map_cons, List.map_nil, List.sum_cons, List.sum_nil, lineT_add, len_app, w5, b1, b2, v5]; omega
  | less =>
    simp only [List.forall_mem_cons] at o
    refine ⟨?_, ?_, o.2.1, o.2.2.1⟩
    · simp only [gW, fW, List.map_cons, List.map_nil, List.sum_cons, List.sum_nil, wwt]; omega
    · simp only [gX, fX, List.map_cons, List.map_nil, List.sum_cons, List.sum_nil, lineT_less, len_app, w6, b1, b2, v6]; omega
  | front =>
    simp only [List.forall_mem_cons] at o
    refine ⟨?_, ?_, o.2.1, o.2.2.1⟩
    · simp only [gW, fW, List.map_cons, List.map_nil, List.sum_cons, List.sum_nil, wwt]; omega
    · simp only [gX, fX, List.map_cons, List.map_nil, List.sum_cons, List.sum_nil, lineT_front, len_app, w7, b1, b2, v7]; omega
  | call =>
    simp only [List.forall_mem_cons] at o
    refine ⟨?_, ?_, o.2.1, o.2.2.1⟩
    · simp only [gW, fW, List.map_cons, List.map_nil, List.sum_cons, List.sum_nil, wwt]; omega
    · simp only [gX, fX, List.map_cons, List.map_nil, List.sum_cons, List.sum_nil, lineT_call, len_app, w8, b1, b2, v8]; omega
  | cond =>
    simp only [List.forall_mem_cons] at o
    refine ⟨?_, ?_, o.2.1, o.2.2.1, o.2.2.2.1⟩
    · simp only [gW, fW, List.map_cons, List.map_nil, List.sum_cons, List.sum_nil, wwt]; omega
    · simp only [gX, fX, List.map_cons, List.map_nil, List.sum_cons, List.sum_nil, lineT_cond, len_app, w9, b1, b2, v9]; omega
  | case =>
    simp only [List.forall_mem_cons] at o
    refine ⟨?_, ?_, o.2.2.1, o.2.2.2.1, o.2.2.2.2.2.2.1⟩
    · simp only [gW, fW, List.map_cons, List.map_nil, List.sum_cons, List.sum_nil, wwt]; omega
    · simp only [gX, fX, List.map_cons, List.map_nil, List.sum_cons, List.sum_nil, lineT_case, lineT_name, len_app, w10, b1, b2, v10]; omega
theorem valF_lt : ∀ (l : List Nat), (∀ d ∈ l, d < 10) → valF l < 10 ^ l.length := by
  intro l
  suffices h : ∀ (l : List Nat) (n : Nat), (∀ d ∈ l, d < 10) → l.foldl (fun n d => n * 10 + d) n < (n + 1) * 10 ^ l.length by
    intro hd
    have := h l 0 hd
    simpa [valF] using this
  intro l
  induction l with
  | nil => intro n _; simp
  | cons a l ih =>
    intro n hd
    have ha := hd a List.mem_cons_self
    rw [List.foldl_cons]
    refine Nat.lt_of_lt_of_le (ih _ fun d h => hd d (List.mem_cons_of_mem _ h)) ?_
    rw [List.length_cons, Nat.pow_succ, Nat.mul_comm (10 ^ l.length) 10, ← Nat.mul_assoc]
    exact Nat.mul_le_mul_right _ (by omega)
theorem figs_val {l : List Nat} (hd : ∀ d ∈ l,d < 10) (hn : l ≠ []) : (figs (valF l + 1) (valF l)).length ≤ l.length := by
  obtain ⟨k,hk⟩ : ∃ k,l.length = k + 1 := ⟨l.length - 1,by cases l with | nil => exact absurd rfl hn | cons => simp⟩
  rw [hk]
  exact figs_len _ _ k (by rw [← hk]; exact valF_lt l hd)
theorem numT_len (i : Int) : (numT i).length = (if i < 0 then 1 else 0) + (figs (i.natAbs + 1) i.natAbs).length := by
  rw [← len_codes,numT_codes,List.length_append,List.length_map]
  have e : (figsOf i).length = (figs (i.natAbs + 1) i.natAbs).length := by unfold figsOf; simp
  rw [e]
  split <;> simp
theorem word_big {x : Str} {f : Fd} (h : wordR x = some f) (hz : x.length ≤ 1000000) : fW f ≤ 3 ∧ fX f ≤ x.length + 1 ∧ FOk f := by
  unfold wordR at h
  split at h
  · rename_i e; subst e; cases h; exact ⟨by decide,by rw [fX,kdT_num]; decide,trivial⟩
  split at h
  · rename_i e; subst e; cases h; exact ⟨by decide,by rw [fX,kdT_truth]; decide,trivial⟩
  split at h
  · rename_i e; subst e; cases h; exact ⟨by decide,by rw [fX,lineT_truth]; decide,trivial⟩
  split at h
  · rename_i e; subst e; cases h; exact ⟨by decide,by rw [fX,lineT_truth]; decide,trivial⟩
  split at h
  · rename_i e; cases h; exact ⟨by simp [fW],by simp [fX],e⟩
  split at h
  · cases h; exact ⟨by simp [fW,wwt],by rw [fX,lineT_name]; omega,trivial⟩
  split at h
  · rename_i e
    cases h
    obtain ⟨c1,c2,c3⟩ := figC_ok e
    have hl : (figC x).length = x.length := by have := congrArg List.length c1; rw [len_codes,List.length_map] at this; exact this.symm
    have hf := figs_val c2 c3
    have hnn : ¬ ((valF (figC x) : Nat) : Int) < 0 := by omega
    refine ⟨by simp [fW,wwt],?_,?_⟩
    · rw [fX,lineT_num,numT_len,if_neg hnn,Int.natAbs_natCast]; omega
    · show NumOk _; unfold NumOk; rw [Int.natAbs_natCast]; omega
  split at h
  · rename_i e
    cases h
    obtain ⟨e0,e⟩ := e
    obtain ⟨c1,c2,c3⟩ := figC_ok e
    have h1 : 1 ≤ x.length := by rw [← len_codes]; cases q : codes x with | nil => rw [q] at e0; cases e0 | cons => simp
    have hl : (figC (tailS x)).length = x.length - 1 := by have := congrArg List.length c1; rw [tailS_codes h1,List.length_drop,len_codes,List.length_map] at this; exact this.symm
    have hf := figs_val c2 c3
    have ea : (-((valF (figC (tailS x)) : Nat) : Int)).natAbs = valF (figC (tailS x)) := by omega
    refine ⟨by simp [fW,wwt],?_,?_⟩
    · rw [fX,lineT_num,numT_len,ea]; split <;> omega
    · show NumOk _; unfold NumOk; rw [ea]; omega
  · cases h
theorem step_big {st st' : List (List Fd)} {x : Str} (h : stepR st x = some st') (o : SOk st) (hz : x.length ≤ 1000000) (h1 : 1 ≤ x.length) : sW st' ≤ sW st + 3 ∧ sX st' ≤ sX st + x.length + 1 ∧ SOk st' := by
  unfold stepR at h
  split at h
  · rename_i e
    subst e
    cases h
    refine ⟨by simp [sW,gW]; omega,by simp [sX,gX]; omega,fun g hg => ?_⟩
    rcases List.mem_cons.mp hg with rfl | hg
    · exact fun f hf => nomatch hf
    · exact o g hg
  split at h
  · rename_i e
    subst e
    split at h
    · rename_i g hh r
      split at h
      · rename_i f hf
        cases h
        obtain ⟨a1,a2,a3⟩ := brk_big (brkR_F hf) (o g List.mem_cons_self)
        refine ⟨?_,?_,fun g' hg => ?_⟩
        · simp only [sW,List.map_cons,List.sum_cons,List.length_cons,gW_snoc]; omega
        · simp only [sX,List.map_cons,List.sum_cons,List.length_cons,gX_snoc]; have : (")" : Str).length = 1 := by decide
          omega
        · rcases List.mem_cons.mp hg with rfl | hg
          · intro f' hf'
            rcases List.mem_append.mp hf' with z | z
            · exact o hh (by simp) f' z
            · rw [List.mem_singleton] at z; subst z; exact a3
          · exact o g' (by simp [hg])
      · cases h
    · cases h
  · split at h
    · rename_i g r
      split at h
      · rename_i f hf
        cases h
        obtain ⟨a1,a2,a3⟩ := word_big hf hz
        refine ⟨?_,?_,fun g' hg => ?_⟩
        · simp only [sW,List.map_cons,List.sum_cons,List.length_cons,gW_snoc]; omega
        · simp only [sX,List.map_cons,List.sum_cons,List.length_cons,gX_snoc]; omega
        · rcases List.mem_cons.mp hg with rfl | hg
          · intro f' hf'
            rcases List.mem_append.mp hf' with z | z
            · exact o g (by simp) f' z
            · rw [List.mem_singleton] at z; subst z; exact a3
          · exact o g' (by simp [hg])
      · cases h
    · cases h
theorem run_big : ∀ {ts : List Str} {st st' : List (List Fd)}, runR st ts = some st' → SOk st → (∀ x ∈ ts, x.length ≤ 1000000 ∧ 1 ≤ x.length) → sW st' ≤ sW st + 3 * ts.length ∧ sX st' ≤ sX st + lenS ts + ts.length ∧ SOk st'
  | [], st, st', h, o, _ => by cases h; exact ⟨by simp, by simp [lenS], o⟩
  | x :: ts, st, st', h, o, hz => by
    rw [runR] at h
    split at h
    · rename_i st1 h1
      obtain ⟨z1, z2⟩ := hz x List.mem_cons_self
      obtain ⟨a1, a2, a3⟩ := step_big h1 o z1 z2
      obtain ⟨b1, b2, b3⟩ := run_big h a3 fun y hy => hz y (List.mem_cons_of_mem _ hy)
      refine ⟨by rw [List.length_cons]; omega, ?_, b3⟩
      simp only [lenS, List.map_cons, List.sum_cons, List.length_cons] at b2 ⊢
      omega
    · cases h
theorem gath_big {l : Str} {t : WT} (h : gathR l = some t) (hz : l.length ≤ 300000) : t.ok ∧ wwt t ≤ 1000000 ∧ (lineT t).length ≤ 1000000 := by
  unfold gathR at h
  split at h
  · rename_i t' h'
    cases h
    have hl := lenS_toks l
    have hc := toks_count l
    obtain ⟨a1,a2,a3⟩ := run_big h' (fun g hg f hf => by rw [List.mem_singleton] at hg; subst hg; cases hf) fun x hx => ⟨by have := tok_le hx; omega,str_pos (toks_ne hx)⟩
    simp [sW,gW,fW] at a1
    simp [sX,gX,fX] at a2
    refine ⟨a3 [.part t] (by simp) (.part t) (by simp),by omega,by omega⟩
  · cases h
end Wk
namespace Wk
open PySem L2
theorem splitL_app (x y : List Nat) : splitL 32 (x ++ 32 :: y) = splitL 32 x ++ splitL 32 y := by
  induction x with
  | nil => simp [splitL]
  | cons a x ih =>
    rw [List.cons_append, splitL, splitL]
    split
    · rw [ih]; rfl
    · rw [ih]
      cases q : splitL 32 x with
      | nil => exact absurd q (splitL_ne 32 x)
      | cons w ws => rfl
theorem words_app (x y : List Nat) : wordsL (x ++ 32 :: y) = wordsL x ++ wordsL y := by unfold wordsL; rw [splitL_app,List.filter_append]
theorem tok_app_bl (a r : List Nat) : tokL (a ++ 32 :: r) = tokL a ++ tokL r := by
  show wordsL (spread (a ++ ([32] ++ r))) = _
  rw [spread_app,spread_app,show spread [32] = [32] from by decide,List.singleton_append,words_app]; rfl
theorem tok_app_op (a r : List Nat) : tokL (a ++ 40 :: r) = tokL a ++ [40] :: tokL r := by
  show wordsL (spread (a ++ ([40] ++ r))) = _
  rw [spread_app,spread_app,show spread [40] = [32,40,32] from by decide]
  show wordsL (spread a ++ 32 :: ([40] ++ 32 :: spread r)) = _
  rw [words_app,words_cut _ (by decide) (by decide)]; rfl
theorem tok_app_cl (a r : List Nat) : tokL (a ++ 41 :: r) = tokL a ++ [41] :: tokL r := by
  show wordsL (spread (a ++ ([41] ++ r))) = _
  rw [spread_app,spread_app,show spread [41] = [32,41,32] from by decide]
  show wordsL (spread a ++ 32 :: ([41] ++ 32 :: spread r)) = _
  rw [words_app,words_cut _ (by decide) (by decide)]; rfl
def cutB (c : Nat) : Bool := c == 32 || c == 40 || c == 41
def endB (p : Str) : Bool := match (codes p).getLast? with
  | none => true
  | some c => cutB c
def begB (s : Str) : Bool := match (codes s).head? with
  | none => true
  | some c => cutB c
theorem cut_cases {c : Nat} (h : cutB c = true) : c = 32 ∨ c = 40 ∨ c = 41 := by
  unfold cutB at h
  simp at h
  omega
theorem tok_nil : tokL [] = [] := by decide
theorem tok_beg {a r : List Nat} (h : r = [] ∨ ∃ c s,r = c :: s ∧ cutB c = true) : tokL (a ++ r) = tokL a ++ tokL r := by
  rcases h with rfl | ⟨c,s,rfl,h⟩
  · rw [List.append_nil,tok_nil,List.append_nil]
  · rcases cut_cases h with rfl | rfl | rfl
    · rw [tok_app_bl,tok_bl]
    · rw [tok_app_op,tok_open]
    · rw [tok_app_cl,tok_close]
theorem tok_end {p r : List Nat} (h : p = [] ∨ ∃ q c,p = q ++ [c] ∧ cutB c = true) : tokL (p ++ r) = tokL p ++ tokL r := by
  rcases h with rfl | ⟨q,c,rfl,h⟩
  · rw [tok_nil]; rfl
  · rw [List.append_assoc,List.singleton_append]
    rcases cut_cases h with rfl | rfl | rfl
    · rw [tok_app_bl,tok_app_bl,tok_nil,List.append_nil]
    · rw [tok_app_op,tok_app_op,tok_nil,List.append_assoc]; rfl
    · rw [tok_app_cl,tok_app_cl,tok_nil,List.append_assoc]; rfl
theorem toks_mid {p s : Str} {tp ts : List Str} {t : WT} (wf : t.wf) (hp : tokL (codes p) = tp.map codes) (hs : tokL (codes s) = ts.map codes) (bp : endB p = true) (bs : begB s = true) : toks (p ++ lineT t ++ s) = tp ++ (wtk t ++ ts) := by
  apply map_codes_inj
  rw [toks_codes, codes_app, codes_app, List.append_assoc, tok_end, tok_beg, line_toks wf, hp, hs, List.map_append, List.map_append]
  · unfold begB at bs
    cases q : codes s with
    | nil => exact .inl rfl
    | cons c r => rw [q] at bs; exact .inr ⟨c, r, rfl, bs⟩
  · unfold endB at bp
    cases q : codes p with
    | nil => exact .inl rfl
    | cons c r =>
      have hn : codes p ≠ [] := by rw [q]; simp
      rw [List.getLast?_eq_some_getLast hn] at bp
      rw [← q]
      exact .inr ⟨(codes p).dropLast, (codes p).getLast hn, (List.dropLast_concat_getLast hn).symm, bp⟩
def readR (l : Str) : Option WT := match gathR l with
  | some t => if lineT t = l then some t else none
  | none => none
theorem readR_line {t : WT} (h : t.wf) (o : t.ok) : readR (lineT t) = some t := by unfold readR; rw [gathR_line h o]; simp
theorem readR_some {l : Str} {t : WT} (h : readR l = some t) : gathR l = some t ∧ lineT t = l := by
  unfold readR at h
  split at h
  · split at h
    · cases h; rename_i a b; exact ⟨a,b⟩
    · cases h
  · cases h
theorem gathR_some {l : Str} {t : WT} (h : gathR l = some t) : runR [[]] (toks l) = some [[.part t]] := by
  unfold gathR at h
  split at h
  · cases h; assumption
  · cases h
theorem read_none {l : Str} (h : ∀ u,runR [[]] (toks l) = some [[.part u]] → lineT u ≠ l) : readR l = none := by
  cases q : readR l with
  | none => rfl
  | some u => obtain ⟨a,b⟩ := readR_some q; exact absurd b (h u (gathR_some a))
theorem no_brk {g : List Fd} (h : ∀ f,¬ BrkF g f) : brkR g = none := by
  cases q : brkR g with
  | none => rfl
  | some f => exact absurd (brkR_F q) (h f)
section
variable {p s : Str} {tp ts : List Str} {t : WT} {g : List Fd} {r : List (List Fd)}
theorem bad_mid (wf : t.wf) (ok : t.ok) (hp : tokL (codes p) = tp.map codes) (hs : tokL (codes s) = ts.map codes) (bp : endB p = true) (bs : begB s = true) (h1 : runR [[]] tp = some (g :: r)) (h2 : ∀ u,runR ((g ++ [.part t]) :: r) ts = some [[.part u]] → (lineT u).length ≠ p.length + (lineT t).length + s.length) : readR (p ++ lineT t ++ s) = none := by
  refine read_none fun u h e => ?_
  rw [toks_mid wf hp hs bp bs,runR_app,h1] at h
  dsimp only at h
  rw [runR_app,part_R wf ok] at h
  refine h2 u h ?_
  rw [e,len_app,len_app]
theorem bad_word (wf : t.wf) (hp : tokL (codes p) = tp.map codes) (hs : tokL (codes s) = ts.map codes) (bp : endB p = true) (bs : begB s = true) (h1 : runR [[]] tp = none) : readR (p ++ lineT t ++ s) = none := by
  refine read_none fun u h e => ?_
  rw [toks_mid wf hp hs bp bs,runR_app,h1] at h
  cases h
theorem bad_conc {b : Str} (hp : tokL (codes b) = tp.map codes) (h1 : ∀ u,runR [[]] tp ≠ some [[.part u]]) : readR b = none :=
  read_none fun u h e => h1 u (by rw [← h,show toks b = tp from map_codes_inj (by rw [toks_codes,hp])])
end
theorem step_cl {g h : List Fd} {r : List (List Fd)} {f : Fd} (hb : BrkF g f) : stepR (g :: h :: r) ")" = some ((h ++ [f]) :: r) := by
  unfold stepR; rw [if_neg (by decide),if_pos rfl]; simp [brkF_R hb]
theorem step_no {g : List Fd} {r : List (List Fd)} (hb : ∀ f,¬ BrkF g f) : stepR (g :: r) ")" = none := by
  unfold stepR; rw [if_neg (by decide),if_pos rfl]
  cases r <;> simp [no_brk hb]
theorem step_base {g : List Fd} : stepR [g] ")" = none := by
  unfold stepR; rw [if_neg (by decide),if_pos rfl]
theorem run_cl {g h : List Fd} {r : List (List Fd)} {f : Fd} {ts : List Str} (hb : BrkF g f) : runR (g :: h :: r) (")" :: ts) = runR ((h ++ [f]) :: r) ts := by rw [runR,step_cl hb]
theorem run_no {g : List Fd} {r : List (List Fd)} {ts : List Str} (hb : ∀ f,¬ BrkF g f) : runR (g :: r) (")" :: ts) = none := by rw [runR,step_no hb]
theorem run_base {g : List Fd} {ts : List Str} : runR [g] (")" :: ts) = none := by rw [runR,step_base]
def badL (l : Str) : List Str :=
  ["(add " ++ "007" ++ " " ++ l ++ ")","(add " ++ "-0" ++ " " ++ l ++ ")","(add " ++ "-05" ++ " " ++ l ++ ")","(add " ++ "00" ++ " " ++ l ++ ")","(add " ++ "-" ++ " " ++ l ++ ")","(add " ++ "+1" ++ " " ++ l ++ ")","(add " ++ "1-" ++ " " ++ l ++ ")","(add " ++ "--1" ++ " " ++ l ++ ")","(add " ++ "A" ++ " " ++ l ++ ")","(add " ++ "x1" ++ " " ++ l ++ ")","(add " ++ "if" ++ " " ++ l ++ ")","(add " ++ "to" ++ " " ++ l ++ ")","(add " ++ "num" ++ " " ++ l ++ ")","(add " ++ "" ++ " " ++ l ++ ")",
   "add 1 " ++ l ++ ")",("nil num)" : Str),"fun x num " ++ l ++ ")","call x " ++ l ++ ")","(add 1 " ++ l,"(add 1 " ++ l ++ "))","(add 1  " ++ l ++ ")","( add 1 " ++ l ++ ")","(add 1 " ++ l ++ " )"," " ++ l,l ++ " ","(add " ++ l ++ ")","(" ++ l ++ ")","(add 1 " ++ l ++ " 2)","(nil " ++ l ++ ")","(fun x " ++ l ++ " num)",("()" : Str),("" : Str),("(list num)" : Str),"(fun if num " ++ l ++ ")","(fun X num " ++ l ++ ")","(case num x x x 1 " ++ l ++ ")"]
theorem app_nil (x : Str) : x ++ "" = x := codes_inj (by rw [codes_app,show codes "" = [] from by decide,List.append_nil])
theorem nil_app (x : Str) : "" ++ x = x := codes_inj (by rw [codes_app,show codes "" = [] from by decide]; rfl)
theorem len_one : (lineT (.num 1)).length = 1 := by rw [lineT_num]; decide
theorem add_len (a b : WT) : (lineT (.add a b)).length = (lineT a).length + (lineT b).length + 7 := by
  rw [lineT_add]; simp only [len_app]
  rw [show ("(add " : Str).length = 5 from by decide,show (" " : Str).length = 1 from by decide,show (")" : Str).length = 1 from by decide]; omega
theorem bad_num {t : WT} {p : Str} {i : Int} {w : Str} (wf : t.wf) (ok : t.ok) (hp : tokL (codes p) = ([("(" : Str),"add",w]).map codes) (bp : endB p = true) (h1 : runR [[]] ["(","add",w] = some [[.word "add",.part (.num i)],[]]) (hl : (lineT (.num i)).length + 6 ≠ p.length) : readR (p ++ lineT t ++ ")") = none := by
  refine bad_mid (ts := [")"]) wf ok hp (by decide) bp (by decide) h1 fun u h => ?_
  rw [show [Fd.word "add",.part (.num i)] ++ [.part t] = [.word "add",.part (.num i),.part t] from rfl,run_cl .add] at h
  cases h
  rw [add_len,show (")" : Str).length = 1 from by decide]
  omega
theorem bad_all {t : WT} (wf : t.wf) (ok : t.ok) : ∀ b ∈ badL (lineT t),readR b = none := by
  have c1 : tokL (codes ")") = ([(")" : Str)]).map codes := by decide
  have c0 : tokL (codes "") = ([] : List Str).map codes := by decide
  have l1 : (")" : Str).length = 1 := by decide
  unfold badL
  simp only [List.forall_mem_cons]
  refine ⟨?_,?_,?_,?_,?_,?_,?_,?_,?_,?_,?_,?_,?_,?_,?_,?_,?_,?_,?_,?_,?_,?_,?_,?_,?_,?_,?_,?_,?_,?_,?_,?_,?_,?_,?_,?_,fun b hb => nomatch hb⟩
  · exact bad_num (i := 7) (w := "007") wf ok (by decide) (by decide) rfl (by rw [lineT_num]; decide)
  · exact bad_num (i := 0) (w := "-0") wf ok (by decide) (by decide) rfl (by rw [lineT_num]; decide)
  · exact bad_num (i := -5) (w := "-05") wf ok (by decide) (by decide) rfl (by rw [lineT_num]; decide)
  · exact bad_num (i := 0) (w := "00") wf ok (by decide) (by decide) rfl (by rw [lineT_num]; decide)
  · exact bad_word (tp := ["(","add","-"]) wf (by decide) c1 (by decide) (by decide) rfl
  · exact bad_word (tp := ["(","add","+1"]) wf (by decide) c1 (by decide) (by decide) rfl
  · exact bad_word (tp := ["(","add","1-"]) wf (by decide) c1 (by decide) (by decide) rfl
  · exact bad_word (tp := ["(","add","--1"]) wf (by decide) c1 (by decide) (by decide) rfl
  · exact bad_word (tp := ["(","add","A"]) wf (by decide) c1 (by decide) (by decide) rfl
  · exact bad_word (tp := ["(","add","x1"]) wf (by decide) c1 (by decide) (by decide) rfl
  · exact bad_mid (tp := ["(","add","if"]) (ts := [")"]) wf ok (by decide) c1 (by decide) (by decide) rfl fun u h => by rw [run_no (by rintro f h; cases h)] at h; cases h
  · exact bad_mid (tp := ["(","add","to"]) (ts := [")"]) wf ok (by decide) c1 (by decide) (by decide) rfl fun u h => by rw [run_no (by rintro f h; cases h)] at h; cases h
  · exact bad_mid (tp := ["(","add","num"]) (ts := [")"]) wf ok (by decide) c1 (by decide) (by decide) rfl fun u h => by rw [run_no (by rintro f h; cases h)] at h; cases h
  · exact bad_mid (tp := ["(","add"]) (ts := [")"]) wf ok (by decide) c1 (by decide) (by decide) rfl fun u h => by rw [run_no (by rintro f h; cases h)] at h; cases h
  · exact bad_mid (tp := ["add","1"]) (ts := [")"]) wf ok (by decide) c1 (by decide) (by decide) rfl fun u h => by rw [run_base] at h; cases h
  · exact bad_conc (tp := ["nil","num",")"]) (by decide) fun u h => by rw [show runR [[]] ["nil","num",")"] = none from rfl] at h; cases h
  · exact bad_mid (tp := ["fun","x","num"]) (ts := [")"]) wf ok (by decide) c1 (by decide) (by decide) rfl fun u h => by rw [run_base] at h; cases h
  · exact bad_mid (tp := ["call","x"]) (ts := [")"]) wf ok (by decide) c1 (by decide) (by decide) rfl fun u h => by rw [run_base] at h; cases h
  · rw [← app_nil ("(add 1 " ++ lineT t)]
    exact bad_mid (tp := ["(","add","1"]) (ts := []) wf ok (by decide) c0 (by decide) (by decide) rfl fun u h => by cases h
  · exact bad_mid (g := [.word "add",.part (.num 1)]) (r := [[]]) (tp := ["(","add","1"]) (ts := [")",")"]) wf ok (by decide) (by decide) (by decide) (by decide) rfl fun u h => by rw [show [Fd.word "add",.part (.num 1)] ++ [.part t] = [.word "add",.part (.num 1),.part t] from rfl,run_cl .add,run_base] at h; cases h
  · exact bad_num (i := 1) (w := "1") wf ok (by decide) (by decide) rfl (by rw [lineT_num]; decide)
  · exact bad_num (i := 1) (w := "1") wf ok (by decide) (by decide) rfl (by rw [lineT_num]; decide)
  · refine bad_mid (g := [.word "add",.part (.num 1)]) (r := [[]]) (tp := ["(","add","1"]) (ts := [")"]) wf ok (by decide) (by decide) (by decide) (by decide) rfl fun u h => ?_
    rw [show [Fd.word "add",.part (.num 1)] ++ [.part t] = [.word "add",.part (.num 1),.part t] from rfl,run_cl .add] at h
    cases h
    rw [add_len,len_one,show (" )" : Str).length = 2 from by decide,show ("(add 1 " : Str).length = 7 from by decide]; omega
  · rw [← app_nil (" " ++ lineT t)]
    refine bad_mid (tp := []) (ts := []) wf ok (by decide) c0 (by decide) (by decide) rfl fun u h => ?_
    cases h
    rw [show (" " : Str).length = 1 from by decide,show ("" : Str).length = 0 from by decide]; omega
  · rw [← nil_app (lineT t)]
    refine bad_mid (tp := []) (ts := []) wf ok (by decide) (by decide) (by decide) (by decide) rfl fun u h => ?_
    cases h
    rw [show (" " : Str).length = 1 from by decide,show ("" : Str).length = 0 from by decide]; omega
  · exact bad_mid (tp := ["(","add"]) (ts := [")"]) wf ok (by decide) c1 (by decide) (by decide) rfl fun u h => by rw [run_no (by rintro f h; cases h)] at h; cases h
  · exact bad_mid (tp := ["("]) (ts := [")"]) wf ok (by decide) c1 (by decide) (by decide) rfl fun u h => by rw [run_no (by rintro f h; cases h)] at h; cases h
  · refine bad_mid (tp := ["(","add","1"]) (ts := ["2",")"]) wf ok (by decide) (by decide) (by decide) (by decide) rfl fun u h => ?_
    rw [show ∀ a b : List Fd,runR [a,b] ["2",")"] = runR [a ++ [.part (.num 2)],b] [")"] from fun a b => rfl,run_no (by rintro f h; cases h)] at h
    cases h
  · exact bad_mid (tp := ["(","nil"]) (ts := [")"]) wf ok (by decide) c1 (by decide) (by decide) rfl fun u h => by rw [run_no (by rintro f h; cases h)] at h; cases h
  · refine bad_mid (tp := ["(","fun","x"]) (ts := ["num",")"]) wf ok (by decide) (by decide) (by decide) (by decide) rfl fun u h => ?_
    rw [show ∀ a b : List Fd,runR [a,b] ["num",")"] = runR [a ++ [.kind .num],b] [")"] from fun a b => rfl,run_no (by rintro f h; cases h)] at h
    cases h
  · exact bad_conc (tp := ["(",")"]) (by decide) fun u h => by rw [show runR [[]] ["(",")"] = none from rfl] at h; cases h
  · exact bad_conc (tp := []) (by decide) fun u h => by cases h
  · exact bad_conc (tp := ["(","list","num",")"]) (by decide) fun u h => by rw [show runR [[]] ["(","list","num",")"] = some [[.kind (.list .num)]] from rfl] at h; cases h
  · exact bad_mid (tp := ["(","fun","if","num"]) (ts := [")"]) wf ok (by decide) c1 (by decide) (by decide) rfl fun u h => by rw [run_no (by rintro f h; cases h)] at h; cases h
  · exact bad_word (tp := ["(","fun","X","num"]) wf (by decide) c1 (by decide) (by decide) rfl
  · exact bad_mid (tp := ["(","case","num","x","x","x","1"]) (ts := [")"]) wf ok (by decide) c1 (by decide) (by decide) rfl fun u h => by rw [run_no (by rintro f h; cases h)] at h; cases h
end Wk
namespace L2
open PySem PySem.Spec PyProof.Rows
section
variable {X : Cx} {Φ : Hp → St → Prop} {E : XK} {ρ : List Sl} {e a b c tg iter : Expr} {es : List Expr} {r ra rb : Sl} {p pos p2 p3 ppos : Pos} {d : PyData} {ds xs : List PyData} {rs : List Sl} {Q Q' : Out → Prop} {rest : List Stmt} {st : Stmt} {o : Sl ⊕ Addr}
theorem vx_for2 {body : List Stmt} {bind : PyData → List Sl → Option (List Sl)} (hp : PassesOwn (model X.prog X.w) X.A X.env X.xe) (hc : X.calm = true) (kφ : ∀ H0 σ σ',Φ H0 σ → Φ H0 σ') (hi : VI2 X ρ tg iter xs) (hg : VG X tg bind) (J : Nat → List Sl → Prop) (h0 : J 0 ρ)
    (step : ∀ (i : Nat) d ρ',xs[i]? = some d → J i ρ' → ∃ ρ2,bind d ρ' = some ρ2 ∧ VX X Φ body ρ2 (loopX X Φ rest Q (J (i + 1)))) (fin : ∀ ρ',J xs.length ρ' → VX X Φ rest ρ' Q)
    (hs : ∀ x,foldedSetIterable iter X.env x = pure x := by intro _; rfl) : VX X Φ (.For tg iter body [] pos :: rest) ρ Q := by
  obtain ⟨wi,pi,hwi⟩ := hi
  obtain ⟨gg,pg,hgg⟩ := hg
  have hb : PSs X body (fun D σ H => ∃ ρ' Q',VX X Φ body ρ' Q' ∧ tXS X.K Φ ρ' Q' D σ H) := by
    rintro pins s σ H D I ⟨ρ',Q',v,q⟩
    exact v pins s σ H D I q
  refine vx_of (ps_for hp hc pi pg hb hs) fun H0 hs D σ H φ er l => ?_
  refine hwi H0 hs σ H _ er fun It H1 h g s1 hh hg sep ng ok => ?_
  refine ⟨fun i m σ H => m = xs.length - i ∧ i ≤ xs.length ∧ ∃ ρ',J i ρ' ∧ ER X.K H0 (h :: g :: hs) ρ' σ H,⟨_,rfl,Nat.zero_le _,ρ,h0,((er.grow s1).hold hg fun ys z => by rw [ng] at z; cases z).hold hh sep⟩,?_⟩
  rintro i m σ1 H ⟨rfl,hi,ρ',j,er⟩
  have hh := er.held h List.mem_cons_self
  have hg := er.held g (List.mem_cons_of_mem _ List.mem_cons_self)
  by_cases hlt : i < xs.length
  · obtain ⟨d,hd⟩ : ∃ d,xs[i]? = some d := ⟨_,List.getElem?_eq_getElem hlt⟩
    obtain ⟨ρ2,hb2,hv⟩ := step i d ρ' hd j
    refine .inr ⟨ok.go i H hh hg hlt,fun σ' H' => ∃ ρ3,J (i + 1) ρ3 ∧ ER X.K H0 (h :: g :: hs) ρ3 σ' H',fun σ' H' ⟨ρ3,j3,e3⟩ => ⟨xs.length - (i + 1),by omega,rfl,hlt,ρ3,j3,e3⟩,fun v H' y => ?_⟩
    obtain ⟨sy,d',hd',rd⟩ := ok.yld i H v H' hh hg hlt y
    rw [hd] at hd'
    cases hd'
    refine hgg H0 (h :: g :: hs) ρ' ρ2 d v σ1 H' _ (er.grow sy) rd hb2 fun σ2 e2 => ⟨ρ2,_,hv,H0,h :: g :: hs,kφ _ _ _ φ,e2,?_⟩
    exact ⟨fun σ H ⟨ρ3,q,_,e⟩ => ⟨ρ3,q,e⟩,fun v H ⟨r,q,e⟩ => l.rt v H ⟨r,q,e⟩,fun σ H ⟨ρ3,q,f,e⟩ => l.nx σ H ⟨ρ3,q,f,e.unhold.unhold⟩,fun σ H ⟨ρ3,q,_,e⟩ => ⟨ρ3,q,e⟩⟩
  · have e : i = xs.length := by omega
    subst e
    exact .inl ⟨ok.stop H hh hg,l.nx _ _ ⟨ρ',fin ρ' j,kφ _ _ _ φ,er.unhold.unhold⟩⟩
def VXpos (X : Cx) (Φ : Hp → St → Prop) (ss : List Stmt) (ρ : List Sl) (Q : Out → Prop) : Prop := PSspos X ss (tXS X.K Φ ρ Q)
def VEXpos (X : Cx) (Φ : Hp → St → Prop) (ρ : List Sl) (e : Expr) (o : Sl ⊕ Addr) : Prop := PEpos X e fun σ H Q => ∃ H0 hs,Φ H0 σ ∧ ER X.K H0 hs ρ σ H ∧ ∀ r,o = .inl r → ∀ v H',Same H H' → RsR X.K H H' r v → Q v H'
def DefXP (P : Program) (w : World) (K : PySem.W.Frag) (mg : Str → Option Value) (base : Heap) (k : Nat) (x : Str) (ps : List Str) (sp : Sp) : Prop :=
  ∃ (f : Addr) (fd : FuncData),FnOkP P w K mg base (CX1 P w base) k f fd ps sp ∧ Binds K fd ps [] ∧ PySem.W.keepIn K (.ref f) = true ∧ mg x = some (.ref f)
theorem vxp_of {t : TS} (h : PSpos X st t) (w : ∀ H0 hs D σ H,Φ H0 σ → ER X.K H0 hs ρ σ H → (DX X.K Φ H0 hs (thenX X Φ rest Q)).le D → t D σ H) : VXpos X Φ (st :: rest) ρ Q := by
  refine PSspos.weak (pssp_cons (u := fun D σ H => ∃ ρ' H0 hs,Φ H0 σ ∧ ER X.K H0 hs ρ' σ H ∧ (DX X.K Φ H0 hs Q).le D ∧ VX X Φ rest ρ' Q) h ?_) fun D σ H ⟨H0,hs,φ,er,l⟩ => w H0 hs _ σ H φ er ⟨?_,fun v H q => l.rt v H q,fun σ H q => l.bk σ H q,fun σ H q => l.ct σ H q⟩
  · intro pins s σ H D I ⟨ρ',H0,hs,φ,er,l,v⟩
    exact v pins s σ H D I ⟨H0,hs,φ,er,l⟩
  · rintro σ' H' ⟨ρ',q,φ',e⟩
    exact ⟨ρ',H0,hs,φ',e,l,q⟩
theorem vxp_setX {i : Nat} {x : Str} (nd : X.N.Nodup) (hi : ixA x X.N 0 = some i) (kp : Kept Φ i) (h : VEXpos X Φ ρ e o) (ho : ∀ r,o = .inl r → ∃ d,r = .d d) (k : ∀ d,o = .inl (.d d) → VX X Φ rest (ρ.set i (.d d)) Q) (hx : Loc X.env.scope x := by exact Or.inl rfl) (hs : swapsWith e (some (.Name x p2)) pos.line X.env = pure false := by rfl)
    (hf : X.fn x = true ∨ X.env.scope.names.lookup x = some .local := by first | exact .inl rfl | exact .inr rfl | assumption) : VXpos X Φ (.Assign [.Name x p2] e pos :: rest) ρ Q :=
  vxp_of (psp_set nd (ixA_N hi) hx h hs hf) fun H0 hs D σ H φ er l => ⟨H0,hs,φ,er,fun r z v H' s rv => by
    obtain ⟨d,rfl⟩ := ho r z
    exact l.nx _ _ ⟨_,k d z,kp _ _ _ φ,(er.grow s).setD rv⟩⟩
theorem vexp_call {k : Nat} {x : Str} {ps : List Str} {Rl : List Sl → Sl ⊕ Addr → Prop} (R : Raising X E) (D : DefXP X.prog X.w X.K X.mg X.base k x ps (spVX X.K Rl)) (hr : Room k X.A) (ha : VA X ρ (e :: es) rs) (h : Rl (rs.map Sl.arg) o) (hE : ∀ C,o = .inr C → ∀ H0 σ,Φ H0 σ → ∀ H',Same H0 H' → E (.ref C) none H')
    (hg : Gl X x := by rfl) (hdb : (x == ("__debug__" : Str)) = false := by decide) (he : starEach (e :: es) X.env = (false,eval e X.env) :: starEach es X.env := by rfl) (hpl : (backTo pos (starEach es X.env)).any (·.1) = false := by rfl) : VEXpos X Φ ρ (.Call (.Name x p) (e :: es) [] pos) o := by
  obtain ⟨f,fd,G,b,kp,m⟩ := D
  exact PEpos.weak (pep_call G hr hg m kp b .nil R.passes ha hdb he hpl) fun σ H Q ⟨H0,hs,φ,er,q⟩ => ⟨⟨H0,hs,er⟩,fun vs H1 s1 r1 => by
    show spVX X.K Rl (vs ++ []) H1 Q E
    rw [List.append_nil]
    exact ⟨rs.map Sl.arg,o,r1.arg,h,fun r z v H2 s2 r2 => q r z v H2 (s1.trans s2) (r2.since s1),fun C z H2 s2 => hE C z H0 σ φ H2 (er.same.trans (s1.trans s2))⟩⟩
end
section
variable {P : Program} {w : World} {K : PySem.W.Frag} {mg : Str → Option Value} {base : Heap}
theorem Fun.okPosX {x qual : Str} {st : Stmt} {f : Addr} {fd : FuncData} {N ps : List Str} {k : Nat} {sp : Sp} (F : Fun K x qual st f fd) (S : FnScope N ps (defScope st)) (len : ∀ vs H Q E,sp vs H Q E → vs.length = ps.length)
    (hbody : ∀ (cdv : Value) (A : Around) (outer : List Env) (s : Shared) (H : Hp) (vs : List V) (Q : VK) (E : XK),Room k (A.deeper (envOfC qual (defScope st) s.heap.objs.size f cdv)) → sp vs H Q E →
      ∃ t,PSspos (cxOf (CX1 P w base) P w K mg base N qual (defScope st) f cdv A outer s H E) (defBody st) t ∧ t { nx := fun _ H' => Q .non H',rt := Q } (start N vs) H) : FnOkP P w K mg base (CX1 P w base) (k + 1) f fd ps sp := by
  obtain ⟨oc,od,kV,doc,pm,an,cdv,ct,osl,rfl,lk,hcd⟩ := F.ex
  exact fnp_of lk hcd S len fun A outer s H vs Q E hr hsp => hbody cdv A outer s H vs Q E hr hsp
theorem Fun.okVXP {x qual : Str} {st : Stmt} {f : Addr} {fd : FuncData} {N ps : List Str} {k : Nat} {R : List Sl → Sl ⊕ Addr → Prop} (F : Fun K x qual st f fd) (S : FnScope N ps (defScope st)) (len : ∀ as o,R as o → as.length = ps.length ∧ ∀ q ∈ as,∀ xs,q ≠ .o xs)
    (hbody : ∀ (cdv : Value) (A : Around) (outer : List Env) (s : Shared) (H : Hp) (E : XK) (as : List Sl) (o : Sl ⊕ Addr),Room k (A.deeper (envOfC qual (defScope st) s.heap.objs.size f cdv)) → R as o →
      (∀ C,o = .inr C → ∀ H0 (σ : St),H0 = H → ∀ H',Same H0 H' → E (.ref C) none H') →
      VXpos (cxOf (CX1 P w base) P w K mg base N qual (defScope st) f cdv A outer s H E) (fun H0 _ => H0 = H) (defBody st) (as ++ List.replicate (N.length - as.length) .un) fun t => ∃ r,o = .inl r ∧ (t = .rt r ∨ (r = .d .none ∧ ∃ ρ,t = .nx ρ))) :
    FnOkP P w K mg base (CX1 P w base) (k + 1) f fd ps (spVX K R) := by
  refine F.okPosX S (fun vs H Q E h => ?_) (fun cdv A outer s H vs Q E hr h => ?_)
  · obtain ⟨as,o,h1,h2,_⟩ := h
    rw [h1.length]; exact (len as o h2).1
  obtain ⟨as,o,h1,h2,q,qE⟩ := h
  refine ⟨_,hbody cdv A outer s H E as o hr h2 (fun C z H0 σ e H' s' => by subst e; exact qE C z H' s'),H,[],rfl,er_start h1 (len as o h2).2,?_⟩
  refine ⟨fun σ H' ⟨ρ,⟨r,zo,z⟩,_,e⟩ => ?_,fun v H' ⟨r',⟨r,zo,z⟩,e1,e2⟩ => ?_,fun σ H' ⟨ρ,⟨r,zo,z⟩,e⟩ => ?_,fun σ H' ⟨ρ,⟨r,zo,z⟩,e⟩ => ?_⟩
  · rcases z with z | ⟨rfl,_⟩
    · cases z
    · exact q _ zo _ H' e.same RsR.non
  · rcases z with z | ⟨_,_,z⟩
    · cases z
      exact q _ zo v H' e1 e2
    · cases z
  · rcases z with z | ⟨_,_,z⟩ <;> cases z
  · rcases z with z | ⟨_,_,z⟩ <;> cases z
end
end L2
namespace Wk
open PySem L2
def outX (C : Addr) : Option PyData → Sl ⊕ Addr
  | some d => .inl (.d d)
  | none => .inr C
def RAsDueX (C : Addr) : List Sl → Sl ⊕ Addr → Prop := fun as o => ∃ (due : Str) (f : Fd),as = [.d (.str due),.d (fdD f)] ∧ (due = "part" ∨ due = "kind" ∨ due = "name") ∧ o = outX C (asDueD due f)
def RFromWordX (C : Addr) : List Sl → Sl ⊕ Addr → Prop := fun as o => ∃ x : Str,as = [.d (.str x)] ∧ x ≠ "" ∧ x.length ≤ 10000000 ∧ o = outX C ((wordR x).map fdD)
def RFromBrkX (C : Addr) : List Sl → Sl ⊕ Addr → Prop := fun as o => ∃ g : List Fd,as = [.l (g.map fdD)] ∧ g.length ≤ 10000000 ∧ (∀ x,Fd.word x ∈ g → (formOf x).isSome = true) ∧ o = outX C ((brkR g).map fdD)
def RGathX (C : Addr) : List Sl → Sl ⊕ Addr → Prop := fun as o => ∃ l : Str,as = [.d (.str l)] ∧ l.length ≤ 1000000 ∧ o = outX C ((gathR l).map wtD)
def RReadX (C : Addr) : List Sl → Sl ⊕ Addr → Prop := fun as o => ∃ l : Str,as = [.d (.str l)] ∧ l.length ≤ 1000000 ∧ (∀ t,gathR l = some t → t.ok ∧ wwt t ≤ 1000000 ∧ (lineT t).length ≤ 1000000) ∧ o = outX C ((readR l).map wtD)
def tBodyX (K : PySem.W.Frag) (C : Addr) (E : XK) (line : Str) : TS := fun D σ H => ∃ (H0 : Hp) (T : Addr) (ts : List V) (st : List (List Fd)) (tok : Str),st ≠ [] ∧ tok ≠ "" ∧ tok.length ≤ 10000000 ∧ st.length < 10000000 ∧ (∀ h ∈ st,h.length < 10000000) ∧ SOk st ∧ GSt K H0 T ts st.reverse line σ H ∧ σ[2]? = some (some (.str tok)) ∧
  (∀ st',stepR st tok = some st' → ∀ σ' H',GSt K H0 T ts st'.reverse line σ' H' → D.nx σ' H') ∧ (stepR st tok = none → ∀ H',Same H0 H' → E (.ref C) none H')
theorem step_len {st st' : List (List Fd)} {x : Str} {n : Nat} (h : stepR st x = some st') (h1 : st.length ≤ n + 1) (h2 : ∀ g ∈ st,g.length ≤ n) : st' ≠ [] ∧ st'.length ≤ n + 2 ∧ ∀ g ∈ st',g.length ≤ n + 1 := by
  unfold stepR at h
  split at h
  · cases h
    refine ⟨by simp,by simp; omega,fun g hg => ?_⟩
    rcases List.mem_cons.mp hg with rfl | hg
    · simp
    · have := h2 g hg; omega
  split at h
  · split at h
    · rename_i g hh r
      split at h
      · cases h
        refine ⟨by simp,by simp at h1 ⊢; omega,fun g' hg => ?_⟩
        rcases List.mem_cons.mp hg with rfl | hg
        · have := h2 hh (by simp); simp; omega
        · have := h2 g' (by simp [hg]); omega
      · cases h
    · cases h
  · split at h
    · rename_i g r
      split at h
      · cases h
        refine ⟨by simp,by simp at h1 ⊢; omega,fun g' hg => ?_⟩
        rcases List.mem_cons.mp hg with rfl | hg
        · have := h2 g (by simp); simp; omega
        · have := h2 g' (by simp [hg]); omega
      · cases h
    · cases h
def endF : Fd → Option WT
  | .part t => some t
  | _ => none
def endG : List Fd → Option WT
  | [f] => endF f
  | _ => none
def endR : List (List Fd) → Option WT
  | [g] => endG g
  | _ => none
theorem endR_some {st : List (List Fd)} {t : WT} (h : endR st = some t) : st = [[.part t]] := by
  unfold endR at h
  split at h
  · unfold endG at h
    split at h
    · unfold endF at h
      split at h
      · cases h; rfl
      · cases h
    · cases h
  · cases h
theorem gathR_end {l : Str} {st : List (List Fd)} (h : runR [[]] (toks l) = some st) : gathR l = endR st := by
  unfold gathR
  rw [h]
  split
  · rename_i t e; cases e; rfl
  · rename_i hn
    cases q : endR st with
    | none => rfl
    | some t => exact absurd (congrArg some (endR_some q)) (hn t)
theorem SOk.words {st : List (List Fd)} (h : SOk st) {g : List Fd} (hg : g ∈ st) : ∀ x,Fd.word x ∈ g → (formOf x).isSome = true := fun x hx => h g hg _ hx
end Wk
namespace L2
open PySem PySem.Spec PyProof.Rows
section
variable {X : Cx} {ρ : List Sl} {a b e : Expr} {es : List Expr} {p pos p2 p3 apos cpos : Pos} {rs : List Sl} {Q : Out → Prop} {rest : List Stmt}
def rSlG : V → Option Int → Option Int → Hp → VK → Prop := fun x lo hi H Q => ∃ z : Str,x = .str z ∧ z.length ≤ sizeLine ∧ Q (.str (Txt.slice z lo hi)) H
theorem sl_strG : SlR X rSlG := by
  intro pins s σ H x v vl vu lo hi sl Q I rx hs pl pu h
  obtain ⟨z, rfl, hz, q⟩ := h
  obtain ⟨t, rfl⟩ := rx
  cases pl with
  | none =>
    cases pu with
    | none => exact ⟨"str", _, PySem.F.slot_str_getitem.lookup, typeIs_str _ _ _, wpAny_getItem_str_slice (l := none) (u := none) (st := none) hs rfl (post_val_or_str ⟨Nat.le_trans (Txt.slice_le z _ _) hz, fun t' k => ⟨.str _, H, I.tok _, ⟨_, rfl⟩, q⟩⟩)⟩
    | int j w => exact ⟨"str", _, PySem.F.slot_str_getitem.lookup, typeIs_str _ _ _, wpAny_getItem_str_slice (l := none) (u := some (j, w)) (st := none) hs rfl (post_val_or_str ⟨Nat.le_trans (Txt.slice_le z _ _) hz, fun t' k => ⟨.str _, H, I.tok _, ⟨_, rfl⟩, q⟩⟩)⟩
  | int i u =>
    cases pu with
    | none => exact ⟨"str", _, PySem.F.slot_str_getitem.lookup, typeIs_str _ _ _, wpAny_getItem_str_slice (l := some (i, u)) (u := none) (st := none) hs rfl (post_val_or_str ⟨Nat.le_trans (Txt.slice_le z _ _) hz, fun t' k => ⟨.str _, H, I.tok _, ⟨_, rfl⟩, q⟩⟩)⟩
    | int j w => exact ⟨"str", _, PySem.F.slot_str_getitem.lookup, typeIs_str _ _ _, wpAny_getItem_str_slice (l := some (i, u)) (u := some (j, w)) (st := none) hs rfl (post_val_or_str ⟨Nat.le_trans (Txt.slice_le z _ _) hz, fun t' k => ⟨.str _, H, I.tok _, ⟨_, rfl⟩, q⟩⟩)⟩
theorem ve_slS {z : Str} {lo hi : Option Expr} {i j : Option Int} (ha : VE X ρ a (.d (.str z))) (hl : VO X ρ lo i) (hh : VO X ρ hi j) (hz : z.length ≤ sizeLine) : VE X ρ (.Subscript a (.Slice lo hi none p2) pos) (.d (.str (Txt.slice z i j))) :=
  PE.weak (pe_slice sl_strG ha hl hh) fun σ H Q ⟨er,q⟩ => ⟨er,fun x H1 s1 r1 => ⟨er_grow er s1,fun H2 s2 => ⟨er_grow er (s1.trans s2),fun H3 s3 => ⟨z,RsR.is_str r1,hz,q _ H3 (s1.trans (s2.trans s3)) RsR.str⟩⟩⟩⟩
theorem vs_setTok {i j : Nat} {x y : Str} (nd : X.N.Nodup) (hi : ixA x X.N 0 = some i) (k : VSpos X rest (ρ.set i (.d (.str y))) Q) (hx : Loc X.env.scope x := by exact Or.inl rfl) (hs : swapsWith (.Constant (.str y) j p) (some (.Name x p2)) pos.line X.env = pure false := by rfl)
    (hf : X.fn x = true ∨ X.env.scope.names.lookup x = some .local := by first | exact .inl rfl | exact .inr rfl | assumption) : VS X (.Assign [.Name x p2] (.Constant (.str y) j p) pos :: rest) ρ Q := by
  intro pins s σ H D I ⟨H0,hs',er,l⟩
  refine wpAny_execs_cons (wpAny_Assign_Name (Calls.Constant_str ?_) hs)
  have I1 := I.tok (s.toks + 1)
  refine wpAny_mono (wpAny_toks_of (n := 1) (show 1 ≤ s.toks + 1 by omega) (store_ok (v := .str y) (Q := fun _ s' => Inv X pins (σ.set i (some (.str y))) H s') (E := X.xe) I1 nd (ixA_N hi) hx ⟨_,rfl⟩ (fun s2 I2 => I2) hf)) (fun _ s2 ⟨tp,I2⟩ => ?_) fun _ _ z => z.2
  exact k pins s2 _ H D tp I2 ⟨H0,hs',er.setD (x := .str y) (.str y),l⟩
theorem try_call2 {kR kS : Nat} {x y : Str} {psR psS : List Str} {spR spS : Sp} {t : TA} {p' pos' : Pos} {pins : List (Addr × Obj)} {s : Shared} {σ : St} {H : Hp} {Q : VK} {E : XK} (DR : DefXP X.prog X.w X.K X.mg X.base kR y psR spR) (DS : DefOk X.prog X.w X.K X.mg X.base kS x psS spS) (hrR : Room kR X.A) (hrS : Room kS X.A) (hg : Gl X x) (hgy : Gl X y) (ha : PA X.nox (e :: es) t)
    (tp : 1 ≤ s.toks) (I : Inv X pins σ H s) (h : t σ H fun vs H1 => spR vs H1 (fun v H2 => spS [v] H2 Q E0) E) (hdb : (x == ("__debug__" : Str)) = false := by decide) (hdy : (y == ("__debug__" : Str)) = false := by decide)
    (he : starEach (e :: es) X.env = (false, eval e X.env) :: starEach es X.env := by rfl) (hpl : (backTo pos' (starEach es X.env)).any (·.1) = false := by rfl)
    (he2 : starEach [.Call (.Name y p') (e :: es) [] pos'] X.env = (false, eval (.Call (.Name y p') (e :: es) [] pos') X.env) :: starEach [] X.env := by rfl) (hpl2 : (backTo pos (starEach [] X.env)).any (·.1) = false := by rfl) :
    wpAny (model X.prog X.w) X.A (eval (.Call (.Name x p) [.Call (.Name y p') (e :: es) [] pos'] [] pos) X.env) (EP X pins σ Q) (fun e s' => ∃ H1 s1, Inv X pins σ H1 s1 ∧ CX1 X.prog X.w X.base X.stack H1 s1 E e s') s := by
  obtain ⟨f, fd, F, hb, hk, hm⟩ := DS
  obtain ⟨g, gd, G, gb, gk, gm⟩ := DR
  refine wpAny_Call_Name_kw (ld_glob I hg hm ?_ hdb)
  refine PySem.W.callWith_K (h₀ := X.base) I.ok.mod.kin hk ?_ he2 hpl2
  rw [he2]
  show wpAny _ _ (spliced ((false, eval (.Call (.Name y p') (e :: es) [] pos') X.env) :: backTo pos (starEach [] X.env))) _ _ s
  refine Calls.spliced_cons ?_
  refine wpAny_Call_Name_kw (ld_glob I hgy gm ?_ hdy)
  refine PySem.W.callWith_K (h₀ := X.base) I.ok.mod.kin gk (wpAny_mono (wpAny_toks_of tp (ha pos' pins s σ H _ (I.wish _) h)) (fun us s1 ⟨tp1, vs, H1, I1, r, q⟩ => ⟨I1.unwish.kIn, ?_⟩) fun _ _ z => z.2.elim) he hpl
  have I1 := I1.unwish
  have hl : us.length = psR.length := by rw [← r.length]; exact G.len _ _ _ _ q
  have hb1 := gb s1 us I1.kIn (by rw [List.append_nil]; exact hl)
  rw [List.append_nil] at hb1
  refine wpAny_call (codeAny_mono (G.run X.A X.stack s1 H1 ⟨us, []⟩ us vs _ E hrR tp1 I1.env0 hb1 r q) fun r s' hq => ?_)
  cases r with
  | error e => exact ⟨H1, s1, I1, hq⟩
  | ok fl =>
    cases fl with
    | next => exact False.elim hq
    | brk => exact False.elim hq
    | cont => exact False.elim hq
    | ret u =>
      obtain ⟨v, H2, I2, rv, q2⟩ := I1.after hq
      refine wpAny_mono (pa_nil (X := X.nox) pos pins s' σ H2 (fun us H' => us = [] ∧ H' = H2) (I2.wish _) ⟨rfl, rfl⟩) (fun us3 s3 ⟨vs3, H3, I3, r3, e4, e5⟩ => ?_) fun _ _ z => z.elim
      subst e4 e5
      have I3 := I3.unwish
      refine ⟨I3.kIn, wpAny_mono (run_fn (X := X.nox) F hrS hb .nil pass0 (I3.wish _) (.cons rv r3) q2) (fun w s4 ⟨v4, H4, I4, r4, q4⟩ => ⟨v4, H4, I4.unwish, r4, q4⟩) fun _ _ z => z.elim⟩
def tTrySet2 (K : PySem.W.Frag) (c : Value) (i : Nat) (spR spS : Sp) (t : TA) (ts : TS) : TS := fun D σ H => t σ H fun vs H1 => spR vs H1 (fun v H2 => spS [v] H2 (fun u H3 => D.nx (σ.set i (some u)) H3) E0) fun cls _ H2 => PySem.W.exmOne K cls c = some true ∧ ts D σ H2
theorem ps_trySet2 {kR kS : Nat} {x x2 y n : Str} {i : Nat} {c : Value} {psR psS : List Str} {spR spS : Sp} {t : TA} {ts : TS} {b₀ : Stmt} {suite : List Stmt} {p' pos' pos2 np hpos tpos : Pos} (b : X.Body) (DR : DefXP X.prog X.w X.K X.mg X.base kR x2 psR spR) (DS : DefOk X.prog X.w X.K X.mg X.base kS x psS spS) (hrR : Room kR X.A) (hrS : Room kS X.A) (hg : Gl X x) (hg2 : Gl X x2) (ha : PA X.nox (e :: es) t)
    (hgy : Gl X y) (hy : X.mg y = some c) (nd : X.N.Nodup) (hi : X.N[i]? = some n) (hx : Loc X.env.scope n) (hs : ∀ ea oe,PSs (X.caught ea oe) (b₀ :: suite) ts) (hdb : (x == ("__debug__" : Str)) = false := by decide) (hdb2 : (x2 == ("__debug__" : Str)) = false := by decide) (hdy : (y == ("__debug__" : Str)) = false := by decide)
    (he : starEach (e :: es) X.env = (false,eval e X.env) :: starEach es X.env := by rfl) (hpl : (backTo pos' (starEach es X.env)).any (·.1) = false := by rfl)
    (he2 : starEach [.Call (.Name x2 p') (e :: es) [] pos'] X.env = (false,eval (.Call (.Name x2 p') (e :: es) [] pos') X.env) :: starEach [] X.env := by rfl) (hpl2 : (backTo pos (starEach [] X.env)).any (·.1) = false := by rfl)
    (hsw : swapsWith (.Call (.Name x p) [.Call (.Name x2 p') (e :: es) [] pos'] [] pos) (some (.Name n p3)) pos2.line X.env = pure false := by rfl) (hf : X.fn n = true ∨ X.env.scope.names.lookup n = some .local := by first | exact .inl rfl | exact .inr rfl | assumption) :
    PSpos X (.Try [.Assign [.Name n p3] (.Call (.Name x p) [.Call (.Name x2 p') (e :: es) [] pos'] [] pos) pos2] [.ExceptHandler (some (.Name y np)) none (b₀ :: suite) hpos] [] [] tpos) (tTrySet2 X.K c i spR spS t ts) := by
  intro pins s σ H D' tp I h
  refine wpAny_Try_except (wpAny_execs_cons (wpAny_Assign_Name (wpAny_mono (try_call2 DR DS hrR hrS hg hg2 ha tp I h hdb hdb2 he hpl he2 hpl2) (fun v s1 ⟨x1,H1,I1,r1,q1⟩ => store_ok I1 nd hi hx r1 (fun s2 I2 => wpAny_execs_nil (wpAny_execs_nil ⟨_,H1,I2,q1⟩)) hf) ?_) hsw))
  rintro e1 s1 ⟨H1,s0,I0,ea,cls,H2,B,rfl,F,hm,q⟩
  obtain ⟨a0,hfl⟩ := F.fly
  have hfl' := hfl
  rw [b.stk] at hfl'
  have hfr := I.ok.frames
  rw [b.stk] at hfr
  refine wpAny_looks_onW hfr b.fr hfl' fun h4 f4 sm4 => wpAny_landsW f4 fun h5 f5 sm5 => ?_
  rw [← b.stk] at f5
  have I5 : Inv X pins σ H2 { s1 with heap := h5 } := F.inv I0 f5.1 (sm4.trans sm5)
  obtain ⟨o5,c5,p5⟩ := F.pinned I0 b f5
  have LT : PySem.W.Looks (model X.prog X.w) h5 (typeOf (.ref ea)) cls := by
    rw [← c5]; exact (PySem.W.Looks.ld p5.1).andThen .now
  refine wpAny_handleBy_cons (codeAny_handlers_test (ld_glob (X := X.caught ea o5) (I5.caught p5) hgy hy ((PySem.W.exm_one I5.kIn LT hm).here ?_) hdy)) (by intro z; cases z)
  show codeAny _ _ _ _ _
  refine codeAny_handlers_suite (lands_againW f5 fun h6 f6 sm6 => ?_)
  have I6 : Inv X pins σ H2 { s1 with heap := h6 } := F.inv I0 f6.1 ((sm4.trans sm5).trans sm6)
  obtain ⟨o6,c6,p6⟩ := F.pinned I0 b f6
  exact wpAny_mono (hs ea o6 pins { s1 with heap := h6 } σ H2 D' (I6.caught p6) q) (fun f s2 z => z.uncaught I.ok) fun _ _ z => z.elim
theorem vsp_trySet2 {kR kS : Nat} {x x2 y n : Str} {i : Nat} {c : Value} {o : Sl ⊕ Addr} {psR psS : List Str} {RR : List Sl → Sl ⊕ Addr → Prop} {RS : List Sl → Sl → Prop} {b₀ : Stmt} {suite : List Stmt} {p' pos' pos2 np hpos tpos : Pos} (b : X.Body) (DR : DefXP X.prog X.w X.K X.mg X.base kR x2 psR (spVX X.K RR)) (DS : DefOk X.prog X.w X.K X.mg X.base kS x psS (spV X.K RS)) (hrR : Room kR X.A) (hrS : Room kS X.A) (ha : VA X.nox ρ (e :: es) rs) (h : RR (rs.map Sl.arg) o)
    (hy : X.mg y = some c) (nd : X.N.Nodup) (hi : ixA n X.N 0 = some i) (hx : Loc X.env.scope n) (ho : ∀ r,o = .inl r → ∃ d d2,r = .d d ∧ RS [.d d] (.d d2) ∧ VS X rest (ρ.set i (.d d2)) Q) (hC : ∀ C,o = .inr C → PySem.W.exmOne X.K (.ref C) c = some true) (hs : ∀ ea oe,(∃ C,o = .inr C) → VS (X.caught ea oe) (b₀ :: suite) ρ (thenS X rest Q)) (hg : Gl X x := by rfl) (hg2 : Gl X x2 := by rfl) (hgy : Gl X y := by rfl) (hdb : (x == ("__debug__" : Str)) = false := by decide) (hdb2 : (x2 == ("__debug__" : Str)) = false := by decide) (hdy : (y == ("__debug__" : Str)) = false := by decide)
    (he : starEach (e :: es) X.env = (false,eval e X.env) :: starEach es X.env := by rfl) (hpl : (backTo pos' (starEach es X.env)).any (·.1) = false := by rfl)
    (he2 : starEach [.Call (.Name x2 p') (e :: es) [] pos'] X.env = (false,eval (.Call (.Name x2 p') (e :: es) [] pos') X.env) :: starEach [] X.env := by rfl) (hpl2 : (backTo pos (starEach [] X.env)).any (·.1) = false := by rfl)
    (hsw : swapsWith (.Call (.Name x p) [.Call (.Name x2 p') (e :: es) [] pos'] [] pos) (some (.Name n p3)) pos2.line X.env = pure false := by rfl) (hf : X.fn n = true ∨ X.env.scope.names.lookup n = some .local := by first | exact .inl rfl | exact .inr rfl | assumption) :
    VSpos X (.Try [.Assign [.Name n p3] (.Call (.Name x p) [.Call (.Name x2 p') (e :: es) [] pos'] [] pos) pos2] [.ExceptHandler (some (.Name y np)) none (b₀ :: suite) hpos] [] [] tpos :: rest) ρ Q :=
  vsp_of (ps_trySet2 (ts := fun D σ H => (∃ C,o = .inr C) ∧ tRS X.K ρ (thenS X rest Q) D σ H) b DR DS hrR hrS hg hg2 ha hgy hy nd (ixA_N hi) hx (fun ea oe => fun pins s σ H D I ⟨z,q⟩ => hs ea oe z pins s σ H D I q) hdb hdb2 hdy he hpl he2 hpl2 hsw hf) fun H0 hs D σ H er l => ⟨⟨H0,hs,er⟩,fun vs H1 s1 r1 => ⟨rs.map Sl.arg,o,r1.arg,h,fun r z v H2 s2 r2 => by
    obtain ⟨d,d2,rfl,hS,kk⟩ := ho r z
    exact ⟨[.d d],.d d2,.cons r2 .nil,hS,fun u H3 s3 r3 => l.nx _ _ ⟨_,kk,(er.grow ((s1.trans s2).trans s3)).setD r3⟩⟩,fun C z H2 s2 => ⟨hC C z,⟨C,z⟩,H0,hs,er.grow (s1.trans s2),l⟩⟩⟩
end
end L2
namespace Wk
open PySem L2 PySem.Spec PyProof.Rows
def goodL (l : Str) : List Str := ["(add 0 " ++ l ++ ")","(add -10 " ++ l ++ ")","(less " ++ l ++ " 7)","(fun x (to num (list truth)) " ++ l ++ ")","(case num " ++ l ++ " 1 x x " ++ l ++ ")","(call " ++ l ++ " " ++ l ++ ")"]
theorem x_name : IsName "x" := name_of (by decide) (by decide) (by decide) (by decide)
theorem good_all {t : WT} (wf : t.wf) (ok : t.ok) (hw : wwt t ≤ 200000) (hl : (lineT t).length ≤ 200000) : ∀ b ∈ goodL (lineT t),∃ u : WT,b = lineT u ∧ u.wf ∧ u.ok ∧ wwt u ≤ 1000000 ∧ (lineT u).length ≤ 1000000 := by
  have n0 : NumOk 0 := by unfold NumOk; decide
  have n1 : NumOk 1 := by unfold NumOk; decide
  have n7 : NumOk 7 := by unfold NumOk; decide
  have n10 : NumOk (-10) := by unfold NumOk; decide
  have go : ∀ {b : Str} {u : WT},b = lineT u → u.wf → u.ok → wwt u ≤ 1000000 → b.length ≤ 1000000 → ∃ u : WT,b = lineT u ∧ u.wf ∧ u.ok ∧ wwt u ≤ 1000000 ∧ (lineT u).length ≤ 1000000 := fun {b u} h a1 a2 a3 a4 => ⟨u,h,a1,a2,a3,by rw [← h]; exact a4⟩
  unfold goodL
  simp only [List.forall_mem_cons]
  refine ⟨?_,?_,?_,?_,?_,?_,fun b hb => nomatch hb⟩
  · refine go (u := .add (.num 0) t) ?_ ⟨trivial,wf⟩ ⟨n0,ok⟩ (by simp only [wwt]; omega) ?_
    · rw [lineT_add,lineT_num,show ("(add " ++ numT 0 ++ " " : Str) = "(add 0 " from by decide]
    · rw [len_app,len_app,show ("(add 0 " : Str).length = 7 from by decide,show (")" : Str).length = 1 from by decide]; omega
  · refine go (u := .add (.num (-10)) t) ?_ ⟨trivial,wf⟩ ⟨n10,ok⟩ (by simp only [wwt]; omega) ?_
    · rw [lineT_add,lineT_num,show ("(add " ++ numT (-10) ++ " " : Str) = "(add -10 " from by decide]
    · rw [len_app,len_app,show ("(add -10 " : Str).length = 9 from by decide,show (")" : Str).length = 1 from by decide]; omega
  · refine go (u := .less t (.num 7)) ?_ ⟨wf,trivial⟩ ⟨ok,n7⟩ (by simp only [wwt]; omega) ?_
    · apply codes_inj
      rw [lineT_less,lineT_num]
      simp only [codes_app,List.append_assoc]
      rw [show codes " 7)" = codes " " ++ (codes (numT 7) ++ codes ")") from by decide]
    · rw [len_app,len_app,show ("(less " : Str).length = 6 from by decide,show (" 7)" : Str).length = 3 from by decide]; omega
  · refine go (u := .lam "x" (.to .num (.list .truth)) t) ?_ ⟨x_name,wf⟩ ok (by simp only [wwt,kwt]; omega) ?_
    · rw [lineT_lam,kdT_to,kdT_list,kdT_num,kdT_truth,show ("(fun " ++ "x" ++ " " ++ ("(to " ++ "num" ++ " " ++ ("(list " ++ "truth" ++ ")") ++ ")") ++ " " : Str) = "(fun x (to num (list truth)) " from by decide]
    · rw [len_app,len_app,show ("(fun x (to num (list truth)) " : Str).length = 29 from by decide,show (")" : Str).length = 1 from by decide]; omega
  · refine go (u := .case .num "x" "x" t (.num 1) t) ?_ ⟨x_name,x_name,wf,trivial,wf⟩ ⟨ok,n1,ok⟩ (by simp only [wwt,kwt]; omega) ?_
    · apply codes_inj
      rw [lineT_case,lineT_num,kdT_num]
      simp only [codes_app,List.append_assoc]
      rw [show codes "(case num " = codes "(case " ++ (codes "num" ++ codes " ") from by decide,show codes " 1 x x " = codes " " ++ (codes (numT 1) ++ (codes " " ++ (codes "x" ++ (codes " " ++ (codes "x" ++ codes " "))))) from by decide]
      simp only [List.append_assoc]
    · simp only [len_app]
      rw [show ("(case num " : Str).length = 10 from by decide,show (" 1 x x " : Str).length = 7 from by decide,show (")" : Str).length = 1 from by decide]; omega
  · refine go (u := .call t t) ?_ ⟨wf,wf⟩ ⟨ok,ok⟩ (by simp only [wwt]; omega) ?_
    · rw [lineT_call]
    · simp only [len_app]
      rw [show ("(call " : Str).length = 6 from by decide,show (" " : Str).length = 1 from by decide,show (")" : Str).length = 1 from by decide]; omega
theorem line_pos {t : WT} (wf : t.wf) : 1 ≤ (lineT t).length := by
  cases t with
  | num i => rw [lineT_num,← len_codes,numT_codes,List.length_append,List.length_map]; have := figsOf_ne i; have : 0 < (figsOf i).length := List.length_pos_iff.mpr this; omega
  | truth b => rw [lineT_truth]; cases b <;> decide
  | nil k => rw [lineT_nil]; simp only [len_app]; rw [show (")" : Str).length = 1 from by decide]; omega
  | name x => rw [lineT_name,← len_codes]; exact List.length_pos_iff.mpr wf.ne
  | lam x k b => rw [lineT_lam]; simp only [len_app]; rw [show (")" : Str).length = 1 from by decide]; omega
  | add a b => rw [lineT_add]; simp only [len_app]; rw [show (")" : Str).length = 1 from by decide]; omega
  | less a b => rw [lineT_less]; simp only [len_app]; rw [show (")" : Str).length = 1 from by decide]; omega
  | front a b => rw [lineT_front]; simp only [len_app]; rw [show (")" : Str).length = 1 from by decide]; omega
  | call a b => rw [lineT_call]; simp only [len_app]; rw [show (")" : Str).length = 1 from by decide]; omega
  | cond a b c => rw [lineT_cond]; simp only [len_app]; rw [show (")" : Str).length = 1 from by decide]; omega
  | case k x y a b c => rw [lineT_case]; simp only [len_app]; rw [show (")" : Str).length = 1 from by decide]; omega
theorem grown_ok1 {cs : List Int} (h : cs.length ≤ 64) : BOk 130000 (grownB cs) := by
  obtain ⟨h1,h2⟩ := pileAt_ok cs cs.length
  obtain ⟨k,n,a,b,e⟩ := pop_ok h1 (leaf_ok 0)
  have q := adds_ok a b
  have l := popB_len (leafB 0) (pileAt cs cs.length)
  refine ⟨?_,Nat.le_trans q.ln (by omega),Nat.le_trans q.rows (by omega),fun r hr => Nat.le_trans (q.path r hr) (by omega)⟩
  obtain ⟨t,a,b,c,d,e,f⟩ := q.ex
  exact ⟨t,a,b,c,d,e,Nat.le_trans f (by omega)⟩
def RGood : List Sl → Sl → Prop := fun as r => ∃ l : Str,as = [.d (.str l)] ∧ l.length ≤ 200000 ∧ r = .o ((goodL l).map .str)
def RBadL : List Sl → Sl → Prop := fun as r => ∃ l : Str,as = [.d (.str l)] ∧ l.length ≤ 200000 ∧ r = .o ((badL l).map .str)
def signA (w : Int) : Str := if w = 0 then " " else if w = 1 then "(" else if w = 2 then ")" else if w = 3 then "0" else if w = 4 then "-" else if w = 5 then "x" else "A"
def harmT (l : Str) (s w : Int) : Str :=
  if w = 0 then Txt.slice l none (some s) ++ Txt.slice l (some (s + 1)) none
  else if w = 1 then Txt.slice l none (some s) ++ sg ((codes l).getD s.toNat 0) ++ Txt.slice l (some s) none
  else Txt.slice l none (some s) ++ signA (w - 2) ++ Txt.slice l (some s) none
theorem sg_len (c : Nat) : (sg c).length = 1 := by rw [← len_codes,codes_sg]; rfl
theorem signA_len (w : Int) : (signA w).length = 1 := by unfold signA; (repeat' split) <;> decide
theorem harm_len (l : Str) (s w : Int) : (harmT l s w).length ≤ 2 * l.length + 1 := by
  have a := Txt.slice_le l none (some s)
  have b := Txt.slice_le l (some (s + 1)) none
  have c := Txt.slice_le l (some s) none
  unfold harmT
  split
  · rw [len_app]; omega
  · split
    · rw [len_app,len_app,sg_len]; omega
    · rw [len_app,len_app,signA_len]; omega
def RHarm : List Sl → Sl → Prop := fun as r => ∃ (l : Str) (s w : Int),as = [.d (.str l),.d (.int s),.d (.int w)] ∧ l.length ≤ 200000 ∧ 0 ≤ s ∧ s < l.length ∧ 0 ≤ w ∧ w < 9 ∧ r = .d (.str (harmT l s w))
end Wk
namespace Wk
open PySem L2
def top (i : Nat) : Stmt := PySem.Challenge.pw_wellkind_k09_read_is_strict.main.body.getD i (.Pass ⟨0,0,0,0⟩)
abbrev st_shown : Stmt := top 5
abbrev st_form_of : Stmt := top 6
abbrev st_spelled : Stmt := top 7
abbrev st_pieces_of_part : Stmt := top 8
abbrev st_figures_of : Stmt := top 9
abbrev st_pieces_of_kind : Stmt := top 10
abbrev st_in_brackets : Stmt := top 11
abbrev st_read : Stmt := top 15
abbrev st_gathered : Stmt := top 16
abbrev st_tokens : Stmt := top 17
abbrev st_from_word : Stmt := top 18
abbrev st_consists_of : Stmt := top 19
abbrev st_number_of : Stmt := top 20
abbrev st_from_brackets : Stmt := top 21
abbrev st_as_due : Stmt := top 22
abbrev st_law_at : Stmt := top 24
abbrev st_law_built_up : Stmt := top 25
abbrev st_law_drawn_kind : Stmt := top 26
abbrev st_law_word_by : Stmt := top 27
abbrev st_law_leaf : Stmt := top 28
abbrev st_law_taken : Stmt := top 29
abbrev st_law_combined : Stmt := top 30
abbrev st_law_grown : Stmt := top 31
abbrev st_law_good : Stmt := top 32
abbrev st_law_bad : Stmt := top 33
abbrev st_law_harmed : Stmt := top 34
abbrev st_law : Stmt := top 35
section
variable {P : Program} {w : World} {K : PySem.W.Frag} {mg : Str → Option Value} {base : Heap}
seal VE VT VW VD VA VO VS VI VG
local macro_rules
  | `(tactic| simp_wf) => `(tactic| first
    | exact ve_int
    | exact ve_str
    | exact ve_bl
    | exact ve_non
    | exact ve_name rfl rfl
    | exact vd_nil
    | exact va_nil
    | exact vo_none
    | (apply vo_some; simp_wf)
    | (apply vd_cons; simp_wf; simp_wf; rfl)
    | (apply va_cons; simp_wf; simp_wf; rfl)
    | (apply ve_tup; simp_wf; first | decide | exact Nat.le_of_ble_eq_true rfl)
    | (apply ve_lst; simp_wf; first | decide | exact Nat.le_of_ble_eq_true rfl)
    | (apply ve_ixT; simp_wf; simp_wf; exact rfl; exact fun _ _ => rfl)
    | (apply ve_ixL; simp_wf; simp_wf; exact rfl; exact rfl; exact fun _ _ => rfl)
    | (apply vt_eqS; simp_wf; simp_wf)
    | (apply vt_eqI; simp_wf; simp_wf)
    | (apply vt_neS; simp_wf; simp_wf)
    | (apply vt_neI; simp_wf; simp_wf)
    | (apply vt_ltI; simp_wf; simp_wf)
    | (apply vt_gtI; simp_wf; simp_wf)
    | (apply vt_not; simp_wf)
    | (apply vt_isN; simp_wf; first | exact nun_d | exact nun_l | exact nun_o)
    | (apply vt_notN; simp_wf; first | exact nun_d | exact nun_l | exact nun_o)
    | (apply vt_bool; simp_wf; intro _; rfl)
    | (apply vt_lst; simp_wf; exact rfl; intro _; rfl)
    | (apply ve_addI; simp_wf; simp_wf)
    | (apply ve_subI; simp_wf; simp_wf)
    | (apply ve_neg; simp_wf)
    | (apply vt_geI; simp_wf; simp_wf)
    | (apply vt_leI; simp_wf; simp_wf))
theorem sc_fig : FnScope ["number","left","figures","sign"] ["number"] (defScope st_figures_of) := ⟨rfl,rfl,rfl,by decide +kernel,rfl,by decide +kernel,by decide +kernel⟩
theorem ok_fig {f : Addr} {fd : FuncData} (F : Fun K "figures_of" "figures_of" st_figures_of f fd) (B : Plain mg) (habs : mg "abs" = none) (hstr : mg "str" = none) : FnOk P w K mg base CX0 1 f fd ["number"] (spV K RFigs) := by
  refine F.okV sc_fig (fun as r h => ?_) (fun cdv A outer s H E as r hr h => ?_)
  · obtain ⟨i, rfl, _⟩ := h; exact ⟨rfl, by simp⟩
  obtain ⟨i, rfl, hn, rfl⟩ := h
  have hsl : sizeLine = 16777216 := sizeLine_eq
  unfold NumOk at hn
  have dig : ∀ m : Nat, m % 10 < 10 ∧ ((m % 10 : Nat) : Int).natAbs.log2 < 1920 := fun m => by
    have h1 : m % 10 < 10 := Nat.mod_lt _ (by decide)
    refine ⟨h1, Nat.lt_of_le_of_lt (Nat.log2_le_self _) ?_⟩
    simp only [Int.natAbs_natCast]; omega
  have dlen : ∀ m : Nat, (digit (m % 10)).length = 1 := fun m => by
    have h1 : m % 10 < 10 := Nat.mod_lt _ (by decide)
    generalize m % 10 = d at h1
    match d, h1 with
    | 0, _ => decide | 1, _ => decide | 2, _ => decide | 3, _ => decide | 4, _ => decide | 5, _ => decide | 6, _ => decide | 7, _ => decide | 8, _ => decide | 9, _ => decide
  show VS _ _ [.d (.int i), .un, .un, .un] _
  refine vs_set sc_fig.nd rfl (ve_abs habs (by simp_wf)) ?_
  refine vs_setO sc_fig.nd rfl (ve_lst (vd_cons (d := .str (digit (i.natAbs % 10))) (ve_eq (ve_strI (i := ((i.natAbs % 10 : Nat) : Int)) hstr (ve_eq (ve_modI (i := (i.natAbs : Int)) (j := 10) (by simp_wf) (by simp_wf)) (by rw [Int.natCast_emod]; rfl)) (dig _).2) rfl) vd_nil)) ?_
  refine vs_while PassesOwn.never (fun m ρ => ∃ (fs : List Nat) (fu : Nat), ρ = [.d (.int i), .d (.int (m : Int)), .o (fs.map fun d => .str (digit d)), .un] ∧ m ≤ fu ∧ fs ++ (if m < 10 then [] else figs fu (m / 10)) = figs (i.natAbs + 1) i.natAbs) ⟨i.natAbs, [i.natAbs % 10], i.natAbs, rfl, Nat.le_refl _, by rw [figs]; rfl⟩ ?_
  rintro m ρ ⟨fs, fu, rfl, hm, hf⟩
  by_cases h10 : m < 10
  · refine ⟨false, vt_eq (vt_gtI (by simp_wf) (by simp_wf)) (decide_eq_false (by omega)), (fun z => nomatch z), fun _ => ?_⟩
    rw [if_pos h10, List.append_nil] at hf
    subst hf
    refine vs_set sc_fig.nd rfl (d := .str (if i < 0 then ("-" : Str) else "")) (ve_if (vt_ltI (by simp_wf) (by simp_wf)) (fun z => ve_eq (r' := .d (.str (if i < 0 then ("-" : Str) else ""))) (by simp_wf) (by rw [if_pos (of_decide_eq_true z)])) (fun z => ve_eq (r' := .d (.str (if i < 0 then ("-" : Str) else ""))) (by simp_wf) (by rw [if_neg (of_decide_eq_false z)]))) ?_
    have hsum : ∀ l : List Nat, (∀ d ∈ l, ∃ m, d = m % 10) → ((l.map digit).map (·.length)).sum = l.length := by
      intro l
      induction l with
      | nil => intro _; rfl
      | cons d l ih => intro h; obtain ⟨m, rfl⟩ := h d List.mem_cons_self; simp only [List.map_cons, List.sum_cons, List.length_cons]; rw [ih fun x hx => h x (List.mem_cons_of_mem _ hx), dlen]; omega
    have hall : ∀ f n, ∀ d ∈ figs f n, ∃ m, d = m % 10 := by
      intro f
      induction f with
      | zero => intro n d hd; cases hd
      | succ f ih =>
        intro n d hd
        rw [figs] at hd
        rcases List.mem_cons.mp hd with rfl | hd
        · exact ⟨n, rfl⟩
        · split at hd
          · cases hd
          · exact ih _ d hd
    generalize hfs : figs (i.natAbs + 1) i.natAbs = fs at hn
    have hall' : ∀ d ∈ fs, ∃ m, d = m % 10 := by rw [← hfs]; exact hall _ _
    have hj : ((fs.reverse.map digit).map (·.length)).sum + (fs.reverse.map digit).length * ("" : Str).length ≤ 16777216 := by
      rw [hsum _ (fun d hd => hall' d (List.mem_reverse.mp hd)), List.length_reverse, show ("" : Str).length = 0 from by decide]; omega
    refine vs_ret (r := .d (.str (numT i))) (ve_eq (ve_addS (by simp_wf) (ve_join (xs := fs.reverse.map digit) (by simp_wf) (ve_listRev (p3 := ⟨0, 0, 0, 0⟩) rfl B.list B.reversed (by simp_wf) rfl) (by simp [Sl.itsF]) hj) ?_) (by unfold numT; rw [hfs])) (.inl rfl)
    have h1 : (Txt.join "" (fs.reverse.map digit)).length = fs.length := by
      show (Builtin.Str.glued "" (fs.reverse.map digit)).length = _
      rw [size_glued, hsum _ (fun d hd => hall' d (List.mem_reverse.mp hd)), List.length_reverse, show ("" : Str).length = 0 from by decide]; omega
    have h2 : (if i < 0 then ("-" : Str) else "").length ≤ 1 := by split <;> decide
    rw [h1, hsl]; omega
  · refine ⟨true, vt_eq (vt_gtI (by simp_wf) (by simp_wf)) (decide_eq_true (by omega)), (fun _ => ?_), (fun z => nomatch z)⟩
    rw [if_neg h10] at hf
    obtain ⟨fu, rfl⟩ : ∃ fu', fu = fu' + 1 := ⟨fu - 1, by omega⟩
    refine vs_set sc_fig.nd rfl (d := .int ((m / 10 : Nat) : Int)) (ve_eq (ve_divI (i := (m : Int)) (j := 10) (by simp_wf) (by simp_wf)) (by rw [Int.natCast_ediv]; rfl)) ?_
    have hlen : fs.length ≤ 1000000 := by have := congrArg List.length hf; rw [List.length_append] at this; omega
    refine vs_append rfl rfl (d := .str (digit (m / 10 % 10))) (ve_eq (ve_strI (i := ((m / 10 % 10 : Nat) : Int)) hstr (ve_eq (ve_modI (i := ((m / 10 : Nat) : Int)) (j := 10) (by simp_wf) (by simp_wf)) (by rw [Int.natCast_emod]; rfl)) (dig _).2) rfl) (by rw [List.length_map, hsl]; omega) (vs_nil ?_)
    refine ⟨m / 10, by omega, fs ++ [m / 10 % 10], fu, by simp, by omega, ?_⟩
    rw [← hf, figs, List.append_assoc]; rfl
theorem sc_brk : FnScope ["word","marks","own","marks_left","own_left","pieces","due"] ["word","marks","own"] (defScope st_in_brackets) := ⟨rfl,rfl,rfl,by decide +kernel,rfl,by decide +kernel,by decide +kernel⟩
theorem ok_brk {f : Addr} {fd : FuncData} (F : Fun K "in_brackets" "in_brackets" st_in_brackets f fd) (B : Plain mg) (T : TabK P w K mg "FORMS" formOf) : FnOk P w K mg base CX0 1 f fd ["word", "marks", "own"] (spV K RBrk) := by
  refine F.okV sc_brk (fun as r h => ?_) (fun cdv A outer s H E as r hr h => ?_)
  · obtain ⟨x, ms, os, ps, ds, rfl, _⟩ := h; exact ⟨rfl, by simp⟩
  obtain ⟨x, ms, os, ps, ds, rfl, hx, hf, ha, rfl⟩ := h
  have hsl : sizeLine = 16777216 := sizeLine_eq
  have hds : ds.length ≤ 6 := by
    unfold formOf at hf
    repeat' split at hf
    all_goals first | (cases hf; decide) | cases hf
  show VS _ _ [.d (.str x), .d (.tuple ms), .d (.tuple os), .un, .un, .un, .un] _
  refine vs_setO sc_brk.nd rfl (ve_listT B.list (by simp_wf)) ?_
  refine vs_setO sc_brk.nd rfl (ve_listT B.list (by simp_wf)) ?_
  refine vs_setO sc_brk.nd rfl (ve_lst (vd_cons (ve_tup (vd_cons (by simp_wf) (vd_cons (ve_addS (by simp_wf) (by simp_wf) (by rw [hsl, show ("(" : Str).length = 1 from by decide]; omega)) vd_nil))) vd_nil)) ?_
  refine vs_for PassesOwn.never rfl (vi_tup (ve_tabK T (by simp_wf) hf)) (vg_name sc_brk.nd rfl)
    (fun i ρ => ∃ (ml ol qs tl : List PyData) (y : Sl), ρ = [.d (.str x), .d (.tuple ms), .d (.tuple os), .o ml, .o ol, .o qs, y] ∧ asm (ds.drop i) ml ol = some tl ∧ qs ++ tl = [.tuple [.str "text", .str ("(" ++ x)]] ++ ps ∧ qs.length = 1 + 2 * i) ⟨ms, os, _, ps, .un, rfl, ha, rfl, rfl⟩ ?_ ?_
  · rintro i d ρ hd ⟨ml, ol, qs, tl, y, rfl, h1, h2, h3⟩
    rw [List.getElem?_map] at hd
    cases hq : ds[i]? with
    | none => rw [hq] at hd; cases hd
    | some due =>
      rw [hq] at hd
      cases hd
      have hi : i < ds.length := (List.getElem?_eq_some_iff.mp hq).1
      have e1 : ds.drop i = due :: ds.drop (i + 1) := by rw [List.drop_eq_getElem_cons hi]; congr 1; exact (List.getElem?_eq_some_iff.mp hq).2
      rw [e1] at h1
      unfold asm at h1
      refine ⟨_, rfl, ?_⟩
      show VS _ _ [.d (.str x), .d (.tuple ms), .d (.tuple os), .o ml, .o ol, .o qs, .d (.str due)] _
      refine vs_append rfl rfl (by simp_wf) (by rw [hsl]; omega) ?_
      by_cases hp : due = "part"
      · rw [if_pos hp] at h1
        cases ol with
        | nil => cases h1
        | cons o ol =>
          obtain ⟨t, ht, rfl⟩ := Option.map_eq_some_iff.mp h1
          refine vs_ifT (vt_eqS (by simp_wf) (by simp_wf)) (decide_eq_true hp) ?_
          refine vs_appendV rfl rfl rfl (vm_tup2 (by simp_wf) (vm_pop0 (d := o) (xs := ol) rfl rfl)) (by rw [hsl]; simp; omega) (vs_nil (vs_nil ⟨ml, ol, _, t, _, rfl, ht, ?_, ?_⟩))
          · rw [← h2]; simp [blD]
          · simp; omega
      · rw [if_neg hp] at h1
        cases ml with
        | nil => cases h1
        | cons m ml =>
          obtain ⟨t, ht, rfl⟩ := Option.map_eq_some_iff.mp h1
          refine vs_ifF (vt_eqS (by simp_wf) (by simp_wf)) (decide_eq_false hp) ?_
          refine vs_appendV rfl rfl rfl (vm_tup2 (by simp_wf) (vm_pop0 (d := m) (xs := ml) rfl rfl)) (by rw [hsl]; simp; omega) (vs_nil (vs_nil ⟨ml, ol, _, t, _, rfl, ht, ?_, ?_⟩))
          · rw [← h2]; simp [blD]
          · simp; omega
  · rintro ρ ⟨ml, ol, qs, tl, y, rfl, h1, h2, h3⟩
    rw [List.length_map, List.drop_length] at h1
    unfold asm at h1
    cases h1
    rw [List.append_nil] at h2
    subst h2
    rw [List.length_map] at h3
    refine vs_append rfl rfl (by simp_wf) (by rw [hsl]; omega) ?_
    exact vs_retO rfl rfl (.inl rfl)
theorem sc_pok : FnScope ["kind"] ["kind"] (defScope st_pieces_of_kind) := ⟨rfl,rfl,rfl,by decide +kernel,rfl,by decide +kernel,by decide +kernel⟩
theorem ok_pok {f : Addr} {fd : FuncData} (F : Fun K "pieces_of_kind" "pieces_of_kind" st_pieces_of_kind f fd) (B : Plain mg) (DB : DefOk P w K mg base 1 "in_brackets" ["word", "marks", "own"] (spV K RBrk)) : FnOk P w K mg base CX0 2 f fd ["kind"] (spV K RPKind) := by
  refine F.okV sc_pok (fun as r h => ?_) (fun cdv A outer s H E as r hr h => ?_)
  · obtain ⟨k, rfl, _⟩ := h; exact ⟨rfl, by simp⟩
  obtain ⟨k, rfl, rfl⟩ := h
  cases k with
  | num =>
    show VS _ _ [.d (.tuple [.str "num"])] _
    exact vs_ifT (vt_eqI (ve_lenT B.len (by simp_wf)) (by simp_wf)) rfl (vs_ret (by simp_wf) (.inl rfl))
  | truth =>
    show VS _ _ [.d (.tuple [.str "truth"])] _
    exact vs_ifT (vt_eqI (ve_lenT B.len (by simp_wf)) (by simp_wf)) rfl (vs_ret (by simp_wf) (.inl rfl))
  | list k =>
    show VS _ _ [.d (.tuple [.str "list", kdD k])] _
    exact vs_ifN (vt_eqI (ve_lenT B.len (by simp_wf)) (by simp_wf)) rfl (vs_ret (ve_call DB hr (va_cons (by simp_wf) (va_cons (ve_slT (i := some 1) (j := none) (by simp_wf) (vo_some (by simp_wf)) vo_none (by simp [HT.sIx])) (va_cons (by simp_wf) va_nil))) ⟨"list", [kdD k], [], [blD, .tuple [.str "kind", kdD k]], ["kind"], rfl, by decide, rfl, rfl, rfl⟩) (.inl rfl))
  | to a b =>
    show VS _ _ [.d (.tuple [.str "to", kdD a, kdD b])] _
    exact vs_ifN (vt_eqI (ve_lenT B.len (by simp_wf)) (by simp_wf)) rfl (vs_ret (ve_call DB hr (va_cons (by simp_wf) (va_cons (ve_slT (i := some 1) (j := none) (by simp_wf) (vo_some (by simp_wf)) vo_none (by simp [HT.sIx])) (va_cons (by simp_wf) va_nil))) ⟨"to", [kdD a, kdD b], [], [blD, .tuple [.str "kind", kdD a], blD, .tuple [.str "kind", kdD b]], ["kind", "kind"], rfl, by decide, rfl, rfl, rfl⟩) (.inl rfl))
theorem sc_pop5 : FnScope ["part"] ["part"] (defScope st_pieces_of_part) := ⟨rfl,rfl,rfl,by decide +kernel,rfl,by decide +kernel,by decide +kernel⟩
theorem ok_pop5 {f : Addr} {fd : FuncData} (F : Fun K "pieces_of_part" "pieces_of_part" st_pieces_of_part f fd) (DF : DefOk P w K mg base 1 "figures_of" ["number"] (spV K RFigs)) (DB : DefOk P w K mg base 1 "in_brackets" ["word", "marks", "own"] (spV K RBrk)) : FnOk P w K mg base CX0 2 f fd ["part"] (spV K RPPart) := by
  refine F.okV sc_pop5 (fun as r h => ?_) (fun cdv A outer s H E as r hr h => ?_)
  · obtain ⟨t, rfl, _⟩ := h; exact ⟨rfl, by simp⟩
  obtain ⟨t, rfl, ok, rfl⟩ := h
  have brk : ∀ (x : Str) (ms os ps : List PyData) (ds : List Str) (r : Sl), x.length ≤ 100 → x ≠ "num" → x ≠ "truth" → x ≠ "name" → formOf x = some ds → asm ds ms os = some ps → r = .o ([.tuple [.str "text", .str ("(" ++ x)]] ++ ps ++ [.tuple [.str "text", .str ")"]]) →
      VS (cxOf CX0 P w K mg base ["part"] "pieces_of_part" (defScope st_pieces_of_part) f cdv A outer s H E).nox (defBody st_pieces_of_part) [.d (.tuple [.str x, .tuple ms, .tuple os])] fun o => o = .rt r ∨ (r = .d .none ∧ ∃ ρ, o = .nx ρ) := by
    intro x ms os ps ds r hl h1 h2 h3 hf ha hr'
    refine vs_ifN (vt_eqS (x := x) (by simp_wf) (by simp_wf)) (decide_eq_false h1) ?_
    refine vs_ifN (vt_eqS (x := x) (by simp_wf) (by simp_wf)) (decide_eq_false h2) ?_
    refine vs_ifN (vt_eqS (x := x) (by simp_wf) (by simp_wf)) (decide_eq_false h3) ?_
    exact vs_ret (ve_call DB hr (va_cons (by simp_wf) (va_cons (by simp_wf) (va_cons (by simp_wf) va_nil))) ⟨x, ms, os, ps, ds, rfl, hl, hf, ha, hr'⟩) (.inl rfl)
  cases t with
  | num i =>
    show VS _ _ [.d (.tuple [.str "num", .tuple [.int i], .tuple []])] _
    exact vs_ifT (vt_eqS (x := "num") (by simp_wf) (by simp_wf)) (by decide) (vs_ret (ve_lst (vd_cons (ve_tup (vd_cons (by simp_wf) (vd_cons (ve_call DF hr (va_cons (by simp_wf) va_nil) ⟨i, rfl, ok, rfl⟩) vd_nil))) vd_nil)) (.inl rfl))
  | truth b =>
    show VS _ _ [.d (.tuple [.str "truth", .tuple [.bool b], .tuple []])] _
    refine vs_ifN (vt_eqS (x := "truth") (by simp_wf) (by simp_wf)) (by decide) ?_
    refine vs_ifT (vt_eqS (x := "truth") (by simp_wf) (by simp_wf)) (by decide) ?_
    refine vs_ret (r := .o ((wpcs (.truth b)).map pcD)) (ve_lst (vd_cons (ve_tup (vd_cons (by simp_wf) (vd_cons (d := .str (if b then "yes" else "no")) (ve_if (k := b) (vt_bool (by simp_wf) (fun _ => rfl)) (fun z => by subst z; simp_wf) (fun z => by subst z; simp_wf)) vd_nil))) vd_nil)) (.inl rfl)
  | name x =>
    show VS _ _ [.d (.tuple [.str "name", .tuple [.str x], .tuple []])] _
    refine vs_ifN (vt_eqS (x := "name") (by simp_wf) (by simp_wf)) (by decide) ?_
    refine vs_ifN (vt_eqS (x := "name") (by simp_wf) (by simp_wf)) (by decide) ?_
    refine vs_ifT (vt_eqS (x := "name") (by simp_wf) (by simp_wf)) (by decide) ?_
    exact vs_ret (by simp_wf) (.inl rfl)
  | nil k => exact brk "nil" [kdD k] [] [blD, .tuple [.str "kind", kdD k]] ["kind"] _ (by decide) (by decide) (by decide) (by decide) rfl rfl rfl
  | lam x k b => exact brk "fun" [.str x, kdD k] [wtD b] [blD, .tuple [.str "name", .str x], blD, .tuple [.str "kind", kdD k], blD, .tuple [.str "part", wtD b]] ["name", "kind", "part"] _ (by decide) (by decide) (by decide) (by decide) rfl rfl rfl
  | add a b => exact brk "add" [] [wtD a, wtD b] [blD, .tuple [.str "part", wtD a], blD, .tuple [.str "part", wtD b]] ["part", "part"] _ (by decide) (by decide) (by decide) (by decide) rfl rfl rfl
  | less a b => exact brk "less" [] [wtD a, wtD b] [blD, .tuple [.str "part", wtD a], blD, .tuple [.str "part", wtD b]] ["part", "part"] _ (by decide) (by decide) (by decide) (by decide) rfl rfl rfl
  | front a b => exact brk "front" [] [wtD a, wtD b] [blD, .tuple [.str "part", wtD a], blD, .tuple [.str "part", wtD b]] ["part", "part"] _ (by decide) (by decide) (by decide) (by decide) rfl rfl rfl
  | call a b => exact brk "call" [] [wtD a, wtD b] [blD, .tuple [.str "part", wtD a], blD, .tuple [.str "part", wtD b]] ["part", "part"] _ (by decide) (by decide) (by decide) (by decide) rfl rfl rfl
  | cond a b c => exact brk "if" [] [wtD a, wtD b, wtD c] [blD, .tuple [.str "part", wtD a], blD, .tuple [.str "part", wtD b], blD, .tuple [.str "part", wtD c]] ["part", "part", "part"] _ (by decide) (by decide) (by decide) (by decide) rfl rfl rfl
  | case k x y a b c => exact brk "case" [kdD k, .str x, .str y] [wtD a, wtD b, wtD c] [blD, .tuple [.str "kind", kdD k], blD, .tuple [.str "part", wtD a], blD, .tuple [.str "part", wtD b], blD, .tuple [.str "name", .str x], blD, .tuple [.str "name", .str y], blD, .tuple [.str "part", wtD c]] ["kind", "part", "part", "name", "name", "part"] _ (by decide) (by decide) (by decide) (by decide) rfl rfl rfl
theorem sc_spl : FnScope ["pieces","texts","waiting","piece"] ["pieces"] (defScope st_spelled) := ⟨rfl,rfl,rfl,by decide +kernel,rfl,by decide +kernel,by decide +kernel⟩
theorem pwts_len (qs : List Pc) : qs.length ≤ pwts qs := by
  induction qs with
  | nil => simp
  | cons p r ih =>
    have : 1 ≤ p.wt := by
      cases p with
      | text s => simp [Pc.wt]
      | name s => simp [Pc.wt]
      | kind k => have := kpcs_wt k; simp only [Pc.wt]; omega
      | part t => have := wpcs_wt t; simp only [Pc.wt]; omega
    simp only [List.length_cons, pwts]; omega
theorem ok_spl {f : Addr} {fd : FuncData} (F : Fun K "spelled" "spelled" st_spelled f fd) (B : Plain mg) (DK : DefOk P w K mg base 2 "pieces_of_kind" ["kind"] (spV K RPKind)) (DP : DefOk P w K mg base 2 "pieces_of_part" ["part"] (spV K RPPart)) : FnOk P w K mg base CX0 3 f fd ["pieces"] (spV K RSpell) := by
  refine F.okV sc_spl (fun as r h => ?_) (fun cdv A outer s H E as r hr h => ?_)
  · obtain ⟨ps, rfl, _⟩ := h; exact ⟨rfl, by simp⟩
  obtain ⟨ps, rfl, ok, hw, hz, rfl⟩ := h
  have hsl : sizeLine = 16777216 := sizeLine_eq
  show VS _ _ [.l (ps.map pcD), .un, .un, .un] _
  refine vs_setO sc_spl.nd rfl (by simp_wf) ?_
  refine vs_setO sc_spl.nd rfl (ve_listRev (p3 := ⟨0, 0, 0, 0⟩) rfl B.list B.reversed (by simp_wf) rfl) ?_
  refine vs_while PassesOwn.never (fun m ρ => ∃ (ts : List Str) (qs : List Pc) (y : Sl), m = pwts qs ∧ ρ = [.l (ps.map pcD), .o (ts.map .str), .o (qs.map pcD).reverse, y] ∧ (∀ p ∈ qs, p.ok) ∧ ts ++ ptxs qs = ptxs ps ∧ pwts qs + ts.length ≤ 1000000) ⟨_, [], ps, .un, rfl, rfl, ok, rfl, by simp; omega⟩ ?_
  rintro m ρ ⟨ts, qs, y, rfl, rfl, ok', ht, hb⟩
  cases qs with
  | nil =>
    refine ⟨false, vt_eq (vt_lst (by simp_wf) rfl (fun _ => rfl)) (by rfl), (fun z => nomatch z), fun _ => ?_⟩
    rw [ptxs, List.append_nil] at ht
    subst ht
    exact vs_ret (ve_join (xs := ptxs ps) (by simp_wf) (by simp_wf) rfl (by rw [show ("" : Str).length = 0 from by decide]; omega)) (.inl rfl)
  | cons q qs =>
    have hlen := pwts_len (q :: qs)
    rw [List.length_cons] at hlen
    rw [pwts] at hb hlen
    have okq := ok' q List.mem_cons_self
    have okr : ∀ p ∈ qs, p.ok := fun p hp => ok' p (List.mem_cons_of_mem _ hp)
    refine ⟨true, vt_eq (vt_lst (by simp_wf) rfl (fun _ => rfl)) (by simp), (fun _ => ?_), (fun z => nomatch z)⟩
    rw [List.map_cons, List.reverse_cons]
    refine vs_pop sc_spl.nd rfl rfl rfl ?_
    show VS _ _ [.l (ps.map pcD), .o (ts.map .str), .o (qs.map pcD).reverse, .d (pcD q)] _
    cases q with
    | text x =>
      show VS _ _ [.l (ps.map pcD), .o (ts.map .str), .o (qs.map pcD).reverse, .d (.tuple [.str "text", .str x])] _
      refine vs_ifF (vt_eqS (x := "text") (by simp_wf) (by simp_wf)) (by decide) ?_
      refine vs_ifF (vt_eqS (x := "text") (by simp_wf) (by simp_wf)) (by decide) ?_
      refine vs_append rfl rfl (by simp_wf) (by rw [List.length_map, hsl]; omega) (vs_nil (vs_nil (vs_nil ⟨pwts qs, by rw [pwts, Pc.wt]; omega, ts ++ [x], qs, .d (.tuple [.str "text", .str x]), rfl, by simp, okr, ?_, ?_⟩)))
      · rw [← ht]; simp [ptxs, Pc.tx]
      · simp only [Pc.wt] at hb; simp; omega
    | name x =>
      show VS _ _ [.l (ps.map pcD), .o (ts.map .str), .o (qs.map pcD).reverse, .d (.tuple [.str "name", .str x])] _
      refine vs_ifF (vt_eqS (x := "name") (by simp_wf) (by simp_wf)) (by decide) ?_
      refine vs_ifF (vt_eqS (x := "name") (by simp_wf) (by simp_wf)) (by decide) ?_
      refine vs_append rfl rfl (by simp_wf) (by rw [List.length_map, hsl]; omega) (vs_nil (vs_nil (vs_nil ⟨pwts qs, by rw [pwts, Pc.wt]; omega, ts ++ [x], qs, .d (.tuple [.str "name", .str x]), rfl, by simp, okr, ?_, ?_⟩)))
      · rw [← ht]; simp [ptxs, Pc.tx]
      · simp only [Pc.wt] at hb; simp; omega
    | kind k =>
      show VS _ _ [.l (ps.map pcD), .o (ts.map .str), .o (qs.map pcD).reverse, .d (.tuple [.str "kind", kdD k])] _
      have hk := kpcs_wt k
      have hkl := pwts_len (kpcs k)
      simp only [Pc.wt] at hb hlen
      refine vs_ifF (vt_eqS (x := "kind") (by simp_wf) (by simp_wf)) (by decide) ?_
      refine vs_ifT (vt_eqS (x := "kind") (by simp_wf) (by simp_wf)) (by decide) ?_
      refine vs_extend rfl rfl (ve_listRev (p3 := ⟨0, 0, 0, 0⟩) rfl B.list B.reversed (ve_call DK hr (va_cons (by simp_wf) va_nil) ⟨k, rfl, rfl⟩) rfl) rfl (by rw [List.length_reverse, List.length_reverse, List.length_map, List.length_map, hsl]; omega) (vs_nil (vs_nil (vs_nil ⟨pwts (kpcs k ++ qs), by rw [pwts_append, pwts, Pc.wt]; omega, ts, kpcs k ++ qs, .d (.tuple [.str "kind", kdD k]), rfl, by simp, fun p hp => ?_, ?_, ?_⟩)))
      · rcases List.mem_append.mp hp with hp | hp
        · exact kpcs_ok k p hp
        · exact okr p hp
      · rw [← ht, ptxs_append, kpcs_tx]; rfl
      · rw [pwts_append]; omega
    | part t =>
      show VS _ _ [.l (ps.map pcD), .o (ts.map .str), .o (qs.map pcD).reverse, .d (.tuple [.str "part", wtD t])] _
      have hk := wpcs_wt t
      have hkl := pwts_len (wpcs t)
      simp only [Pc.wt] at hb hlen
      refine vs_ifT (vt_eqS (x := "part") (by simp_wf) (by simp_wf)) (by decide) ?_
      refine vs_extend rfl rfl (ve_listRev (p3 := ⟨0, 0, 0, 0⟩) rfl B.list B.reversed (ve_call DP hr (va_cons (by simp_wf) va_nil) ⟨t, rfl, okq, rfl⟩) rfl) rfl (by rw [List.length_reverse, List.length_reverse, List.length_map, List.length_map, hsl]; omega) (vs_nil (vs_nil ⟨pwts (wpcs t ++ qs), by rw [pwts_append, pwts, Pc.wt]; omega, ts, wpcs t ++ qs, .d (.tuple [.str "part", wtD t]), rfl, by simp, fun p hp => ?_, ?_, ?_⟩))
      · rcases List.mem_append.mp hp with hp | hp
        · exact wpcs_ok okq p hp
        · exact okr p hp
      · rw [← ht, ptxs_append, wpcs_tx]; rfl
      · rw [pwts_append]; omega
theorem sc_shw : FnScope ["expr"] ["expr"] (defScope st_shown) := ⟨rfl,rfl,rfl,by decide +kernel,rfl,by decide +kernel,by decide +kernel⟩
theorem ok_shw {f : Addr} {fd : FuncData} (F : Fun K "shown" "shown" st_shown f fd) (DS : DefOk P w K mg base 3 "spelled" ["pieces"] (spV K RSpell)) : FnOk P w K mg base CX0 4 f fd ["expr"] (spV K RShownW) := by
  refine F.okV sc_shw (fun as r h => ?_) (fun cdv A outer s H E as r hr h => ?_)
  · obtain ⟨t,rfl,_⟩ := h; exact ⟨rfl,by simp⟩
  obtain ⟨t,rfl,ok,hw,hz,rfl⟩ := h
  show VS _ _ [.d (wtD t)] _
  have e : ptxs [.part t] = wtx t := by simp [ptxs,Pc.tx]
  exact vs_ret (ve_call DS hr (va_cons (ve_lst (vd_cons (by simp_wf) vd_nil)) va_nil) ⟨[.part t],rfl,(fun p hp => by rw [List.mem_singleton] at hp; subst hp; exact ok),by simp [pwts,Pc.wt]; omega,by rw [e]; exact hz,by rw [e]; rfl⟩) (.inl rfl)
theorem sc_fmo : FnScope ["word"] ["word"] (defScope st_form_of) := ⟨rfl,rfl,rfl,by decide +kernel,rfl,by decide +kernel,by decide +kernel⟩
theorem ok_fmo {f : Addr} {fd : FuncData} (F : Fun K "form_of" "form_of" st_form_of f fd) (T : TabK P w K mg "FORMS" formOf) : FnOk P w K mg base CX0 1 f fd ["word"] (spV K RForm) := by
  refine F.okV sc_fmo (fun as r h => ?_) (fun cdv A outer s H E as r hr h => ?_)
  · obtain ⟨x,rfl,_⟩ := h; exact ⟨rfl,by simp⟩
  obtain ⟨x,rfl,rfl⟩ := h
  show VS _ _ [.d (.str x)] _
  exact vs_ret (ve_getK T (by simp_wf)) (.inl rfl)
theorem sc_cso : FnScope ["token","signs"] ["token","signs"] (defScope st_consists_of) := ⟨rfl,rfl,rfl,by decide +kernel,rfl,by decide +kernel,by decide +kernel⟩
theorem cs_cso : CompSc ["token","signs"] (defScope st_consists_of) { kind := .function,names := [(".0",.local),("sign",.local),("signs",.free)],isGenerator := false,isCoroutine := false } "sign" := ⟨rfl,by decide +kernel,by decide +kernel,rfl,by decide +kernel,by decide +kernel,by decide +kernel⟩
theorem ok_cso {f : Addr} {fd : FuncData} (F : Fun K "consists_of" "consists_of" st_consists_of f fd) (hall : mg "all" = none) : FnOk P w K mg base CX0 1 f fd ["token", "signs"] (spV K RCons) := by
  refine F.okV sc_cso (fun as r h => ?_) (fun cdv A outer s H E as r hr h => ?_)
  · obtain ⟨x, z, rfl, _⟩ := h; exact ⟨rfl, by simp⟩
  obtain ⟨x, z, rfl, hx, rfl⟩ := h
  have hsl : sizeLine = 16777216 := sizeLine_eq
  show VS _ _ [.d (.str x), .d (.str z)] _
  refine vs_ret (r := .d (.bool (consB x z))) (ve_eq (r := .d (.bool ((!decide (x = "")) && (codes x).all fun c => decide (c ∈ codes z)))) (ve_and (j := !decide (x = "")) (k := (codes x).all fun c => decide (c ∈ codes z)) (ve_neSb (by simp_wf) (by simp_wf)) fun _ => ve_one (ve_eq (ve_all (bs := (codes x).map fun c => decide (c ∈ codes z)) rfl hall (ve_comp rfl cs_cso (vi_str (by simp_wf)) (ys := (codes x).map fun c => .bool (decide (c ∈ codes z))) (by simp [sgs]) (by rw [hsl]; simp [sgs, len_codes]; omega) ?_) (by simp [Sl.its])) (by rw [List.all_map]; rfl))) rfl) (.inl rfl)
  · intro i a y ha hy cl C s0 H0 fp pins
    unfold sgs at ha
    rw [List.getElem?_map] at ha hy
    cases hc : (codes x)[i]? with
    | none => rw [hc] at ha; cases ha
    | some c =>
      rw [hc] at ha hy
      cases ha; cases hy
      exact ve_inS (ve_name rfl rfl) (ve_name rfl rfl)
theorem sc_nmo : FnScope ["figures","number","figure"] ["figures"] (defScope st_number_of) := ⟨rfl,rfl,rfl,by decide +kernel,rfl,by decide +kernel,by decide +kernel⟩
theorem ok_nmo {f : Addr} {fd : FuncData} (F : Fun K "number_of" "number_of" st_number_of f fd) (hF : ∃ t, mg "FIGURES" = some (.str Figures t)) : FnOk P w K mg base CX0 1 f fd ["figures"] (spV K RNum) := by
  refine F.okV sc_nmo (fun as r h => ?_) (fun cdv A outer s H E as r hr h => ?_)
  · obtain ⟨x, fs, rfl, _⟩ := h; exact ⟨rfl, by simp⟩
  obtain ⟨x, fs, rfl, hx, hf, rfl⟩ := h
  obtain ⟨tF, hF⟩ := hF
  show VS _ _ [.d (.str x), .un, .un] _
  refine vs_set sc_nmo.nd rfl (d := .int 0) (by simp_wf) ?_
  refine vs_for PassesOwn.never rfl (vi_str (by simp_wf)) (vg_name sc_nmo.nd rfl) (fun i ρ => ∃ y, ρ = [.d (.str x), .d (.int (valF (fs.take i))), y]) ⟨.un, rfl⟩ ?_ ?_
  · rintro i d ρ hd ⟨y, rfl⟩
    unfold sgs at hd
    rw [hx, List.map_map, List.getElem?_map] at hd
    cases hq : fs[i]? with
    | none => rw [hq] at hd; cases hd
    | some k =>
      rw [hq] at hd
      cases hd
      have hk := hf k (List.mem_of_getElem? hq)
      refine ⟨_, rfl, ?_⟩
      show VS _ _ [.d (.str x), .d (.int (valF (fs.take i))), .d (.str (sg (48 + k)))] _
      refine vs_set sc_nmo.nd rfl (d := .int (valF (fs.take (i + 1)))) (ve_eq (ve_addI (ve_mulI (by simp_wf) (by simp_wf) (.inr ⟨by decide, by decide⟩)) (ve_index (ve_glob (v := .str Figures) rfl hF ⟨tF, rfl⟩ fun _ => .str _) (by simp_wf) (index_fig hk))) ?_) (vs_nil ⟨_, rfl⟩)
      rw [List.take_add_one, hq, Option.toList, valF_app]
      simp
  · rintro ρ ⟨y, rfl⟩
    refine vs_ret (r := .d (.int (valF fs))) (ve_eq (r := .d (.int (valF (fs.take (sgs x).length)))) (by simp_wf) ?_) (.inl rfl)
    rw [List.take_of_length_le]
    have := congrArg List.length hx
    rw [List.length_map] at this
    simp [sgs]; omega
theorem sc_tks : FnScope ["line","spread"] ["line"] (defScope st_tokens) := ⟨rfl,rfl,rfl,by decide +kernel,rfl,by decide +kernel,by decide +kernel⟩
theorem cs_tks : CompSc ["line","spread"] (defScope st_tokens) { kind := .function,names := [(".0",.local),("token",.local)],isGenerator := false,isCoroutine := false } "token" := ⟨rfl,by decide +kernel,by decide +kernel,rfl,by decide +kernel,by decide +kernel,by decide +kernel⟩
theorem ok_tks {f : Addr} {fd : FuncData} (F : Fun K "tokens" "tokens" st_tokens f fd) : FnOkP P w K mg base CX0 1 f fd ["line"] (spV K RTok) := by
  refine F.okVP sc_tks (fun as r h => ?_) (fun cdv A outer s H E as r hr h => ?_)
  · obtain ⟨x,rfl,_⟩ := h; exact ⟨rfl,by simp⟩
  obtain ⟨l,rfl,hl,rfl⟩ := h
  have hsl : sizeLine = 16777216 := sizeLine_eq
  have l1 : (Txt.replace l "(" " ( ").length ≤ 3 * l.length := replace_len (c := 40) (by decide)
  have l2 : (Txt.replace (Txt.replace l "(" " ( ") ")" " ) ").length ≤ 3 * (Txt.replace l "(" " ( ").length := replace_len (c := 41) (by decide)
  have l3 := split_len (Txt.replace (Txt.replace l "(" " ( ") ")" " ) ") 32
  show VSpos _ _ [.d (.str l),.un] _
  refine vsp_set sc_tks.nd rfl (d := .str (Txt.replace (Txt.replace l "(" " ( ") ")" " ) ")) (vep_replace (vep_replace (VE.toPos (by simp_wf)) (by rw [show (" ( " : Str).length = 3 from by decide]; omega)) (by rw [show (" ) " : Str).length = 3 from by decide]; omega)) ?_
  refine vs_ret (r := .o ((toks l).map .str)) (ve_eq (ve_compC (g := fun d => d) (ok := fun d => match d with | .str y => !decide (y = "") | _ => true) rfl cs_tks (vi_new (ve_split (by simp_wf) (by simp_wf) (by decide) (by rw [hsl]; omega) (by rw [hsl]; exact Nat.le_trans l3 (by omega)) ?_)) (by rw [List.length_map,hsl]; exact Nat.le_trans l3 (by omega)) ?_ ?_) ?_) (.inl rfl)
  · rw [length_partsBetween,hsl]
    have := StrLaws.occ_length_le (Txt.replace (Txt.replace l "(" " ( ") ")" " ) ") " " 0 (Txt.replace (Txt.replace l "(" " ( ") ")" " ) ").length ((Txt.replace (Txt.replace l "(" " ( ") ")" " ) ").length + 1)
    omega
  · intro a ha _ cl C s0 H0 fp pins
    exact ve_name rfl rfl
  · intro a ha cl C s0 H0 fp pins
    obtain ⟨y,_,rfl⟩ := List.mem_map.mp ha
    exact vt_neS (ve_name rfl rfl) ve_str
  · unfold toks
    rw [List.map_id',List.filter_map]
    congr 2
    apply List.filter_congr
    intro x hx
    simp
theorem sc_asd : FnScope ["due","found"] ["due","found"] (defScope st_as_due) := ⟨rfl,rfl,rfl,by decide +kernel,rfl,by decide +kernel,by decide +kernel⟩
theorem ok_asdX {f C : Addr} {fd : FuncData} (F : Fun K "as_due" "as_due" st_as_due f fd) (cx : ExcC K mg "NoLine" C) : FnOk P w K mg base (CX1 P w base) 1 f fd ["due", "found"] (spVX K (RAsDueX C)) := by
  refine F.okVX sc_asd (fun as o h => ?_) (fun cdv A outer s H E as o hr h hE => ?_)
  · obtain ⟨due, g, rfl, _⟩ := h; exact ⟨rfl, by simp⟩
  obtain ⟨due, g, rfl, hdue, ho⟩ := h
  cases g with
  | word x =>
    have hE := hE C ho
    show VX _ _ _ [.d (.str due), .d (.tuple [.str "word", .str x])] _
    refine vx_ifN (vt_eqS (x := due) (y := "word") (by simp_wf) (by simp_wf)) (by rcases hdue with rfl | rfl | rfl <;> decide) ?_
    by_cases hn : due = "name"
    · refine vx_ifN (k := false) (vt_w (vw_andT (vt_eq (vt_eqS (x := due) (by simp_wf) (by simp_wf)) (decide_eq_true hn)) (vw_andF (vt_eq (vt_eqS (x := "word") (by simp_wf) (by simp_wf)) (by decide))))) rfl ?_
      exact vx_raise raising cx hE
    · refine vx_ifN (k := false) (vt_w (vw_andF (vt_eq (vt_eqS (x := due) (by simp_wf) (by simp_wf)) (decide_eq_false hn)))) rfl ?_
      exact vx_raise raising cx hE
  | kind k =>
    show VX _ _ _ [.d (.str due), .d (.tuple [.str "kind", kdD k])] _
    by_cases hk : due = "kind"
    · subst hk
      exact vx_ifT (vt_eqS (x := "kind") (by simp_wf) (by simp_wf)) (by decide) (vx_ret (by simp_wf) ⟨_, ho, .inl rfl⟩)
    · have hE := hE C (by rw [ho, asDueD, if_neg hk]; rfl)
      refine vx_ifN (vt_eqS (x := due) (y := "kind") (by simp_wf) (by simp_wf)) (decide_eq_false hk) ?_
      by_cases hn : due = "name"
      · refine vx_ifN (k := false) (vt_w (vw_andT (vt_eq (vt_eqS (x := due) (by simp_wf) (by simp_wf)) (decide_eq_true hn)) (vw_andF (vt_eq (vt_eqS (x := "kind") (by simp_wf) (by simp_wf)) (by decide))))) rfl ?_
        exact vx_raise raising cx hE
      · refine vx_ifN (k := false) (vt_w (vw_andF (vt_eq (vt_eqS (x := due) (by simp_wf) (by simp_wf)) (decide_eq_false hn)))) rfl ?_
        exact vx_raise raising cx hE
  | part t =>
    rcases hdue with rfl | rfl | rfl
    · rw [show asDueD "part" (.part t) = some (wtD t) from by cases t <;> rfl] at ho
      show VX _ _ _ [.d (.str "part"), .d (.tuple [.str "part", wtD t])] _
      exact vx_ifT (vt_eqS (x := "part") (by simp_wf) (by simp_wf)) (by decide) (vx_ret (by simp_wf) ⟨_, ho, .inl rfl⟩)
    · rw [show asDueD "kind" (.part t) = none from by cases t <;> rfl] at ho
      show VX _ _ _ [.d (.str "kind"), .d (.tuple [.str "part", wtD t])] _
      refine vx_ifN (vt_eqS (x := "kind") (by simp_wf) (by simp_wf)) (by decide) ?_
      refine vx_ifN (k := false) (vt_w (vw_andF (vt_eq (vt_eqS (x := "kind") (by simp_wf) (by simp_wf)) (by decide)))) rfl ?_
      exact vx_raise raising cx (hE C ho)
    · by_cases hn : ∃ x, t = .name x
      · obtain ⟨x, rfl⟩ := hn
        rw [show asDueD "name" (.part (.name x)) = some (.str x) from rfl] at ho
        show VX _ _ _ [.d (.str "name"), .d (.tuple [.str "part", .tuple [.str "name", .tuple [.str x], .tuple []]])] _
        refine vx_ifN (vt_eqS (x := "name") (by simp_wf) (by simp_wf)) (by decide) ?_
        exact vx_ifT (k := true) (vt_w (vw_andT (vt_eq (vt_eqS (x := "name") (by simp_wf) (by simp_wf)) (by decide)) (vw_andT (vt_eq (vt_eqS (x := "part") (by simp_wf) (by simp_wf)) (by decide)) (vw_and1 (vt_eq (vt_eqS (x := "name") (by simp_wf) (by simp_wf)) (by decide)))))) rfl (vx_ret (by simp_wf) ⟨_, ho, .inl rfl⟩)
      · have hw : t.word ≠ "name" ∧ asDueD "name" (.part t) = none := by
          cases t with
          | name x => exact absurd ⟨x, rfl⟩ hn
          | _ => exact ⟨by rw [WT.word]; decide, rfl⟩
        rw [hw.2] at ho
        have he : wtD t = .tuple [.str t.word, .tuple t.marks, .tuple (t.own.map wtD)] := by cases t <;> rfl
        show VX _ _ _ [.d (.str "name"), .d (.tuple [.str "part", wtD t])] _
        rw [he]
        refine vx_ifN (vt_eqS (x := "name") (by simp_wf) (by simp_wf)) (by decide) ?_
        refine vx_ifN (k := false) (vt_w (vw_andT (vt_eq (vt_eqS (x := "name") (by simp_wf) (by simp_wf)) (by decide)) (vw_andT (vt_eq (vt_eqS (x := "part") (by simp_wf) (by simp_wf)) (by decide)) (vw_and1 (vt_eq (vt_eqS (x := t.word) (by simp_wf) (by simp_wf)) (decide_eq_false hw.1)))))) rfl ?_
        exact vx_raise raising cx (hE C ho)
theorem sc_fwd : FnScope ["token"] ["token"] (defScope st_from_word) := ⟨rfl,rfl,rfl,by decide +kernel,rfl,by decide +kernel,by decide +kernel⟩
theorem ok_fwdX {f C : Addr} {fd : FuncData} (F : Fun K "from_word" "from_word" st_from_word f fd) (cx : ExcC K mg "NoLine" C) (DF : DefOk P w K mg base 1 "form_of" ["word"] (spV K RForm)) (DC : DefOk P w K mg base 1 "consists_of" ["token", "signs"] (spV K RCons)) (DN : DefOk P w K mg base 1 "number_of" ["figures"] (spV K RNum))
    (hL : ∃ t, mg "LETTERS" = some (.str Letters t)) (hF : ∃ t, mg "FIGURES" = some (.str Figures t)) : FnOk P w K mg base (CX1 P w base) 2 f fd ["token"] (spVX K (RFromWordX C)) := by
  refine F.okVX sc_fwd (fun as o h => ?_) (fun cdv A outer s H E as o hr h hE => ?_)
  · obtain ⟨x, rfl, _⟩ := h; exact ⟨rfl, by simp⟩
  obtain ⟨x, rfl, hne, hx, ho⟩ := h
  obtain ⟨tL, hL⟩ := hL
  obtain ⟨tF, hF⟩ := hF
  have hsl : sizeLine = 16777216 := sizeLine_eq
  have h1l := str_pos hne
  show VX _ _ _ [.d (.str x)] _
  by_cases n1 : x = "num"
  · subst n1; exact vx_ifT (k := true) (vt_w (vw_orT (vt_eq (vt_eqS (x := "num") (by simp_wf) (by simp_wf)) (by decide)))) rfl (vx_ret (by simp_wf) ⟨_, ho, .inl rfl⟩)
  by_cases n2 : x = "truth"
  · subst n2; exact vx_ifT (k := true) (vt_w (vw_orF (vt_eq (vt_eqS (x := "truth") (by simp_wf) (by simp_wf)) (by decide)) (vw_or1 (vt_eq (vt_eqS (x := "truth") (by simp_wf) (by simp_wf)) (by decide))))) rfl (vx_ret (by simp_wf) ⟨_, ho, .inl rfl⟩)
  refine vx_ifN (k := false) (vt_w (vw_orF (vt_eq (vt_eqS (x := x) (by simp_wf) (by simp_wf)) (decide_eq_false n1)) (vw_or1 (vt_eq (vt_eqS (x := x) (by simp_wf) (by simp_wf)) (decide_eq_false n2))))) rfl ?_
  by_cases n3 : x = "yes"
  · subst n3
    refine vx_ifT (k := true) (vt_w (vw_orT (vt_eq (vt_eqS (x := "yes") (by simp_wf) (by simp_wf)) (by decide)))) rfl ?_
    exact vx_ret (ve_tup (vd_cons (by simp_wf) (vd_cons (ve_tup (vd_cons (by simp_wf) (vd_cons (ve_tup (vd_cons (d := .bool true) (ve_eq (ve_eqSb (x := "yes") (by simp_wf) (by simp_wf)) (by rfl)) vd_nil)) (vd_cons (by simp_wf) vd_nil)))) vd_nil))) ⟨_, ho, .inl rfl⟩
  by_cases n4 : x = "no"
  · subst n4
    refine vx_ifT (k := true) (vt_w (vw_orF (vt_eq (vt_eqS (x := "no") (by simp_wf) (by simp_wf)) (by decide)) (vw_or1 (vt_eq (vt_eqS (x := "no") (by simp_wf) (by simp_wf)) (by decide))))) rfl ?_
    exact vx_ret (ve_tup (vd_cons (by simp_wf) (vd_cons (ve_tup (vd_cons (by simp_wf) (vd_cons (ve_tup (vd_cons (d := .bool false) (ve_eq (ve_eqSb (x := "no") (by simp_wf) (by simp_wf)) (by rfl)) vd_nil)) (vd_cons (by simp_wf) vd_nil)))) vd_nil))) ⟨_, ho, .inl rfl⟩
  refine vx_ifN (k := false) (vt_w (vw_orF (vt_eq (vt_eqS (x := x) (by simp_wf) (by simp_wf)) (decide_eq_false n3)) (vw_or1 (vt_eq (vt_eqS (x := x) (by simp_wf) (by simp_wf)) (decide_eq_false n4))))) rfl ?_
  have hw : wordR x = (if (formOf x).isSome then some (.word x) else if consB x Letters = true then some (.part (.name x)) else if consB x Figures = true then some (.part (.num (valF (figC x) : Nat)))
      else if (codes x).head? = some 45 ∧ consB (tailS x) Figures = true then some (.part (.num (-(valF (figC (tailS x)) : Nat)))) else none) := by
    unfold wordR
    rw [if_neg n1, if_neg n2, if_neg n3, if_neg n4]
  rw [hw] at ho
  cases hf : formOf x with
  | some ds =>
    rw [hf] at ho
    refine vx_ifT (k := true) (vt_eq (vt_notN (ve_call DF hr (va_cons (by simp_wf) va_nil) ⟨x, rfl, rfl⟩)) (by rw [hf]; rfl)) rfl ?_
    exact vx_ret (by simp_wf) ⟨_, ho, .inl rfl⟩
  | none =>
    rw [hf, if_neg (by simp)] at ho
    refine vx_ifN (k := false) (vt_eq (vt_notN (ve_call DF hr (va_cons (by simp_wf) va_nil) ⟨x, rfl, rfl⟩)) (by rw [hf]; rfl)) rfl ?_
    by_cases hl : consB x Letters = true
    · rw [if_pos hl] at ho
      refine vx_ifT (k := true) (vt_eq (vt_bool (ve_call DC hr (va_cons (by simp_wf) (va_cons (ve_glob (v := .str Letters) rfl hL ⟨tL, rfl⟩ fun _ => .str _) va_nil)) ⟨x, Letters, rfl, hx, rfl⟩)) hl) rfl ?_
      exact vx_ret (by simp_wf) ⟨_, ho, .inl rfl⟩
    rw [if_neg hl] at ho
    refine vx_ifN (k := false) (vt_eq (vt_bool (ve_call DC hr (va_cons (by simp_wf) (va_cons (ve_glob (v := .str Letters) rfl hL ⟨tL, rfl⟩ fun _ => .str _) va_nil)) ⟨x, Letters, rfl, hx, rfl⟩)) (by simpa using hl)) rfl ?_
    by_cases hg : consB x Figures = true
    · rw [if_pos hg] at ho
      obtain ⟨c1, c2, c3⟩ := figC_ok hg
      refine vx_ifT (k := true) (vt_eq (vt_bool (ve_call DC hr (va_cons (by simp_wf) (va_cons (ve_glob (v := .str Figures) rfl hF ⟨tF, rfl⟩ fun _ => .str _) va_nil)) ⟨x, Figures, rfl, hx, rfl⟩)) hg) rfl ?_
      exact vx_ret (ve_tup (vd_cons (by simp_wf) (vd_cons (ve_tup (vd_cons (by simp_wf) (vd_cons (ve_tup (vd_cons (ve_call DN hr (va_cons (by simp_wf) va_nil) ⟨x, figC x, rfl, c1, c2, rfl⟩) vd_nil)) (vd_cons (by simp_wf) vd_nil)))) vd_nil))) ⟨_, ho, .inl rfl⟩
    rw [if_neg hg] at ho
    refine vx_ifN (k := false) (vt_eq (vt_bool (ve_call DC hr (va_cons (by simp_wf) (va_cons (ve_glob (v := .str Figures) rfl hF ⟨tF, rfl⟩ fun _ => .str _) va_nil)) ⟨x, Figures, rfl, hx, rfl⟩)) (by simpa using hg)) rfl ?_
    obtain ⟨c0, r0, hc0⟩ : ∃ c r, codes x = c :: r := by
      cases q : codes x with
      | nil => rw [← len_codes, q] at h1l; simp at h1l
      | cons c r => exact ⟨c, r, rfl⟩
    have ht := tailS_codes h1l
    have htl : (tailS x).length ≤ 10000000 := by rw [← len_codes, ht, List.length_drop, len_codes]; omega
    have hix : ∃ k, atI x.cps.toList ((0 : Nat) : Int) = some k ∧ sg c0 = ⟨#[k]⟩ := ⟨c0, by show atI (codes x) ((0 : Nat) : Int) = some c0; rw [hc0]; exact atI_nat rfl, rfl⟩
    by_cases hm : c0 = 45
    · subst hm
      by_cases hg2 : consB (tailS x) Figures = true
      · rw [if_pos ⟨by rw [hc0]; rfl, hg2⟩] at ho
        obtain ⟨c1, c2, c3⟩ := figC_ok hg2
        refine vx_ifT (k := true) (vt_w (vw_andT (vt_eq (vt_eqS (x := sg 45) (ve_ixS (z := x) (i := ((0 : Nat) : Int)) (by simp_wf) (by simp_wf) (by rw [hsl]; omega) hix) (by simp_wf)) (by decide)) (vw_and1 (vt_eq (vt_bool (ve_call DC hr (va_cons (ve_sl1 (z := x) (by simp_wf) (by simp_wf) (by rw [hsl]; omega)) (va_cons (ve_glob (v := .str Figures) rfl hF ⟨tF, rfl⟩ fun _ => .str _) va_nil)) ⟨tailS x, Figures, rfl, htl, rfl⟩)) hg2)))) rfl ?_
        exact vx_ret (ve_tup (vd_cons (by simp_wf) (vd_cons (ve_tup (vd_cons (by simp_wf) (vd_cons (ve_tup (vd_cons (ve_neg (ve_call DN hr (va_cons (ve_sl1 (z := x) (by simp_wf) (by simp_wf) (by rw [hsl]; omega)) va_nil) ⟨tailS x, figC (tailS x), rfl, c1, c2, rfl⟩)) vd_nil)) (vd_cons (by simp_wf) vd_nil)))) vd_nil))) ⟨_, ho, .inl rfl⟩
      · rw [if_neg (fun z => hg2 z.2)] at ho
        refine vx_ifN (k := false) (vt_w (vw_andT (vt_eq (vt_eqS (x := sg 45) (ve_ixS (z := x) (i := ((0 : Nat) : Int)) (by simp_wf) (by simp_wf) (by rw [hsl]; omega) hix) (by simp_wf)) (by decide)) (vw_and1 (vt_eq (vt_bool (ve_call DC hr (va_cons (ve_sl1 (z := x) (by simp_wf) (by simp_wf) (by rw [hsl]; omega)) (va_cons (ve_glob (v := .str Figures) rfl hF ⟨tF, rfl⟩ fun _ => .str _) va_nil)) ⟨tailS x, Figures, rfl, htl, rfl⟩)) (by simpa using hg2))))) rfl ?_
        exact vx_raise raising cx (hE C ho)
    · rw [if_neg (fun z => by rw [hc0] at z; exact hm (Option.some.inj z.1))] at ho
      refine vx_ifN (k := false) (vt_w (vw_andF (vt_eq (vt_eqS (x := sg c0) (ve_ixS (z := x) (i := ((0 : Nat) : Int)) (by simp_wf) (by simp_wf) (by rw [hsl]; omega) hix) (by simp_wf)) (decide_eq_false fun e => hm (by have := congrArg codes e; rw [codes_sg, show codes "-" = [45] from by decide] at this; injection this))))) rfl ?_
      exact vx_raise raising cx (hE C ho)
theorem sc_fbr : FnScope ["group","word","form","marks","own","due","found"] ["group"] (defScope st_from_brackets) := ⟨rfl,rfl,rfl,by decide +kernel,rfl,by decide +kernel,by decide +kernel⟩
theorem ok_fbrX {f C : Addr} {fd : FuncData} (F : Fun K "from_brackets" "from_brackets" st_from_brackets f fd) (cx : ExcC K mg "NoLine" C) (B : Plain mg) (htup : mg "tuple" = none) (hzip : mg "zip" = none) (DF : DefOk P w K mg base 1 "form_of" ["word"] (spV K RForm)) (DA : DefX P w K mg base 1 "as_due" ["due", "found"] (spVX K (RAsDueX C))) : FnOk P w K mg base (CX1 P w base) 2 f fd ["group"] (spVX K (RFromBrkX C)) := by
  refine F.okVX sc_fbr (fun as o h => ?_) (fun cdv A outer s H E as o hr h hE => ?_)
  · obtain ⟨g, rfl, _⟩ := h; exact ⟨rfl, by simp⟩
  obtain ⟨g, rfl, hgl, hwd, ho⟩ := h
  have hsl : sizeLine = 16777216 := sizeLine_eq
  have kφ : ∀ (H0 : Hp) (σ σ' : L2.St), H0 = H → H0 = H := fun _ _ _ z => z
  cases g with
  | nil =>
    show VX _ _ _ [.l [], .un, .un, .un, .un, .un, .un] _
    refine vx_ifT (k := true) (vt_w (vw_orT (vt_eq (vt_not (vt_lst (by simp_wf) rfl)) rfl))) rfl ?_
    exact vx_raise raising cx (hE C ho)
  | cons f0 fs =>
    by_cases hw : ∃ x, f0 = .word x
    case neg =>
      have hn : brkR (f0 :: fs) = none := no_brk fun f h => by cases h <;> exact hw ⟨_, rfl⟩
      rw [hn] at ho
      have hE := hE C ho
      cases f0 with
      | word x => exact absurd ⟨x, rfl⟩ hw
      | kind k =>
        show VX _ _ _ [.l (.tuple [.str "kind", kdD k] :: fs.map fdD), .un, .un, .un, .un, .un, .un] _
        refine vx_ifT (k := true) (vt_w (vw_orF (vt_eq (vt_not (vt_lst (by simp_wf) rfl)) rfl) (vw_or1 (vt_eq (vt_neS (x := "kind") (ve_ixT (xs := [.str "kind", kdD k]) (ve_ixL (d := .tuple [.str "kind", kdD k]) (xs := .tuple [.str "kind", kdD k] :: fs.map fdD) (i := ((0 : Nat) : Int)) (by simp_wf) (by simp_wf) rfl (atI_nat rfl)) (by simp_wf) rfl) (by simp_wf)) (by decide))))) rfl ?_
        exact vx_raise raising cx hE
      | part t =>
        show VX _ _ _ [.l (.tuple [.str "part", wtD t] :: fs.map fdD), .un, .un, .un, .un, .un, .un] _
        refine vx_ifT (k := true) (vt_w (vw_orF (vt_eq (vt_not (vt_lst (by simp_wf) rfl)) rfl) (vw_or1 (vt_eq (vt_neS (x := "part") (ve_ixT (xs := [.str "part", wtD t]) (ve_ixL (d := .tuple [.str "part", wtD t]) (xs := .tuple [.str "part", wtD t] :: fs.map fdD) (i := ((0 : Nat) : Int)) (by simp_wf) (by simp_wf) rfl (atI_nat rfl)) (by simp_wf) rfl) (by simp_wf)) (by decide))))) rfl ?_
        exact vx_raise raising cx hE
    obtain ⟨wd, rfl⟩ := hw
    obtain ⟨ds, hf⟩ : ∃ ds, formOf wd = some ds := by
      have := hwd wd (by simp)
      cases q : formOf wd with
      | none => rw [q] at this; cases this
      | some ds => exact ⟨ds, rfl⟩
    have h6 : ds.length ≤ 6 := by
      unfold formOf at hf
      repeat' split at hf
      all_goals first | (cases hf; decide) | cases hf
    have hdd : ∀ due ∈ ds, due = "part" ∨ due = "kind" ∨ due = "name" := by
      unfold formOf at hf
      repeat' split at hf
      all_goals first | (cases hf; decide) | cases hf
    show VX _ _ _ [.l (.tuple [.str "word", .str wd] :: fs.map fdD), .un, .un, .un, .un, .un, .un] _
    refine vx_ifN (k := false) (vt_w (vw_orF (vt_eq (vt_not (vt_lst (by simp_wf) rfl)) rfl) (vw_or1 (vt_eq (vt_neS (x := "word") (ve_ixT (xs := [.str "word", .str wd]) (ve_ixL (d := .tuple [.str "word", .str wd]) (xs := .tuple [.str "word", .str wd] :: fs.map fdD) (i := ((0 : Nat) : Int)) (by simp_wf) (by simp_wf) rfl (atI_nat rfl)) (by simp_wf) rfl) (by simp_wf)) (by decide))))) rfl ?_
    refine vx_set sc_fbr.nd rfl (fun _ _ _ z => z) (d := .str wd) (ve_ixT (xs := [.str "word", .str wd]) (ve_ixL (d := .tuple [.str "word", .str wd]) (xs := .tuple [.str "word", .str wd] :: fs.map fdD) (i := ((0 : Nat) : Int)) (by simp_wf) (by simp_wf) rfl (atI_nat rfl)) (by simp_wf) rfl) ?_
    refine vx_set sc_fbr.nd rfl (fun _ _ _ z => z) (d := .tuple (ds.map .str)) (ve_eq (ve_call DF hr (va_cons (by simp_wf) va_nil) ⟨wd, rfl, rfl⟩) (by rw [hf]; rfl)) ?_
    by_cases hl : ds.length = fs.length
    case neg =>
      have hn : brkR (.word wd :: fs) = none := no_brk fun f h => by
        obtain ⟨x, ds', fs', ms, os, e, e1, e2, _⟩ := brk_coll h
        injection e with e3 e4
        injection e3 with e3
        subst e3 e4
        rw [hf] at e1
        cases e1
        exact hl e2
      rw [hn] at ho
      refine vx_ifT (k := true) (vt_eq (vt_neI (ve_lenL B.len (by simp_wf) rfl) (ve_addI (ve_lenT B.len (by simp_wf)) (by simp_wf))) (by simp; omega)) rfl ?_
      exact vx_raise raising cx (hE C ho)
    refine vx_ifN (k := false) (vt_eq (vt_neI (ve_lenL B.len (by simp_wf) rfl) (ve_addI (ve_lenT B.len (by simp_wf)) (by simp_wf))) (by simp [hl])) rfl ?_
    refine vx_setO sc_fbr.nd rfl (fun _ _ _ z => z) (by simp_wf) ?_
    refine vx_setO sc_fbr.nd rfl (fun _ _ _ z => z) (by simp_wf) ?_
    have hcut : cutD (.tuple [.str "word", .str wd] :: fs.map fdD) (some 1) none = fs.map fdD := by
      unfold cutD
      rw [show HT.sIx (PyData.tuple [.str "word", .str wd] :: fs.map fdD).length 0 (some 1) = 1 from by simp [HT.sIx], show HT.sIx (PyData.tuple [.str "word", .str wd] :: fs.map fdD).length (PyData.tuple [.str "word", .str wd] :: fs.map fdD).length none = fs.length + 1 from by simp [HT.sIx]]
      rw [List.drop_one, List.tail_cons]
      exact List.take_of_length_le (by simp)
    have hlen : (pairsD (ds.map .str) (fs.map fdD)).length = ds.length := by simp [pairsD, hl]
    have hat : ∀ {i : Nat} {d : PyData} (hi : i < ds.length) (hi2 : i < fs.length), (pairsD (ds.map .str) (fs.map fdD))[i]? = some d → d = .tuple [.str ds[i], fdD fs[i]] := fun {i d} hi hi2 hd => by
      unfold pairsD at hd
      rw [List.getElem?_map, List.getElem?_eq_getElem (by simp; omega)] at hd
      simp at hd
      exact hd.symm
    cases hc : coll ds fs with
    | some p =>
      obtain ⟨f', hb⟩ := coll_F hf hc
      rw [brkF_R hb] at ho
      obtain ⟨wd', ds', fs', MS, OS, e, e1, e2, hc', hd, _⟩ := brk_coll hb
      injection e with e3 e4
      injection e3 with e3
      subst e3 e4
      rw [hf] at e1
      cases e1
      refine vx_for2 PassesOwn.leaving rfl kφ (vi_zip (xs := ds.map .str) (ys := fs.map fdD) hzip (by simp_wf) (ve_eq (ve_slL (i := some 1) (j := none) (by simp_wf) (vo_some (by simp_wf)) vo_none rfl) (by rw [hcut])) (by simp [hl])) (vg_pair sc_fbr.nd rfl rfl rfl)
        (fun i ρ => ∃ (ms os : List PyData) (tl : List PyData × List PyData) (y z : Sl), ρ = [.l (.tuple [.str "word", .str wd] :: fs.map fdD), .d (.str wd), .d (.tuple (ds.map .str)), .o ms, .o os, y, z] ∧ coll (ds.drop i) (fs.drop i) = some tl ∧ ms ++ tl.1 = MS ∧ os ++ tl.2 = OS ∧ ms.length ≤ i ∧ os.length ≤ i) ⟨[], [], (MS, OS), .un, .un, rfl, hc', rfl, rfl, Nat.le_refl _, Nat.le_refl _⟩ ?_ ?_
      · rintro i d ρ hd' ⟨ms, os, tl, y, z, rfl, h1, h2, h3, h4, h5⟩
        have hi : i < ds.length := by have := (List.getElem?_eq_some_iff.mp hd').1; omega
        have hi2 : i < fs.length := by omega
        obtain ⟨d1, tl1, a1, a2, a3⟩ := coll_step hi hi2 h1
        obtain rfl := hat hi hi2 hd'
        refine ⟨_, rfl, ?_⟩
        have hdu := hdd ds[i] (List.getElem_mem hi)
        have noE : ∀ C', (Sum.inl (.d d1) : Sl ⊕ Addr) = .inr C' → ∀ H0 (σ : L2.St), H0 = H → ∀ H', Same H0 H' → E (.ref C') none H' := fun _ z => nomatch z
        show VX _ _ _ [.l (.tuple [.str "word", .str wd] :: fs.map fdD), .d (.str wd), .d (.tuple (ds.map .str)), .o ms, .o os, .d (.str ds[i]), .d (fdD fs[i])] _
        by_cases hp : ds[i] = "part"
        · rw [if_pos hp] at a3
          subst a3
          refine vx_ifT (vt_eqS (x := ds[i]) (by simp_wf) (by simp_wf)) (decide_eq_true hp) ?_
          exact vx_appendX (o := .inl (.d d1)) rfl rfl (vex_call raising DA hr (va_cons (by simp_wf) (va_cons (by simp_wf) va_nil)) ⟨ds[i], fs[i], rfl, hdu, by rw [a1]; rfl⟩ noE) (fun r z => by cases z; exact ⟨d1, rfl⟩) (by rw [hsl]; omega) (fun d2 z => by cases z; exact vx_nil (vx_nil ⟨_, _, tl1, _, _, rfl, a2, h2, by rw [← h3]; simp, by omega, by simp; omega⟩))
        · rw [if_neg hp] at a3
          subst a3
          refine vx_ifF (vt_eqS (x := ds[i]) (by simp_wf) (by simp_wf)) (decide_eq_false hp) ?_
          exact vx_appendX (o := .inl (.d d1)) rfl rfl (vex_call raising DA hr (va_cons (by simp_wf) (va_cons (by simp_wf) va_nil)) ⟨ds[i], fs[i], rfl, hdu, by rw [a1]; rfl⟩ noE) (fun r z => by cases z; exact ⟨d1, rfl⟩) (by rw [hsl]; omega) (fun d2 z => by cases z; exact vx_nil (vx_nil ⟨_, _, tl1, _, _, rfl, a2, by rw [← h2]; simp, h3, by simp; omega, by omega⟩))
      · rintro ρ ⟨ms, os, tl, y, z, rfl, h1, h2, h3, h4, h5⟩
        rw [hlen] at h4 h5
        rw [hlen, List.drop_length, hl, List.drop_length] at h1
        cases h1
        rw [List.append_nil] at h2 h3
        subst h2 h3
        replace ho : o = .inl (.d (fdD f')) := ho
        rw [hd] at ho
        by_cases hw : wd = "list" ∨ wd = "to"
        · rw [if_pos hw] at ho
          refine vx_ifT (k := decide (wd = "list") || decide (wd = "to")) (vt_w (vw_or (vt_eqS (x := wd) (by simp_wf) (by simp_wf)) fun _ => vw_or1 (vt_eqS (x := wd) (by simp_wf) (by simp_wf)))) (by simpa using hw) ?_
          exact vx_ret (ve_tup (vd_cons (by simp_wf) (vd_cons (ve_addT (ve_tup (vd_cons (by simp_wf) vd_nil)) (ve_tupL htup (by simp_wf) rfl) (by rw [hsl]; simp; omega)) vd_nil))) ⟨_, ho, .inl rfl⟩
        · rw [if_neg hw] at ho
          refine vx_ifN (k := decide (wd = "list") || decide (wd = "to")) (vt_w (vw_or (vt_eqS (x := wd) (by simp_wf) (by simp_wf)) fun _ => vw_or1 (vt_eqS (x := wd) (by simp_wf) (by simp_wf)))) (by simpa using hw) ?_
          exact vx_ret (ve_tup (vd_cons (by simp_wf) (vd_cons (ve_tup (vd_cons (by simp_wf) (vd_cons (ve_tupL htup (by simp_wf) rfl) (vd_cons (ve_tupL htup (by simp_wf) rfl) vd_nil)))) vd_nil))) ⟨_, ho, .inl rfl⟩
    | none =>
      have hn : brkR (.word wd :: fs) = none := no_brk fun f h => by
        obtain ⟨x, ds', fs', ms, os, e, e1, e2, e5, _⟩ := brk_coll h
        injection e with e3 e4
        injection e3 with e3
        subst e3 e4
        rw [hf] at e1
        cases e1
        rw [hc] at e5; cases e5
      rw [hn] at ho
      have hE := hE C ho
      refine vx_for2 PassesOwn.leaving rfl kφ (vi_zip (xs := ds.map .str) (ys := fs.map fdD) hzip (by simp_wf) (ve_eq (ve_slL (i := some 1) (j := none) (by simp_wf) (vo_some (by simp_wf)) vo_none rfl) (by rw [hcut])) (by simp [hl])) (vg_pair sc_fbr.nd rfl rfl rfl)
        (fun i ρ => ∃ (ms os : List PyData) (y z : Sl), ρ = [.l (.tuple [.str "word", .str wd] :: fs.map fdD), .d (.str wd), .d (.tuple (ds.map .str)), .o ms, .o os, y, z] ∧ ms.length ≤ i ∧ os.length ≤ i ∧ ∀ (j : Nat) due f, j < i → ds[j]? = some due → fs[j]? = some f → asDueD due f ≠ none) ⟨[], [], .un, .un, rfl, Nat.le_refl _, Nat.le_refl _, fun j _ _ z => absurd z (Nat.not_lt_zero j)⟩ ?_ ?_
      · rintro i d ρ hd' ⟨ms, os, y, z, rfl, h4, h5, hs⟩
        have hi : i < ds.length := by have := (List.getElem?_eq_some_iff.mp hd').1; omega
        have hi2 : i < fs.length := by omega
        obtain rfl := hat hi hi2 hd'
        refine ⟨_, rfl, ?_⟩
        have hdu := hdd ds[i] (List.getElem_mem hi)
        have more : ∀ d2, outX C (asDueD ds[i] fs[i]) = .inl (.d d2) → ∀ (j : Nat) due f, j < i + 1 → ds[j]? = some due → fs[j]? = some f → asDueD due f ≠ none := fun d2 z j due f hj h1 h2 => by
          by_cases e : j = i
          · subst e
            rw [List.getElem?_eq_getElem hi] at h1
            rw [List.getElem?_eq_getElem hi2] at h2
            cases h1; cases h2
            intro q
            rw [q] at z; cases z
          · exact hs j due f (by omega) h1 h2
        have hEx : ∀ C', outX C (asDueD ds[i] fs[i]) = .inr C' → ∀ H0 (σ : L2.St), H0 = H → ∀ H', Same H0 H' → E (.ref C') none H' := fun C' z => by
          cases q : asDueD ds[i] fs[i] with
          | none => rw [q] at z; cases z; exact hE
          | some d => rw [q] at z; cases z
        have hR : ∀ r, outX C (asDueD ds[i] fs[i]) = .inl r → ∃ d, r = .d d := fun r z => by
          cases q : asDueD ds[i] fs[i] with
          | none => rw [q] at z; cases z
          | some d => rw [q] at z; cases z; exact ⟨d, rfl⟩
        show VX _ _ _ [.l (.tuple [.str "word", .str wd] :: fs.map fdD), .d (.str wd), .d (.tuple (ds.map .str)), .o ms, .o os, .d (.str ds[i]), .d (fdD fs[i])] _
        by_cases hp : ds[i] = "part"
        · refine vx_ifT (vt_eqS (x := ds[i]) (by simp_wf) (by simp_wf)) (decide_eq_true hp) ?_
          exact vx_appendX (o := outX C (asDueD ds[i] fs[i])) rfl rfl (vex_call raising DA hr (va_cons (by simp_wf) (va_cons (by simp_wf) va_nil)) ⟨ds[i], fs[i], rfl, hdu, rfl⟩ hEx) hR (by rw [hsl]; omega) (fun d2 z => vx_nil (vx_nil ⟨_, _, _, _, rfl, by omega, by simp; omega, more d2 z⟩))
        · refine vx_ifF (vt_eqS (x := ds[i]) (by simp_wf) (by simp_wf)) (decide_eq_false hp) ?_
          exact vx_appendX (o := outX C (asDueD ds[i] fs[i])) rfl rfl (vex_call raising DA hr (va_cons (by simp_wf) (va_cons (by simp_wf) va_nil)) ⟨ds[i], fs[i], rfl, hdu, rfl⟩ hEx) hR (by rw [hsl]; omega) (fun d2 z => vx_nil (vx_nil ⟨_, _, _, _, rfl, by simp; omega, by omega, more d2 z⟩))
      · rintro ρ ⟨ms, os, y, z, rfl, h4, h5, hs⟩
        rw [hlen] at hs
        exfalso
        obtain ⟨p, q⟩ := coll_some hl fun j due f h1 h2 => hs j due f ((List.getElem?_eq_some_iff.mp h1).1) h1 h2
        rw [hc] at q; cases q
theorem sc_gat : FnScope ["line","groups","token","group"] ["line"] (defScope st_gathered) := ⟨rfl,rfl,rfl,by decide +kernel,rfl,by decide +kernel,by decide +kernel⟩
theorem ok_gatX {f C : Addr} {fd : FuncData} (F : Fun K "gathered" "gathered" st_gathered f fd) (cx : ExcC K mg "NoLine" C) (B : Plain mg) (DT : DefOkP P w K mg base 1 "tokens" ["line"] (spV K RTok)) (DW : DefX P w K mg base 2 "from_word" ["token"] (spVX K (RFromWordX C))) (DB : DefX P w K mg base 2 "from_brackets" ["group"] (spVX K (RFromBrkX C))) (DA : DefX P w K mg base 1 "as_due" ["due", "found"] (spVX K (RAsDueX C))) : FnOkP P w K mg base (CX1 P w base) 3 f fd ["line"] (spVX K (RGathX C)) := by
  refine F.okPosX sc_gat (fun vs H Q E h => ?_) (fun cdv A outer s H vs Q E hr h => ?_)
  · obtain ⟨as, r, h1, ⟨l, rfl, _⟩, _⟩ := h; rw [h1.length]; rfl
  obtain ⟨as, o, h1, ⟨l, rfl, hz, ho⟩, q, qE⟩ := h
  have hsl : sizeLine = 16777216 := sizeLine_eq
  refine ⟨_, pssp_next (ps_set sc_gat.nd (i := 1) rfl (.inl rfl) (pe_lst (pa_cons (pe_lst pa_nil) pa_nil))) (pssp_cons (psp_for (tb := tBodyX K C E l) PassesOwn.leaving rfl (pip_list (vep_call DT (hr.mono (by decide)) (ρ := [.d (.str l), .un, .un, .un]) (va_cons (ve_name rfl rfl) va_nil) ⟨l, rfl, hz, rfl⟩)) (pg_name sc_gat.nd (i := 2) rfl (.inl rfl)) ?_) (pss_cons (ps_if (PW.pt (pw_or (pt_cmpR op_ne (pe_callB call_len_seq rfl B.len PySem.boot_len (pa_cons (pe_var (i := 1) rfl (.inl rfl)) pa_nil)) pe_int rfl) (pw_or1 (pt_cmpR op_ne (pe_callB call_len_seq rfl B.len PySem.boot_len (pa_cons (pe_ix ix_list (pe_var (i := 1) rfl (.inl rfl)) pe_int (fun _ _ => rfl)) pa_nil)) pe_int rfl)))) (pss_one (ps_raise raising cx rfl (pa_cons pe_str pa_nil))) pss_nil) (pss_one (ps_ret (pe_callX raising DA (hr.mono (by decide)) rfl (pa_cons pe_str (pa_cons (pe_ix ix_list (pe_ix ix_list (pe_var (i := 1) rfl (.inl rfl)) pe_int (fun _ _ => rfl)) pe_int (fun _ _ => rfl)) pa_nil))))))), ?_⟩
  · intro pins s1 σ H1 D I ⟨H0, T, ts, st, tok, hst, hte, htl, hlo, hlen, sok, ⟨G, as, hσ, h0, h1, x⟩, h2, k, kE⟩
    obtain ⟨g, r, rfl⟩ : ∃ g r, st = g :: r := by cases st with | nil => exact absurd rfl hst | cons g r => exact ⟨g, r, rfl⟩
    rw [List.reverse_cons] at x
    have hgl := hlen g (by simp)
    by_cases e1 : tok = "("
    · subst e1
      refine PSs.use (pss_one (ps_if (VT.pt (vt_eq (vt_eqS (x := "(") (y := "(") (ρ := [.d (.str l), .un, .d (.str "("), .un]) (by simp_wf) (by simp_wf)) (by decide : decide (("(" : Str) = "(") = true))) (pss_one (ps_expr (pe_bm PySem.F.plainAttrs_list PySem.F.slot_list_append PySem.F.type_list_append mt_append (pe_var (i := 1) rfl (.inl rfl)) (pa_cons (pe_lst pa_nil) pa_nil)))) pss_never)) I ?_
      refine ⟨⟨_, _, er_tok hσ h0 h2⟩, fun H2 s2 => iteT ?_⟩
      have x2 := x.grow s2
      refine ⟨_, h1, .inl ⟨rfl, _, SqL.of x2.grp⟩, by rw [hsl]; simp, fun p np => ?_⟩
      have x3 := x2.grow (same_upd np (.lst []))
      refine ⟨G, _, _, rfl, rfl, x3.grp, by rw [List.length_map, x.len, hsl]; simp; simp at hlo; omega, ?_⟩
      refine k _ (by unfold stepR; rw [if_pos rfl]) _ _ ⟨G, as ++ [p], hσ, h0, h1, ?_⟩
      have := x2.push np
      rw [List.map_append] at this
      rw [List.reverse_cons, List.reverse_cons]
      exact this
    by_cases e2 : tok = ")"
    · subst e2
      refine PSs.use (pss_one (ps_if (VT.pt (vt_eq (vt_eqS (x := ")") (y := "(") (ρ := [.d (.str l), .un, .d (.str ")"), .un]) (by simp_wf) (by simp_wf)) (by decide : decide ((")" : Str) = "(") = false))) pss_never (pss_one (ps_if (VT.pt (vt_eq (vt_eqS (x := ")") (y := ")") (ρ := [.d (.str l), .un, .d (.str ")"), .un]) (by simp_wf) (by simp_wf)) (by decide : decide ((")" : Str) = ")") = true)))
        (pss_cons (ps_set sc_gat.nd (i := 3) rfl (.inl rfl) (pe_bm0 PySem.F.plainAttrs_list PySem.F.slot_list_pop PySem.F.type_list_pop mt_pop (pe_var (i := 1) rfl (.inl rfl)))) (pss_cons (ps_if (pt_not (pt_truth (pe_var (i := 1) rfl (.inl rfl)) (fun _ => rfl))) (pss_one (ps_raise raising cx rfl (pa_cons pe_str pa_nil))) pss_nil)
          (pss_one (ps_expr (pe_bm PySem.F.plainAttrs_list PySem.F.slot_list_append PySem.F.type_list_append mt_append (pe_ix ix_list (pe_var (i := 1) rfl (.inl rfl)) (pe_un un_neg pe_int) (fun _ _ => rfl)) (pa_cons (pe_callX raising DB hr rfl (pa_cons (pe_var (i := 3) rfl (.inl rfl)) pa_nil)) pa_nil)))))) pss_never)))) I ?_
      refine ⟨⟨_, _, er_tok hσ h0 h2⟩, fun H2 s2 => iteF ⟨⟨_, _, er_tok hσ h0 h2⟩, fun H3 s3 => iteT ?_⟩⟩
      have x2 := x.grow (s2.trans s3)
      obtain ⟨as', a, rfl, hl', _, na⟩ := x2.last
      obtain ⟨x3, la⟩ := x2.pop
      refine ⟨_, h1, .inl ⟨rfl, _, SqL.of x2.grp⟩, G, _, .ref a, rfl, rfl, x2.grp, by simp, ?_⟩
      have e1 : ((as' ++ [a]).map V.ref).dropLast = as'.map V.ref := by rw [List.map_append, List.map_singleton, List.dropLast_concat]
      rw [e1]
      have k1 : (σ.set 3 (some (V.ref a)))[1]? = some (some (.ref G)) := by rw [List.getElem?_set_ne (by decide)]; exact h1
      have k0 : (σ.set 3 (some (V.ref a)))[0]? = some (some (.str l)) := by rw [List.getElem?_set_ne (by decide)]; exact h0
      have k3 : (σ.set 3 (some (V.ref a)))[3]? = some (some (.ref a)) := by rw [List.getElem?_set_self (by rw [hσ]; decide)]
      have kl : (σ.set 3 (some (V.ref a))).length = 4 := by rw [List.length_set]; exact hσ
      cases r with
      | nil =>
        have e3 : as' = [] := List.eq_nil_of_length_eq_zero (by rw [hl']; rfl)
        subst e3
        refine ⟨_, k1, _, .inl ⟨_, SqL.of x3.grp, rfl⟩, ?_⟩
        refine iteT ⟨by show 1 ≤ 1000; decide, kE (by unfold stepR; rw [if_neg (by decide), if_pos rfl]) _ x3.same⟩
      | cons h r =>
        rw [List.reverse_cons] at x3
        obtain ⟨as2, b, rfl, hl2, ⟨vs, hb', hr'⟩, nb⟩ := x3.last
        refine ⟨_, k1, _, .inl ⟨_, SqL.of x3.grp, rfl⟩, ?_⟩
        show ite ((!(!((as2 ++ [b]).map V.ref).isEmpty)) = true) _ _
        rw [show (!(!((as2 ++ [b]).map V.ref).isEmpty)) = false from by simp]
        refine iteF ?_
        refine ⟨_, k1, 1, rfl, G, _, (-1), .ref b, rfl, rfl, SqL.of x3.grp, ?_, .inl ⟨rfl, _, SqL.of hb'⟩, _, k3, [.l (g.map fdD)], outX C ((brkR g).map fdD), .cons ⟨a, rfl, la⟩ .nil, ⟨g, rfl, by omega, sok.words (by simp), rfl⟩, fun r' z v H4 s4 rv => ?_, fun C' z H4 s4 => ?_⟩
        · rw [List.map_append]; exact atI_last _ _
        · cases hb : brkR g with
          | none => rw [hb] at z; cases z
          | some f' =>
            rw [hb] at z
            cases z
            have x4 := x3.grow s4
            have hgl := hlen h (by simp)
            refine ⟨b, vs, v, rfl, rfl, s4 _ _ hb', by rw [hr'.length, List.length_map, hsl]; omega, ?_⟩
            refine k ((h ++ [f']) :: r) (by unfold stepR; rw [if_neg (by decide), if_pos rfl]; simp [hb]) _ _ ⟨G, as2 ++ [b], kl, k0, k1, ?_⟩
            rw [List.reverse_cons]
            exact x4.add (s4 _ _ hb') (Reps.mono (TupLe.of_same s4) _ _ hr') rv
        · cases hb : brkR g with
          | some f' => rw [hb] at z; cases z
          | none =>
            rw [hb] at z
            cases z
            exact kE (by unfold stepR; rw [if_neg (by decide), if_pos rfl]; simp [hb]) _ (x3.same.trans s4)
    · refine PSs.use (pss_one (ps_if (VT.pt (vt_eq (vt_eqS (x := tok) (y := "(") (ρ := [.d (.str l), .un, .d (.str tok), .un]) (by simp_wf) (by simp_wf)) (decide_eq_false e1))) pss_never (pss_one (ps_if (VT.pt (vt_eq (vt_eqS (x := tok) (y := ")") (ρ := [.d (.str l), .un, .d (.str tok), .un]) (by simp_wf) (by simp_wf)) (decide_eq_false e2))) pss_never
        (pss_one (ps_expr (pe_bm PySem.F.plainAttrs_list PySem.F.slot_list_append PySem.F.type_list_append mt_append (pe_ix ix_list (pe_var (i := 1) rfl (.inl rfl)) (pe_un un_neg pe_int) (fun _ _ => rfl)) (pa_cons (pe_callX raising DW hr rfl (pa_cons (pe_var (i := 2) rfl (.inl rfl)) pa_nil)) pa_nil)))))))) I ?_
      refine ⟨⟨_, _, er_tok hσ h0 h2⟩, fun H2 s2 => iteF ⟨⟨_, _, er_tok hσ h0 h2⟩, fun H3 s3 => iteF ?_⟩⟩
      have x2 := x.grow (s2.trans s3)
      obtain ⟨as', a, rfl, hl', ⟨vs, ha, hr'⟩, na⟩ := x2.last
      refine ⟨_, h1, 1, rfl, G, _, (-1), .ref a, rfl, rfl, SqL.of x2.grp, ?_, .inl ⟨rfl, _, SqL.of ha⟩, _, h2, [.d (.str tok)], outX C ((wordR tok).map fdD), .cons (Rep.str (K := K) (H := H3) tok) .nil, ⟨tok, rfl, hte, htl, rfl⟩, fun r' z v H4 s4 rv => ?_, fun C' z H4 s4 => ?_⟩
      · rw [List.map_append]; exact atI_last _ _
      · cases hw : wordR tok with
        | none => rw [hw] at z; cases z
        | some f' =>
          rw [hw] at z
          cases z
          have x3 := x2.grow s4
          refine ⟨a, vs, v, rfl, rfl, s4 _ _ ha, by rw [hr'.length, List.length_map, hsl]; omega, ?_⟩
          refine k ((g ++ [f']) :: r) (by unfold stepR; rw [if_neg e1, if_neg e2]; simp [hw]) _ _ ⟨G, as' ++ [a], hσ, h0, h1, ?_⟩
          rw [List.reverse_cons]
          exact x3.add (s4 _ _ ha) (Reps.mono (TupLe.of_same s4) _ _ hr') rv
      · cases hw : wordR tok with
        | some f' => rw [hw] at z; cases z
        | none =>
          rw [hw] at z
          cases z
          exact kE (by unfold stepR; rw [if_neg e1, if_neg e2]; simp [hw]) _ (x2.same.trans s4)
  · have hvs : vs = [.str l] := by
      obtain ⟨v, rfl, r1⟩ := RdRs.one h1
      rw [RdR.is_str r1]
    subst hvs
    refine ⟨by rw [hsl]; simp, fun p np => ⟨by rw [hsl]; simp, fun G nG => ?_⟩⟩
    have pG : p ≠ G := fun z => by rw [z, upd_same] at nG; cases nG
    have sG : Same H (upd (upd H p (.lst [])) G (.lst [.ref p])) := (same_upd np _).trans (same_upd nG _)
    refine ⟨⟨_, _, er_line rfl rfl⟩, fun v H1 s1 rv => ?_⟩
    obtain ⟨T, rfl, nT, ws, hT, rT⟩ := rv
    obtain rfl := reps_strs rT
    refine ⟨T, rfl, ⟨_, SqL.of hT⟩, ?_⟩
    have Tp : T ≠ p := fun z => by rw [z, upd_ne pG, upd_same] at nT; cases nT
    have TG : T ≠ G := fun z => by rw [z, upd_same] at nT; cases nT
    have hcnt := toks_count l
    refine for_list (xs := (toks l).map V.str) (fun i σ H' => ∃ st, runR st ((toks l).drop i) = runR [[]] (toks l) ∧ st ≠ [] ∧ st.length ≤ i + 1 ∧ (∀ h ∈ st, h.length ≤ i) ∧ SOk st ∧ GSt K H T ((toks l).map V.str) st.reverse l σ H') ?_ ?_ ?_ ?_
    · refine ⟨[[]], rfl, by simp, by simp, by simp, fun g hg f hf => (by rw [List.mem_singleton] at hg; subst hg; cases hf), G, [p], rfl, rfl, rfl, sG.trans s1, (same_upd np _).free nG, s1 _ _ upd_same, rfl, fun i a g h1 h2 => ?_, by simp, by simpa using Ne.symm pG, by simpa using Tp, TG, hT⟩
      cases i with
      | zero =>
        cases h1; cases h2
        exact ⟨⟨[], s1 _ _ (by rw [upd_ne pG]; exact upd_same), .nil⟩, np⟩
      | succ i => simp at h1
    · rintro i σ H' _ ⟨st, _, _, _, _, _, G, as, _, _, _, x⟩
      exact SqL.of x.tok
    · rintro i v σ H' hv ⟨st, run, hst, l1, l2, sok, G, as, hσ, k0, k1, x⟩
      rw [List.getElem?_map] at hv
      cases hq : (toks l)[i]? with
      | none => rw [hq] at hv; cases hv
      | some tok =>
        rw [hq] at hv
        cases hv
        have hm := List.mem_of_getElem? hq
        have hi : i < (toks l).length := (List.getElem?_eq_some_iff.mp hq).1
        have hte := toks_ne hm
        have htl : tok.length ≤ 1000000 := by have := tok_le hm; have := lenS_toks l; omega
        have e1 : (toks l).drop i = tok :: (toks l).drop (i + 1) := by rw [List.drop_eq_getElem_cons hi]; congr 1; exact (List.getElem?_eq_some_iff.mp hq).2
        rw [e1, runR] at run
        refine ⟨H, T, _, st, tok, hst, hte, by omega, by omega, fun h hh => by have := l2 h hh; omega, sok, ⟨G, as, by rw [List.length_set]; exact hσ, by rw [List.getElem?_set_ne (by decide)]; exact k0, by rw [List.getElem?_set_ne (by decide)]; exact k1, x⟩, by rw [List.getElem?_set_self (by rw [hσ]; decide)], fun st' hs σ' H'' g' => ?_, fun hs H'' s' => ?_⟩
        · rw [hs] at run
          obtain ⟨a1, a2, a3⟩ := step_len hs l1 l2
          exact ⟨st', run, a1, a2, a3, (step_big hs sok htl (str_pos hte)).2.2, g'⟩
        · rw [hs] at run
          have hg : gathR l = none := by unfold gathR; rw [← run]
          rw [hg] at ho
          exact qE C ho H'' s'
    · rintro σ H' ⟨st, run, hst, l1, l2, sok, G, as, hσ, k0, k1, x⟩
      rw [List.length_map, List.drop_length] at run
      replace run : some st = runR [[]] (toks l) := run
      have hgr : gathR l = endR st := gathR_end run.symm
      obtain ⟨g, r, rfl⟩ : ∃ g r, st = g :: r := by cases st with | nil => exact absurd rfl hst | cons g r => exact ⟨g, r, rfl⟩
      have hal : as.length = (g :: r).length := by rw [x.len, List.length_reverse]
      cases r with
      | cons h r =>
        have hn : gathR l = none := hgr
        rw [hn] at ho
        refine ⟨_, k1, G, _, rfl, .inl (SqL.of x.grp), rfl, _, rfl, ite2 (fun c => ?_) (fun c => ?_)⟩
        · exact iteT ⟨by show 1 ≤ 1000; decide, qE C ho _ x.same⟩
        · exfalso
          simp at c hal
          omega
      | nil =>
        obtain ⟨as', a, rfl, hl', ⟨vs, ha, hr'⟩, na⟩ := x.last (lo := [])
        cases as' with
        | cons _ _ => simp at hl'
        | nil =>
          refine ⟨_, k1, G, _, rfl, .inl (SqL.of x.grp), rfl, _, rfl, iteF ?_⟩
          by_cases hg1 : g.length = 1
          · obtain ⟨f0, rfl⟩ : ∃ f0, g = [f0] := List.length_eq_one_iff.mp hg1
            obtain ⟨v, vs', rfl, rv, re⟩ := hr'.split
            obtain rfl : vs' = [] := by
              have := re.length
              cases vs' with
              | nil => rfl
              | cons _ _ => simp at this
            refine ⟨_, k1, G, _, 0, .ref a, rfl, rfl, SqL.of x.grp, rfl, a, _, rfl, .inl (SqL.of ha), rfl, _, rfl, iteF ?_⟩
            refine ⟨_, k1, G, _, 0, .ref a, rfl, rfl, SqL.of x.grp, rfl, a, _, 0, v, rfl, rfl, SqL.of ha, rfl, ?_⟩
            have hoo : o = outX C (asDueD "part" f0) := by
              rw [ho, hgr]
              cases f0 with
              | word y => rfl
              | kind k => rfl
              | part t => rw [show asDueD "part" (.part t) = some (wtD t) from by cases t <;> rfl]; rfl
            refine ⟨[.d (.str "part"), .d (fdD f0)], o, .cons (Rep.str (K := K) (H := H') "part") (.cons rv .nil), ⟨"part", f0, rfl, .inl rfl, hoo⟩, fun r' z u H'' s' rr => ?_, fun C' z H'' s' => qE C' z H'' (x.same.trans s')⟩
            exact q r' z u H'' (x.same.trans s') (rr.since x.same)
          · have hn : gathR l = none := by
              rw [hgr]
              match g, hg1 with
              | [], _ => rfl
              | [f0], h => exact absurd rfl h
              | _ :: _ :: _, _ => rfl
            rw [hn] at ho
            have hvl : vs.length = g.length := by rw [hr'.length, List.length_map]
            refine ⟨_, k1, G, _, 0, .ref a, rfl, rfl, SqL.of x.grp, rfl, a, _, rfl, .inl (SqL.of ha), rfl, _, rfl, ite2 (fun c => ?_) (fun c => ?_)⟩
            · exact ⟨by show 1 ≤ 1000; decide, qE C ho _ x.same⟩
            · exfalso
              simp at c
              omega
theorem sc_rea : FnScope ["line","expr"] ["line"] (defScope st_read) := ⟨rfl,rfl,rfl,by decide +kernel,rfl,by decide +kernel,by decide +kernel⟩
theorem ok_reaX {f C : Addr} {fd : FuncData} (F : Fun K "read" "read" st_read f fd) (cx : ExcC K mg "NoLine" C) (DG : DefXP P w K mg base 3 "gathered" ["line"] (spVX K (RGathX C))) (DS : DefOk P w K mg base 4 "shown" ["expr"] (spV K RShownW)) : FnOkP P w K mg base (CX1 P w base) 5 f fd ["line"] (spVX K (RReadX C)) := by
  refine F.okVXP sc_rea (fun as o h => ?_) (fun cdv A outer s H E as o hr h hE => ?_)
  · obtain ⟨l, rfl, _⟩ := h; exact ⟨rfl, by simp⟩
  obtain ⟨l, rfl, hl, hg, ho⟩ := h
  show VXpos _ _ _ [.d (.str l), .un] _
  refine vxp_setX (o := outX C ((gathR l).map wtD)) sc_rea.nd rfl (fun _ _ _ z => z) (vexp_call raising DG (hr.mono (by decide)) (va_cons (by simp_wf) va_nil) ⟨l, rfl, hl, rfl⟩ (fun C' z => ?_)) (fun r z => ?_) (fun d z => ?_)
  · cases q : gathR l with
    | some t => rw [q] at z; cases z
    | none =>
      rw [q] at z
      cases z
      exact hE C (by rw [ho]; unfold readR; rw [q]; rfl)
  · cases q : gathR l with
    | none => rw [q] at z; cases z
    | some t => rw [q] at z; cases z; exact ⟨_, rfl⟩
  · cases q : gathR l with
    | none => rw [q] at z; cases z
    | some t =>
      rw [q] at z
      cases z
      obtain ⟨t1, t2, t3⟩ := hg t q
      have hsum : ((wtx t).map (·.length)).sum ≤ 16777216 := by rw [line_sum]; omega
      by_cases e : lineT t = l
      · have hr' : readR l = some t := by unfold readR; rw [q]; simp [e]
        rw [hr'] at ho
        refine vx_ifN (k := false) (vt_eq (vt_neS (x := lineT t) (y := l) (ve_call DS hr (va_cons (by simp_wf) va_nil) ⟨t, rfl, t1, t2, hsum, rfl⟩) (by simp_wf)) (by simp [e])) rfl ?_
        exact vx_ret (by simp_wf) ⟨_, ho, .inl rfl⟩
      · have hr' : readR l = none := by unfold readR; rw [q]; simp [e]
        rw [hr'] at ho
        refine vx_ifT (k := true) (vt_eq (vt_neS (x := lineT t) (y := l) (ve_call DS hr (va_cons (by simp_wf) va_nil) ⟨t, rfl, t1, t2, hsum, rfl⟩) (by simp_wf)) (by simp [e])) rfl ?_
        exact vx_raise raising cx (hE C ho)
theorem sc_lat : FnScope ["_law_script","_law_k"] ["_law_script","_law_k"] (defScope st_law_at) := ⟨rfl,rfl,rfl,by decide +kernel,rfl,by decide +kernel,by decide +kernel⟩
theorem ok_latS {f : Addr} {fd : FuncData} (F : Fun K "_law_at" "_law_at" st_law_at f fd) (B : Plain mg) : FnOk P w K mg base CX0 1 f fd ["_law_script","_law_k"] (spV K (RAtS K)) := by
  refine F.ok sc_lat (fun vs H Q E h => ?_) (fun cdv A outer s H vs Q E hr h => ?_)
  · obtain ⟨as,r,h1,⟨ns,k,rfl,_⟩,_⟩ := h; rw [h1.length]; rfl
  obtain ⟨as,r,h1,⟨ns,k,rfl,rfl⟩,q⟩ := h
  obtain ⟨v,u,rfl,r1,r2⟩ := h1.two
  obtain ⟨a,rfl,hS'⟩ := r1
  obtain rfl := RdR.is_int r2
  have hS := hS'.sq
  refine ⟨_,pss_cons (ps_if (pt_cmpR op_lt (pv 1) (pe_callB call_len_seq rfl B.len PySem.boot_len (pa_cons (pv 0) pa_nil)) (nomark _)) (pss_one (ps_ret (pe_ix ix_list (pv 0) (pv 1) (fun _ _ => rfl)))) pss_nil) (pss_one (ps_ret pe_int)),?_⟩
  refine ⟨_,rfl,_,rfl,a,_,rfl,.inl hS,_,_,rfl,rfl,_,rfl,ite2 (fun c => ?_) (fun c => ?_)⟩
  · have h1 : (k : Int) < ((ns.map V.int).length : Nat) := of_decide_eq_true c
    rw [List.length_map] at h1
    have h2 : k < ns.length := by omega
    have e1 : (ns.map V.int)[k]? = some (.int ns[k]) := by rw [List.getElem?_map,List.getElem?_eq_getElem h2]; rfl
    exact ⟨_,rfl,_,rfl,a,_,_,_,rfl,rfl,hS,atI_nat e1,q _ H (Same.refl H) (by rw [List.getD_eq_getElem?_getD,List.getElem?_eq_getElem h2]; exact RsR.int)⟩
  · have h1 : ¬ (k : Int) < ((ns.map V.int).length : Nat) := fun z => c (decide_eq_true z)
    rw [List.length_map] at h1
    exact q _ H (Same.refl H) (by rw [List.getD_eq_getElem?_getD,List.getElem?_eq_none (by omega)]; exact RsR.int)
theorem sc_bup : FnScope ["_law_word","_law_marks","_law_ones","_law_gaps","_law_line","_law_rows","_law_k","_law_row"] ["_law_word","_law_marks","_law_ones","_law_gaps"] (defScope st_law_built_up) := ⟨rfl,rfl,rfl,by decide +kernel,rfl,by decide +kernel,by decide +kernel⟩
theorem cs_bup : CompSc ["_law_word","_law_marks","_law_ones","_law_gaps","_law_line","_law_rows","_law_k","_law_row"] (defScope st_law_built_up) { kind := .function,names := [(".0",.local),("_law_one",.local)],isGenerator := false,isCoroutine := false } "_law_one" := ⟨rfl,by decide +kernel,by decide +kernel,rfl,by decide +kernel,by decide +kernel,by decide +kernel⟩
theorem ok_bup {f : Addr} {fd : FuncData} (F : Fun K "_law_built_up" "_law_built_up" st_law_built_up f fd) (B : Plain mg) (htup : mg "tuple" = none) : FnOk P w K mg base CX0 1 f fd ["_law_word", "_law_marks", "_law_ones", "_law_gaps"] (spV K RBuilt) := by
  refine F.okV sc_bup (fun as r h => ?_) (fun cdv A outer s H E as r hr h => ?_)
  · obtain ⟨wd, ms, ones, gaps, rfl, _⟩ := h; exact ⟨rfl, by simp⟩
  obtain ⟨wd, ms, ones, gaps, rfl, hg, h3, hz, hp, rfl⟩ := h
  have hsl : sizeLine = 16777216 := sizeLine_eq
  show VS _ _ [.d (.str wd), .d (.tuple ms), .l (ones.map biD), .l (gaps.map .str), .un, .un, .un, .un] _
  refine vs_set sc_bup.nd rfl (d := .str (gapAt gaps 0)) (ve_ixL (xs := gaps.map .str) (i := ((0 : Nat) : Int)) (by simp_wf) (by simp_wf) rfl (atI_nat (by rw [List.getElem?_map, gapAt_eq (by omega)]; rfl))) ?_
  refine vs_setO sc_bup.nd rfl (by simp_wf) ?_
  refine vs_for PassesOwn.never rfl (vi_range B.range (n := ones.length) (ve_eq (ve_lenL B.len (by simp_wf) rfl) (by rw [List.length_map])) (by omega)) (vg_name sc_bup.nd rfl)
    (fun i ρ => ∃ y z : Sl, (∀ xs, z ≠ .o xs) ∧ ρ = [.d (.str wd), .d (.tuple ms), .l (ones.map biD), .l (gaps.map .str), .d (.str (lnAt gaps ones i)), .o ((rowsAt gaps ones i).map rowD), y, z]) ⟨.un, .un, (fun _ z => nomatch z), rfl⟩ ?_ ?_
  · rintro i d ρ hd ⟨y, z, nz, rfl⟩
    have hi : i < ones.length := by have := (List.getElem?_eq_some_iff.mp hd).1; simpa [rngD] using this
    obtain rfl : d = .int (i : Int) := by
      simp [rngD, hi] at hd
      first | exact hd.symm | (rw [← hd])
    refine ⟨_, rfl, ?_⟩
    show VS _ _ [.d (.str wd), .d (.tuple ms), .l (ones.map biD), .l (gaps.map .str), .d (.str (lnAt gaps ones i)), .o ((rowsAt gaps ones i).map rowD), .d (.int (i : Int)), z] _
    have hone : atI (ones.map biD) (i : Int) = some (biD (oneAt ones i)) := atI_nat (by rw [List.getElem?_map, oneAt_eq hi]; rfl)
    have hgap : atI (gaps.map PyData.str) (((i + 1 : Nat) : Nat) : Int) = some (.str (gapAt gaps (i + 1))) := atI_nat (by rw [List.getElem?_map, gapAt_eq (by omega)]; rfl)
    have hmem : oneAt ones i ∈ ones := List.mem_of_getElem? (oneAt_eq hi)
    obtain ⟨z1, z2⟩ := hz (i + 1) hi
    obtain ⟨z3, z4⟩ := hz i (by omega)
    refine vs_for PassesOwn.never rfl (vi_frzW (xs := (oneAt ones i).rows.map rowD) (ve_ixT (ve_ixL (xs := ones.map biD) (by simp_wf) (by simp_wf) rfl hone) (by simp_wf) rfl)) (vg_name sc_bup.nd rfl)
      (fun j ρ => ∃ z : Sl, (∀ xs, z ≠ .o xs) ∧ ρ = [.d (.str wd), .d (.tuple ms), .l (ones.map biD), .l (gaps.map .str), .d (.str (lnAt gaps ones i)), .o ((rowsAt gaps ones i ++ ((oneAt ones i).rows.take j).map (shiftR i (lnAt gaps ones i).length)).map rowD), .d (.int (i : Int)), z]) ⟨z, nz, by simp⟩ ?_ ?_
    · rintro j d ρ hd ⟨z', nz', rfl⟩
      rw [List.getElem?_map] at hd
      cases hq : (oneAt ones i).rows[j]? with
      | none => rw [hq] at hd; cases hd
      | some rw' =>
        rw [hq] at hd
        cases hd
        have hpl := hp _ hmem rw' (List.mem_of_getElem? hq)
        have hj : j < (oneAt ones i).rows.length := (List.getElem?_eq_some_iff.mp hq).1
        have hlen : (rowsAt gaps ones (i + 1)).length = (rowsAt gaps ones i).length + (oneAt ones i).rows.length := by rw [rowsAt]; simp
        refine ⟨_, rfl, ?_⟩
        show VS _ _ [.d (.str wd), .d (.tuple ms), .l (ones.map biD), .l (gaps.map .str), .d (.str (lnAt gaps ones i)), .o ((rowsAt gaps ones i ++ ((oneAt ones i).rows.take j).map (shiftR i (lnAt gaps ones i).length)).map rowD), .d (.int (i : Int)), .d (.tuple [.tuple (rw'.1.map .int), .int rw'.2.1, .int rw'.2.2])] _
        refine vs_append rfl rfl (d := rowD (shiftR i (lnAt gaps ones i).length rw')) (ve_eq (ve_tup (vd_cons (ve_addT (ve_tup (vd_cons (by simp_wf) vd_nil)) (by simp_wf) (by rw [hsl]; simp; omega)) (vd_cons (ve_addI (ve_lenS B.len (by simp_wf) (by rw [hsl]; omega)) (by simp_wf)) (vd_cons (ve_addI (ve_lenS B.len (by simp_wf) (by rw [hsl]; omega)) (by simp_wf)) vd_nil)))) (by simp [rowD, shiftR])) (by rw [hsl]; simp; omega) (vs_nil ⟨.d (rowD rw'), (fun _ z => nomatch z), ?_⟩)
        rw [List.take_add_one, hq]
        simp
        rfl
    · rintro ρ ⟨z', nz', rfl⟩
      rw [List.length_map, List.take_length]
      have e1 : (lnAt gaps ones (i + 1)).length = (lnAt gaps ones i).length + (oneAt ones i).ln.length + (gapAt gaps (i + 1)).length := by rw [lnAt, ← len_codes, codes_app, codes_app, List.length_append, List.length_append, len_codes, len_codes, len_codes]
      have e2 : (lnAt gaps ones i ++ (oneAt ones i).ln).length = (lnAt gaps ones i).length + (oneAt ones i).ln.length := by rw [← len_codes, codes_app, List.length_append, len_codes, len_codes]
      refine vs_set sc_bup.nd rfl (d := .str (lnAt gaps ones (i + 1))) (ve_addS (ve_addS (by simp_wf) (ve_ixT (ve_ixL (xs := ones.map biD) (by simp_wf) (by simp_wf) rfl hone) (by simp_wf) rfl) (by rw [hsl]; omega)) (ve_ixL (xs := gaps.map .str) (by simp_wf) (ve_addI (by simp_wf) (by simp_wf)) rfl hgap) (by rw [hsl, e2]; omega)) (vs_nil ⟨_, _, nz', rfl⟩)
  · rintro ρ ⟨y, z, nz, rfl⟩
    rw [show (rngD 0 ones.length).length = ones.length from by simp [rngD]]
    obtain ⟨z3, z4⟩ := hz ones.length (Nat.le_refl _)
    refine vs_append rfl rfl (d := rowD ([], 0, (lnAt gaps ones ones.length).length)) (ve_tup (vd_cons (by simp_wf) (vd_cons (by simp_wf) (vd_cons (ve_lenS B.len (by simp_wf) (by rw [hsl]; omega)) vd_nil)))) (by rw [hsl, List.length_map]; omega) ?_
    refine vs_freeze (i := 5) (xs := (rowsAt gaps ones ones.length).map rowD ++ [rowD ([], 0, (lnAt gaps ones ones.length).length)]) rfl ?_
    refine vs_ret (r := .d (biD (built wd ms ones gaps))) (ve_eq (ve_tup (vd_cons (ve_tup (vd_cons (by simp_wf) (vd_cons (by simp_wf) (vd_cons (ve_tupL htup (ve_comp rfl cs_bup (vi_name rfl rfl) (ys := ones.map BI.e) (by simp) (by rw [hsl]; simp; omega) ?_) rfl) vd_nil)))) (vd_cons (by simp_wf) (vd_cons (by simp_wf) vd_nil)))) (by simp [biD, built])) (.inl rfl)
    intro j a y' ha hy cl C s0 H0 fp pins
    rw [List.getElem?_map] at ha hy
    cases hq : ones[j]? with
    | none => rw [hq] at ha; cases ha
    | some o =>
      rw [hq] at ha hy
      cases ha; cases hy
      exact ve_ixT (xs := [o.e, .str o.ln, .list (o.rows.map rowD)]) (ve_name rfl rfl) ve_int rfl
theorem sc_dkd : FnScope ["_law_cell","_law_kind","_law_line","_law_k","_law_way","_law_other","_law_more"] ["_law_cell"] (defScope st_law_drawn_kind) := ⟨rfl,rfl,rfl,by decide +kernel,rfl,by decide +kernel,by decide +kernel⟩
theorem ok_dkd {f : Addr} {fd : FuncData} (F : Fun K "_law_drawn_kind" "_law_drawn_kind" st_law_drawn_kind f fd) (B : Plain mg) : FnOk P w K mg base CX0 1 f fd ["_law_cell"] (spV K RDKind) := by
  refine F.okV sc_dkd (fun as r h => ?_) (fun cdv A outer s H E as r hr h => ?_)
  · obtain ⟨c,rfl,_⟩ := h; exact ⟨rfl,by simp⟩
  obtain ⟨c,rfl,rfl⟩ := h
  have hsl : sizeLine = 16777216 := sizeLine_eq
  have l1 : ("(list " : Str).length = 6 := by decide
  have l2 : (")" : Str).length = 1 := by decide
  have l3 : ("(to " : Str).length = 4 := by decide
  have l4 : (" " : Str).length = 1 := by decide
  have rest : VS (cxOf CX0 P w K mg base ["_law_cell","_law_kind","_law_line","_law_k","_law_way","_law_other","_law_more"] "_law_drawn_kind" (defScope st_law_drawn_kind) f cdv A outer s H E).nox ((defBody st_law_drawn_kind).drop 3) [.d (.int c),.d (kdD (kBase c)),.d (.str (kdT (kBase c))),.un,.un,.un,.un] fun o => o = .rt (.d (.tuple [kdD (kindB c),.str (kdT (kindB c))])) ∨ ((.d (.tuple [kdD (kindB c),.str (kdT (kindB c))]) : Sl) = .d .none ∧ ∃ ρ,o = .nx ρ) := by
    have w0 := hsh_lo c 1013 (n := 8) (by decide)
    have w8 := hsh_hi c 1013 (n := 8) (by decide)
    have hix : atI [PyData.int 0,.int 1,.int 2,.int 3,.int 0,.int 1,.int 2,.int 8] (hsh c 1013 8) = some (.int (kN c : Nat)) := by
      have : hsh c 1013 8 = 0 ∨ hsh c 1013 8 = 1 ∨ hsh c 1013 8 = 2 ∨ hsh c 1013 8 = 3 ∨ hsh c 1013 8 = 4 ∨ hsh c 1013 8 = 5 ∨ hsh c 1013 8 = 6 ∨ hsh c 1013 8 = 7 := by omega
      unfold kN
      rcases this with h | h | h | h | h | h | h | h <;> rw [h] <;> rfl
    have hn8 := kN_le c
    refine vs_for PassesOwn.never rfl (vi_range B.range (n := kN c) (ve_ixL (ve_lst (by simp_wf)) (ve_hsh (by simp_wf)) rfl hix) (by omega)) (vg_name sc_dkd.nd rfl)
      (fun i ρ => ∃ a b d e : Sl,ρ = [.d (.int c),.d (kdD (kAt c i)),.d (.str (kdT (kAt c i))),a,b,d,e]) ⟨.un,.un,.un,.un,rfl⟩ ?_ ?_
    · rintro i d ρ hd ⟨x1,x2,x3,x4,rfl⟩
      have hi : i < kN c := by have := (List.getElem?_eq_some_iff.mp hd).1; simpa [rngD] using this
      obtain rfl : d = .int (i : Int) := by
        simp [rngD,hi] at hd
        first | exact hd.symm | (rw [← hd])
      have hl := kAt_len c i
      have ho := kOther_len (hsh (c + i) 1087 4)
      refine ⟨_,rfl,?_⟩
      show VS _ _ [.d (.int c),.d (kdD (kAt c i)),.d (.str (kdT (kAt c i))),.d (.int (i : Int)),x2,x3,x4] _
      have ek : kAt c (i + 1) = kStep c i (kAt c i) := rfl
      by_cases h1 : hsh (c + i) 1019 2 = 0
      · have e1 : kAt c (i + 1) = .list (kAt c i) := by rw [ek,kStep,if_pos h1]
        refine vs_ifT (vt_eqI (x := hsh (c + i) 1019 2) (ve_hsh (ve_addI (by simp_wf) (by simp_wf))) (by simp_wf)) (decide_eq_true h1) ?_
        refine vs_set sc_dkd.nd rfl (d := kdD (kAt c (i + 1))) (ve_eq (ve_tup (vd_cons (by simp_wf) (vd_cons (by simp_wf) vd_nil))) (by rw [e1]; rfl)) ?_
        refine vs_set sc_dkd.nd rfl (d := .str (kdT (kAt c (i + 1)))) (ve_eq (ve_addS (ve_addS (by simp_wf) (by simp_wf) (by rw [hsl,l1]; omega)) (by simp_wf) (by rw [hsl,len_app,l1,l2]; omega)) (by rw [e1,kdT_list])) (vs_nil (vs_nil ⟨_,_,_,_,rfl⟩))
      · refine vs_ifF (vt_eqI (x := hsh (c + i) 1019 2) (ve_hsh (ve_addI (by simp_wf) (by simp_wf))) (by simp_wf)) (decide_eq_false h1) ?_
        refine vs_set sc_dkd.nd rfl (d := .int (hsh (c + i) 1087 4)) (ve_hsh (ve_addI (by simp_wf) (by simp_wf))) ?_
        have v0 := hsh_lo (c + i) 1087 (n := 4) (by decide)
        have v4 := hsh_hi (c + i) 1087 (n := 4) (by decide)
        have this : hsh (c + i) 1087 4 = 0 ∨ hsh (c + i) 1087 4 = 1 ∨ hsh (c + i) 1087 4 = 2 ∨ hsh (c + i) 1087 4 = 3 := by omega
        have o1 : atI [PyData.tuple [.str "num"],.tuple [.str "truth"],.tuple [.str "list",.tuple [.str "truth"]],.tuple [.str "to",.tuple [.str "num"],.tuple [.str "truth"]]] (hsh (c + i) 1087 4) = some (kdD (kOther (hsh (c + i) 1087 4))) := by
          rcases this with h | h | h | h <;> rw [h] <;> rfl
        have o2 : atI [PyData.str "num",.str "truth",.str "(list truth)",.str "(to num truth)"] (hsh (c + i) 1087 4) = some (.str (kdT (kOther (hsh (c + i) 1087 4)))) := by
          rcases this with h | h | h | h <;> rw [h]
          · rw [show kOther 0 = .num from rfl,kdT_num]; rfl
          · rw [show kOther 1 = .truth from rfl,kdT_truth]; rfl
          · rw [show kOther 2 = .list .truth from rfl,kdT_list,kdT_truth]; rfl
          · rw [show kOther 3 = .to .num .truth from rfl,kdT_to,kdT_num,kdT_truth]; rfl
        refine vs_set sc_dkd.nd rfl (d := kdD (kOther (hsh (c + i) 1087 4))) (ve_ixL (ve_lst (by simp_wf)) (by simp_wf) rfl o1) ?_
        refine vs_set sc_dkd.nd rfl (d := .str (kdT (kOther (hsh (c + i) 1087 4)))) (ve_ixL (ve_lst (by simp_wf)) (by simp_wf) rfl o2) ?_
        by_cases h2 : hsh (c + i) 1091 2 = 0
        · have e1 : kAt c (i + 1) = .to (kAt c i) (kOther (hsh (c + i) 1087 4)) := by rw [ek,kStep,if_neg h1,if_pos h2]
          refine vs_ifT (vt_eqI (x := hsh (c + i) 1091 2) (ve_hsh (ve_addI (by simp_wf) (by simp_wf))) (by simp_wf)) (decide_eq_true h2) ?_
          refine vs_set sc_dkd.nd rfl (d := kdD (kAt c (i + 1))) (ve_eq (ve_tup (vd_cons (by simp_wf) (vd_cons (by simp_wf) (vd_cons (by simp_wf) vd_nil)))) (by rw [e1]; rfl)) ?_
          refine vs_set sc_dkd.nd rfl (d := .str (kdT (kAt c (i + 1)))) (ve_eq (ve_addS (ve_addS (ve_addS (ve_addS (by simp_wf) (by simp_wf) (by rw [hsl,l3]; omega)) (by simp_wf) (by rw [hsl,len_app,l3,l4]; omega)) (by simp_wf) (by rw [hsl,len_app,len_app,l3,l4]; omega)) (by simp_wf) (by rw [hsl,len_app,len_app,len_app,l2,l3,l4]; omega)) (by rw [e1,kdT_to])) (vs_nil (vs_nil (vs_nil ⟨_,_,_,_,rfl⟩)))
        · have e1 : kAt c (i + 1) = .to (kOther (hsh (c + i) 1087 4)) (kAt c i) := by rw [ek,kStep,if_neg h1,if_neg h2]
          refine vs_ifF (vt_eqI (x := hsh (c + i) 1091 2) (ve_hsh (ve_addI (by simp_wf) (by simp_wf))) (by simp_wf)) (decide_eq_false h2) ?_
          refine vs_set sc_dkd.nd rfl (d := kdD (kAt c (i + 1))) (ve_eq (ve_tup (vd_cons (by simp_wf) (vd_cons (by simp_wf) (vd_cons (by simp_wf) vd_nil)))) (by rw [e1]; rfl)) ?_
          refine vs_set sc_dkd.nd rfl (d := .str (kdT (kAt c (i + 1)))) (ve_eq (ve_addS (ve_addS (ve_addS (ve_addS (by simp_wf) (by simp_wf) (by rw [hsl,l3]; omega)) (by simp_wf) (by rw [hsl,len_app,l3,l4]; omega)) (by simp_wf) (by rw [hsl,len_app,len_app,l3,l4]; omega)) (by simp_wf) (by rw [hsl,len_app,len_app,len_app,l2,l3,l4]; omega)) (by rw [e1,kdT_to])) (vs_nil (vs_nil (vs_nil ⟨_,_,_,_,rfl⟩)))
    · rintro ρ ⟨x1,x2,x3,x4,rfl⟩
      rw [show (rngD 0 (kN c)).length = kN c from by simp [rngD]]
      exact vs_ret (by simp_wf) (.inl rfl)
  show VS _ _ [.d (.int c),.un,.un,.un,.un,.un,.un] _
  refine vs_set sc_dkd.nd rfl (d := kdD .num) (by simp_wf) ?_
  refine vs_set sc_dkd.nd rfl (d := .str "num") (by simp_wf) ?_
  by_cases h0 : hsh c 1009 3 = 1
  · refine vs_ifT (vt_eqI (x := hsh c 1009 3) (ve_hsh (by simp_wf)) (by simp_wf)) (decide_eq_true h0) ?_
    refine vs_set sc_dkd.nd rfl (d := kdD .truth) (by simp_wf) ?_
    refine vs_set sc_dkd.nd rfl (d := .str "truth") (by simp_wf) (vs_nil ?_)
    have e : kBase c = .truth := by unfold kBase; rw [if_pos h0]
    rw [e,kdT_truth] at rest
    exact rest
  · refine vs_ifF (vt_eqI (x := hsh c 1009 3) (ve_hsh (by simp_wf)) (by simp_wf)) (decide_eq_false h0) (vs_nil ?_)
    have e : kBase c = .num := by unfold kBase; rw [if_neg h0]
    rw [e,kdT_num] at rest
    exact rest
theorem sc_wby : FnScope ["_law_cell","_law_some","_law_letters","_law_word","_law_k"] ["_law_cell"] (defScope st_law_word_by) := ⟨rfl,rfl,rfl,by decide +kernel,rfl,by decide +kernel,by decide +kernel⟩
theorem ok_wby {f : Addr} {fd : FuncData} (F : Fun K "_law_word_by" "_law_word_by" st_law_word_by f fd) (B : Plain mg) : FnOk P w K mg base CX0 1 f fd ["_law_cell"] (spV K RWordBy) := by
  refine F.okV sc_wby (fun as r h => ?_) (fun cdv A outer s H E as r hr h => ?_)
  · obtain ⟨c,rfl,_⟩ := h; exact ⟨rfl,by simp⟩
  obtain ⟨c,rfl,rfl⟩ := h
  have hsl : sizeLine = 16777216 := sizeLine_eq
  show VS _ _ [.d (.int c),.un,.un,.un,.un] _
  by_cases h0 : hsh c 1103 3 = 0
  · refine vs_ifT (vt_eqI (x := hsh c 1103 3) (ve_hsh (by simp_wf)) (by simp_wf)) (decide_eq_true h0) ?_
    refine vs_setO sc_wby.nd rfl (by simp_wf) ?_
    have w0 := hsh_lo c 1109 (n := 8) (by decide)
    have w8 := hsh_hi c 1109 (n := 8) (by decide)
    have hix : atI [PyData.str "x",.str "total",.str "note",.str "iffy",.str "number",.str "lists",.str "funny",.str "t"] (hsh c 1109 8) = some (.str (someW (hsh c 1109 8))) := by
      have : hsh c 1109 8 = 0 ∨ hsh c 1109 8 = 1 ∨ hsh c 1109 8 = 2 ∨ hsh c 1109 8 = 3 ∨ hsh c 1109 8 = 4 ∨ hsh c 1109 8 = 5 ∨ hsh c 1109 8 = 6 ∨ hsh c 1109 8 = 7 := by omega
      rcases this with h | h | h | h | h | h | h | h <;> rw [h] <;> rfl
    exact vs_ret (ve_eq (ve_ixL (by simp_wf) (ve_hsh (by simp_wf)) rfl hix) (by unfold wordB; rw [if_pos h0])) (.inl rfl)
  · refine vs_ifN (vt_eqI (x := hsh c 1103 3) (ve_hsh (by simp_wf)) (by simp_wf)) (decide_eq_false h0) ?_
    refine vs_set sc_wby.nd rfl (d := .str Letters) (by simp_wf) ?_
    refine vs_set sc_wby.nd rfl (d := .str "q") (by simp_wf) ?_
    have w0 := hsh_lo c 1117 (n := 9) (by decide)
    have w9 := hsh_hi c 1117 (n := 9) (by decide)
    refine vs_for PassesOwn.never rfl (vi_range B.range (n := (hsh c 1117 9).toNat) (ve_eq (ve_hsh (by simp_wf)) (by rw [Int.toNat_of_nonneg w0])) (by omega)) (vg_name sc_wby.nd rfl)
      (fun i ρ => ∃ a : Sl,ρ = [.d (.int c),.un,.d (.str Letters),.d (.str (wAt c i)),a]) ⟨.un,rfl⟩ ?_ ?_
    · rintro i d ρ hd ⟨x1,rfl⟩
      obtain ⟨hi,rfl⟩ := rng_get hd
      refine ⟨_,rfl,?_⟩
      show VS _ _ [.d (.int c),.un,.d (.str Letters),.d (.str (wAt c i)),.d (.int (i : Int))] _
      have hl := wAt_len c i
      refine vs_set sc_wby.nd rfl (d := .str (wAt c (i + 1))) (ve_addS (i := sg (97 + (hsh (c + 7 * i) 1123 26).toNat)) (ve_ixS (z := Letters) (by simp_wf) (ve_hsh (ve_addI (by simp_wf) (ve_mulI (by simp_wf) (by simp_wf) (.inl ⟨by decide,by decide⟩)))) (by rw [hsl]; decide) ⟨_,letters_at (hsh_lo _ _ (by decide)) (hsh_hi _ _ (by decide)),rfl⟩) (by simp_wf) (by rw [hsl,hl,show (sg (97 + (hsh (c + 7 * i) 1123 26).toNat)).length = 1 from rfl]; omega)) (vs_nil ⟨_,rfl⟩)
    · rintro ρ ⟨x1,rfl⟩
      exact vs_ret (r := .d (.str (wordB c))) (ve_eq (r := .d (.str (wAt c (rngD 0 (hsh c 1117 9).toNat).length))) (by simp_wf) (by unfold wordB; rw [if_neg h0]; simp [rngD])) (.inl rfl)
theorem sc_lef : FnScope ["_law_cell","_law_way","_law_n","_law_sure","_law_pair","_law_name"] ["_law_cell"] (defScope st_law_leaf) := ⟨rfl,rfl,rfl,by decide +kernel,rfl,by decide +kernel,by decide +kernel⟩
theorem ok_lef {f : Addr} {fd : FuncData} (F : Fun K "_law_leaf" "_law_leaf" st_law_leaf f fd) (hstr : mg "str" = none) (hint : mg "int" = none) (DB : DefOk P w K mg base 1 "_law_built_up" ["_law_word","_law_marks","_law_ones","_law_gaps"] (spV K RBuilt)) (DK : DefOk P w K mg base 1 "_law_drawn_kind" ["_law_cell"] (spV K RDKind)) (DN : DefOk P w K mg base 1 "_law_word_by" ["_law_cell"] (spV K RWordBy)) : FnOk P w K mg base CX0 2 f fd ["_law_cell"] (spV K RLeaf) := by
  refine F.okV sc_lef (fun as r h => ?_) (fun cdv A outer s H E as r hr h => ?_)
  · obtain ⟨c,rfl,_⟩ := h; exact ⟨rfl,by simp⟩
  obtain ⟨c,rfl,rfl⟩ := h
  have hsl : sizeLine = 16777216 := sizeLine_eq
  have w0 := hsh_lo c 1021 (n := 4) (by decide)
  have w4 := hsh_hi c 1021 (n := 4) (by decide)
  show VS _ _ [.d (.int c),.un,.un,.un,.un,.un] _
  refine vs_set sc_lef.nd rfl (d := .int (hsh c 1021 4)) (ve_hsh (by simp_wf)) ?_
  have bsp : ∀ (wd : Str) (ms : List PyData) (g : Str),g.length ≤ 1000000 → RBuilt [.d (.str wd),.d (.tuple ms),.l [],.l [.str g]] (.d (biD (built wd ms [] [g]))) := fun wd ms g hg => ⟨wd,ms,[],[g],rfl,rfl,by simp,fun i hi => by
    obtain rfl : i = 0 := by simpa using hi
    exact ⟨hg,by simp [rowsAt]⟩,by simp,rfl⟩
  by_cases h0 : hsh c 1021 4 = 0
  · refine vs_ifT (vt_eqI (x := hsh c 1021 4) (by simp_wf) (by simp_wf)) (decide_eq_true h0) ?_
    refine vs_set sc_lef.nd rfl (d := .int (c / 4 % 1000000000000000000000 - 5)) (ve_subI (ve_modI (ve_divI (by simp_wf) (by simp_wf)) (by simp_wf)) (by simp_wf)) ?_
    have u0 := hsh_lo c 1097 (n := 3) (by decide)
    have u3 := hsh_hi c 1097 (n := 3) (by decide)
    have hix : atI [PyData.int 1,.int (-1),.int (10 ^ 70)] (hsh c 1097 3) = some (.int (if hsh c 1097 3 = 0 then 1 else if hsh c 1097 3 = 1 then -1 else 10 ^ 70)) := by
      have : hsh c 1097 3 = 0 ∨ hsh c 1097 3 = 1 ∨ hsh c 1097 3 = 2 := by omega
      rcases this with h | h | h <;> rw [h] <;> rfl
    have hx1 : 0 ≤ c / 4 % 1000000000000000000000 := Int.emod_nonneg _ (by decide)
    have hx2 : c / 4 % 1000000000000000000000 < 1000000000000000000000 := Int.emod_lt_of_pos _ (by decide)
    have e : leafT c = .num (numB c) := by rw [leafT,if_pos h0]
    have hmul : IntMulOk (c / 4 % 1000000000000000000000 - 5) (if hsh c 1097 3 = 0 then 1 else if hsh c 1097 3 = 1 then -1 else 10 ^ 70) := by
      refine mulOk_bits ?_ ?_
      · generalize c / 4 % 1000000000000000000000 = x at hx1 hx2
        exact Nat.lt_trans (show (x - 5).natAbs < 1000000000000000000001 by omega) (by decide +kernel)
      · split
        · decide +kernel
        · split <;> decide +kernel
    refine vs_set sc_lef.nd rfl (d := .int (numB c)) (ve_mulG (by simp_wf) (ve_ixL (ve_lst (vd_cons (by simp_wf) (vd_cons (ve_neg (by simp_wf)) (vd_cons (d := .int (10 ^ 70)) (ve_intT hint (ve_addS (ve_str (x := "1")) (ve_mulS (z := "0") (n := 70) (by simp_wf) (by simp_wf) (by decide) (by decide) (by decide) (by decide)) (by decide +kernel)) (by decide +kernel) (by decide +kernel)) vd_nil)))) (ve_hsh (by simp_wf)) rfl hix) hmul) ?_
    have hlog : (numB c).natAbs.log2 < 1920 := by
      by_cases hz : (numB c).natAbs = 0
      · rw [hz]; decide
      · exact Nat.lt_trans ((Nat.log2_lt hz).mpr (numB_abs c)) (by decide)
    have hln : (numT (numB c)).length ≤ 1000000 := num_len c
    refine vs_ret (ve_eq (ve_call DB hr (rs := [.d (.str "num"),.d (.tuple [.int (numB c)]),.o [],.o [.str (numT (numB c))]]) (va_cons (by simp_wf) (va_cons (by simp_wf) (va_cons (by simp_wf) (va_cons (ve_lst (vd_cons (ve_eq (ve_strI hstr (by simp_wf) hlog) (by rw [str_numT])) vd_nil)) va_nil)))) (bsp "num" [.int (numB c)] (numT (numB c)) hln)) ?_) (.inl rfl)
    unfold leafB
    rw [e,lineT_num]
    rfl
  · refine vs_ifN (vt_eqI (x := hsh c 1021 4) (by simp_wf) (by simp_wf)) (decide_eq_false h0) ?_
    by_cases h1 : hsh c 1021 4 = 1
    · refine vs_ifT (vt_eqI (x := hsh c 1021 4) (by simp_wf) (by simp_wf)) (decide_eq_true h1) ?_
      refine vs_set sc_lef.nd rfl (d := .bool (decide (hsh c 1033 2 = 0))) (ve_eqb (ve_hsh (by simp_wf)) (by simp_wf)) ?_
      have hix : atI [PyData.str "no",.str "yes"] (if decide (hsh c 1033 2 = 0) then 1 else 0) = some (.str (lineT (leafT c))) := by
        rw [leafT,if_neg h0,if_pos h1,lineT_truth]
        cases decide (hsh c 1033 2 = 0) <;> rfl
      refine vs_ret (ve_eq (ve_call DB hr (rs := [.d (.str "truth"),.d (.tuple [.bool (decide (hsh c 1033 2 = 0))]),.o [],.o [.str (lineT (leafT c))]]) (va_cons (by simp_wf) (va_cons (by simp_wf) (va_cons (by simp_wf) (va_cons (ve_lst (vd_cons (d := .str (lineT (leafT c))) (ve_ixL (ve_lst (by simp_wf)) (ve_intB hint (by simp_wf)) rfl hix) vd_nil)) va_nil)))) (bsp "truth" [.bool (decide (hsh c 1033 2 = 0))] (lineT (leafT c)) ?_)) ?_) (.inl rfl)
      · rw [leafT,if_neg h0,if_pos h1,lineT_truth]; cases decide (hsh c 1033 2 = 0) <;> decide
      · show Sl.d (biD ⟨.tuple [.str "truth",.tuple [.bool (decide (hsh c 1033 2 = 0))],.tuple []],lineT (leafT c),[([],0,_)]⟩) = _
        unfold leafB
        rw [show wtD (leafT c) = .tuple [.str "truth",.tuple [.bool (decide (hsh c 1033 2 = 0))],.tuple []] from by rw [leafT,if_neg h0,if_pos h1]; rfl]
        rfl
    · refine vs_ifN (vt_eqI (x := hsh c 1021 4) (by simp_wf) (by simp_wf)) (decide_eq_false h1) ?_
      by_cases h2 : hsh c 1021 4 = 2
      · refine vs_ifT (vt_eqI (x := hsh c 1021 4) (by simp_wf) (by simp_wf)) (decide_eq_true h2) ?_
        have hk : (kdT (kindB (c / 4))).length ≤ 165 := by have := kAt_len (c / 4) (kN (c / 4)); have := kN_le (c / 4); unfold kindB; omega
        have e1 : ("(nil " : Str).length = 5 := by decide
        have e2 : (")" : Str).length = 1 := by decide
        refine vs_set sc_lef.nd rfl (d := .tuple [kdD (kindB (c / 4)),.str (kdT (kindB (c / 4)))]) (ve_call DK hr (va_cons (ve_divI (by simp_wf) (by simp_wf)) va_nil) ⟨c / 4,rfl,rfl⟩) ?_
        refine vs_ret (ve_eq (ve_call DB hr (rs := [.d (.str "nil"),.d (.tuple [kdD (kindB (c / 4))]),.o [],.o [.str ("(nil " ++ kdT (kindB (c / 4)) ++ ")")]]) (va_cons (by simp_wf) (va_cons (by simp_wf) (va_cons (by simp_wf) (va_cons (ve_lst (vd_cons (ve_addS (ve_addS (by simp_wf) (by simp_wf) (by rw [hsl,e1]; omega)) (by simp_wf) (by rw [hsl,len_app,e1,e2]; omega)) vd_nil)) va_nil)))) (bsp "nil" [kdD (kindB (c / 4))] ("(nil " ++ kdT (kindB (c / 4)) ++ ")") ?_)) ?_) (.inl rfl)
        · rw [len_app,len_app,e1,e2]; omega
        · have e : leafT c = .nil (kindB (c / 4)) := by rw [leafT,if_neg h0,if_neg h1,if_pos h2]
          unfold leafB
          rw [e,lineT_nil]
          rfl
      · refine vs_ifN (vt_eqI (x := hsh c 1021 4) (by simp_wf) (by simp_wf)) (decide_eq_false h2) ?_
        refine vs_set sc_lef.nd rfl (d := .str (wordB c)) (ve_call DN hr (va_cons (by simp_wf) va_nil) ⟨c,rfl,rfl⟩) ?_
        refine vs_ret (ve_eq (ve_call DB hr (rs := [.d (.str "name"),.d (.tuple [.str (wordB c)]),.o [],.o [.str (wordB c)]]) (va_cons (by simp_wf) (va_cons (by simp_wf) (va_cons (by simp_wf) (va_cons (by simp_wf) va_nil)))) (bsp "name" [.str (wordB c)] (wordB c) (by have := wordB_len c; omega))) ?_) (.inl rfl)
        have e : leafT c = .name (wordB c) := by rw [leafT,if_neg h0,if_neg h1,if_neg h2]
        unfold leafB
        rw [e,lineT_name]
        rfl
theorem sc_tkn : FnScope ["_law_pile","_law_cell"] ["_law_pile","_law_cell"] (defScope st_law_taken) := ⟨rfl,rfl,rfl,by decide +kernel,rfl,by decide +kernel,by decide +kernel⟩
theorem ok_tkn {f : Addr} {fd : FuncData} (F : Fun K "_law_taken" "_law_taken" st_law_taken f fd) (B : Plain mg) (DL : DefOk P w K mg base 2 "_law_leaf" ["_law_cell"] (spV K RLeaf)) : FnOk P w K mg base CX0 3 f fd ["_law_pile", "_law_cell"] (spTakeW K) := by
  refine F.ok sc_tkn (fun vs H Q E h => ?_) (fun cdv A outer s H vs Q E hr h => ?_)
  · obtain ⟨a, xs, c, rfl, _⟩ := h; rfl
  obtain ⟨a, xs, c, rfl, ⟨vs, hv, rv⟩, q⟩ := h
  refine ⟨_, pss_cons (ps_if (pt_cmpR op_gt (pe_callB call_len_seq rfl B.len PySem.boot_len (pa_cons (pv 0) pa_nil)) pe_int (nomark _)) (pss_one (ps_ret (pe_bm0 PySem.F.plainAttrs_list PySem.F.slot_list_pop PySem.F.type_list_pop mt_pop (pv 0)))) pss_nil) (pss_one (ps_ret (pe_callD DL hr rfl (pa_cons (pv 1) pa_nil)))), ?_⟩
  have hl := rv.length
  rw [List.length_reverse] at hl
  cases xs with
  | nil =>
    have e0 : vs = [] := List.eq_nil_of_length_eq_zero hl
    subst e0
    refine ⟨_, rfl, a, _, rfl, .inl (SqL.of hv), _, _, rfl, rfl, false, rfl, iteF ?_⟩
    exact ⟨_, rfl, [.d (.int c)], .d (biD (leafB c)), .cons (Rep.int (K := K) (H := H) c) .nil, ⟨c, rfl, rfl⟩, fun v H' s' r' => q v H' (fun b o _ e => s' b o e) (LsR.mono s' ⟨_, hv, rv⟩) r'⟩
  | cons x r =>
    refine ⟨_, rfl, a, _, rfl, .inl (SqL.of hv), _, _, rfl, rfl, true, by rw [hl]; simp, iteT ?_⟩
    rw [List.reverse_cons] at rv
    obtain ⟨ws, u, rfl, h5, h6⟩ := rv.snoc
    refine ⟨_, rfl, .inl ⟨rfl, _, SqL.of hv⟩, a, _, u, rfl, rfl, hv, by simp, ?_⟩
    rw [List.dropLast_concat]
    have tl : TupLe K H (upd H a (.lst ws)) := (SameBut.upd _).tup hv
    exact q u _ (fun b o n e => by rw [upd_ne n]; exact e) ⟨ws, upd_same, Reps.mono tl _ _ h5⟩ (Rep.mono tl _ _ h6)
theorem sc_cmb : FnScope ["_law_pile","_law_cell","_law_way","_law_pair","_law_name","_law_one","_law_gaps","_law_two","_law_word","_law_three","_law_tail","_law_marks"] ["_law_pile","_law_cell"] (defScope st_law_combined) := ⟨rfl,rfl,rfl,by decide +kernel,rfl,by decide +kernel,by decide +kernel⟩
theorem ok_cmb {f : Addr} {fd : FuncData} (F : Fun K "_law_combined" "_law_combined" st_law_combined f fd) (B : Plain mg) (DK : DefOk P w K mg base 1 "_law_drawn_kind" ["_law_cell"] (spV K RDKind)) (DN : DefOk P w K mg base 1 "_law_word_by" ["_law_cell"] (spV K RWordBy)) (DT : DefOk P w K mg base 3 "_law_taken" ["_law_pile","_law_cell"] (spTakeW K)) (DB : DefOk P w K mg base 1 "_law_built_up" ["_law_word","_law_marks","_law_ones","_law_gaps"] (spV K RBuilt)) : FnOk P w K mg base CX0 4 f fd ["_law_pile","_law_cell"] (spComb K) := by
  refine F.ok sc_cmb (fun vs H Q E h => ?_) (fun cdv A outer s H vs Q E hr h => ?_)
  · obtain ⟨a,ys,c,rfl,_⟩ := h; rfl
  obtain ⟨a,ys,c,rfl,hl,⟨m,hm,hp⟩,q⟩ := h
  obtain ⟨k1,k2,k3,n1,n2,n3,a1,b1,a2,b2,a3,b3,e1,e2,e3⟩ := comb_pops c hp
  have hsl : sizeLine = 16777216 := sizeLine_eq
  have lw := wordB_len (c / 3)
  have lv := wordB_len (c / 7)
  have lk := kindB_len (c / 12)
  have q1 : ("(fun " : Str).length = 5 := by decide
  have q2 : (")" : Str).length = 1 := by decide
  have q3 : (" " : Str).length = 1 := by decide
  have q4 : ("(case " : Str).length = 6 := by decide
  have q5 : ("(" : Str).length = 1 := by decide
  have hr1 := hr.mono (j := 1) (by decide)
  have w0 := hsh_lo c 1039 (n := 8) (by decide)
  have w8 := hsh_hi c 1039 (n := 8) (by decide)
  refine ⟨tYS K (PhiL a H) [.o (ys.map biD).reverse,.d (.int c),.un,.un,.un,.un,.un,.un,.un,.un,.un,.un] (fun ρ d => ρ[0]? = some (.o ((combB c ys).2.map biD).reverse) ∧ d = biD (combB c ys).1),?_,hidP (fun b => b = a) H,[],⟨rfl,rfl⟩,er_start1 (N := ["_law_pile","_law_cell","_law_way","_law_pair","_law_name","_law_one","_law_gaps","_law_two","_law_word","_law_three","_law_tail","_law_marks"]) (c := c) hl,fun v H' ⟨σ,ρ,d,⟨r0,rd⟩,⟨_,s0⟩,er,rv⟩ => by
      subst rd
      obtain ⟨a',g1,g2,_⟩ := er.own 0 _ r0
      rw [s0] at g1; cases g1
      exact q v H' (fun b o n e => er.same b o (hidP_of (fun z => n z) e)) g2 rv⟩
  show VY _ _ _ _ _
  refine vy_set sc_cmb.nd rfl (PhiL.kept (by decide)) (d := .int (4 + hsh c 1039 8)) (ve_addI (by simp_wf) (ve_hsh (by simp_wf))) ?_
  refine vy_set sc_cmb.nd rfl (PhiL.kept (by decide)) (d := .tuple [kdD (kindB (c / 12)),.str (kdT (kindB (c / 12)))]) (ve_call DK hr1 (va_cons (ve_divI (by simp_wf) (by simp_wf)) va_nil) ⟨c / 12,rfl,rfl⟩) ?_
  refine vy_set sc_cmb.nd rfl (PhiL.kept (by decide)) (d := .str (wordB (c / 3))) (ve_call DN hr1 (va_cons (ve_divI (by simp_wf) (by simp_wf)) va_nil) ⟨c / 3,rfl,rfl⟩) ?_
  refine vy_setM sc_cmb.nd rfl (PhiL.kept (by decide)) (vm_takeB (ys := ys) (c := c / 5) DT hr rfl rfl (ve_divI (by simp_wf) (by simp_wf))) ?_
  by_cases h6 : 4 + hsh c 1039 8 < 6
  · have ec : combB c ys = (funB (wordB (c / 3)) (kindB (c / 12)) (oneB c ys).1,(oneB c ys).2) := by unfold combB; rw [if_pos h6]
    have bo := funB_ok (wordB_name (c / 3)) lw lk (kindB_dep (c / 12)) (kindB_wt (c / 12)) a1
    refine vy_ifT (vt_ltI (x := 4 + hsh c 1039 8) (by simp_wf) (by simp_wf)) (decide_eq_true h6) ?_
    refine vy_setO sc_cmb.nd rfl (PhiL.kept (by decide)) (xs := [.str ("(fun " ++ wordB (c / 3) ++ " " ++ kdT (kindB (c / 12)) ++ " "),.str ")"]) (ve_lst (vd_cons (ve_addS (ve_addS (ve_addS (ve_addS (by simp_wf) (by simp_wf) (by rw [hsl]; simp only [len_app,q1,q3]; omega)) (by simp_wf) (by rw [hsl]; simp only [len_app,q1,q3]; omega)) (by simp_wf) (by rw [hsl]; simp only [len_app,q1,q3]; omega)) (by simp_wf) (by rw [hsl]; simp only [len_app,q1,q3]; omega)) (vd_cons (by simp_wf) vd_nil))) ?_
    refine vy_ret (d := biD (funB (wordB (c / 3)) (kindB (c / 12)) (oneB c ys).1)) (ve_call DB hr1 (rs := [.d (.str "fun"),.d (.tuple [.str (wordB (c / 3)),kdD (kindB (c / 12))]),.o [biD (oneB c ys).1],.l [.str ("(fun " ++ wordB (c / 3) ++ " " ++ kdT (kindB (c / 12)) ++ " "),.str ")"]]) (va_cons (by simp_wf) (va_cons (by simp_wf) (va_cons (by simp_wf) (va_cons (by simp_wf) va_nil)))) (bspW (ones := [(oneB c ys).1]) (gaps := ["(fun " ++ wordB (c / 3) ++ " " ++ kdT (kindB (c / 12)) ++ " ",")"]) rfl (by simp) bo (by omega) (fun o ho => ⟨k1,by omega,by rw [List.mem_singleton] at ho; subst ho; exact a1⟩))) ?_
    rw [ec]
    exact ⟨rfl,rfl⟩
  refine vy_ifN (vt_ltI (x := 4 + hsh c 1039 8) (by simp_wf) (by simp_wf)) (decide_eq_false h6) ?_
  refine vy_setM sc_cmb.nd rfl (PhiL.kept (by decide)) (vm_takeB (ys := (oneB c ys).2) (c := c / 7) DT hr rfl rfl (ve_divI (by simp_wf) (by simp_wf))) ?_
  by_cases h10 : 4 + hsh c 1039 8 < 10
  · have ec : combB c ys = (opB (opW (4 + hsh c 1039 8 - 6)) (twoB c ys).1 (oneB c ys).1,(twoB c ys).2) := by unfold combB; rw [if_neg h6,if_pos h10]
    have bo := opB_ok (4 + hsh c 1039 8 - 6) a2 a1
    have hix : atI [PyData.str "add",.str "less",.str "front",.str "call"] (4 + hsh c 1039 8 - 6) = some (.str (opW (4 + hsh c 1039 8 - 6))) := by
      have : 4 + hsh c 1039 8 - 6 = 0 ∨ 4 + hsh c 1039 8 - 6 = 1 ∨ 4 + hsh c 1039 8 - 6 = 2 ∨ 4 + hsh c 1039 8 - 6 = 3 := by omega
      rcases this with h | h | h | h <;> rw [h] <;> rfl
    have lo : (opW (4 + hsh c 1039 8 - 6)).length ≤ 5 := by unfold opW; (repeat' split) <;> decide
    refine vy_ifT (vt_ltI (x := 4 + hsh c 1039 8) (by simp_wf) (by simp_wf)) (decide_eq_true h10) ?_
    refine vy_set sc_cmb.nd rfl (PhiL.kept (by decide)) (d := .str (opW (4 + hsh c 1039 8 - 6))) (ve_ixL (ve_lst (by simp_wf)) (ve_subI (by simp_wf) (by simp_wf)) rfl hix) ?_
    refine vy_ret (d := biD (opB (opW (4 + hsh c 1039 8 - 6)) (twoB c ys).1 (oneB c ys).1)) (ve_call DB hr1 (rs := [.d (.str (opW (4 + hsh c 1039 8 - 6))),.d (.tuple []),.o [biD (twoB c ys).1,biD (oneB c ys).1],.o [.str ("(" ++ opW (4 + hsh c 1039 8 - 6) ++ " "),.str " ",.str ")"]]) (va_cons (by simp_wf) (va_cons (by simp_wf) (va_cons (by simp_wf) (va_cons (ve_lst (vd_cons (ve_addS (ve_addS (by simp_wf) (by simp_wf) (by rw [hsl]; simp only [len_app,q5,q3]; omega)) (by simp_wf) (by rw [hsl]; simp only [len_app,q5,q3]; omega)) (vd_cons (by simp_wf) (vd_cons (by simp_wf) vd_nil)))) va_nil)))) (bspW (ones := [(twoB c ys).1,(oneB c ys).1]) (gaps := ["(" ++ opW (4 + hsh c 1039 8 - 6) ++ " "," ",")"]) rfl (by simp) bo (by omega) (fun o ho => by
      simp only [List.mem_cons,List.not_mem_nil,or_false] at ho
      rcases ho with rfl | rfl
      · exact ⟨k2,by omega,a2⟩
      · exact ⟨k1,by omega,a1⟩))) ?_
    rw [ec]
    exact ⟨rfl,rfl⟩
  refine vy_ifN (vt_ltI (x := 4 + hsh c 1039 8) (by simp_wf) (by simp_wf)) (decide_eq_false h10) ?_
  refine vy_setM sc_cmb.nd rfl (PhiL.kept (by decide)) (vm_takeB (ys := (twoB c ys).2) (c := c / 11) DT hr rfl rfl (ve_divI (by simp_wf) (by simp_wf))) ?_
  have mem3 : ∀ o ∈ [(thrB c ys).1,(twoB c ys).1,(oneB c ys).1],∃ k,k ≤ 1000000 ∧ BOk k o := fun o ho => by
    simp only [List.mem_cons,List.not_mem_nil,or_false] at ho
    rcases ho with rfl | rfl | rfl
    · exact ⟨k3,by omega,a3⟩
    · exact ⟨k2,by omega,a2⟩
    · exact ⟨k1,by omega,a1⟩
  by_cases h11 : 4 + hsh c 1039 8 = 10
  · have ec : combB c ys = (ifB (thrB c ys).1 (twoB c ys).1 (oneB c ys).1,(thrB c ys).2) := by unfold combB; rw [if_neg h6,if_neg h10,if_pos h11]
    have bo := ifB_ok a3 a2 a1
    refine vy_ifT (vt_eqI (x := 4 + hsh c 1039 8) (by simp_wf) (by simp_wf)) (decide_eq_true h11) ?_
    refine vy_ret (d := biD (ifB (thrB c ys).1 (twoB c ys).1 (oneB c ys).1)) (ve_call DB hr1 (rs := [.d (.str "if"),.d (.tuple []),.o [biD (thrB c ys).1,biD (twoB c ys).1,biD (oneB c ys).1],.o [.str "(if ",.str " ",.str " ",.str ")"]]) (va_cons (by simp_wf) (va_cons (by simp_wf) (va_cons (by simp_wf) (va_cons (by simp_wf) va_nil)))) (bspW (ones := [(thrB c ys).1,(twoB c ys).1,(oneB c ys).1]) (gaps := ["(if "," "," ",")"]) rfl (by simp) bo (by omega) mem3)) ?_
    rw [ec]
    exact ⟨rfl,rfl⟩
  refine vy_ifN (vt_eqI (x := 4 + hsh c 1039 8) (by simp_wf) (by simp_wf)) (decide_eq_false h11) ?_
  have ec : combB c ys = (caseB (kindB (c / 12)) (wordB (c / 3)) (wordB (c / 7)) (thrB c ys).1 (twoB c ys).1 (oneB c ys).1,(thrB c ys).2) := by unfold combB; rw [if_neg h6,if_neg h10,if_neg h11]
  have bo := caseB_ok (wordB_name (c / 3)) (wordB_name (c / 7)) lw lv lk (kindB_dep (c / 12)) (kindB_wt (c / 12)) a3 a2 a1
  refine vy_set sc_cmb.nd rfl (PhiL.kept (by decide)) (d := .str (wordB (c / 7))) (ve_call DN hr1 (va_cons (ve_divI (by simp_wf) (by simp_wf)) va_nil) ⟨c / 7,rfl,rfl⟩) ?_
  refine vy_setO sc_cmb.nd rfl (PhiL.kept (by decide)) (xs := [.str ("(case " ++ kdT (kindB (c / 12)) ++ " "),.str " ",.str (" " ++ wordB (c / 3) ++ " " ++ wordB (c / 7) ++ " "),.str ")"]) (ve_lst (vd_cons (ve_addS (ve_addS (by simp_wf) (by simp_wf) (by rw [hsl]; simp only [len_app,q4,q3]; omega)) (by simp_wf) (by rw [hsl]; simp only [len_app,q4,q3]; omega)) (vd_cons (by simp_wf) (vd_cons (ve_addS (ve_addS (ve_addS (ve_addS (by simp_wf) (by simp_wf) (by rw [hsl]; simp only [len_app,q3]; omega)) (by simp_wf) (by rw [hsl]; simp only [len_app,q3]; omega)) (by simp_wf) (by rw [hsl]; simp only [len_app,q3]; omega)) (by simp_wf) (by rw [hsl]; simp only [len_app,q3]; omega)) (vd_cons (by simp_wf) vd_nil))))) ?_
  refine vy_set sc_cmb.nd rfl (PhiL.kept (by decide)) (d := .tuple [kdD (kindB (c / 12)),.str (wordB (c / 3)),.str (wordB (c / 7))]) (by simp_wf) ?_
  refine vy_ret (d := biD (caseB (kindB (c / 12)) (wordB (c / 3)) (wordB (c / 7)) (thrB c ys).1 (twoB c ys).1 (oneB c ys).1)) (ve_call DB hr1 (rs := [.d (.str "case"),.d (.tuple [kdD (kindB (c / 12)),.str (wordB (c / 3)),.str (wordB (c / 7))]),.o [biD (thrB c ys).1,biD (twoB c ys).1,biD (oneB c ys).1],.l [.str ("(case " ++ kdT (kindB (c / 12)) ++ " "),.str " ",.str (" " ++ wordB (c / 3) ++ " " ++ wordB (c / 7) ++ " "),.str ")"]]) (va_cons (by simp_wf) (va_cons (by simp_wf) (va_cons (by simp_wf) (va_cons (by simp_wf) va_nil)))) (bspW (ones := [(thrB c ys).1,(twoB c ys).1,(oneB c ys).1]) (gaps := ["(case " ++ kdT (kindB (c / 12)) ++ " "," "," " ++ wordB (c / 3) ++ " " ++ wordB (c / 7) ++ " ",")"]) rfl (by simp) bo (by omega) mem3)) ?_
  rw [ec]
  exact ⟨rfl,rfl⟩
theorem sc_grw : FnScope ["_law_cells","_law_pile","_law_k","_law_cell","_law_made","_law_item"] ["_law_cells"] (defScope st_law_grown) := ⟨rfl,rfl,rfl,by decide +kernel,rfl,by decide +kernel,by decide +kernel⟩
theorem ok_grw {f : Addr} {fd : FuncData} (F : Fun K "_law_grown" "_law_grown" st_law_grown f fd) (B : Plain mg) (DL : DefOk P w K mg base 2 "_law_leaf" ["_law_cell"] (spV K RLeaf)) (DT : DefOk P w K mg base 3 "_law_taken" ["_law_pile", "_law_cell"] (spTakeW K)) (DC : DefOk P w K mg base 4 "_law_combined" ["_law_pile", "_law_cell"] (spComb K)) (DB : DefOk P w K mg base 1 "_law_built_up" ["_law_word", "_law_marks", "_law_ones", "_law_gaps"] (spV K RBuilt)) : FnOk P w K mg base CX0 5 f fd ["_law_cells"] (spV K RGrown) := by
  refine F.okV sc_grw (fun as r h => ?_) (fun cdv A outer s H E as r hr h => ?_)
  · obtain ⟨cs, rfl, _⟩ := h; exact ⟨rfl, by simp⟩
  obtain ⟨cs, rfl, hc, rfl⟩ := h
  have hsl : sizeLine = 16777216 := sizeLine_eq
  show VS _ _ [.l (cs.map .int), .un, .un, .un, .un, .un] _
  refine vs_setO sc_grw.nd rfl (xs := []) (by simp_wf) ?_
  refine vs_for PassesOwn.never rfl (vi_range B.range (n := cs.length) (ve_eq (ve_lenL B.len (by simp_wf) rfl) (by rw [List.length_map])) (by omega)) (vg_name sc_grw.nd rfl)
    (fun i ρ => ∃ x y z : Sl, (∀ xs, z ≠ .o xs) ∧ ρ = [.l (cs.map .int), .o ((pileAt cs i).map biD).reverse, x, y, z, .un]) ⟨.un, .un, .un, (fun _ z => nomatch z), rfl⟩ ?_ ?_
  · rintro i d ρ hd ⟨x, y, z, nz, rfl⟩
    obtain ⟨hi, rfl⟩ := rng_get hd
    obtain ⟨po, pl⟩ := pileAt_ok cs i
    refine ⟨_, rfl, ?_⟩
    have hci : cs[i]? = some cs[i] := List.getElem?_eq_getElem hi
    have hcell : cellAt cs i = cs[i] + 7 * (i : Int) := by unfold cellAt; rw [hci]; rfl
    show VS _ _ [.l (cs.map .int), .o ((pileAt cs i).map biD).reverse, .d (.int (i : Int)), y, z, .un] _
    refine vs_set sc_grw.nd rfl (d := .int (cellAt cs i)) (ve_eq (ve_addI (ve_ixL (xs := cs.map .int) (d := .int cs[i]) (by simp_wf) (by simp_wf) rfl (atI_nat (by rw [List.getElem?_map, hci]; rfl))) (ve_mulI (by simp_wf) (by simp_wf) (.inl ⟨by decide, by decide⟩))) (by rw [hcell])) ?_
    by_cases h4 : hsh (cellAt cs i) 1051 12 < 4
    · have ep : pileAt cs (i + 1) = leafB (cellAt cs i / 12) :: pileAt cs i := by rw [pileAt, if_pos h4]
      refine vs_ifT (vt_ltI (x := hsh (cellAt cs i) 1051 12) (ve_hsh (by simp_wf)) (by simp_wf)) (decide_eq_true h4) ?_
      refine vs_append rfl rfl (d := biD (leafB (cellAt cs i / 12))) (ve_call DL (hr.mono (by decide)) (va_cons (ve_divI (by simp_wf) (by simp_wf)) va_nil) ⟨_, rfl, rfl⟩) (by rw [hsl]; simp; omega) (vs_nil (vs_nil ⟨.d (.int (i : Int)), .d (.int (cellAt cs i)), z, nz, ?_⟩))
      rw [ep]
      simp
    · have ep : pileAt cs (i + 1) = (combB (cellAt cs i) (pileAt cs i)).1 :: (combB (cellAt cs i) (pileAt cs i)).2 := by rw [pileAt, if_neg h4]
      have cl := comb_len (cellAt cs i) (pileAt cs i)
      refine vs_ifF (vt_ltI (x := hsh (cellAt cs i) 1051 12) (ve_hsh (by simp_wf)) (by simp_wf)) (decide_eq_false h4) ?_
      refine vs_setM sc_grw.nd rfl (vm_comb (ys := pileAt cs i) (c := cellAt cs i) DC hr rfl rfl (by omega) po (by simp_wf)) ?_
      refine vs_append rfl rfl (d := biD (combB (cellAt cs i) (pileAt cs i)).1) (by simp_wf) (by rw [hsl]; simp; omega) (vs_nil (vs_nil ⟨.d (.int (i : Int)), .d (.int (cellAt cs i)), .d (biD (combB (cellAt cs i) (pileAt cs i)).1), (fun _ z => nomatch z), ?_⟩))
      rw [ep]
      simp
  · rintro ρ ⟨x, y, z, nz, rfl⟩
    rw [show (rngD 0 cs.length).length = cs.length from by simp [rngD]]
    obtain ⟨po, pl⟩ := pileAt_ok cs cs.length
    obtain ⟨k0, n0, a0, b0, e0⟩ := pop_ok po (leaf_ok 0)
    have l0 := popB_len (leafB 0) (pileAt cs cs.length)
    refine vs_setM sc_grw.nd rfl (vm_takeB (ys := pileAt cs cs.length) (c := 0) DT (hr.mono (by decide)) rfl rfl (by simp_wf)) ?_
    refine vs_while PassesOwn.never (fun m ρ => ∃ (xs : List BI) (x : BI) (p q t : Sl) (k n : Nat), m = xs.length ∧ (∀ xs, t ≠ .o xs) ∧ BOk k x ∧ PileOk n xs ∧ k + n + 20 * xs.length ≤ 200000 ∧ addsB x xs = grownB cs ∧ ρ = [.l (cs.map .int), .o (xs.map biD).reverse, p, q, t, .d (biD x)])
      ⟨_, (popB (leafB 0) (pileAt cs cs.length)).2, (popB (leafB 0) (pileAt cs cs.length)).1, x, y, z, k0, n0, rfl, nz, a0, b0, by omega, rfl, rfl⟩ ?_
    rintro m ρ' ⟨xs, x, p, q, t, k, n, rfl, nt, bx, pn, hz, hg, rfl⟩
    cases xs with
    | nil =>
      refine ⟨false, vt_eq (vt_gtI (y := 0) (ve_lenL B.len (by simp_wf) rfl) (by simp_wf)) (by simp), (fun z => nomatch z), fun _ => ?_⟩
      refine vs_ret (ve_eq (r' := .d (biD (grownB cs))) (ve_name rfl rfl) (by rw [← hg]; rfl)) (.inl rfl)
    | cons b xs =>
      cases pn with
      | cons h1 h2 h3 =>
        rename_i kb nb
        refine ⟨true, vt_eq (vt_gtI (y := 0) (ve_lenL B.len (by simp_wf) rfl) (by simp_wf)) (by simp), fun _ => ?_, (fun z => nomatch z)⟩
        have bo := addB_ok h1 bx
        refine vs_setM (d := biD (addB b x)) sc_grw.nd rfl (vm_call4 (ds := [biD b, biD x]) (xs := [.str "(add ", .str " ", .str ")"]) DB (hr.mono (by decide)) (by simp_wf) (by simp_wf) (vma_consM (vm_pop (xs := (xs.map biD).reverse) (d := biD b) rfl (by simp)) (vma_consM (vm_ve (d := biD x) (ve_name rfl rfl)) vma_nil)) (by simp_wf) (bspW (ones := [b, x]) (gaps := ["(add ", " ", ")"]) rfl (by simp) bo (by omega) (fun o ho => by
          simp only [List.mem_cons, List.not_mem_nil, or_false] at ho
          rcases ho with rfl | rfl
          · exact ⟨kb, by omega, h1⟩
          · exact ⟨k, by omega, bx⟩)) (by rw [hsl]; simp)) (vs_nil ?_)
        refine ⟨xs.length, by simp, xs, addB b x, p, q, t, _, _, rfl, nt, bo, h2, by simp at hz; omega, hg, rfl⟩
theorem sc_goo : FnScope ["_law_rest","_law_lines"] ["_law_rest"] (defScope st_law_good) := ⟨rfl,rfl,rfl,by decide +kernel,rfl,by decide +kernel,by decide +kernel⟩
theorem ok_goo {f : Addr} {fd : FuncData} (F : Fun K "_law_good" "_law_good" st_law_good f fd) (B : Plain mg) : FnOk P w K mg base CX0 1 f fd ["_law_rest"] (spV K RGood) := by
  refine F.okV sc_goo (fun as r h => ?_) (fun cdv A outer s H E as r hr h => ?_)
  · obtain ⟨l,rfl,_⟩ := h; exact ⟨rfl,by simp⟩
  obtain ⟨l,rfl,hl,rfl⟩ := h
  have hsl : sizeLine = 16777216 := sizeLine_eq
  have L1 : ("(add -10 " : Str).length = 9 := by decide
  have L2 : (")" : Str).length = 1 := by decide
  have L3 : ("(add 0 " : Str).length = 7 := by decide
  have L4 : ("(less " : Str).length = 6 := by decide
  have L5 : (" 7)" : Str).length = 3 := by decide
  have L6 : ("(fun x (to num (list truth)) " : Str).length = 29 := by decide
  have L7 : ("(case num " : Str).length = 10 := by decide
  have L8 : (" 1 x x " : Str).length = 7 := by decide
  have L9 : ("(call " : Str).length = 6 := by decide
  have L10 : (" " : Str).length = 1 := by decide
  show VS _ _ [.d (.str l),.un] _
  refine vs_setO sc_goo.nd rfl (xs := [.str ("(add 0 " ++ l ++ ")"),.str ("(add -10 " ++ l ++ ")")]) (ve_lst (vd_cons (ve_addS (ve_addS (by simp_wf) (by simp_wf) (by rw [hsl]; simp only [len_app,L1,L2,L3,L4,L5,L6,L7,L8,L9,L10]; omega)) (by simp_wf) (by rw [hsl]; simp only [len_app,L1,L2,L3,L4,L5,L6,L7,L8,L9,L10]; omega)) (vd_cons (ve_addS (ve_addS (by simp_wf) (by simp_wf) (by rw [hsl]; simp only [len_app,L1,L2,L3,L4,L5,L6,L7,L8,L9,L10]; omega)) (by simp_wf) (by rw [hsl]; simp only [len_app,L1,L2,L3,L4,L5,L6,L7,L8,L9,L10]; omega)) vd_nil))) ?_
  refine vs_append rfl rfl (d := .str ("(less " ++ l ++ " 7)")) (ve_addS (ve_addS (by simp_wf) (by simp_wf) (by rw [hsl]; simp only [len_app,L1,L2,L3,L4,L5,L6,L7,L8,L9,L10]; omega)) (by simp_wf) (by rw [hsl]; simp only [len_app,L1,L2,L3,L4,L5,L6,L7,L8,L9,L10]; omega)) (by rw [hsl]; simp) ?_
  refine vs_append rfl rfl (d := .str ("(fun x (to num (list truth)) " ++ l ++ ")")) (ve_addS (ve_addS (by simp_wf) (by simp_wf) (by rw [hsl]; simp only [len_app,L1,L2,L3,L4,L5,L6,L7,L8,L9,L10]; omega)) (by simp_wf) (by rw [hsl]; simp only [len_app,L1,L2,L3,L4,L5,L6,L7,L8,L9,L10]; omega)) (by rw [hsl]; simp) ?_
  refine vs_append rfl rfl (d := .str ("(case num " ++ l ++ " 1 x x " ++ l ++ ")")) (ve_addS (ve_addS (ve_addS (ve_addS (by simp_wf) (by simp_wf) (by rw [hsl]; simp only [len_app,L1,L2,L3,L4,L5,L6,L7,L8,L9,L10]; omega)) (by simp_wf) (by rw [hsl]; simp only [len_app,L1,L2,L3,L4,L5,L6,L7,L8,L9,L10]; omega)) (by simp_wf) (by rw [hsl]; simp only [len_app,L1,L2,L3,L4,L5,L6,L7,L8,L9,L10]; omega)) (by simp_wf) (by rw [hsl]; simp only [len_app,L1,L2,L3,L4,L5,L6,L7,L8,L9,L10]; omega)) (by rw [hsl]; simp) ?_
  refine vs_append rfl rfl (d := .str ("(call " ++ l ++ " " ++ l ++ ")")) (ve_addS (ve_addS (ve_addS (ve_addS (by simp_wf) (by simp_wf) (by rw [hsl]; simp only [len_app,L1,L2,L3,L4,L5,L6,L7,L8,L9,L10]; omega)) (by simp_wf) (by rw [hsl]; simp only [len_app,L1,L2,L3,L4,L5,L6,L7,L8,L9,L10]; omega)) (by simp_wf) (by rw [hsl]; simp only [len_app,L1,L2,L3,L4,L5,L6,L7,L8,L9,L10]; omega)) (by simp_wf) (by rw [hsl]; simp only [len_app,L1,L2,L3,L4,L5,L6,L7,L8,L9,L10]; omega)) (by rw [hsl]; simp) ?_
  exact vs_retO rfl rfl (.inl rfl)
theorem sc_bad : FnScope ["_law_rest","_law_heads","_law_lines"] ["_law_rest"] (defScope st_law_bad) := ⟨rfl,rfl,rfl,by decide +kernel,rfl,by decide +kernel,by decide +kernel⟩
theorem cs_bad : CompSc ["_law_rest","_law_heads","_law_lines"] (defScope st_law_bad) { kind := .function,names := [(".0",.local),("_law_word",.local),("_law_rest",.free)],isGenerator := false,isCoroutine := false } "_law_word" := ⟨rfl,by decide +kernel,by decide +kernel,rfl,by decide +kernel,by decide +kernel,by decide +kernel⟩
def headsL : List Str := ["007","-0","-05","00","-","+1","1-","--1","A","x1","if","to","num",""]
theorem heads_len : ∀ w ∈ headsL,w.length ≤ 3 := by decide
theorem ok_bad {f : Addr} {fd : FuncData} (F : Fun K "_law_bad" "_law_bad" st_law_bad f fd) (B : Plain mg) : FnOk P w K mg base CX0 1 f fd ["_law_rest"] (spV K RBadL) := by
  refine F.okV sc_bad (fun as r h => ?_) (fun cdv A outer s H E as r hr h => ?_)
  · obtain ⟨l, rfl, _⟩ := h; exact ⟨rfl, by simp⟩
  obtain ⟨l, rfl, hl, rfl⟩ := h
  have hsl : sizeLine = 16777216 := sizeLine_eq
  have L1 : ("(add " : Str).length = 5 := by decide
  have L2 : (" " : Str).length = 1 := by decide
  have L3 : (")" : Str).length = 1 := by decide
  have L4 : ("nil num)" : Str).length = 8 := by decide
  have L5 : ("add 1 " : Str).length = 6 := by decide
  have L6 : ("call x " : Str).length = 7 := by decide
  have L7 : ("fun x num " : Str).length = 10 := by decide
  have L8 : ("(add 1 " : Str).length = 7 := by decide
  have L9 : ("))" : Str).length = 2 := by decide
  have L10 : ("( add 1 " : Str).length = 8 := by decide
  have L11 : ("(add 1  " : Str).length = 8 := by decide
  have L12 : (" )" : Str).length = 2 := by decide
  have L13 : ("(" : Str).length = 1 := by decide
  have L14 : ("(nil " : Str).length = 5 := by decide
  have L15 : (" 2)" : Str).length = 3 := by decide
  have L16 : ("(list num)" : Str).length = 10 := by decide
  have L17 : ("" : Str).length = 0 := by decide
  have L18 : ("()" : Str).length = 2 := by decide
  have L19 : ("(fun x " : Str).length = 7 := by decide
  have L20 : (" num)" : Str).length = 5 := by decide
  have L21 : ("(fun X num " : Str).length = 11 := by decide
  have L22 : ("(fun if num " : Str).length = 12 := by decide
  have L23 : ("(case num x x x 1 " : Str).length = 18 := by decide
  show VS _ _ [.d (.str l), .un, .un] _
  refine vs_setO sc_bad.nd rfl (xs := headsL.map .str) (ve_lst (by simp_wf)) ?_
  refine vs_freeze (i := 1) (xs := headsL.map .str) rfl ?_
  refine vs_setComp (ys := headsL.map fun w => .str ("(add " ++ w ++ " " ++ l ++ ")")) sc_bad.nd rfl cs_bad rfl (vi_frzW (xs := headsL.map .str) (ve_name rfl rfl)) (by simp) (by rw [hsl]; simp [headsL]) ?_ ?_
  · intro j a y ha hy cl C s0 H0 fp pins
    rw [List.getElem?_map] at ha hy
    cases hq : headsL[j]? with
    | none => rw [hq] at ha; cases ha
    | some w =>
      rw [hq] at ha hy
      cases ha; cases hy
      have hw : w.length ≤ 3 := heads_len w (List.mem_of_getElem? hq)
      exact ve_addS (ve_addS (ve_addS (ve_addS (by simp_wf) (ve_name rfl rfl) (by rw [hsl]; simp only [len_app, L1, L2, L3, L4, L5, L6, L7, L8, L9, L10, L11, L12, L13, L14, L15, L16, L17, L18, L19, L20, L21, L22, L23]; omega)) (by simp_wf) (by rw [hsl]; simp only [len_app, L1, L2, L3, L4, L5, L6, L7, L8, L9, L10, L11, L12, L13, L14, L15, L16, L17, L18, L19, L20, L21, L22, L23]; omega)) (ve_name rfl rfl) (by rw [hsl]; simp only [len_app, L1, L2, L3, L4, L5, L6, L7, L8, L9, L10, L11, L12, L13, L14, L15, L16, L17, L18, L19, L20, L21, L22, L23]; omega)) (by simp_wf) (by rw [hsl]; simp only [len_app, L1, L2, L3, L4, L5, L6, L7, L8, L9, L10, L11, L12, L13, L14, L15, L16, L17, L18, L19, L20, L21, L22, L23]; omega)
  refine vs_extend rfl rfl (ys := [.str ("add 1 " ++ l ++ ")"), .str ("nil num)")]) (ve_lst (vd_cons (ve_addS (ve_addS (by simp_wf) (by simp_wf) (by rw [hsl]; simp only [len_app, L1, L2, L3, L4, L5, L6, L7, L8, L9, L10, L11, L12, L13, L14, L15, L16, L17, L18, L19, L20, L21, L22, L23]; omega)) (by simp_wf) (by rw [hsl]; simp only [len_app, L1, L2, L3, L4, L5, L6, L7, L8, L9, L10, L11, L12, L13, L14, L15, L16, L17, L18, L19, L20, L21, L22, L23]; omega)) (vd_cons (by simp_wf) vd_nil))) rfl (by rw [hsl]; simp [headsL]) ?_
  refine vs_extend rfl rfl (ys := [.str ("fun x num " ++ l ++ ")"), .str ("call x " ++ l ++ ")")]) (ve_lst (vd_cons (ve_addS (ve_addS (by simp_wf) (by simp_wf) (by rw [hsl]; simp only [len_app, L1, L2, L3, L4, L5, L6, L7, L8, L9, L10, L11, L12, L13, L14, L15, L16, L17, L18, L19, L20, L21, L22, L23]; omega)) (by simp_wf) (by rw [hsl]; simp only [len_app, L1, L2, L3, L4, L5, L6, L7, L8, L9, L10, L11, L12, L13, L14, L15, L16, L17, L18, L19, L20, L21, L22, L23]; omega)) (vd_cons (ve_addS (ve_addS (by simp_wf) (by simp_wf) (by rw [hsl]; simp only [len_app, L1, L2, L3, L4, L5, L6, L7, L8, L9, L10, L11, L12, L13, L14, L15, L16, L17, L18, L19, L20, L21, L22, L23]; omega)) (by simp_wf) (by rw [hsl]; simp only [len_app, L1, L2, L3, L4, L5, L6, L7, L8, L9, L10, L11, L12, L13, L14, L15, L16, L17, L18, L19, L20, L21, L22, L23]; omega)) vd_nil))) rfl (by rw [hsl]; simp [headsL]) ?_
  refine vs_extend rfl rfl (ys := [.str ("(add 1 " ++ l), .str ("(add 1 " ++ l ++ "))")]) (ve_lst (vd_cons (ve_addS (by simp_wf) (by simp_wf) (by rw [hsl]; simp only [len_app, L1, L2, L3, L4, L5, L6, L7, L8, L9, L10, L11, L12, L13, L14, L15, L16, L17, L18, L19, L20, L21, L22, L23]; omega)) (vd_cons (ve_addS (ve_addS (by simp_wf) (by simp_wf) (by rw [hsl]; simp only [len_app, L1, L2, L3, L4, L5, L6, L7, L8, L9, L10, L11, L12, L13, L14, L15, L16, L17, L18, L19, L20, L21, L22, L23]; omega)) (by simp_wf) (by rw [hsl]; simp only [len_app, L1, L2, L3, L4, L5, L6, L7, L8, L9, L10, L11, L12, L13, L14, L15, L16, L17, L18, L19, L20, L21, L22, L23]; omega)) vd_nil))) rfl (by rw [hsl]; simp [headsL]) ?_
  refine vs_extend rfl rfl (ys := [.str ("(add 1  " ++ l ++ ")"), .str ("( add 1 " ++ l ++ ")")]) (ve_lst (vd_cons (ve_addS (ve_addS (by simp_wf) (by simp_wf) (by rw [hsl]; simp only [len_app, L1, L2, L3, L4, L5, L6, L7, L8, L9, L10, L11, L12, L13, L14, L15, L16, L17, L18, L19, L20, L21, L22, L23]; omega)) (by simp_wf) (by rw [hsl]; simp only [len_app, L1, L2, L3, L4, L5, L6, L7, L8, L9, L10, L11, L12, L13, L14, L15, L16, L17, L18, L19, L20, L21, L22, L23]; omega)) (vd_cons (ve_addS (ve_addS (by simp_wf) (by simp_wf) (by rw [hsl]; simp only [len_app, L1, L2, L3, L4, L5, L6, L7, L8, L9, L10, L11, L12, L13, L14, L15, L16, L17, L18, L19, L20, L21, L22, L23]; omega)) (by simp_wf) (by rw [hsl]; simp only [len_app, L1, L2, L3, L4, L5, L6, L7, L8, L9, L10, L11, L12, L13, L14, L15, L16, L17, L18, L19, L20, L21, L22, L23]; omega)) vd_nil))) rfl (by rw [hsl]; simp [headsL]) ?_
  refine vs_extend rfl rfl (ys := [.str ("(add 1 " ++ l ++ " )"), .str (" " ++ l), .str (l ++ " ")]) (ve_lst (vd_cons (ve_addS (ve_addS (by simp_wf) (by simp_wf) (by rw [hsl]; simp only [len_app, L1, L2, L3, L4, L5, L6, L7, L8, L9, L10, L11, L12, L13, L14, L15, L16, L17, L18, L19, L20, L21, L22, L23]; omega)) (by simp_wf) (by rw [hsl]; simp only [len_app, L1, L2, L3, L4, L5, L6, L7, L8, L9, L10, L11, L12, L13, L14, L15, L16, L17, L18, L19, L20, L21, L22, L23]; omega)) (vd_cons (ve_addS (by simp_wf) (by simp_wf) (by rw [hsl]; simp only [len_app, L1, L2, L3, L4, L5, L6, L7, L8, L9, L10, L11, L12, L13, L14, L15, L16, L17, L18, L19, L20, L21, L22, L23]; omega)) (vd_cons (ve_addS (by simp_wf) (by simp_wf) (by rw [hsl]; simp only [len_app, L1, L2, L3, L4, L5, L6, L7, L8, L9, L10, L11, L12, L13, L14, L15, L16, L17, L18, L19, L20, L21, L22, L23]; omega)) vd_nil)))) rfl (by rw [hsl]; simp [headsL]) ?_
  refine vs_extend rfl rfl (ys := [.str ("(add " ++ l ++ ")"), .str ("(" ++ l ++ ")")]) (ve_lst (vd_cons (ve_addS (ve_addS (by simp_wf) (by simp_wf) (by rw [hsl]; simp only [len_app, L1, L2, L3, L4, L5, L6, L7, L8, L9, L10, L11, L12, L13, L14, L15, L16, L17, L18, L19, L20, L21, L22, L23]; omega)) (by simp_wf) (by rw [hsl]; simp only [len_app, L1, L2, L3, L4, L5, L6, L7, L8, L9, L10, L11, L12, L13, L14, L15, L16, L17, L18, L19, L20, L21, L22, L23]; omega)) (vd_cons (ve_addS (ve_addS (by simp_wf) (by simp_wf) (by rw [hsl]; simp only [len_app, L1, L2, L3, L4, L5, L6, L7, L8, L9, L10, L11, L12, L13, L14, L15, L16, L17, L18, L19, L20, L21, L22, L23]; omega)) (by simp_wf) (by rw [hsl]; simp only [len_app, L1, L2, L3, L4, L5, L6, L7, L8, L9, L10, L11, L12, L13, L14, L15, L16, L17, L18, L19, L20, L21, L22, L23]; omega)) vd_nil))) rfl (by rw [hsl]; simp [headsL]) ?_
  refine vs_extend rfl rfl (ys := [.str ("(add 1 " ++ l ++ " 2)"), .str ("(nil " ++ l ++ ")")]) (ve_lst (vd_cons (ve_addS (ve_addS (by simp_wf) (by simp_wf) (by rw [hsl]; simp only [len_app, L1, L2, L3, L4, L5, L6, L7, L8, L9, L10, L11, L12, L13, L14, L15, L16, L17, L18, L19, L20, L21, L22, L23]; omega)) (by simp_wf) (by rw [hsl]; simp only [len_app, L1, L2, L3, L4, L5, L6, L7, L8, L9, L10, L11, L12, L13, L14, L15, L16, L17, L18, L19, L20, L21, L22, L23]; omega)) (vd_cons (ve_addS (ve_addS (by simp_wf) (by simp_wf) (by rw [hsl]; simp only [len_app, L1, L2, L3, L4, L5, L6, L7, L8, L9, L10, L11, L12, L13, L14, L15, L16, L17, L18, L19, L20, L21, L22, L23]; omega)) (by simp_wf) (by rw [hsl]; simp only [len_app, L1, L2, L3, L4, L5, L6, L7, L8, L9, L10, L11, L12, L13, L14, L15, L16, L17, L18, L19, L20, L21, L22, L23]; omega)) vd_nil))) rfl (by rw [hsl]; simp [headsL]) ?_
  refine vs_extend rfl rfl (ys := [.str ("(fun x " ++ l ++ " num)"), .str ("()"), .str (""), .str ("(list num)")]) (ve_lst (vd_cons (ve_addS (ve_addS (by simp_wf) (by simp_wf) (by rw [hsl]; simp only [len_app, L1, L2, L3, L4, L5, L6, L7, L8, L9, L10, L11, L12, L13, L14, L15, L16, L17, L18, L19, L20, L21, L22, L23]; omega)) (by simp_wf) (by rw [hsl]; simp only [len_app, L1, L2, L3, L4, L5, L6, L7, L8, L9, L10, L11, L12, L13, L14, L15, L16, L17, L18, L19, L20, L21, L22, L23]; omega)) (vd_cons (by simp_wf) (vd_cons (by simp_wf) (vd_cons (by simp_wf) vd_nil))))) rfl (by rw [hsl]; simp [headsL]) ?_
  refine vs_extend rfl rfl (ys := [.str ("(fun if num " ++ l ++ ")"), .str ("(fun X num " ++ l ++ ")")]) (ve_lst (vd_cons (ve_addS (ve_addS (by simp_wf) (by simp_wf) (by rw [hsl]; simp only [len_app, L1, L2, L3, L4, L5, L6, L7, L8, L9, L10, L11, L12, L13, L14, L15, L16, L17, L18, L19, L20, L21, L22, L23]; omega)) (by simp_wf) (by rw [hsl]; simp only [len_app, L1, L2, L3, L4, L5, L6, L7, L8, L9, L10, L11, L12, L13, L14, L15, L16, L17, L18, L19, L20, L21, L22, L23]; omega)) (vd_cons (ve_addS (ve_addS (by simp_wf) (by simp_wf) (by rw [hsl]; simp only [len_app, L1, L2, L3, L4, L5, L6, L7, L8, L9, L10, L11, L12, L13, L14, L15, L16, L17, L18, L19, L20, L21, L22, L23]; omega)) (by simp_wf) (by rw [hsl]; simp only [len_app, L1, L2, L3, L4, L5, L6, L7, L8, L9, L10, L11, L12, L13, L14, L15, L16, L17, L18, L19, L20, L21, L22, L23]; omega)) vd_nil))) rfl (by rw [hsl]; simp [headsL]) ?_
  refine vs_append rfl rfl (d := .str ("(case num x x x 1 " ++ l ++ ")")) (ve_addS (ve_addS (by simp_wf) (by simp_wf) (by rw [hsl]; simp only [len_app, L1, L2, L3, L4, L5, L6, L7, L8, L9, L10, L11, L12, L13, L14, L15, L16, L17, L18, L19, L20, L21, L22, L23]; omega)) (by simp_wf) (by rw [hsl]; simp only [len_app, L1, L2, L3, L4, L5, L6, L7, L8, L9, L10, L11, L12, L13, L14, L15, L16, L17, L18, L19, L20, L21, L22, L23]; omega)) (by rw [hsl]; simp [headsL]) ?_
  exact vs_retO rfl rfl (.inl rfl)
theorem sc_hrm : FnScope ["_law_line","_law_spot","_law_way"] ["_law_line","_law_spot","_law_way"] (defScope st_law_harmed) := ⟨rfl,rfl,rfl,by decide +kernel,rfl,by decide +kernel,by decide +kernel⟩
theorem ok_hrm {f : Addr} {fd : FuncData} (F : Fun K "_law_harmed" "_law_harmed" st_law_harmed f fd) : FnOk P w K mg base CX0 1 f fd ["_law_line","_law_spot","_law_way"] (spV K RHarm) := by
  refine F.okV sc_hrm (fun as r h => ?_) (fun cdv A outer s H E as r hr h => ?_)
  · obtain ⟨l,sp,wy,rfl,_⟩ := h; exact ⟨rfl,by simp⟩
  obtain ⟨l,sp,wy,rfl,hl,s0,s1,w0,w9,rfl⟩ := h
  have hsl : sizeLine = 16777216 := sizeLine_eq
  have hz : l.length ≤ sizeLine := by rw [hsl]; omega
  have a := Txt.slice_le l none (some sp)
  have b := Txt.slice_le l (some (sp + 1)) none
  have c := Txt.slice_le l (some sp) none
  show VS _ _ [.d (.str l),.d (.int sp),.d (.int wy)] _
  by_cases h0 : wy = 0
  · refine vs_ifT (vt_eqI (x := wy) (by simp_wf) (by simp_wf)) (decide_eq_true h0) ?_
    exact vs_ret (ve_eq (ve_addS (ve_slS (z := l) (i := none) (j := some sp) (by simp_wf) vo_none (vo_some (by simp_wf)) hz) (ve_slS (z := l) (i := some (sp + 1)) (j := none) (by simp_wf) (vo_some (ve_addI (by simp_wf) (by simp_wf))) vo_none hz) (by rw [hsl]; omega)) (by rw [harmT,if_pos h0])) (.inl rfl)
  refine vs_ifN (vt_eqI (x := wy) (by simp_wf) (by simp_wf)) (decide_eq_false h0) ?_
  by_cases h1 : wy = 1
  · refine vs_ifT (vt_eqI (x := wy) (by simp_wf) (by simp_wf)) (decide_eq_true h1) ?_
    have hn : sp.toNat < (codes l).length := by rw [len_codes]; omega
    have hix : ∃ k,atI l.cps.toList sp = some k ∧ sg ((codes l).getD sp.toNat 0) = ⟨#[k]⟩ := ⟨(codes l).getD sp.toNat 0,by
      show atI (codes l) sp = _
      rw [← Int.toNat_of_nonneg s0]
      apply atI_nat
      rw [Int.toNat_natCast,List.getD_eq_getElem?_getD,List.getElem?_eq_getElem hn]; rfl,rfl⟩
    have e1 := sg_len ((codes l).getD sp.toNat 0)
    exact vs_ret (ve_eq (ve_addS (ve_addS (ve_slS (z := l) (i := none) (j := some sp) (by simp_wf) vo_none (vo_some (by simp_wf)) hz) (ve_ixS (z := l) (i := sp) (c := sg ((codes l).getD sp.toNat 0)) (by simp_wf) (by simp_wf) hz hix) (by rw [hsl,e1]; omega)) (ve_slS (z := l) (i := some sp) (j := none) (by simp_wf) (vo_some (by simp_wf)) vo_none hz) (by rw [hsl,len_app,e1]; omega)) (by rw [harmT,if_neg h0,if_pos h1])) (.inl rfl)
  refine vs_ifN (vt_eqI (x := wy) (by simp_wf) (by simp_wf)) (decide_eq_false h1) ?_
  have hix : ∃ k,atI (" ()0-xA" : Str).cps.toList (wy - 2) = some k ∧ signA (wy - 2) = ⟨#[k]⟩ := by
    have : wy - 2 = 0 ∨ wy - 2 = 1 ∨ wy - 2 = 2 ∨ wy - 2 = 3 ∨ wy - 2 = 4 ∨ wy - 2 = 5 ∨ wy - 2 = 6 := by omega
    rcases this with h | h | h | h | h | h | h <;> rw [h] <;> exact ⟨_,rfl,rfl⟩
  have e1 := signA_len (wy - 2)
  exact vs_ret (ve_eq (ve_addS (ve_addS (ve_slS (z := l) (i := none) (j := some sp) (by simp_wf) vo_none (vo_some (by simp_wf)) hz) (ve_ixS (z := " ()0-xA") (i := wy - 2) (c := signA (wy - 2)) (by simp_wf) (ve_subI (by simp_wf) (by simp_wf)) (by rw [hsl]; decide) hix) (by rw [hsl,e1]; omega)) (ve_slS (z := l) (i := some sp) (j := none) (by simp_wf) (vo_some (by simp_wf)) vo_none hz) (by rw [hsl,len_app,e1]; omega)) (by rw [harmT,if_neg h0,if_neg h1])) (.inl rfl)
theorem badL_len (l : Str) : ∀ b ∈ badL l,b.length ≤ l.length + 30 := by
  have L0 : ("" : Str).length = 0 := by decide
  have L1 : (" " : Str).length = 1 := by decide
  have L2 : (" )" : Str).length = 2 := by decide
  have L3 : (" 2)" : Str).length = 3 := by decide
  have L4 : (" num)" : Str).length = 5 := by decide
  have L5 : ("(" : Str).length = 1 := by decide
  have L6 : ("( add 1 " : Str).length = 8 := by decide
  have L7 : ("()" : Str).length = 2 := by decide
  have L8 : ("(add " : Str).length = 5 := by decide
  have L9 : ("(add 1 " : Str).length = 7 := by decide
  have L10 : ("(add 1  " : Str).length = 8 := by decide
  have L11 : ("(case num x x x 1 " : Str).length = 18 := by decide
  have L12 : ("(fun X num " : Str).length = 11 := by decide
  have L13 : ("(fun if num " : Str).length = 12 := by decide
  have L14 : ("(fun x " : Str).length = 7 := by decide
  have L15 : ("(list num)" : Str).length = 10 := by decide
  have L16 : ("(nil " : Str).length = 5 := by decide
  have L17 : (")" : Str).length = 1 := by decide
  have L18 : ("))" : Str).length = 2 := by decide
  have L19 : ("+1" : Str).length = 2 := by decide
  have L20 : ("-" : Str).length = 1 := by decide
  have L21 : ("--1" : Str).length = 3 := by decide
  have L22 : ("-0" : Str).length = 2 := by decide
  have L23 : ("-05" : Str).length = 3 := by decide
  have L24 : ("00" : Str).length = 2 := by decide
  have L25 : ("007" : Str).length = 3 := by decide
  have L26 : ("1-" : Str).length = 2 := by decide
  have L27 : ("A" : Str).length = 1 := by decide
  have L28 : ("add 1 " : Str).length = 6 := by decide
  have L29 : ("call x " : Str).length = 7 := by decide
  have L30 : ("fun x num " : Str).length = 10 := by decide
  have L31 : ("if" : Str).length = 2 := by decide
  have L32 : ("nil num)" : Str).length = 8 := by decide
  have L33 : ("num" : Str).length = 3 := by decide
  have L34 : ("to" : Str).length = 2 := by decide
  have L35 : ("x1" : Str).length = 2 := by decide
  unfold badL
  simp only [List.forall_mem_cons]
  refine ⟨?_,?_,?_,?_,?_,?_,?_,?_,?_,?_,?_,?_,?_,?_,?_,?_,?_,?_,?_,?_,?_,?_,?_,?_,?_,?_,?_,?_,?_,?_,?_,?_,?_,?_,?_,?_,fun b hb => nomatch hb⟩
  all_goals (simp only [len_app,L0,L1,L2,L3,L4,L5,L6,L7,L8,L9,L10,L11,L12,L13,L14,L15,L16,L17,L18,L19,L20,L21,L22,L23,L24,L25,L26,L27,L28,L29,L30,L31,L32,L33,L34,L35]; omega)
theorem sc_law : FnScope ["_law_script","_law_line","_law_sort","_law_lines","_law_spot","_law_way","_law_refused","_law_again"] ["_law_script"] (defScope st_law) := ⟨rfl,rfl,rfl,by decide +kernel,rfl,by decide +kernel,by decide +kernel⟩
theorem kit_strs (K : PySem.W.Frag) : PySem.W.kitOne K (.type "str") (.type "str") = some true := by first | rfl | kernel_rfl
theorem at_mem {xs : List Str} {i : Int} (h0 : 0 ≤ i) (h1 : i < xs.length) : ∃ b ∈ xs,atI (xs.map PyData.str) i = some (.str b) := by
  obtain ⟨n,rfl⟩ : ∃ n : Nat,i = n := ⟨i.toNat,by omega⟩
  have hn : n < xs.length := by omega
  exact ⟨xs[n],List.getElem_mem hn,atI_nat (by rw [List.getElem?_map,List.getElem?_eq_getElem hn]; rfl)⟩
theorem ok_law {f C : Addr} {fd : FuncData} (F : Fun K "law" "law" st_law f fd) (B : Plain mg) (hstr : mg "str" = none) (mC : mg "NoLine" = some (.ref C)) (xC : PySem.W.exmOne K (.ref C) (.ref C) = some true) (DG : DefOk P w K mg base 5 "_law_grown" ["_law_cells"] (spV K RGrown)) (DA : DefOk P w K mg base 1 "_law_at" ["_law_script", "_law_k"] (spV K (RAtS K)))
    (DGo : DefOk P w K mg base 1 "_law_good" ["_law_rest"] (spV K RGood)) (DBa : DefOk P w K mg base 1 "_law_bad" ["_law_rest"] (spV K RBadL)) (DHa : DefOk P w K mg base 1 "_law_harmed" ["_law_line", "_law_spot", "_law_way"] (spV K RHarm)) (DH : DefOk P w K mg base 4 "shown" ["expr"] (spV K RShownW)) (DR : DefXP P w K mg base 5 "read" ["line"] (spVX K (RReadX C))) : FnOk P w K mg base CX0 9 f fd ["_law_script"] (spV K (RLaw K)) := by
  refine F.okV sc_law (fun as r h => ?_) (fun cdv A outer s H E as r hr h => ?_)
  · obtain ⟨ns, rfl, _⟩ := h; exact ⟨rfl, by simp⟩
  obtain ⟨ns, rfl, hns, rfl⟩ := h
  have hsl : sizeLine = 16777216 := sizeLine_eq
  have tail2 : ∀ (l ag : Str) (st : Int) (y3 y4 y5 : Sl) (rf : Bool), (st = 1 → rf = true) → (st = 0 → rf = false) → (rf = false → ag = l) →
      VS (cxOf CX0 P w K mg base ["_law_script", "_law_line", "_law_sort", "_law_lines", "_law_spot", "_law_way", "_law_refused", "_law_again"] "law" (defScope st_law) f cdv A outer s H E).nox ((defBody st_law).drop 6) [.h (scrPer K ns), .d (.str l), .d (.int st), y3, y4, y5, .d (.bool rf), .d (.str ag)] fun o => o = .rt (.d (.bool true)) ∨ ((.d (.bool true) : Sl) = .d .none ∧ ∃ ρ, o = .nx ρ) := by
    intro l ag st y3 y4 y5 rf h1 h0 hr0
    by_cases e1 : st = 1
    · obtain rfl := h1 e1
      exact vs_ifT (vt_eqI (x := st) (by simp_wf) (by simp_wf)) (decide_eq_true e1) (vs_ret (by simp_wf) (.inl rfl))
    refine vs_ifN (vt_eqI (x := st) (by simp_wf) (by simp_wf)) (decide_eq_false e1) ?_
    have fin : VS (cxOf CX0 P w K mg base ["_law_script", "_law_line", "_law_sort", "_law_lines", "_law_spot", "_law_way", "_law_refused", "_law_again"] "law" (defScope st_law) f cdv A outer s H E).nox ((defBody st_law).drop 8) [.h (scrPer K ns), .d (.str l), .d (.int st), y3, y4, y5, .d (.bool rf), .d (.str ag)] fun o => o = .rt (.d (.bool true)) ∨ ((.d (.bool true) : Sl) = .d .none ∧ ∃ ρ, o = .nx ρ) := by
      refine vs_ret (r := .d (.bool true)) (ve_eq (ve_or (j := rf) (k := true && decide (ag = l)) (by simp_wf) fun hf => ve_one (ve_and (j := true) (k := decide (ag = l)) (ve_isinst B.isinstance hstr PyProof.Rows.boot_str (by simp_wf) rfl (kit_strs K)) fun _ => ve_one (ve_eqSb (x := ag) (y := l) (by simp_wf) (by simp_wf)))) ?_) (.inl rfl)
      cases rf with
      | true => rfl
      | false => rw [hr0 rfl]; simp
    by_cases e0 : st = 0
    · obtain rfl := h0 e0
      exact vs_ifN (k := false) (vt_w (vw_andT (vt_eq (vt_eqI (x := st) (by simp_wf) (by simp_wf)) (decide_eq_true e0)) (vw_and1 (vt_bool (k := false) (by simp_wf) (fun _ => rfl))))) rfl fin
    · exact vs_ifN (k := false) (vt_w (vw_andF (vt_eq (vt_eqI (x := st) (by simp_wf) (by simp_wf)) (decide_eq_false e0)))) rfl fin
  have tail : ∀ (l : Str) (st : Int) (y3 y4 y5 : Sl), l.length ≤ 1000000 → (∀ t, gathR l = some t → t.ok ∧ wwt t ≤ 1000000 ∧ (lineT t).length ≤ 1000000) → (st = 1 → readR l = none) → (st = 0 → ∃ u, readR l = some u) →
      VS (cxOf CX0 P w K mg base ["_law_script", "_law_line", "_law_sort", "_law_lines", "_law_spot", "_law_way", "_law_refused", "_law_again"] "law" (defScope st_law) f cdv A outer s H E).nox ((defBody st_law).drop 3) [.h (scrPer K ns), .d (.str l), .d (.int st), y3, y4, y5, .un, .un] fun o => o = .rt (.d (.bool true)) ∨ ((.d (.bool true) : Sl) = .d .none ∧ ∃ ρ, o = .nx ρ) := by
    intro l st y3 y4 y5 hl hg h1 h0
    refine vs_set sc_law.nd rfl (d := .bool false) (by simp_wf) ?_
    refine vs_setTok sc_law.nd rfl ?_
    refine vsp_trySet2 (o := outX C ((readR l).map wtD)) ⟨rfl, rfl, rfl⟩ DR DH (hr.mono (by decide)) (hr.mono (by decide)) (va_cons (ve_name rfl rfl) va_nil) ⟨l, rfl, hl, hg, rfl⟩ mC sc_law.nd rfl (.inl rfl) (fun r z => ?_) (fun C' z => ?_) (fun ea oe ⟨C', z⟩ => ?_)
    · cases q : readR l with
      | none => rw [q] at z; cases z
      | some t =>
        rw [q] at z
        cases z
        obtain ⟨q1, q2⟩ := readR_some q
        obtain ⟨t1, t2, t3⟩ := hg t q1
        refine ⟨wtD t, .str (lineT t), rfl, ⟨t, rfl, t1, t2, by rw [line_sum]; omega, rfl⟩, ?_⟩
        exact tail2 l (lineT t) st y3 y4 y5 false (fun e => by rw [h1 e] at q; cases q) (fun _ => rfl) fun _ => q2
    · cases q : readR l with
      | some t => rw [q] at z; cases z
      | none => rw [q] at z; cases z; exact xC
    · cases q : readR l with
      | some t => rw [q] at z; cases z
      | none =>
        refine vs_set sc_law.nd rfl (d := .bool true) (by simp_wf) (vs_nil ?_)
        exact tail2 l "" st y3 y4 y5 true (fun _ => rfl) (fun e => by obtain ⟨u, hu⟩ := h0 e; rw [hu] at q; cases q) (fun z => nomatch z)
  show VS _ _ [.h (scrPer K ns), .un, .un, .un, .un, .un, .un, .un] _
  obtain ⟨cs, hcs, hcl, _⟩ := cutD_ints ns (some 3) (some 64)
  have hc : cs.length ≤ 64 := by omega
  have go := grown_ok1 hc
  obtain ⟨t, e1, e2, t1, t2, t3, t4⟩ := go.ex
  have hl : (lineT t).length ≤ 130000 := by rw [← e2]; exact go.ln
  refine vs_set sc_law.nd rfl (d := .str (lineT t)) (ve_ixT (xs := [wtD t, .str (lineT t), .list ((grownB cs).rows.map rowD)]) (ve_eq (ve_call DG (hr.mono (by decide)) (rs := [.o (cs.map .int)]) (va_cons (ve_eq (r' := .o (cs.map .int)) (ve_slScr (ns := ns) (by simp_wf) (vo_some (by simp_wf)) (vo_some (by simp_wf))) (by rw [hcs])) va_nil) ⟨cs, rfl, hc, rfl⟩) (by rw [biD, e1, e2])) (by simp_wf) rfl) ?_
  refine vs_set sc_law.nd rfl (d := .int (hsh (ns.getD 0 0) 1061 3)) (ve_hsh (ve_call DA (hr.mono (by decide)) (va_cons (by simp_wf) (va_cons (by simp_wf) va_nil)) ⟨ns, 0, rfl, rfl⟩)) ?_
  have cm : CMul (ns.getD 1 0) 48271 := .inr ⟨by decide, by decide⟩
  have any : ∀ {l : Str}, l.length ≤ 300000 → ∀ u, gathR l = some u → u.ok ∧ wwt u ≤ 1000000 ∧ (lineT u).length ≤ 1000000 := fun hz u hu => gath_big hu hz
  by_cases s0 : hsh (ns.getD 0 0) 1061 3 = 0
  · refine vs_ifT (vt_eqI (x := hsh (ns.getD 0 0) 1061 3) (by simp_wf) (by simp_wf)) (decide_eq_true s0) ?_
    refine vs_setO sc_law.nd rfl (xs := (goodL (lineT t)).map .str) (ve_call DGo (hr.mono (by decide)) (va_cons (by simp_wf) va_nil) ⟨lineT t, rfl, by omega, rfl⟩) ?_
    have hi0 : 0 ≤ ns.getD 1 0 * 48271 % 1063 % (((goodL (lineT t)).map PyData.str).length : Nat) := Int.emod_nonneg _ (by simp [goodL])
    have hi1 : ns.getD 1 0 * 48271 % 1063 % (((goodL (lineT t)).map PyData.str).length : Nat) < (goodL (lineT t)).length := by
      have := Int.emod_lt_of_pos (ns.getD 1 0 * 48271 % 1063) (b := (((goodL (lineT t)).map PyData.str).length : Nat)) (by simp [goodL])
      rwa [List.length_map] at this
    obtain ⟨b, hb, hat⟩ := at_mem hi0 hi1
    obtain ⟨u, rfl, u1, u2, u3, u4⟩ := good_all t1 t2 (by omega) (by omega) b hb
    refine vs_set sc_law.nd rfl (d := .str (lineT u)) (ve_ixL (xs := (goodL (lineT t)).map .str) (by simp_wf) (ve_modI (ve_modI (ve_mulI (ve_call DA (hr.mono (by decide)) (va_cons (by simp_wf) (va_cons (by simp_wf) va_nil)) ⟨ns, 1, rfl, rfl⟩) (by simp_wf) cm) (by simp_wf)) (ve_lenL B.len (by simp_wf) rfl) (by simp [goodL])) rfl hat) (vs_nil ?_)
    exact tail (lineT u) _ _ _ _ u4 (fun v hv => by rw [gathR_line u1 u2] at hv; cases hv; exact ⟨u2, u3, u4⟩) (fun z => by rw [s0] at z; cases z) fun _ => ⟨u, readR_line u1 u2⟩
  refine vs_ifF (vt_eqI (x := hsh (ns.getD 0 0) 1061 3) (by simp_wf) (by simp_wf)) (decide_eq_false s0) ?_
  by_cases s1 : hsh (ns.getD 0 0) 1061 3 = 1
  · refine vs_ifT (vt_eqI (x := hsh (ns.getD 0 0) 1061 3) (by simp_wf) (by simp_wf)) (decide_eq_true s1) ?_
    refine vs_setO sc_law.nd rfl (xs := (badL (lineT t)).map .str) (ve_call DBa (hr.mono (by decide)) (va_cons (by simp_wf) va_nil) ⟨lineT t, rfl, by omega, rfl⟩) ?_
    have hi0 : 0 ≤ ns.getD 1 0 * 48271 % 1063 % (((badL (lineT t)).map PyData.str).length : Nat) := Int.emod_nonneg _ (by simp [badL])
    have hi1 : ns.getD 1 0 * 48271 % 1063 % (((badL (lineT t)).map PyData.str).length : Nat) < (badL (lineT t)).length := by
      have := Int.emod_lt_of_pos (ns.getD 1 0 * 48271 % 1063) (b := (((badL (lineT t)).map PyData.str).length : Nat)) (by simp [badL])
      rwa [List.length_map] at this
    obtain ⟨b, hb, hat⟩ := at_mem hi0 hi1
    have hbl := badL_len (lineT t) b hb
    refine vs_set sc_law.nd rfl (d := .str b) (ve_ixL (xs := (badL (lineT t)).map .str) (by simp_wf) (ve_modI (ve_modI (ve_mulI (ve_call DA (hr.mono (by decide)) (va_cons (by simp_wf) (va_cons (by simp_wf) va_nil)) ⟨ns, 1, rfl, rfl⟩) (by simp_wf) cm) (by simp_wf)) (ve_lenL B.len (by simp_wf) rfl) (by simp [badL])) rfl hat) (vs_nil (vs_nil ?_))
    exact tail b _ _ _ _ (by omega) (any (by omega)) (fun _ => bad_all t1 t2 b hb) fun z => absurd z s0
  refine vs_ifF (vt_eqI (x := hsh (ns.getD 0 0) 1061 3) (by simp_wf) (by simp_wf)) (decide_eq_false s1) ?_
  have hp := line_pos t1
  have hs0 : 0 ≤ ns.getD 1 0 % ((lineT t).length : Nat) := Int.emod_nonneg _ (by omega)
  have hs1 : ns.getD 1 0 % ((lineT t).length : Nat) < (lineT t).length := Int.emod_lt_of_pos _ (by omega)
  refine vs_set sc_law.nd rfl (d := .int (ns.getD 1 0 % ((lineT t).length : Nat))) (ve_modI (ve_call DA (hr.mono (by decide)) (va_cons (by simp_wf) (va_cons (by simp_wf) va_nil)) ⟨ns, 1, rfl, rfl⟩) (ve_lenS B.len (by simp_wf) (by rw [hsl]; omega)) (by omega)) ?_
  refine vs_set sc_law.nd rfl (d := .int (hsh (ns.getD 2 0) 1087 9)) (ve_hsh (ve_call DA (hr.mono (by decide)) (va_cons (by simp_wf) (va_cons (by simp_wf) va_nil)) ⟨ns, 2, rfl, rfl⟩)) ?_
  have hh := harm_len (lineT t) (ns.getD 1 0 % ((lineT t).length : Nat)) (hsh (ns.getD 2 0) 1087 9)
  refine vs_set sc_law.nd rfl (d := .str (harmT (lineT t) (ns.getD 1 0 % ((lineT t).length : Nat)) (hsh (ns.getD 2 0) 1087 9))) (ve_call DHa (hr.mono (by decide)) (va_cons (by simp_wf) (va_cons (by simp_wf) (va_cons (by simp_wf) va_nil))) ⟨lineT t, _, _, rfl, by omega, hs0, hs1, hsh_lo _ _ (by decide), hsh_hi _ _ (by decide), rfl⟩) (vs_nil (vs_nil ?_))
  exact tail _ _ _ _ _ (by omega) (any (by omega)) (fun z => absurd z s1) fun z => absurd z s0
end
theorem all_mk {l : PySem.W.OpenLaw} {w : World} {K : PySem.W.Frag} {h : Heap} {mg : Str → Option Value} {fa f1 f2 f3 f4 f5 f6 f7 f8 f9 f10 f11 f12 f13 f14 f15 f16 f17 f18 f19 f20 f21 f22 f23 f24 f25 f26 f27 : Addr} (X : K.In h) (G : h.Ns mainGlobals mg) (hfa : mg "law" = some (.ref fa))
    {od1 an1 od2 an2 od3 an3 od4 an4 od5 an5 od6 an6 od7 an7 od8 an8 od9 an9 od10 an10 od11 an11 od12 an12 od13 an13 od14 an14 od15 an15 od16 an16 od17 an17 od18 an18 od19 an19 od20 an20 od21 an21 od22 an22 od23 an23 od24 an24 od25 an25 od26 an26 od27 an27 : Option Addr} {sl1 sl2 sl3 sl4 sl5 sl6 sl7 sl8 sl9 sl10 sl11 sl12 sl13 sl14 sl15 sl16 sl17 sl18 sl19 sl20 sl21 sl22 sl23 sl24 sl25 sl26 sl27 : Array (Option Value)} {oc1 kV1 dc1 pm1 cd1 ct1 oc2 kV2 dc2 pm2 cd2 ct2 oc3 kV3 dc3 pm3 cd3 ct3 oc4 kV4 dc4 pm4 cd4 ct4 oc5 kV5 dc5 pm5 cd5 ct5 oc6 kV6 dc6 pm6 cd6 ct6 oc7 kV7 dc7 pm7 cd7 ct7 oc8 kV8 dc8 pm8 cd8 ct8 oc9 kV9 dc9 pm9 cd9 ct9 oc10 kV10 dc10 pm10 cd10 ct10 oc11 kV11 dc11 pm11 cd11 ct11 oc12 kV12 dc12 pm12 cd12 ct12 oc13 kV13 dc13 pm13 cd13 ct13 oc14 kV14 dc14 pm14 cd14 ct14 oc15 kV15 dc15 pm15 cd15 ct15 oc16 kV16 dc16 pm16 cd16 ct16 oc17 kV17 dc17 pm17 cd17 ct17 oc18 kV18 dc18 pm18 cd18 ct18 oc19 kV19 dc19 pm19 cd19 ct19 oc20 kV20 dc20 pm20 cd20 ct20 oc21 kV21 dc21 pm21 cd21 ct21 oc22 kV22 dc22 pm22 cd22 ct22 oc23 kV23 dc23 pm23 cd23 ct23 oc24 kV24 dc24 pm24 cd24 ct24 oc25 kV25 dc25 pm25 cd25 ct25 oc26 kV26 dc26 pm26 cd26 ct26 oc27 kV27 dc27 pm27 cd27 ct27 : Value}
    (a1 : PySem.W.nsIn K mainGlobals "shown" = some (some (.ref f1))) (l1 : K.lookup f1 = some ⟨oc1,od1,.func (PySem.W.fnOf "shown" "shown" (defArgs st_shown) (defBody st_shown) (defScope st_shown) .none kV1 dc1 pm1 an1 cd1 ct1),sl1⟩) (c1 : PySem.W.codeIn K cd1 "shown" = true) (k1 : PySem.W.keepIn K (.ref f1) = true)
    (a2 : PySem.W.nsIn K mainGlobals "form_of" = some (some (.ref f2))) (l2 : K.lookup f2 = some ⟨oc2,od2,.func (PySem.W.fnOf "form_of" "form_of" (defArgs st_form_of) (defBody st_form_of) (defScope st_form_of) .none kV2 dc2 pm2 an2 cd2 ct2),sl2⟩) (c2 : PySem.W.codeIn K cd2 "form_of" = true) (k2 : PySem.W.keepIn K (.ref f2) = true)
    (a3 : PySem.W.nsIn K mainGlobals "spelled" = some (some (.ref f3))) (l3 : K.lookup f3 = some ⟨oc3,od3,.func (PySem.W.fnOf "spelled" "spelled" (defArgs st_spelled) (defBody st_spelled) (defScope st_spelled) .none kV3 dc3 pm3 an3 cd3 ct3),sl3⟩) (c3 : PySem.W.codeIn K cd3 "spelled" = true) (k3 : PySem.W.keepIn K (.ref f3) = true)
    (a4 : PySem.W.nsIn K mainGlobals "pieces_of_part" = some (some (.ref f4))) (l4 : K.lookup f4 = some ⟨oc4,od4,.func (PySem.W.fnOf "pieces_of_part" "pieces_of_part" (defArgs st_pieces_of_part) (defBody st_pieces_of_part) (defScope st_pieces_of_part) .none kV4 dc4 pm4 an4 cd4 ct4),sl4⟩) (c4 : PySem.W.codeIn K cd4 "pieces_of_part" = true) (k4 : PySem.W.keepIn K (.ref f4) = true)
    (a5 : PySem.W.nsIn K mainGlobals "figures_of" = some (some (.ref f5))) (l5 : K.lookup f5 = some ⟨oc5,od5,.func (PySem.W.fnOf "figures_of" "figures_of" (defArgs st_figures_of) (defBody st_figures_of) (defScope st_figures_of) .none kV5 dc5 pm5 an5 cd5 ct5),sl5⟩) (c5 : PySem.W.codeIn K cd5 "figures_of" = true) (k5 : PySem.W.keepIn K (.ref f5) = true)
    (a6 : PySem.W.nsIn K mainGlobals "pieces_of_kind" = some (some (.ref f6))) (l6 : K.lookup f6 = some ⟨oc6,od6,.func (PySem.W.fnOf "pieces_of_kind" "pieces_of_kind" (defArgs st_pieces_of_kind) (defBody st_pieces_of_kind) (defScope st_pieces_of_kind) .none kV6 dc6 pm6 an6 cd6 ct6),sl6⟩) (c6 : PySem.W.codeIn K cd6 "pieces_of_kind" = true) (k6 : PySem.W.keepIn K (.ref f6) = true)
    (a7 : PySem.W.nsIn K mainGlobals "in_brackets" = some (some (.ref f7))) (l7 : K.lookup f7 = some ⟨oc7,od7,.func (PySem.W.fnOf "in_brackets" "in_brackets" (defArgs st_in_brackets) (defBody st_in_brackets) (defScope st_in_brackets) .none kV7 dc7 pm7 an7 cd7 ct7),sl7⟩) (c7 : PySem.W.codeIn K cd7 "in_brackets" = true) (k7 : PySem.W.keepIn K (.ref f7) = true)
    (a8 : PySem.W.nsIn K mainGlobals "read" = some (some (.ref f8))) (l8 : K.lookup f8 = some ⟨oc8,od8,.func (PySem.W.fnOf "read" "read" (defArgs st_read) (defBody st_read) (defScope st_read) .none kV8 dc8 pm8 an8 cd8 ct8),sl8⟩) (c8 : PySem.W.codeIn K cd8 "read" = true) (k8 : PySem.W.keepIn K (.ref f8) = true)
    (a9 : PySem.W.nsIn K mainGlobals "gathered" = some (some (.ref f9))) (l9 : K.lookup f9 = some ⟨oc9,od9,.func (PySem.W.fnOf "gathered" "gathered" (defArgs st_gathered) (defBody st_gathered) (defScope st_gathered) .none kV9 dc9 pm9 an9 cd9 ct9),sl9⟩) (c9 : PySem.W.codeIn K cd9 "gathered" = true) (k9 : PySem.W.keepIn K (.ref f9) = true)
    (a10 : PySem.W.nsIn K mainGlobals "tokens" = some (some (.ref f10))) (l10 : K.lookup f10 = some ⟨oc10,od10,.func (PySem.W.fnOf "tokens" "tokens" (defArgs st_tokens) (defBody st_tokens) (defScope st_tokens) .none kV10 dc10 pm10 an10 cd10 ct10),sl10⟩) (c10 : PySem.W.codeIn K cd10 "tokens" = true) (k10 : PySem.W.keepIn K (.ref f10) = true)
    (a11 : PySem.W.nsIn K mainGlobals "from_word" = some (some (.ref f11))) (l11 : K.lookup f11 = some ⟨oc11,od11,.func (PySem.W.fnOf "from_word" "from_word" (defArgs st_from_word) (defBody st_from_word) (defScope st_from_word) .none kV11 dc11 pm11 an11 cd11 ct11),sl11⟩) (c11 : PySem.W.codeIn K cd11 "from_word" = true) (k11 : PySem.W.keepIn K (.ref f11) = true)
    (a12 : PySem.W.nsIn K mainGlobals "consists_of" = some (some (.ref f12))) (l12 : K.lookup f12 = some ⟨oc12,od12,.func (PySem.W.fnOf "consists_of" "consists_of" (defArgs st_consists_of) (defBody st_consists_of) (defScope st_consists_of) .none kV12 dc12 pm12 an12 cd12 ct12),sl12⟩) (c12 : PySem.W.codeIn K cd12 "consists_of" = true) (k12 : PySem.W.keepIn K (.ref f12) = true)
    (a13 : PySem.W.nsIn K mainGlobals "number_of" = some (some (.ref f13))) (l13 : K.lookup f13 = some ⟨oc13,od13,.func (PySem.W.fnOf "number_of" "number_of" (defArgs st_number_of) (defBody st_number_of) (defScope st_number_of) .none kV13 dc13 pm13 an13 cd13 ct13),sl13⟩) (c13 : PySem.W.codeIn K cd13 "number_of" = true) (k13 : PySem.W.keepIn K (.ref f13) = true)
    (a14 : PySem.W.nsIn K mainGlobals "from_brackets" = some (some (.ref f14))) (l14 : K.lookup f14 = some ⟨oc14,od14,.func (PySem.W.fnOf "from_brackets" "from_brackets" (defArgs st_from_brackets) (defBody st_from_brackets) (defScope st_from_brackets) .none kV14 dc14 pm14 an14 cd14 ct14),sl14⟩) (c14 : PySem.W.codeIn K cd14 "from_brackets" = true) (k14 : PySem.W.keepIn K (.ref f14) = true)
    (a15 : PySem.W.nsIn K mainGlobals "as_due" = some (some (.ref f15))) (l15 : K.lookup f15 = some ⟨oc15,od15,.func (PySem.W.fnOf "as_due" "as_due" (defArgs st_as_due) (defBody st_as_due) (defScope st_as_due) .none kV15 dc15 pm15 an15 cd15 ct15),sl15⟩) (c15 : PySem.W.codeIn K cd15 "as_due" = true) (k15 : PySem.W.keepIn K (.ref f15) = true)
    (a16 : PySem.W.nsIn K mainGlobals "_law_at" = some (some (.ref f16))) (l16 : K.lookup f16 = some ⟨oc16,od16,.func (PySem.W.fnOf "_law_at" "_law_at" (defArgs st_law_at) (defBody st_law_at) (defScope st_law_at) .none kV16 dc16 pm16 an16 cd16 ct16),sl16⟩) (c16 : PySem.W.codeIn K cd16 "_law_at" = true) (k16 : PySem.W.keepIn K (.ref f16) = true)
    (a17 : PySem.W.nsIn K mainGlobals "_law_built_up" = some (some (.ref f17))) (l17 : K.lookup f17 = some ⟨oc17,od17,.func (PySem.W.fnOf "_law_built_up" "_law_built_up" (defArgs st_law_built_up) (defBody st_law_built_up) (defScope st_law_built_up) .none kV17 dc17 pm17 an17 cd17 ct17),sl17⟩) (c17 : PySem.W.codeIn K cd17 "_law_built_up" = true) (k17 : PySem.W.keepIn K (.ref f17) = true)
    (a18 : PySem.W.nsIn K mainGlobals "_law_drawn_kind" = some (some (.ref f18))) (l18 : K.lookup f18 = some ⟨oc18,od18,.func (PySem.W.fnOf "_law_drawn_kind" "_law_drawn_kind" (defArgs st_law_drawn_kind) (defBody st_law_drawn_kind) (defScope st_law_drawn_kind) .none kV18 dc18 pm18 an18 cd18 ct18),sl18⟩) (c18 : PySem.W.codeIn K cd18 "_law_drawn_kind" = true) (k18 : PySem.W.keepIn K (.ref f18) = true)
    (a19 : PySem.W.nsIn K mainGlobals "_law_word_by" = some (some (.ref f19))) (l19 : K.lookup f19 = some ⟨oc19,od19,.func (PySem.W.fnOf "_law_word_by" "_law_word_by" (defArgs st_law_word_by) (defBody st_law_word_by) (defScope st_law_word_by) .none kV19 dc19 pm19 an19 cd19 ct19),sl19⟩) (c19 : PySem.W.codeIn K cd19 "_law_word_by" = true) (k19 : PySem.W.keepIn K (.ref f19) = true)
    (a20 : PySem.W.nsIn K mainGlobals "_law_leaf" = some (some (.ref f20))) (l20 : K.lookup f20 = some ⟨oc20,od20,.func (PySem.W.fnOf "_law_leaf" "_law_leaf" (defArgs st_law_leaf) (defBody st_law_leaf) (defScope st_law_leaf) .none kV20 dc20 pm20 an20 cd20 ct20),sl20⟩) (c20 : PySem.W.codeIn K cd20 "_law_leaf" = true) (k20 : PySem.W.keepIn K (.ref f20) = true)
    (a21 : PySem.W.nsIn K mainGlobals "_law_taken" = some (some (.ref f21))) (l21 : K.lookup f21 = some ⟨oc21,od21,.func (PySem.W.fnOf "_law_taken" "_law_taken" (defArgs st_law_taken) (defBody st_law_taken) (defScope st_law_taken) .none kV21 dc21 pm21 an21 cd21 ct21),sl21⟩) (c21 : PySem.W.codeIn K cd21 "_law_taken" = true) (k21 : PySem.W.keepIn K (.ref f21) = true)
    (a22 : PySem.W.nsIn K mainGlobals "_law_combined" = some (some (.ref f22))) (l22 : K.lookup f22 = some ⟨oc22,od22,.func (PySem.W.fnOf "_law_combined" "_law_combined" (defArgs st_law_combined) (defBody st_law_combined) (defScope st_law_combined) .none kV22 dc22 pm22 an22 cd22 ct22),sl22⟩) (c22 : PySem.W.codeIn K cd22 "_law_combined" = true) (k22 : PySem.W.keepIn K (.ref f22) = true)
    (a23 : PySem.W.nsIn K mainGlobals "_law_grown" = some (some (.ref f23))) (l23 : K.lookup f23 = some ⟨oc23,od23,.func (PySem.W.fnOf "_law_grown" "_law_grown" (defArgs st_law_grown) (defBody st_law_grown) (defScope st_law_grown) .none kV23 dc23 pm23 an23 cd23 ct23),sl23⟩) (c23 : PySem.W.codeIn K cd23 "_law_grown" = true) (k23 : PySem.W.keepIn K (.ref f23) = true)
    (a24 : PySem.W.nsIn K mainGlobals "_law_good" = some (some (.ref f24))) (l24 : K.lookup f24 = some ⟨oc24,od24,.func (PySem.W.fnOf "_law_good" "_law_good" (defArgs st_law_good) (defBody st_law_good) (defScope st_law_good) .none kV24 dc24 pm24 an24 cd24 ct24),sl24⟩) (c24 : PySem.W.codeIn K cd24 "_law_good" = true) (k24 : PySem.W.keepIn K (.ref f24) = true)
    (a25 : PySem.W.nsIn K mainGlobals "_law_bad" = some (some (.ref f25))) (l25 : K.lookup f25 = some ⟨oc25,od25,.func (PySem.W.fnOf "_law_bad" "_law_bad" (defArgs st_law_bad) (defBody st_law_bad) (defScope st_law_bad) .none kV25 dc25 pm25 an25 cd25 ct25),sl25⟩) (c25 : PySem.W.codeIn K cd25 "_law_bad" = true) (k25 : PySem.W.keepIn K (.ref f25) = true)
    (a26 : PySem.W.nsIn K mainGlobals "_law_harmed" = some (some (.ref f26))) (l26 : K.lookup f26 = some ⟨oc26,od26,.func (PySem.W.fnOf "_law_harmed" "_law_harmed" (defArgs st_law_harmed) (defBody st_law_harmed) (defScope st_law_harmed) .none kV26 dc26 pm26 an26 cd26 ct26),sl26⟩) (c26 : PySem.W.codeIn K cd26 "_law_harmed" = true) (k26 : PySem.W.keepIn K (.ref f26) = true)
    (a27 : PySem.W.nsIn K mainGlobals "law" = some (some (.ref f27))) (l27 : K.lookup f27 = some ⟨oc27,od27,.func (PySem.W.fnOf "law" "law" (defArgs st_law) (defBody st_law) (defScope st_law) .none kV27 dc27 pm27 an27 cd27 ct27),sl27⟩) (c27 : PySem.W.codeIn K cd27 "law" = true) (k27 : PySem.W.keepIn K (.ref f27) = true)
    (z0 : PySem.W.nsIn K mainGlobals "len" = some none)
    (z1 : PySem.W.nsIn K mainGlobals "list" = some none)
    (z2 : PySem.W.nsIn K mainGlobals "tuple" = some none)
    (z3 : PySem.W.nsIn K mainGlobals "int" = some none)
    (z4 : PySem.W.nsIn K mainGlobals "bool" = some none)
    (z5 : PySem.W.nsIn K mainGlobals "range" = some none)
    (z6 : PySem.W.nsIn K mainGlobals "enumerate" = some none)
    (z7 : PySem.W.nsIn K mainGlobals "reversed" = some none)
    (z8 : PySem.W.nsIn K mainGlobals "isinstance" = some none)
    {aF : Addr} {nF : Nat} {hF1 hF2 hF3 hF4 hF5 hF6 hF7 hF8 hF9 hF10 : Int} {uF1 uF2 uF3 uF4 uF5 uF6 uF7 uF8 uF9 uF10 : Tok} {gF1 gF2 gF3 gF4 gF5 gF6 gF7 gF8 gF9 gF10 : Addr} {tL tG : Tok} {dF1 : Option Addr} {mF1 : Nat} {sF1 : Array (Option Value)} {tF1_0 : Tok} {dF2 : Option Addr} {mF2 : Nat} {sF2 : Array (Option Value)} {tF2_0 tF2_1 : Tok} {dF3 : Option Addr} {mF3 : Nat} {sF3 : Array (Option Value)} {tF3_0 tF3_1 : Tok} {dF4 : Option Addr} {mF4 : Nat} {sF4 : Array (Option Value)} {tF4_0 tF4_1 : Tok} {dF5 : Option Addr} {mF5 : Nat} {sF5 : Array (Option Value)} {tF5_0 tF5_1 tF5_2 : Tok} {dF6 : Option Addr} {mF6 : Nat} {sF6 : Array (Option Value)} {tF6_0 : Tok} {dF7 : Option Addr} {mF7 : Nat} {sF7 : Array (Option Value)} {tF7_0 tF7_1 : Tok} {dF8 : Option Addr} {mF8 : Nat} {sF8 : Array (Option Value)} {tF8_0 tF8_1 tF8_2 tF8_3 tF8_4 tF8_5 : Tok} {dF9 : Option Addr} {mF9 : Nat} {sF9 : Array (Option Value)} {tF9_0 tF9_1 tF9_2 : Tok} {dF10 : Option Addr} {mF10 : Nat} {sF10 : Array (Option Value)} {tF10_0 tF10_1 : Tok} {C_NoLine : Addr}
    (y_str : PySem.W.nsIn K mainGlobals "str" = some none)
    (y_abs : PySem.W.nsIn K mainGlobals "abs" = some none)
    (y_all : PySem.W.nsIn K mainGlobals "all" = some none)
    (y_zip : PySem.W.nsIn K mainGlobals "zip" = some none)
    (y_ValueError : PySem.W.nsIn K mainGlobals "ValueError" = some none)
    (c_F : PySem.W.nsIn K mainGlobals "FORMS" = some (some (.ref aF)))
    (l_F : K.lookup aF = some ⟨.type "dict",none,.dict #[⟨hF1,.str "list" uF1,.ref gF1⟩,⟨hF2,.str "to" uF2,.ref gF2⟩,⟨hF3,.str "add" uF3,.ref gF3⟩,⟨hF4,.str "less" uF4,.ref gF4⟩,⟨hF5,.str "if" uF5,.ref gF5⟩,⟨hF6,.str "nil" uF6,.ref gF6⟩,⟨hF7,.str "front" uF7,.ref gF7⟩,⟨hF8,.str "case" uF8,.ref gF8⟩,⟨hF9,.str "fun" uF9,.ref gF9⟩,⟨hF10,.str "call" uF10,.ref gF10⟩] nF,#[]⟩)
    (e_F1 : hF1 = keyH w (.inr "list"))
    (l_F1 : K.lookup gF1 = some ⟨.type "tuple",dF1,.seq #[.str "kind" tF1_0] mF1,sF1⟩)
    (e_F2 : hF2 = keyH w (.inr "to"))
    (l_F2 : K.lookup gF2 = some ⟨.type "tuple",dF2,.seq #[.str "kind" tF2_0,.str "kind" tF2_1] mF2,sF2⟩)
    (e_F3 : hF3 = keyH w (.inr "add"))
    (l_F3 : K.lookup gF3 = some ⟨.type "tuple",dF3,.seq #[.str "part" tF3_0,.str "part" tF3_1] mF3,sF3⟩)
    (e_F4 : hF4 = keyH w (.inr "less"))
    (l_F4 : K.lookup gF4 = some ⟨.type "tuple",dF4,.seq #[.str "part" tF4_0,.str "part" tF4_1] mF4,sF4⟩)
    (e_F5 : hF5 = keyH w (.inr "if"))
    (l_F5 : K.lookup gF5 = some ⟨.type "tuple",dF5,.seq #[.str "part" tF5_0,.str "part" tF5_1,.str "part" tF5_2] mF5,sF5⟩)
    (e_F6 : hF6 = keyH w (.inr "nil"))
    (l_F6 : K.lookup gF6 = some ⟨.type "tuple",dF6,.seq #[.str "kind" tF6_0] mF6,sF6⟩)
    (e_F7 : hF7 = keyH w (.inr "front"))
    (l_F7 : K.lookup gF7 = some ⟨.type "tuple",dF7,.seq #[.str "part" tF7_0,.str "part" tF7_1] mF7,sF7⟩)
    (e_F8 : hF8 = keyH w (.inr "case"))
    (l_F8 : K.lookup gF8 = some ⟨.type "tuple",dF8,.seq #[.str "kind" tF8_0,.str "part" tF8_1,.str "part" tF8_2,.str "name" tF8_3,.str "name" tF8_4,.str "part" tF8_5] mF8,sF8⟩)
    (e_F9 : hF9 = keyH w (.inr "fun"))
    (l_F9 : K.lookup gF9 = some ⟨.type "tuple",dF9,.seq #[.str "name" tF9_0,.str "kind" tF9_1,.str "part" tF9_2] mF9,sF9⟩)
    (e_F10 : hF10 = keyH w (.inr "call"))
    (l_F10 : K.lookup gF10 = some ⟨.type "tuple",dF10,.seq #[.str "part" tF10_0,.str "part" tF10_1] mF10,sF10⟩)
    (n_F : (aF == sysModules) = false)
    (c_L : PySem.W.nsIn K mainGlobals "LETTERS" = some (some (.str Letters tL)))
    (c_G : PySem.W.nsIn K mainGlobals "FIGURES" = some (some (.str Figures tG)))
    (c_NoLine : PySem.W.nsIn K mainGlobals "NoLine" = some (some (.ref C_NoLine)))
    (e_excNL : PySem.W.excIn K C_NoLine [.type "ValueError",.type "Exception",.type "BaseException",.type "object"] "ValueError.__new__" = true)
    (x_NL : PySem.W.exmOne K (.ref C_NoLine) (.ref C_NoLine) = some true)
    : ∃ fd : FuncData,(∀ (s : Shared) (v : Value),BindsTo s fd ⟨[v],[]⟩ [("_law_script",v)]) ∧ ∀ base : Heap,K.In base → base.Ns mainGlobals mg → FnOk l.prog w K mg base CX0 9 fa fd ["_law_script"] (spV K (RLaw K)) := by
  have e0 := hfa.symm.trans (PySem.W.mg_of X G a27)
  cases e0
  have F1 := fun_mk (st := st_shown) l1 c1 k1
  have b1 := F1.binds (ps := ["expr"]) fun _ _ _ _ _ _ us hl => match us,hl with | [_],_ => rfl
  have m1 := PySem.W.mg_of X G a1
  have F2 := fun_mk (st := st_form_of) l2 c2 k2
  have b2 := F2.binds (ps := ["word"]) fun _ _ _ _ _ _ us hl => match us,hl with | [_],_ => rfl
  have m2 := PySem.W.mg_of X G a2
  have F3 := fun_mk (st := st_spelled) l3 c3 k3
  have b3 := F3.binds (ps := ["pieces"]) fun _ _ _ _ _ _ us hl => match us,hl with | [_],_ => rfl
  have m3 := PySem.W.mg_of X G a3
  have F4 := fun_mk (st := st_pieces_of_part) l4 c4 k4
  have b4 := F4.binds (ps := ["part"]) fun _ _ _ _ _ _ us hl => match us,hl with | [_],_ => rfl
  have m4 := PySem.W.mg_of X G a4
  have F5 := fun_mk (st := st_figures_of) l5 c5 k5
  have b5 := F5.binds (ps := ["number"]) fun _ _ _ _ _ _ us hl => match us,hl with | [_],_ => rfl
  have m5 := PySem.W.mg_of X G a5
  have F6 := fun_mk (st := st_pieces_of_kind) l6 c6 k6
  have b6 := F6.binds (ps := ["kind"]) fun _ _ _ _ _ _ us hl => match us,hl with | [_],_ => rfl
  have m6 := PySem.W.mg_of X G a6
  have F7 := fun_mk (st := st_in_brackets) l7 c7 k7
  have b7 := F7.binds (ps := ["word","marks","own"]) fun _ _ _ _ _ _ us hl => match us,hl with | [_,_,_],_ => rfl
  have m7 := PySem.W.mg_of X G a7
  have F8 := fun_mk (st := st_read) l8 c8 k8
  have b8 := F8.binds (ps := ["line"]) fun _ _ _ _ _ _ us hl => match us,hl with | [_],_ => rfl
  have m8 := PySem.W.mg_of X G a8
  have F9 := fun_mk (st := st_gathered) l9 c9 k9
  have b9 := F9.binds (ps := ["line"]) fun _ _ _ _ _ _ us hl => match us,hl with | [_],_ => rfl
  have m9 := PySem.W.mg_of X G a9
  have F10 := fun_mk (st := st_tokens) l10 c10 k10
  have b10 := F10.binds (ps := ["line"]) fun _ _ _ _ _ _ us hl => match us,hl with | [_],_ => rfl
  have m10 := PySem.W.mg_of X G a10
  have F11 := fun_mk (st := st_from_word) l11 c11 k11
  have b11 := F11.binds (ps := ["token"]) fun _ _ _ _ _ _ us hl => match us,hl with | [_],_ => rfl
  have m11 := PySem.W.mg_of X G a11
  have F12 := fun_mk (st := st_consists_of) l12 c12 k12
  have b12 := F12.binds (ps := ["token","signs"]) fun _ _ _ _ _ _ us hl => match us,hl with | [_,_],_ => rfl
  have m12 := PySem.W.mg_of X G a12
  have F13 := fun_mk (st := st_number_of) l13 c13 k13
  have b13 := F13.binds (ps := ["figures"]) fun _ _ _ _ _ _ us hl => match us,hl with | [_],_ => rfl
  have m13 := PySem.W.mg_of X G a13
  have F14 := fun_mk (st := st_from_brackets) l14 c14 k14
  have b14 := F14.binds (ps := ["group"]) fun _ _ _ _ _ _ us hl => match us,hl with | [_],_ => rfl
  have m14 := PySem.W.mg_of X G a14
  have F15 := fun_mk (st := st_as_due) l15 c15 k15
  have b15 := F15.binds (ps := ["due","found"]) fun _ _ _ _ _ _ us hl => match us,hl with | [_,_],_ => rfl
  have m15 := PySem.W.mg_of X G a15
  have F16 := fun_mk (st := st_law_at) l16 c16 k16
  have b16 := F16.binds (ps := ["_law_script","_law_k"]) fun _ _ _ _ _ _ us hl => match us,hl with | [_,_],_ => rfl
  have m16 := PySem.W.mg_of X G a16
  have F17 := fun_mk (st := st_law_built_up) l17 c17 k17
  have b17 := F17.binds (ps := ["_law_word","_law_marks","_law_ones","_law_gaps"]) fun _ _ _ _ _ _ us hl => match us,hl with | [_,_,_,_],_ => rfl
  have m17 := PySem.W.mg_of X G a17
  have F18 := fun_mk (st := st_law_drawn_kind) l18 c18 k18
  have b18 := F18.binds (ps := ["_law_cell"]) fun _ _ _ _ _ _ us hl => match us,hl with | [_],_ => rfl
  have m18 := PySem.W.mg_of X G a18
  have F19 := fun_mk (st := st_law_word_by) l19 c19 k19
  have b19 := F19.binds (ps := ["_law_cell"]) fun _ _ _ _ _ _ us hl => match us,hl with | [_],_ => rfl
  have m19 := PySem.W.mg_of X G a19
  have F20 := fun_mk (st := st_law_leaf) l20 c20 k20
  have b20 := F20.binds (ps := ["_law_cell"]) fun _ _ _ _ _ _ us hl => match us,hl with | [_],_ => rfl
  have m20 := PySem.W.mg_of X G a20
  have F21 := fun_mk (st := st_law_taken) l21 c21 k21
  have b21 := F21.binds (ps := ["_law_pile","_law_cell"]) fun _ _ _ _ _ _ us hl => match us,hl with | [_,_],_ => rfl
  have m21 := PySem.W.mg_of X G a21
  have F22 := fun_mk (st := st_law_combined) l22 c22 k22
  have b22 := F22.binds (ps := ["_law_pile","_law_cell"]) fun _ _ _ _ _ _ us hl => match us,hl with | [_,_],_ => rfl
  have m22 := PySem.W.mg_of X G a22
  have F23 := fun_mk (st := st_law_grown) l23 c23 k23
  have b23 := F23.binds (ps := ["_law_cells"]) fun _ _ _ _ _ _ us hl => match us,hl with | [_],_ => rfl
  have m23 := PySem.W.mg_of X G a23
  have F24 := fun_mk (st := st_law_good) l24 c24 k24
  have b24 := F24.binds (ps := ["_law_rest"]) fun _ _ _ _ _ _ us hl => match us,hl with | [_],_ => rfl
  have m24 := PySem.W.mg_of X G a24
  have F25 := fun_mk (st := st_law_bad) l25 c25 k25
  have b25 := F25.binds (ps := ["_law_rest"]) fun _ _ _ _ _ _ us hl => match us,hl with | [_],_ => rfl
  have m25 := PySem.W.mg_of X G a25
  have F26 := fun_mk (st := st_law_harmed) l26 c26 k26
  have b26 := F26.binds (ps := ["_law_line","_law_spot","_law_way"]) fun _ _ _ _ _ _ us hl => match us,hl with | [_,_,_],_ => rfl
  have m26 := PySem.W.mg_of X G a26
  have F27 := fun_mk (st := st_law) l27 c27 k27
  have m27 := PySem.W.mg_of X G a27
  have B : Plain mg := ⟨PySem.W.mg_none_of X G z0,PySem.W.mg_none_of X G z1,PySem.W.mg_none_of X G z2,PySem.W.mg_none_of X G z3,PySem.W.mg_none_of X G z4,PySem.W.mg_none_of X G z5,PySem.W.mg_none_of X G z6,PySem.W.mg_none_of X G z7,PySem.W.mg_none_of X G z8⟩
  have sq1 : ∀ H,SqT K H gF1 [.str "kind"] := fun H => .inr ⟨_,_,_,l_F1,rfl,rfl,by show 1 ≤ sizeLine; decide,.cons ⟨tF1_0,rfl⟩ (.nil)⟩
  have sq2 : ∀ H,SqT K H gF2 [.str "kind",.str "kind"] := fun H => .inr ⟨_,_,_,l_F2,rfl,rfl,by show 2 ≤ sizeLine; decide,.cons ⟨tF2_0,rfl⟩ (.cons ⟨tF2_1,rfl⟩ (.nil))⟩
  have sq3 : ∀ H,SqT K H gF3 [.str "part",.str "part"] := fun H => .inr ⟨_,_,_,l_F3,rfl,rfl,by show 2 ≤ sizeLine; decide,.cons ⟨tF3_0,rfl⟩ (.cons ⟨tF3_1,rfl⟩ (.nil))⟩
  have sq4 : ∀ H,SqT K H gF4 [.str "part",.str "part"] := fun H => .inr ⟨_,_,_,l_F4,rfl,rfl,by show 2 ≤ sizeLine; decide,.cons ⟨tF4_0,rfl⟩ (.cons ⟨tF4_1,rfl⟩ (.nil))⟩
  have sq5 : ∀ H,SqT K H gF5 [.str "part",.str "part",.str "part"] := fun H => .inr ⟨_,_,_,l_F5,rfl,rfl,by show 3 ≤ sizeLine; decide,.cons ⟨tF5_0,rfl⟩ (.cons ⟨tF5_1,rfl⟩ (.cons ⟨tF5_2,rfl⟩ (.nil)))⟩
  have sq6 : ∀ H,SqT K H gF6 [.str "kind"] := fun H => .inr ⟨_,_,_,l_F6,rfl,rfl,by show 1 ≤ sizeLine; decide,.cons ⟨tF6_0,rfl⟩ (.nil)⟩
  have sq7 : ∀ H,SqT K H gF7 [.str "part",.str "part"] := fun H => .inr ⟨_,_,_,l_F7,rfl,rfl,by show 2 ≤ sizeLine; decide,.cons ⟨tF7_0,rfl⟩ (.cons ⟨tF7_1,rfl⟩ (.nil))⟩
  have sq8 : ∀ H,SqT K H gF8 [.str "kind",.str "part",.str "part",.str "name",.str "name",.str "part"] := fun H => .inr ⟨_,_,_,l_F8,rfl,rfl,by show 6 ≤ sizeLine; decide,.cons ⟨tF8_0,rfl⟩ (.cons ⟨tF8_1,rfl⟩ (.cons ⟨tF8_2,rfl⟩ (.cons ⟨tF8_3,rfl⟩ (.cons ⟨tF8_4,rfl⟩ (.cons ⟨tF8_5,rfl⟩ (.nil))))))⟩
  have sq9 : ∀ H,SqT K H gF9 [.str "name",.str "kind",.str "part"] := fun H => .inr ⟨_,_,_,l_F9,rfl,rfl,by show 3 ≤ sizeLine; decide,.cons ⟨tF9_0,rfl⟩ (.cons ⟨tF9_1,rfl⟩ (.cons ⟨tF9_2,rfl⟩ (.nil)))⟩
  have sq10 : ∀ H,SqT K H gF10 [.str "part",.str "part"] := fun H => .inr ⟨_,_,_,l_F10,rfl,rfl,by show 2 ≤ sizeLine; decide,.cons ⟨tF10_0,rfl⟩ (.cons ⟨tF10_1,rfl⟩ (.nil))⟩
  have T : TabK l.prog w K mg "FORMS" formOf := tab_forms (PySem.W.mg_of X G c_F) l_F e_F1 e_F2 e_F3 e_F4 e_F5 e_F6 e_F7 e_F8 e_F9 e_F10 sq1 sq2 sq3 sq4 sq5 sq6 sq7 sq8 sq9 sq10 n_F
  have hL : ∃ t,mg "LETTERS" = some (.str Letters t) := ⟨tL,PySem.W.mg_of X G c_L⟩
  have hF : ∃ t,mg "FIGURES" = some (.str Figures t) := ⟨tG,PySem.W.mg_of X G c_G⟩
  have hstr : mg "str" = none := PySem.W.mg_none_of X G y_str
  have habs : mg "abs" = none := PySem.W.mg_none_of X G y_abs
  have hall : mg "all" = none := PySem.W.mg_none_of X G y_all
  have hzip : mg "zip" = none := PySem.W.mg_none_of X G y_zip
  have hve : mg "ValueError" = none := PySem.W.mg_none_of X G y_ValueError
  have B2 : Plain2 mg := ⟨hzip,hstr,hve⟩
  have mNL : mg "NoLine" = some (.ref C_NoLine) := PySem.W.mg_of X G c_NoLine
  have cxN : ExcC K mg "NoLine" C_NoLine := ⟨mNL,e_excNL⟩
  refine ⟨PySem.W.fnOf "law" "law" (defArgs st_law) (defBody st_law) (defScope st_law) .none kV27 dc27 pm27 an27 cd27 ct27,fun s v => .of_eq rfl,fun base _ _ => ?_⟩
  have D_figures_of : DefOk l.prog w K mg base _ "figures_of" _ _ := ⟨f5,_,ok_fig F5 B habs hstr,b5,k5,m5⟩
  have D_in_brackets : DefOk l.prog w K mg base _ "in_brackets" _ _ := ⟨f7,_,ok_brk F7 B T,b7,k7,m7⟩
  have D_pieces_of_kind : DefOk l.prog w K mg base _ "pieces_of_kind" _ _ := ⟨f6,_,ok_pok F6 B D_in_brackets,b6,k6,m6⟩
  have D_pieces_of_part : DefOk l.prog w K mg base _ "pieces_of_part" _ _ := ⟨f4,_,ok_pop5 F4 D_figures_of D_in_brackets,b4,k4,m4⟩
  have D_spelled : DefOk l.prog w K mg base _ "spelled" _ _ := ⟨f3,_,ok_spl F3 B D_pieces_of_kind D_pieces_of_part,b3,k3,m3⟩
  have D_shown : DefOk l.prog w K mg base _ "shown" _ _ := ⟨f1,_,ok_shw F1 D_spelled,b1,k1,m1⟩
  have D_form_of : DefOk l.prog w K mg base _ "form_of" _ _ := ⟨f2,_,ok_fmo F2 T,b2,k2,m2⟩
  have D_consists_of : DefOk l.prog w K mg base _ "consists_of" _ _ := ⟨f12,_,ok_cso F12 hall,b12,k12,m12⟩
  have D_number_of : DefOk l.prog w K mg base _ "number_of" _ _ := ⟨f13,_,ok_nmo F13 hF,b13,k13,m13⟩
  have D_as_due : DefX l.prog w K mg base _ "as_due" _ _ := ⟨f15,_,ok_asdX F15 cxN,b15,k15,m15⟩
  have D_tokens : DefOkP l.prog w K mg base _ "tokens" _ _ := ⟨f10,_,ok_tks F10,b10,k10,m10⟩
  have D_from_word : DefX l.prog w K mg base _ "from_word" _ _ := ⟨f11,_,ok_fwdX F11 cxN D_form_of D_consists_of D_number_of hL hF,b11,k11,m11⟩
  have D_from_brackets : DefX l.prog w K mg base _ "from_brackets" _ _ := ⟨f14,_,ok_fbrX F14 cxN B B.tuple hzip D_form_of D_as_due,b14,k14,m14⟩
  have D_gathered : DefXP l.prog w K mg base _ "gathered" _ _ := ⟨f9,_,ok_gatX F9 cxN B D_tokens D_from_word D_from_brackets D_as_due,b9,k9,m9⟩
  have D_read : DefXP l.prog w K mg base _ "read" _ _ := ⟨f8,_,ok_reaX F8 cxN D_gathered D_shown,b8,k8,m8⟩
  have D_law_at : DefOk l.prog w K mg base _ "_law_at" _ _ := ⟨f16,_,ok_latS F16 B,b16,k16,m16⟩
  have D_law_built_up : DefOk l.prog w K mg base _ "_law_built_up" _ _ := ⟨f17,_,ok_bup F17 B B.tuple,b17,k17,m17⟩
  have D_law_drawn_kind : DefOk l.prog w K mg base _ "_law_drawn_kind" _ _ := ⟨f18,_,ok_dkd F18 B,b18,k18,m18⟩
  have D_law_word_by : DefOk l.prog w K mg base _ "_law_word_by" _ _ := ⟨f19,_,ok_wby F19 B,b19,k19,m19⟩
  have D_law_leaf : DefOk l.prog w K mg base _ "_law_leaf" _ _ := ⟨f20,_,ok_lef F20 hstr B.int D_law_built_up D_law_drawn_kind D_law_word_by,b20,k20,m20⟩
  have D_law_taken : DefOk l.prog w K mg base _ "_law_taken" _ _ := ⟨f21,_,ok_tkn F21 B D_law_leaf,b21,k21,m21⟩
  have D_law_combined : DefOk l.prog w K mg base _ "_law_combined" _ _ := ⟨f22,_,ok_cmb F22 B D_law_drawn_kind D_law_word_by D_law_taken D_law_built_up,b22,k22,m22⟩
  have D_law_grown : DefOk l.prog w K mg base _ "_law_grown" _ _ := ⟨f23,_,ok_grw F23 B D_law_leaf D_law_taken D_law_combined D_law_built_up,b23,k23,m23⟩
  have D_law_good : DefOk l.prog w K mg base _ "_law_good" _ _ := ⟨f24,_,ok_goo F24 B,b24,k24,m24⟩
  have D_law_bad : DefOk l.prog w K mg base _ "_law_bad" _ _ := ⟨f25,_,ok_bad F25 B,b25,k25,m25⟩
  have D_law_harmed : DefOk l.prog w K mg base _ "_law_harmed" _ _ := ⟨f26,_,ok_hrm F26,b26,k26,m26⟩
  exact ok_law F27 B hstr mNL x_NL D_law_grown D_law_at D_law_good D_law_bad D_law_harmed D_shown D_read
theorem walk {l : PySem.W.OpenLaw} {q : Program} {loose : List Str} {XP : (Str → Option Value) → Heap → Prop} {YP : World → Heap → Prop} {d : DefRec} {K : Params → PySem.W.Frag} (hn : l.most = some 63) (hdf : d.params.defaults = [])
    (hY : ∀ (w : World) (h : Heap),YP w h → (K w.params).In h)
    (F : ∀ (w : World) (mg : Str → Option Value) (fa : Addr) (h : Heap),(K w.params).In h → h.Ns mainGlobals mg → mg d.name = some (.ref fa) →
      ∃ fd : FuncData,(∀ (s : Shared) (u : Value),BindsTo s fd ⟨[u],[]⟩ [("_law_script",u)]) ∧ ∀ base : Heap,(K w.params).In base → base.Ns mainGlobals mg → FnOk l.prog w (K w.params) mg base CX0 9 fa fd ["_law_script"] (spV (K w.params) (RLaw (K w.params)))) :
    PySem.W.WalkO q loose XP YP l.row.toRowW d [] (fun f vs => PySem.call f vs) :=
  L2.walk_of (n := 63) (k := 9) (x := "_law_script") (CX := fun _ => CX0) (sp := fun w => spV (K w.params) (RLaw (K w.params))) hn (by decide) hdf ⟨rfl,by decide,by decide⟩ hY F (fun _ _ a ns hl ho hS => law_of hl ho hS) fun _ _ _ _ _ z => z
end Wk
def PySem.W.Fast.tw17978244171030773519 : Nat := 0
def PySem.W.Fast.tw1215514842094686154 : Nat := 0
def PySem.W.Fast.tw15684562882838538640 : Nat := 0
def PySem.W.Fast.tw17387424996154500602 : Nat := 0
def PySem.W.Fast.tw13766331020799521082 : Nat := 0
def PySem.W.Fast.tw16835074544212772442 : Nat := 0
def PySem.W.Fast.tw7039827831885137843 : Nat := 0
def PySem.W.Fast.tw9670358253126466981 : Nat := 0
def PySem.W.Fast.tw225537120564492 : Nat := 0
def PySem.W.Fast.tw10752603608009125333 : Nat := 0
def PySem.W.Fast.tw14020813630862153329 : Nat := 0
def PySem.W.Fast.tw14339493177597023798 : Nat := 0
def PySem.W.Fast.tw12673683911378946811 : Nat := 0
def PySem.W.Fast.tw8110661791276278904 : Nat := 0
def PySem.W.Fast.tw17477846848848400531 : Nat := 0
def PySem.W.Fast.tw6613382217957614896 : Nat := 0
def PySem.W.Fast.tw9297081146532575052 : Nat := 0
def PySem.W.Fast.tw16002926043407269336 : Nat := 0
def PySem.W.Fast.tw8007218588007740697 : Nat := 0
def PySem.W.Fast.tw6280521744838059709 : Nat := 0
def PySem.W.Fast.tw5147879598531914180 : Nat := 0
def PySem.W.Fast.tw9786409211504032346 : Nat := 0
def PySem.W.Fast.tw2606679171318966527 : Nat := 0
def PySem.W.Fast.tw7905377906876276238 : Nat := 0
def PySem.W.Fast.tw1039833959278997469 : Nat := 0
def PySem.W.Fast.tw10240985929518492844 : Nat := 0
def PySem.W.Fast.tw14813218245903069990 : Nat := 0
def PySem.W.Fast.tw4084911678954167697 : Nat := 0
def PySem.W.Fast.tw14210086010311536545 : Nat := 0
def PySem.W.Fast.tw10953091263063365737 : Nat := 0
def PySem.W.Fast.tw15647556865003957041 : Nat := 0
def PySem.W.Fast.tw16754304786021761906 : Nat := 0
def PySem.W.Fast.tw592890945730473864 : Nat := 0
def PySem.W.Fast.tw13245341443293610508 : Nat := 0
def PySem.W.Fast.tw105455422541670851 : Nat := 0
def PySem.W.Fast.tw9305108360826167479 : Nat := 0
def PySem.W.Fast.tw12402105279505755899 : Nat := 0
def PySem.W.Fast.tw4857133419285420418 : Nat := 0
def PySem.W.Fast.tw3980739310583980525 : Nat := 0
def PySem.W.Fast.tw17047645659642835822 : Nat := 0
def PySem.W.Fast.tw2411805857318885524 : Nat := 0
def PySem.W.Fast.tw12918937873458398868 : Nat := 0
open PySem PySem.W PyProof.Rows
set_option maxRecDepth 100000 in
set_option maxHeartbeats 0 in
theorem PySem.Challenge.cw_wellkind_k09_read_is_strict_holds : PySem.Challenge.rw_wellkind_k09_read_is_strict.Holds := by
  w_on; o_law; k_head; (case hw => w_witness2)
  k_fill
  refine Wk.walk (l := PySem.Challenge.rw_wellkind_k09_read_is_strict) rfl rfl (fun w h Y => PySem.W.kIn_of Y) ?F
  case F =>
    intro w mg fa h KX G hmg
    refine' Wk.all_mk KX G hmg ?a1 ?l1 ?c1 ?k1 ?a2 ?l2 ?c2 ?k2 ?a3 ?l3 ?c3 ?k3 ?a4 ?l4 ?c4 ?k4 ?a5 ?l5 ?c5 ?k5 ?a6 ?l6 ?c6 ?k6 ?a7 ?l7 ?c7 ?k7 ?a8 ?l8 ?c8 ?k8 ?a9 ?l9 ?c9 ?k9 ?a10 ?l10 ?c10 ?k10 ?a11 ?l11 ?c11 ?k11 ?a12 ?l12 ?c12 ?k12 ?a13 ?l13 ?c13 ?k13 ?a14 ?l14 ?c14 ?k14 ?a15 ?l15 ?c15 ?k15 ?a16 ?l16 ?c16 ?k16 ?a17 ?l17 ?c17 ?k17 ?a18 ?l18 ?c18 ?k18 ?a19 ?l19 ?c19 ?k19 ?a20 ?l20 ?c20 ?k20 ?a21 ?l21 ?c21 ?k21 ?a22 ?l22 ?c22 ?k22 ?a23 ?l23 ?c23 ?k23 ?a24 ?l24 ?c24 ?k24 ?a25 ?l25 ?c25 ?k25 ?a26 ?l26 ?c26 ?k26 ?a27 ?l27 ?c27 ?k27 ?z0 ?z1 ?z2 ?z3 ?z4 ?z5 ?z6 ?z7 ?z8 ?y_str ?y_abs ?y_all ?y_zip ?y_ValueError ?c_F ?l_F ?e_F1 ?l_F1 ?e_F2 ?l_F2 ?e_F3 ?l_F3 ?e_F4 ?l_F4 ?e_F5 ?l_F5 ?e_F6 ?l_F6 ?e_F7 ?l_F7 ?e_F8 ?l_F8 ?e_F9 ?l_F9 ?e_F10 ?l_F10 ?n_F ?c_L ?c_G ?c_NoLine ?e_excNL ?x_NL
    (case a1 => k_is)
    (case l1 => k_is)
    (case c1 => k_is)
    (case k1 => k_is)
    (case a2 => k_is)
    (case l2 => k_is)
    (case c2 => k_is)
    (case k2 => k_is)
    (case a3 => k_is)
    (case l3 => k_is)
    (case c3 => k_is)
    (case k3 => k_is)
    (case a4 => k_is)
    (case l4 => k_is)
    (case c4 => k_is)
    (case k4 => k_is)
    (case a5 => k_is)
    (case l5 => k_is)
    (case c5 => k_is)
    (case k5 => k_is)
    (case a6 => k_is)
    (case l6 => k_is)
    (case c6 => k_is)
    (case k6 => k_is)
    (case a7 => k_is)
    (case l7 => k_is)
    (case c7 => k_is)
    (case k7 => k_is)
    (case a8 => k_is)
    (case l8 => k_is)
    (case c8 => k_is)
    (case k8 => k_is)
    (case a9 => k_is)
    (case l9 => k_is)
    (case c9 => k_is)
    (case k9 => k_is)
    (case a10 => k_is)
    (case l10 => k_is)
    (case c10 => k_is)
    (case k10 => k_is)
    (case a11 => k_is)
    (case l11 => k_is)
    (case c11 => k_is)
    (case k11 => k_is)
    (case a12 => k_is)
    (case l12 => k_is)
    (case c12 => k_is)
    (case k12 => k_is)
    (case a13 => k_is)
    (case l13 => k_is)
    (case c13 => k_is)
    (case k13 => k_is)
    (case a14 => k_is)
    (case l14 => k_is)
    (case c14 => k_is)
    (case k14 => k_is)
    (case a15 => k_is)
    (case l15 => k_is)
    (case c15 => k_is)
    (case k15 => k_is)
    (case a16 => k_is)
    (case l16 => k_is)
    (case c16 => k_is)
    (case k16 => k_is)
    (case a17 => k_is)
    (case l17 => k_is)
    (case c17 => k_is)
    (case k17 => k_is)
    (case a18 => k_is)
    (case l18 => k_is)
    (case c18 => k_is)
    (case k18 => k_is)
    (case a19 => k_is)
    (case l19 => k_is)
    (case c19 => k_is)
    (case k19 => k_is)
    (case a20 => k_is)
    (case l20 => k_is)
    (case c20 => k_is)
    (case k20 => k_is)
    (case a21 => k_is)
    (case l21 => k_is)
    (case c21 => k_is)
    (case k21 => k_is)
    (case a22 => k_is)
    (case l22 => k_is)
    (case c22 => k_is)
    (case k22 => k_is)
    (case a23 => k_is)
    (case l23 => k_is)
    (case c23 => k_is)
    (case k23 => k_is)
    (case a24 => k_is)
    (case l24 => k_is)
    (case c24 => k_is)
    (case k24 => k_is)
    (case a25 => k_is)
    (case l25 => k_is)
    (case c25 => k_is)
    (case k25 => k_is)
    (case a26 => k_is)
    (case l26 => k_is)
    (case c26 => k_is)
    (case k26 => k_is)
    (case a27 => k_is)
    (case l27 => k_is)
    (case c27 => k_is)
    (case k27 => k_is)
    (case z0 => k_is)
    (case z1 => k_is)
    (case z2 => k_is)
    (case z3 => k_is)
    (case z4 => k_is)
    (case z5 => k_is)
    (case z6 => k_is)
    (case z7 => k_is)
    (case z8 => k_is)
    (case y_str => first | k_is | rfl | kernel_rfl | decide +kernel)
    (case y_abs => first | k_is | rfl | kernel_rfl | decide +kernel)
    (case y_all => first | k_is | rfl | kernel_rfl | decide +kernel)
    (case y_zip => first | k_is | rfl | kernel_rfl | decide +kernel)
    (case y_ValueError => first | k_is | rfl | kernel_rfl | decide +kernel)
    (case c_F => first | k_is | rfl | kernel_rfl | decide +kernel)
    (case l_F => first | k_is | rfl | kernel_rfl | decide +kernel)
    (case e_F1 => first | k_is | rfl | kernel_rfl | decide +kernel)
    (case l_F1 => first | k_is | rfl | kernel_rfl | decide +kernel)
    (case e_F2 => first | k_is | rfl | kernel_rfl | decide +kernel)
    (case l_F2 => first | k_is | rfl | kernel_rfl | decide +kernel)
    (case e_F3 => first | k_is | rfl | kernel_rfl | decide +kernel)
    (case l_F3 => first | k_is | rfl | kernel_rfl | decide +kernel)
    (case e_F4 => first | k_is | rfl | kernel_rfl | decide +kernel)
    (case l_F4 => first | k_is | rfl | kernel_rfl | decide +kernel)
    (case e_F5 => first | k_is | rfl | kernel_rfl | decide +kernel)
    (case l_F5 => first | k_is | rfl | kernel_rfl | decide +kernel)
    (case e_F6 => first | k_is | rfl | kernel_rfl | decide +kernel)
    (case l_F6 => first | k_is | rfl | kernel_rfl | decide +kernel)
    (case e_F7 => first | k_is | rfl | kernel_rfl | decide +kernel)
    (case l_F7 => first | k_is | rfl | kernel_rfl | decide +kernel)
    (case e_F8 => first | k_is | rfl | kernel_rfl | decide +kernel)
    (case l_F8 => first | k_is | rfl | kernel_rfl | decide +kernel)
    (case e_F9 => first | k_is | rfl | kernel_rfl | decide +kernel)
    (case l_F9 => first | k_is | rfl | kernel_rfl | decide +kernel)
    (case e_F10 => first | k_is | rfl | kernel_rfl | decide +kernel)
    (case l_F10 => first | k_is | rfl | kernel_rfl | decide +kernel)
    (case n_F => first | k_is | rfl | kernel_rfl | decide +kernel)
    (case c_L => first | k_is | rfl | kernel_rfl | decide +kernel)
    (case c_G => first | k_is | rfl | kernel_rfl | decide +kernel)
    (case c_NoLine => first | k_is | rfl | kernel_rfl | decide +kernel)
    (case e_excNL => first | k_is | rfl | kernel_rfl | decide +kernel)
    (case x_NL => first | k_is | rfl | kernel_rfl | decide +kernel)
