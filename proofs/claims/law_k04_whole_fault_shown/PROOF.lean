import PyProof.Rows.All
import Wide.All
import OpenK.AllK
import Wide.FinOn
import Lean
import PyProof.EqAt
import PyProof.EqKinds
import PyProof.TupleCall
import PySem.Challenge.RW_wellkind_k04_whole_fault_shown
set_option Elab.async false
set_option linter.all false
set_option maxRecDepth 100000
namespace L2
open PySem PySem.Spec PyProof.Rows
abbrev Key := Sum Int Str
def keyIs : Key → Value → Bool
  | .inl k, v => Value.isInt k v
  | .inr x, v => Value.isStrOf x v
def keyH (w : World) : Key → Int
  | .inl k => hashInt k
  | .inr x => hashStr w x
theorem keyIs_shape : ∀ {k : Key} {v : Value}, keyIs k v = true → (∃ i t, k = Sum.inl i ∧ v = Value.int i t) ∨ (∃ x t, k = Sum.inr x ∧ v = Value.str x t)
  | .inl i, v, h => by
    obtain ⟨t, e⟩ := Value.isInt_shape (k := i) (v := v) h
    exact .inl ⟨i, t, rfl, e⟩
  | .inr x, v, h => by
    obtain ⟨t, e⟩ := Value.isStrOf_shape (x := x) (v := v) h
    exact .inr ⟨x, t, rfl, e⟩
theorem keyIs_int (i : Int) (t : Tok) : keyIs (.inl i) (.int i t) = true := by simp [keyIs, Value.isInt]
theorem keyIs_str (x : Str) (t : Tok) : keyIs (.inr x) (.str x t) = true := by simp [keyIs, Value.isStrOf]
theorem key_ll (a b : Int) : decide ((Sum.inl a : Key) = Sum.inl b) = (a == b) := by
  by_cases e : a = b
  · subst e; simp
  · have h : ¬ (Sum.inl a : Key) = Sum.inl b := fun q => e (Sum.inl.inj q)
    rw [decide_eq_false h]
    exact (beq_eq_false_iff_ne.mpr e).symm
theorem key_rr (a b : Str) : decide ((Sum.inr a : Key) = Sum.inr b) = decide (a = b) := by
  by_cases e : a = b
  · subst e; simp
  · have h : ¬ (Sum.inr a : Key) = Sum.inr b := fun q => e (Sum.inr.inj q)
    rw [decide_eq_false h, decide_eq_false e]
theorem key_lr (a : Int) (b : Str) : decide ((Sum.inl a : Key) = Sum.inr b) = false := decide_eq_false (fun q => nomatch q)
theorem key_rl (a : Str) (b : Int) : decide ((Sum.inr a : Key) = Sum.inl b) = false := decide_eq_false (fun q => nomatch q)
def mixKind (prog : Program) (w : World) : PySem.KeyKind prog w Key where
  is := keyIs
  hash := keyH w
  inj := fun v a b ha hb => by
    rcases keyIs_shape ha with ⟨i, t, rfl, rfl⟩ | ⟨x, t, rfl, rfl⟩
    · rcases keyIs_shape hb with ⟨j, u, rfl, e⟩ | ⟨y, u, rfl, e⟩
      · injection e with e1 _; rw [e1]
      · exact nomatch e
    · rcases keyIs_shape hb with ⟨j, u, rfl, e⟩ | ⟨y, u, rfl, e⟩
      · exact nomatch e
      · injection e with e1 _; rw [e1]
  byValue := fun k v h => by
    rcases keyIs_shape h with ⟨i, t, rfl, rfl⟩ | ⟨x, t, rfl, rfl⟩ <;> rfl
  pyHash := fun hv h => by
    rcases keyIs_shape hv with ⟨i, t, rfl, rfl⟩ | ⟨x, t, rfl, rfl⟩
    · exact wpAny_pyHash_int h
    · exact wpAny_pyHash_str h
  eqBool := fun hu hv h => by
    rcases keyIs_shape hu with ⟨i, t, rfl, rfl⟩ | ⟨x, t, rfl, rfl⟩
    · rcases keyIs_shape hv with ⟨j, u, rfl, rfl⟩ | ⟨y, u, rfl, rfl⟩
      · rw [key_ll] at h; exact wpAny_eqBool_int h
      · rw [key_lr] at h; exact SeqAt.EqAt.int_str i t y u _ _ _ _ h
    · rcases keyIs_shape hv with ⟨j, u, rfl, rfl⟩ | ⟨y, u, rfl, rfl⟩
      · rw [key_rl] at h; exact SeqAt.EqAt.str_int x t j u _ _ _ _ h
      · rw [key_rr] at h; exact wpAny_eqBool_str h
  «strs» := fun k x t v h => by
    rcases keyIs_shape h with ⟨i, u, rfl, e⟩ | ⟨y, u, rfl, e⟩
    · exact nomatch e
    · injection e with e1 _
      subst e1
      cases v <;> rfl
theorem mixKind_int (prog : Program) (w : World) (i : Int) (t : Tok) : (mixKind prog w).is (.inl i) (.int i t) = true := keyIs_int i t
theorem mixKind_str (prog : Program) (w : World) (x : Str) (t : Tok) : (mixKind prog w).is (.inr x) (.str x t) = true := keyIs_str x t
end L2
namespace L2
open PySem PySem.Spec PyProof.Rows
inductive V where
  | non | bl (b : Bool) | int (i : Int) | str (x : Str) | byt (b : Array UInt8) | flt (b : UInt64) | ref (a : Addr) | ty (n : String)
  deriving DecidableEq
def RelV : V → Value → Prop
  | .non, u => u = Value.none
  | .bl b, u => u = Value.bool b
  | .int i, u => ∃ t, u = Value.int i t
  | .str x, u => ∃ t, u = Value.str x t
  | .byt b, u => ∃ t, u = Value.bytes b t
  | .flt b, u => ∃ t, u = Value.float b t
  | .ref a, u => u = Value.ref a
  | .ty n, u => u = Value.type n
abbrev Vals : List V → List Value → Prop := Paired RelV
theorem Vals.length {xs : List V} {us : List Value} (r : Vals xs us) : xs.length = us.length := Paired.length r
theorem Vals.get : ∀ {xs : List V} {us : List Value} {i : Nat} {x : V}, Vals xs us → xs[i]? = some x → ∃ u, us[i]? = some u ∧ RelV x u
  | _, _, _, _, .nil, e => by simp at e
  | _, _, 0, _, .cons r _, e => by simp at e; subst e; exact ⟨_, rfl, r⟩
  | _, _, i + 1, x, .cons _ t, e => by
    obtain ⟨u, h1, h2⟩ := Vals.get (i := i) (x := x) t (by simpa using e)
    exact ⟨u, by simpa using h1, h2⟩
theorem Vals.append : ∀ {xs ys : List V} {us ws : List Value}, Vals xs us → Vals ys ws → Vals (xs ++ ys) (us ++ ws)
  | _, _, _, _, .nil, s => s
  | _, _, _, _, .cons r t, s => .cons r (Vals.append t s)
theorem Vals.take : ∀ {xs : List V} {us : List Value} (n : Nat), Vals xs us → Vals (xs.take n) (us.take n)
  | _, _, 0, _ => .nil
  | _, _, _ + 1, .nil => .nil
  | _, _, n + 1, .cons r t => .cons r (Vals.take n t)
theorem Vals.drop : ∀ {xs : List V} {us : List Value} (n : Nat), Vals xs us → Vals (xs.drop n) (us.drop n)
  | _, _, 0, r => r
  | _, _, _ + 1, .nil => .nil
  | _, _, n + 1, .cons _ t => Vals.drop n t
def RelO : Option V → Option Value → Prop
  | some v, some u => RelV v u
  | none, none => True
  | _, _ => False
def KV {κ : Type} : List (κ × V) → List (κ × Value) → Prop := Paired fun (p : κ × V) (q : κ × Value) => p.1 = q.1 ∧ RelV p.2 q.2
def kV : Key → V
  | .inl i => .int i
  | .inr x => .str x
inductive HO where
  /-- a list -/
  | lst (xs : List V)
  /-- a tuple (never changes) -/
  | tup (xs : List V)
  /-- a dict whose keys are ints and texts; one whose keys are tuples of ints and texts (the empty one is both) -/
  | dK (kvs : List (Key × V)) | dT (kvs : List (List Key × V))
  /-- a set of ints: its members, its size -/
  | set (S : Int → Bool) (n : Nat)
  /-- an instance of the class at C, its dict at dx, its attributes -/
  | ins (C dx : Addr) (fs : List (Str × V))
  /-- the dict of the instance at x -/
  | own (x : Addr)
  /-- the dict of an exception -/
  | xd (fs : List (Str × V))
  /-- a bound method, f of x -/
  | met (f x : Addr)
  /-- a range object lo, lo + 1, .. below hi -/
  | rng (lo hi : Int)
  /-- a thing that is known to the object (the script; a dict while a loop walks it): read, never written while it is so -/
  | frz (o : Obj) (u : HO)
  /-- a code object's table -/
  | tbl (ps : Array Value)
  /-- any other thing, by what is true of its one object (a def of one's own: SetO a S n := HO.ext fun h => ..) -/
  | ext (φ : Heap → Prop)
abbrev Hp := Addr → Option HO
def upd (H : Hp) (a : Addr) (o : HO) : Hp := fun b => if b = a then some o else H b
theorem upd_same {H : Hp} {a : Addr} {o : HO} : upd H a o a = some o := by unfold upd; rw [if_pos rfl]
theorem upd_ne {H : Hp} {a b : Addr} {o : HO} (h : b ≠ a) : upd H a o b = H b := by unfold upd; rw [if_neg h]
theorem ne_of {H : Hp} {a b : Addr} {o u : HO} (h : H a = some o) (h' : H b = some u) (d : o ≠ u) : a ≠ b := by
  intro e; subst e; rw [h] at h'; exact d (Option.some.inj h')
theorem ne_of_none {H : Hp} {a b : Addr} {o : HO} (h : H a = some o) (h' : H b = none) : a ≠ b := by
  intro e; subst e; rw [h] at h'; cases h'
section
variable (P : Program) (w : World)
def ObjOk (H : Hp) (h : Heap) (a : Addr) : HO → Prop
  | .lst xs => xs.length ≤ sizeLine ∧ ∃ (its : List Value) (n : Nat), Vals xs its ∧ h.get? a = some { cls := .type "list", data := .seq its.toArray n }
  | .tup xs => xs.length ≤ sizeLine ∧ ∃ its : List Value, Vals xs its ∧ IsTup h a its.toArray
  | .dK kvs => kvs.length ≤ sizeLine ∧ (a == sysModules) = false ∧ ∃ vs, KV kvs vs ∧ h.DictOf (mixKind P w) a vs
  | .dT kvs => kvs.length ≤ sizeLine ∧ (a == sysModules) = false ∧ ∃ xs : List (List Key × Addr × Value),
      Paired (fun (p : List Key × V) (q : List Key × Addr × Value) => p.1 = q.1 ∧ H q.2.1 = some (.tup (p.1.map kV)) ∧ RelV p.2 q.2.2) kvs xs ∧
      ∃ o es ep, h.get? a = some o ∧ o.ExactDict ∧ o.data = .dict es ep ∧ es.toList = xs.map (entryOfKey (tupleKind (mixKind P w))) ∧ (xs.map (·.1)).Nodup
  | .set S n => h.SetOf (intKind P w) a S n
  | .ins C dx fs => H dx = some (.own a) ∧ fs.length ≤ 1000 ∧ dx ≠ a ∧ h.get? a = some (PySem.W.instObj C dx) ∧
      ∃ mA, h.Ns1 dx mA ∧ (∀ f, RelO (fs.lookup f) (mA f)) ∧ PySem.Within mA (fs.map (·.1))
  | .own _ => ∃ o, h.get? a = some o
  | .xd fs => ∃ mA, h.Ns1 a mA ∧ ∀ f, RelO (fs.lookup f) (mA f)
  | .rng lo hi => ∃ t u v, h.get? a = some { cls := .type "range", data := .fields #[.int lo t, .int hi u, .int 1 v] }
  | .frz o u => h.get? a = some o ∧ ObjOk H h a u
  | .tbl ps => h.get? a = some { cls := .none, data := .fields ps }
  | .met f x => h.get? a = some (PySem.W.methodObj (.ref f) (.ref x))
  | .ext φ => φ h ∧ (∃ o, h.get? a = some o) ∧ ∀ h1 h2 : Heap, φ h1 → (∀ o, h1.get? a = some o → h2.get? a = some o) → φ h2
def HOk (H : Hp) (h : Heap) : Prop := ∀ a o, H a = some o → ObjOk P w H h a o
end
section
variable {P : Program} {w : World} {H H' : Hp} {h h' : Heap} {a : Addr} {o : HO}
theorem ObjOk.lt (x : ObjOk P w H h a o) : a < h.objs.size := by
  cases o with
  | lst xs => obtain ⟨_, _, _, _, e⟩ := x; exact Heap.lt_size e
  | tup xs => obtain ⟨_, _, _, p⟩ := x; exact p.lt
  | dK kvs => obtain ⟨_, _, _, _, o, _, _, e, _⟩ := x; exact Heap.lt_size e
  | dT kvs => obtain ⟨_, _, _, _, o, _, _, e, _⟩ := x; exact Heap.lt_size e
  | set S n => obtain ⟨o, _, _, _, e, _⟩ := x; exact Heap.lt_size e
  | ins C dx fs => obtain ⟨_, _, _, e, _⟩ := x; exact Heap.lt_size e
  | own y => obtain ⟨_, e⟩ := x; exact Heap.lt_size e
  | xd fs => obtain ⟨_, ⟨_, _, _, e, _⟩, _⟩ := x; exact Heap.lt_size e
  | rng lo hi => obtain ⟨_, _, _, e⟩ := x; exact Heap.lt_size e
  | frz ob u => obtain ⟨e, _⟩ := x; exact Heap.lt_size e
  | tbl ps => exact Heap.lt_size (show h.get? a = some _ from x)
  | met f y => exact Heap.lt_size (show h.get? a = some _ from x)
  | ext φ => obtain ⟨_, ⟨_, e⟩, _⟩ := x; exact Heap.lt_size e
theorem Paired.mapP {α β : Type} {F G : α → β → Prop} : ∀ {l₁ : List α} {l₂ : List β}, Paired F l₁ l₂ → (∀ a b, F a b → G a b) → Paired G l₁ l₂
  | _, _, .nil, _ => .nil
  | _, _, .cons r t, f => .cons (f _ _ r) (Paired.mapP t f)
theorem ObjOk.stay (x : ObjOk P w H h a o) (k : ∀ b u, (b = a ∨ H b = some (.own a)) → h.get? b = some u → h'.get? b = some u)
    (ho : ∀ b, H b = some (.own a) → H' b = some (.own a)) (ht : ∀ b xs, H b = some (.tup xs) → H' b = some (.tup xs)) : ObjOk P w H' h' a o := by
  induction o with
  | lst xs => obtain ⟨z, its, n, r, e⟩ := x; exact ⟨z, its, n, r, k _ _ (.inl rfl) e⟩
  | tup xs => obtain ⟨z, its, r, ob, e, c⟩ := x; exact ⟨z, its, r, ob, k _ _ (.inl rfl) e, c⟩
  | dK kvs => obtain ⟨z, y, vs, r, ob, es, ep, e, c⟩ := x; exact ⟨z, y, vs, r, ob, es, ep, k _ _ (.inl rfl) e, c⟩
  | dT kvs =>
    obtain ⟨z, y, xs, r, ob, es, ep, e, c⟩ := x
    exact ⟨z, y, xs, Paired.mapP r fun p q z => ⟨z.1, ht _ _ z.2.1, z.2.2⟩, ob, es, ep, k _ _ (.inl rfl) e, c⟩
  | set S n => obtain ⟨ob, es, ep, t, e, c⟩ := x; exact ⟨ob, es, ep, t, k _ _ (.inl rfl) e, c⟩
  | ins C dx fs =>
    obtain ⟨d, z, ne, e, mA, ⟨od, es, ep, e2, c⟩, r⟩ := x
    exact ⟨ho _ d, z, ne, k _ _ (.inl rfl) e, mA, ⟨od, es, ep, k _ _ (.inr d) e2, c⟩, r⟩
  | own y => obtain ⟨ob, e⟩ := x; exact ⟨ob, k _ _ (.inl rfl) e⟩
  | xd fs => obtain ⟨mA, ⟨od, es, ep, e, c⟩, r⟩ := x; exact ⟨mA, ⟨od, es, ep, k _ _ (.inl rfl) e, c⟩, r⟩
  | rng lo hi => obtain ⟨t, u, v, e⟩ := x; exact ⟨t, u, v, k _ _ (.inl rfl) e⟩
  | frz ob u ih => obtain ⟨e, q⟩ := x; exact ⟨k _ _ (.inl rfl) e, ih q⟩
  | tbl ps =>
    have e : h.get? a = some { cls := .none, data := .fields ps } := x
    show h'.get? a = some { cls := .none, data := .fields ps }
    exact k a _ (.inl rfl) e
  | met f y =>
    have e : h.get? a = some (PySem.W.methodObj (.ref f) (.ref y)) := x
    show h'.get? a = some (PySem.W.methodObj (.ref f) (.ref y))
    exact k a _ (.inl rfl) e
  | ext φ => obtain ⟨p, ⟨o, e⟩, st⟩ := x; exact ⟨st _ _ p fun o q => k _ _ (.inl rfl) q, ⟨o, k _ _ (.inl rfl) e⟩, st⟩
theorem HOk.lt (x : HOk P w H h) (e : H a = some o) : a < h.objs.size := (x a o e).lt
theorem HOk.fresh (x : HOk P w H h) (e : h.objs.size ≤ a) : H a = none := by
  cases q : H a with
  | none => rfl
  | some u => exact absurd (Nat.lt_of_lt_of_le (x.lt q) e) (Nat.lt_irrefl _)
theorem HOk.kept (x : HOk P w H h) (k : ∀ b u, h.get? b = some u → h'.get? b = some u) : HOk P w H h' := fun a o e =>
  (x a o e).stay (fun b u _ q => k b u q) (fun _ q => q) fun _ _ q => q
theorem HOk.laid (x : HOk P w H h) (k : ∀ b u, h.get? b = some u → h'.get? b = some u) (hp : h.objs.size ≤ a) (new : ObjOk P w (upd H a o) h' a o) : HOk P w (upd H a o) h' := fun b u e => by
  have hn := x.fresh hp
  by_cases hb : b = a
  · subst hb; rw [upd_same] at e; cases e; exact new
  · rw [upd_ne hb] at e
    exact (x b u e).stay (fun c v _ q => k c v q) (fun c q => by rw [upd_ne (ne_of_none q hn)]; exact q) fun c xs q => by rw [upd_ne (ne_of_none q hn)]; exact q
end
def Rd (H : Hp) (a : Addr) (u : HO) : Prop := H a = some u ∨ ∃ o, H a = some (.frz o u)
theorem Rd.ok {P : Program} {w : World} {H : Hp} {h : Heap} {a : Addr} {u : HO} (r : Rd H a u) (x : HOk P w H h) : ObjOk P w H h a u := by
  rcases r with r | ⟨o, r⟩
  · exact x a u r
  · obtain ⟨_, q⟩ := x a _ r
    exact q
def Mut : Option HO → Prop
  | some (.lst _) => True
  | some (.dK _) => True
  | some (.dT _) => True
  | some (.set _ _) => True
  | some (.ins _ _ _) => True
  | some (.ext _) => True
  | _ => False
section
variable {P : Program} {w : World} {H : Hp} {h h' : Heap} {x e : Addr} {o' : HO}
theorem HOk.write (ok : HOk P w H h) (mu : Mut (H x)) (he : e = x ∨ H e = some (.own x)) (k : ∀ b u, b ≠ e → h.get? b = some u → h'.get? b = some u) (heo : ∃ u, h'.get? e = some u)
    (new : ObjOk P w (upd H x o') h' x o') : HOk P w (upd H x o') h' := fun b u q => by
  have nown : ∀ c y, H c = some (.own y) → c ≠ x := fun c y r z => by subst z; rw [r] at mu; exact mu
  have ntup : ∀ c xs, H c = some (.tup xs) → c ≠ x := fun c xs r z => by subst z; rw [r] at mu; exact mu
  by_cases hb : b = x
  · subst hb; rw [upd_same] at q; cases q; exact new
  · rw [upd_ne hb] at q
    by_cases hbe : b = e
    · have q' : H b = some (.own x) := by
        rcases he with z | z
        · exact absurd (hbe.trans z) hb
        · rw [hbe]; exact z
      rw [q] at q'; cases q'
      obtain ⟨v, hv⟩ := heo
      exact ⟨v, by rw [hbe]; exact hv⟩
    · refine (ok b u q).stay (fun c v hc r => k c v ?_ r) (fun c r => by rw [upd_ne (nown c b r)]; exact r) fun c xs r => by rw [upd_ne (ntup c xs r)]; exact r
      rcases hc with rfl | hc
      · exact hbe
      · rintro rfl
        rcases he with z | z
        · exact nown c b hc z
        · rw [hc] at z; cases z; exact hb rfl
end
structure Un (fs ex : List Addr) (H H' : Hp) (h h' : Heap) : Prop where
  keep : ∀ b o, h.get? b = some o → H b = none → b ∉ fs → b ∉ ex → h'.get? b = some o
  slot : ∀ b o, h.get? b = some o → H b = none → b ∈ fs → b ∉ ex → ∃ sl, h'.get? b = some { o with slots := sl }
  free : ∀ b o, h.get? b = some o → H b = none → b ∉ ex → H' b = none
  there : ∀ b o, h.get? b = some o → b ∉ ex → ∃ o', h'.get? b = some o'
  tups : ∀ b xs, H b = some (.tup xs) → H' b = some (.tup xs)
  frzs : ∀ b o u, H b = some (.frz o u) → H' b = some (.frz o u)
  tbls : ∀ b ps, H b = some (.tbl ps) → ∃ more, H' b = some (.tbl (ps ++ more))
section
variable {fs fs' ex ex' : List Addr} {H H1 H2 : Hp} {h h1 h2 h' : Heap} {a x e : Addr} {o : HO}
theorem Un.any (u : Un fs ex H H1 h h1) {b : Addr} {ob : Obj} (q : h.get? b = some ob) (n : H b = none) (hx : b ∉ ex) : ∃ sl, h1.get? b = some { ob with slots := sl } := by
  by_cases hb : b ∈ fs
  · exact u.slot b ob q n hb hx
  · exact ⟨ob.slots, u.keep b ob q n hb hx⟩
theorem Un.trans (a : Un fs ex H H1 h h1) (b : Un fs ex H1 H2 h1 h2) : Un fs ex H H2 h h2 where
  keep := fun c ob q n hc hx => b.keep c ob (a.keep c ob q n hc hx) (a.free c ob q n hx) hc hx
  slot := fun c ob q n hc hx => by
    obtain ⟨sl, e1⟩ := a.slot c ob q n hc hx
    obtain ⟨sl', e2⟩ := b.slot c _ e1 (a.free c ob q n hx) hc hx
    exact ⟨sl', e2⟩
  free := fun c ob q n hx => by
    obtain ⟨o', e1⟩ := a.there c ob q hx
    exact b.free c o' e1 (a.free c ob q n hx) hx
  there := fun c ob q hx => by
    obtain ⟨o', e1⟩ := a.there c ob q hx
    exact b.there c o' e1 hx
  tups := fun c xs q => b.tups c xs (a.tups c xs q)
  frzs := fun c ob xs q => b.frzs c ob xs (a.frzs c ob xs q)
  tbls := fun c ps q => by
    obtain ⟨m1, e1⟩ := a.tbls c ps q
    obtain ⟨m2, e2⟩ := b.tbls c _ e1
    exact ⟨m1 ++ m2, by rw [e2, Array.append_assoc]⟩
theorem Un.kept (k : ∀ b u, h.get? b = some u → h'.get? b = some u) : Un fs ex H H h h' :=
  ⟨fun b ob q _ _ _ => k b ob q, fun b ob q _ _ _ => ⟨ob.slots, k b ob q⟩, fun _ _ _ n _ => n, fun b ob q _ => ⟨ob, k b ob q⟩, fun _ _ q => q, fun _ _ _ q => q, fun _ ps q => ⟨#[], by rw [q]; simp⟩⟩
theorem Un.refl : Un fs ex H H h h := Un.kept fun _ _ q => q
theorem Un.laid (k : ∀ b u, h.get? b = some u → h'.get? b = some u) (hp : h.objs.size ≤ a) (hn : H a = none) : Un fs ex H (upd H a o) h h' where
  keep := fun b u q _ _ _ => k b u q
  slot := fun b u q _ _ _ => ⟨u.slots, k b u q⟩
  free := fun b u q n _ => by rw [upd_ne (Nat.ne_of_lt (Nat.lt_of_lt_of_le (Heap.lt_size q) hp))]; exact n
  there := fun b u q _ => ⟨u, k b u q⟩
  tups := fun b xs q => by rw [upd_ne (ne_of_none q hn)]; exact q
  frzs := fun b u xs q => by rw [upd_ne (ne_of_none q hn)]; exact q
  tbls := fun b ps q => ⟨#[], by rw [upd_ne (ne_of_none q hn), q]; simp⟩
theorem Un.write (mu : Mut (H x)) (he : e = x ∨ H e = some (.own x)) (k : ∀ b u, b ≠ e → h.get? b = some u → h'.get? b = some u) (heo : ∃ u, h'.get? e = some u) : Un fs ex H (upd H x o) h h' := by
  have hx : ∀ b, H b = none → b ≠ x := fun b n z => by subst z; rw [n] at mu; exact mu
  have hb : ∀ b, H b = none → b ≠ e := fun b n z => by
    subst z
    rcases he with r | r
    · exact hx b n r
    · rw [n] at r; cases r
  have hm : ∀ b u, H b = some u → ¬ Mut (some u) → b ≠ x := fun b u q nm z => by subst z; rw [q] at mu; exact nm mu
  refine ⟨fun b u q n _ _ => k b u (hb b n) q, fun b u q n _ _ => ⟨u.slots, k b u (hb b n) q⟩, fun b u q n _ => by rw [upd_ne (hx b n)]; exact n, fun b u q _ => ?_,
    fun b xs q => by rw [upd_ne (hm b _ q fun z => z)]; exact q, fun b u xs q => by rw [upd_ne (hm b _ q fun z => z)]; exact q, fun b ps q => ⟨#[], by rw [upd_ne (hm b _ q fun z => z), q]; simp⟩⟩
  by_cases hbe : b = e
  · subst hbe; exact heo
  · exact ⟨u, k b u hbe q⟩
theorem Un.mono (u : Un fs ex H H1 h h1) (hs : ∀ b ∈ fs, b ∈ fs') (hx : ∀ b ∈ ex, b ∈ ex') : Un fs' ex' H H1 h h1 :=
  ⟨fun b ob q n hb he => u.keep b ob q n (fun z => hb (hs b z)) fun z => he (hx b z), fun _ _ q n _ he => u.any q n fun z => he (hx _ z), fun b ob q n he => u.free b ob q n fun z => he (hx b z), fun b ob q he => u.there b ob q fun z => he (hx b z), u.tups, u.frzs, u.tbls⟩
end
def trk (h : Heap) (H : Hp) : List Addr := (List.range h.objs.size).filter fun a => (H a).isSome
def hidT (h : Heap) (H : Hp) : Heap := PySem.W.hideAll h (trk h H)
theorem hidT_size (h : Heap) (H : Hp) : (hidT h H).objs.size = h.objs.size := PySem.W.hideAll_size _ _
theorem hidT_get {h : Heap} {H : Hp} {b : Addr} {o : Obj} (e : h.get? b = some o) (n : H b = none) : (hidT h H).get? b = some o :=
  PySem.W.hideAll_get _ e fun hm => by
    have q : (H b).isSome = true := (List.mem_filter.mp hm).2
    rw [n] at q; simp at q
theorem of_hidT {h : Heap} {H : Hp} {b : Addr} {o : Obj} (e : (hidT h H).get? b = some o) : h.get? b = some o ∧ H b = none := by
  have e' : h.get? b = some o := PySem.W.of_hideAll (trk h H) e
  refine ⟨e', ?_⟩
  cases q : H b with
  | none => rfl
  | some x =>
    have hm : b ∈ trk h H := List.mem_filter.mpr ⟨List.mem_range.mpr (Heap.lt_size e'), by simp [q]⟩
    have z : (hidT h H).get? b = none := PySem.W.hideAll_none (trk h H) hm
    rw [z] at e; cases e
end L2
namespace L2
open PySem PySem.Spec PyProof.Rows
structure Mod (K : PySem.W.Frag) (mg : Str → Option Value) (base : Heap) : Prop where
  kin : K.In base
  glob : base.Ns mainGlobals mg
  blt : ∃ mb, base.Ns builtinsNs mb ∧ ∀ x : Str, x ≠ "__name__" → mb x = bootBuiltins x
  nolimit : base.NoLimit
structure Cx where
  prog : Program
  w : World
  K : PySem.W.Frag
  mg : Str → Option Value
  base : Heap
  A : Around
  N : List Str
  s₀ : Shared
  H₀ : Hp
  env : Env
  outer : List Env
  stack : List Env
  ex : List Addr
  fn : Str → Bool
  calm : Bool
  pn : List (Addr × Obj)
  xe : Value → Shared → Prop
def frs (l : List Env) : List Addr := l.filterMap (·.frame)
abbrev Cx.fs (X : Cx) : List Addr := frs X.outer
def Vis (sc : Scope) (x : Str) : Prop := sc.names.lookup x = some .local ∨ sc.names.lookup x = some .cell ∨ sc.names.lookup x = some .free
def Loc (sc : Scope) (x : Str) : Prop := sc.names.lookup x = some .local ∨ sc.names.lookup x = some .cell
def Look (env : Env) (h : Heap) (m : Str → Option Value) (x : Str) (u : Value) : Prop :=
  (env.kindOf x = some .local ∧ m x = some u) ∨ ((env.kindOf x = some .cell ∨ env.kindOf x = some .free) ∧ ∃ c, env.cells.lookup x = some c ∧ h.IsCell c (some u))
structure Cx.Ok (X : Cx) : Prop where
  mod : Mod X.K X.mg X.base
  kind : X.env.scope.kind = .function
  glob : X.env.globals = mainGlobals
  blt : X.env.builtins = builtinsNs
  above : X.s₀.heap.objs.size ≤ X.env.locals
  inj : ∀ x y c, X.env.cells.lookup x = some c → X.env.cells.lookup y = some c → x = y
  has : ∀ x, (X.env.kindOf x = some .cell ∨ X.env.kindOf x = some .free) → ∃ c, X.env.cells.lookup x = some c
  cab : ∀ x c, X.fn x = true → X.env.cells.lookup x = some c → X.s₀.heap.objs.size ≤ c
  hd : X.calm = true → X.A.handled = none
  frames : X.A.frames = some X.stack
  stk : X.stack = X.outer ∨ (X.stack = X.env :: X.outer ∧ X.env.frame = some X.env.locals)
  exf : ∀ b ∈ X.ex, b ≠ X.env.locals ∧ ∀ x c, X.env.cells.lookup x = some c → c ≠ b
  bs : ∀ b o, X.base.get? b = some o → X.s₀.heap.get? b = some o ∧ X.H₀ b = none
  bsz : X.base.objs.size ≤ X.s₀.heap.objs.size
  noex : ∀ b o, X.base.get? b = some o → b ∉ X.ex
  exfs : ∀ b ∈ X.ex, b ∉ X.fs
  funs : X.s₀.heap.FunFrames X.base X.outer
  frf : ∀ b ∈ X.fs, X.H₀ b = none
structure Inv (X : Cx) (pins : List (Addr × Obj)) (σ : List (Option V)) (H : Hp) (s : Shared) : Prop where
  ok : X.Ok
  os : s.os = X.s₀.os
  bare : AllBare s.gens
  base : Un X.fs X.ex X.H₀ H X.s₀.heap s.heap
  loc : ∃ m, s.heap.Ns X.env.locals m ∧ ∀ (i : Nat) (x : Str) (v : V), X.N[i]? = some x → σ[i]? = some (some v) → Vis X.env.scope x → ∃ u, RelV v u ∧ Look X.env s.heap m x u
  cell : ∀ x c, X.env.cells.lookup x = some c → ∃ v, s.heap.IsCell c v
  free : H X.env.locals = none
  freeC : ∀ x c, X.env.cells.lookup x = some c → H c = none
  pin : ∀ p ∈ X.pn ++ pins, s.heap.get? p.1 = some p.2 ∧ H p.1 = none ∧ p.1 ≠ X.env.locals ∧ p.1 ∉ X.fs ∧ ∀ v, p.2.data ≠ .cell v
  hok : HOk X.prog X.w H s.heap
  len : σ.length = X.N.length
section
variable {X : Cx} {pins : List (Addr × Obj)} {σ : List (Option V)} {H H' : Hp} {s : Shared} {h' : Heap}
theorem Cx.Ok.nofr (ok : X.Ok) {b : Addr} {o : Obj} (e : X.base.get? b = some o) : b ∉ X.fs := fun hb => by
  have := (ok.funs.mem hb).1
  rw [e] at this; cases this
theorem Inv.bs (I : Inv X pins σ H s) : ∀ b o, X.base.get? b = some o → s.heap.get? b = some o ∧ H b = none := fun b o e =>
  ⟨I.base.keep b o (I.ok.bs b o e).1 (I.ok.bs b o e).2 (I.ok.nofr e) (I.ok.noex b o e), I.base.free b o (I.ok.bs b o e).1 (I.ok.bs b o e).2 (I.ok.noex b o e)⟩
theorem Inv.bk (I : Inv X pins σ H s) : ∀ b o, X.base.get? b = some o → s.heap.get? b = some o := fun b o e => (I.bs b o e).1
theorem Inv.mod (I : Inv X pins σ H s) : Mod X.K X.mg X.base := I.ok.mod
theorem Inv.kIn (I : Inv X pins σ H s) : X.K.In s.heap := I.ok.mod.kin.keeps I.bk
theorem Inv.lt (I : Inv X pins σ H s) : X.env.locals < s.heap.objs.size := let ⟨_, hn, _⟩ := I.loc; hn.lt
theorem Inv.sz (I : Inv X pins σ H s) : X.s₀.heap.objs.size ≤ s.heap.objs.size := Nat.le_trans I.ok.above (Nat.le_of_lt I.lt)
theorem Inv.nofs (I : Inv X pins σ H s) {a : Addr} (h : s.heap.objs.size ≤ a) : a ∉ X.fs := fun hb => by
  obtain ⟨_, o, ho, _⟩ := I.ok.funs.mem hb
  exact absurd (Nat.lt_of_lt_of_le (Heap.lt_size ho) (Nat.le_trans I.sz h)) (Nat.lt_irrefl _)
theorem Inv.cne (I : Inv X pins σ H s) : ∀ x c, X.env.cells.lookup x = some c → c ≠ X.env.locals := fun x c e z => by
  obtain ⟨v, o, ho, hd⟩ := I.cell x c e
  obtain ⟨m, ⟨o', es, ep, ho', hd', _⟩, _⟩ := I.loc
  rw [z, ho'] at ho; cases ho; rw [hd'] at hd; cases hd
theorem Inv.funs (I : Inv X pins σ H s) : s.heap.FunFrames X.base X.outer := by
  have all : ∀ (l : List Env), (∀ b ∈ frs l, b ∈ X.fs) → X.s₀.heap.FunFrames X.base l → s.heap.FunFrames X.base l := by
    intro l
    induction l with
    | nil => intro _ _; trivial
    | cons env r ih =>
      intro hs hl
      obtain ⟨hk, ⟨L, o, hf, hn, ho, hd⟩, hr⟩ := hl
      have hL : L ∈ X.fs := hs L (by unfold frs; rw [List.filterMap_cons, hf]; exact List.mem_cons_self)
      obtain ⟨sl, e⟩ := I.base.slot L o ho (I.ok.frf L hL) hL fun z => I.ok.exfs L z hL
      exact ⟨hk, ⟨L, _, hf, hn, e, hd⟩, ih (fun b hb => hs b (by unfold frs; rw [List.filterMap_cons, hf]; exact List.mem_cons_of_mem _ hb)) hr⟩
  exact all X.outer (fun _ hb => hb) I.ok.funs
theorem Inv.stack (I : Inv X pins σ H s) : s.heap.FunFrames X.base X.stack := by
  rcases I.ok.stk with e | ⟨e, hf⟩
  · rw [e]; exact I.funs
  · rw [e]
    obtain ⟨m, hn, _⟩ := I.loc
    refine .cons (by rw [I.ok.kind]; decide) hf hn ?_ I.funs
    exact Heap.get?_none_of_le (Nat.le_trans I.ok.bsz I.ok.above)
theorem Inv.stkSub (I : Inv X pins σ H s) : ∀ b ∈ frs X.stack, b ∈ X.env.locals :: X.fs := fun b hb => by
  rcases I.ok.stk with e | ⟨e, hf⟩
  · rw [e] at hb; exact List.mem_cons_of_mem _ hb
  · rw [e] at hb
    unfold frs at hb
    rw [List.filterMap_cons, hf] at hb
    exact hb
theorem Inv.stkFree (I : Inv X pins σ H s) : ∀ b ∈ frs X.stack, H b = none := fun b hb => by
  rcases List.mem_cons.mp (I.stkSub b hb) with e | hb
  · rw [e]; exact I.free
  · obtain ⟨_, o, ho, _⟩ := I.ok.funs.mem hb
    exact I.base.free b o ho (I.ok.frf b hb) fun z => I.ok.exfs b z hb
theorem Inv.step {g' : Array GenState} {t' : Nat} {d' : Drawn} {ch : List Addr} (I : Inv X pins σ H s)
    (hch : ∀ b ∈ ch, (b ∈ X.ex ∨ X.s₀.heap.objs.size ≤ b) ∧ b ≠ X.env.locals ∧ (∀ x c, X.env.cells.lookup x = some c → c ≠ b) ∧ ∀ p ∈ X.pn ++ pins, p.1 ≠ b)
    (keep : ∀ b o, b ≠ X.env.locals → b ∉ X.fs → b ∉ ch → s.heap.get? b = some o → H b = none → h'.get? b = some o)
    (slot : ∀ b o, b ≠ X.env.locals → b ∈ X.fs → b ∉ ch → s.heap.get? b = some o → H b = none → ∃ sl, h'.get? b = some { o with slots := sl }) (free : ∀ b o, b ∉ ch → s.heap.get? b = some o → H b = none → H' b = none)
    (there : ∀ b o, b ∉ ch → s.heap.get? b = some o → ∃ o', h'.get? b = some o')
    (tups : ∀ b xs, H b = some (.tup xs) → H' b = some (.tup xs)) (frzs : ∀ b o u, H b = some (.frz o u) → H' b = some (.frz o u)) (tbls : ∀ b ps, H b = some (.tbl ps) → ∃ more, H' b = some (.tbl (ps ++ more)))
    (ns : ∀ m, s.heap.Ns X.env.locals m → h'.Ns X.env.locals m) (hok : HOk X.prog X.w H' h') (hg : AllBare g') :
    Inv X pins σ H' { s with heap := h', gens := g', drawn := d', toks := t' } := by
  have neL : ∀ b o, X.s₀.heap.get? b = some o → b ≠ X.env.locals := fun b o e => Nat.ne_of_lt (Nat.lt_of_lt_of_le (Heap.lt_size e) I.ok.above)
  have neC : ∀ b o, X.s₀.heap.get? b = some o → b ∉ X.ex → b ∉ ch := fun b o e hx hb => by
    rcases (hch b hb).1 with z | z
    · exact hx z
    · exact absurd (Nat.lt_of_lt_of_le (Heap.lt_size e) z) (Nat.lt_irrefl _)
  have cellK : ∀ x c, X.env.cells.lookup x = some c → ∀ v, s.heap.IsCell c v → h'.IsCell c v := fun x c e v ⟨o, ho, hd⟩ => by
    have nch : c ∉ ch := fun z => (hch c z).2.2.1 x c e rfl
    by_cases hc : c ∈ X.fs
    · obtain ⟨sl, q⟩ := slot c o (I.cne x c e) hc nch ho (I.freeC x c e)
      exact ⟨_, q, hd⟩
    · exact ⟨o, keep c o (I.cne x c e) hc nch ho (I.freeC x c e), hd⟩
  refine ⟨I.ok, I.os, hg, ⟨fun b o e n hb hx => ?_, fun b o e n hb hx => ?_, fun b o e n hx => ?_, fun b o e hx => ?_, fun b xs e => tups b xs (I.base.tups b xs e), fun b o xs e => frzs b o xs (I.base.frzs b o xs e), fun b ps e => ?_⟩, ?_, fun x c e => ?_, ?_, fun x c e => ?_, fun p hp => ?_, hok, I.len⟩
  · exact keep b o (neL b o e) hb (neC b o e hx) (I.base.keep b o e n hb hx) (I.base.free b o e n hx)
  · obtain ⟨sl, e1⟩ := I.base.slot b o e n hb hx
    obtain ⟨sl', e2⟩ := slot b _ (neL b o e) hb (neC b o e hx) e1 (I.base.free b o e n hx)
    exact ⟨sl', e2⟩
  · obtain ⟨o', e1⟩ := I.base.there b o e hx
    exact free b o' (neC b o e hx) e1 (I.base.free b o e n hx)
  · obtain ⟨o', e1⟩ := I.base.there b o e hx
    exact there b o' (neC b o e hx) e1
  · obtain ⟨m1, e1⟩ := I.base.tbls b ps e
    obtain ⟨m2, e2⟩ := tbls b _ e1
    exact ⟨m1 ++ m2, by rw [e2, Array.append_assoc]⟩
  · obtain ⟨m, hn, hl⟩ := I.loc
    refine ⟨m, ns m hn, fun i x v e1 e2 e3 => ?_⟩
    obtain ⟨u, r, l⟩ := hl i x v e1 e2 e3
    refine ⟨u, r, ?_⟩
    rcases l with l | ⟨k, c, e, z⟩
    · exact .inl l
    · exact .inr ⟨k, c, e, cellK x c e _ z⟩
  · obtain ⟨v, z⟩ := I.cell x c e
    exact ⟨v, cellK x c e v z⟩
  · obtain ⟨m, ⟨o, _, _, ho, _⟩, _⟩ := I.loc
    exact free _ o (fun z => (hch _ z).2.1 rfl) ho I.free
  · obtain ⟨v, o, ho, hd⟩ := I.cell x c e
    exact free c o (fun z => (hch c z).2.2.1 x c e rfl) ho (I.freeC x c e)
  · obtain ⟨e, n, ne, nf, d⟩ := I.pin p hp
    have nch : p.1 ∉ ch := fun z => (hch p.1 z).2.2.2 p hp rfl
    exact ⟨keep p.1 p.2 ne nf nch e n, free p.1 p.2 nch e n, ne, nf, d⟩
theorem Inv.un {t' : Nat} (I : Inv X pins σ H s) (u : Un X.fs [] H H' s.heap h') (hok : HOk X.prog X.w H' h') : Inv X pins σ H' { s with heap := h', toks := t' } := by
  obtain ⟨m, ⟨o, es, ep, ho, r⟩, _⟩ := id I.loc
  obtain ⟨sl, hL⟩ := u.any ho I.free (by simp)
  exact I.step (g' := s.gens) (d' := s.drawn) (ch := []) (fun _ z => nomatch z) (fun b o _ hb _ e n => u.keep b o e n hb (by simp)) (fun b o _ hb _ e n => u.slot b o e n hb (by simp)) (fun b o _ e n => u.free b o e n (by simp)) (fun b o _ e => u.there b o e (by simp)) u.tups u.frzs u.tbls (fun m' hm => by
    obtain ⟨o', es', ep', ho', r'⟩ := hm
    rw [ho] at ho'; cases ho'
    exact ⟨_, es', ep', hL, r'⟩) hok I.bare
theorem Inv.call {g' : Array GenState} {t' : Nat} {d' : Drawn} {ch : List Addr} (I : Inv X pins σ H s) (u : Un (frs X.stack) ch H H' s.heap h') (hok : HOk X.prog X.w H' h') (hg : AllBare g')
    (hch : ∀ b ∈ ch, (b ∈ X.ex ∨ X.s₀.heap.objs.size ≤ b) ∧ b ≠ X.env.locals ∧ (∀ x c, X.env.cells.lookup x = some c → c ≠ b) ∧ ∀ p ∈ X.pn ++ pins, p.1 ≠ b) :
    Inv X pins σ H' { s with heap := h', gens := g', drawn := d', toks := t' } := by
  obtain ⟨m, ⟨o, es, ep, ho, r⟩, _⟩ := id I.loc
  obtain ⟨sl, hL⟩ := u.any ho I.free fun z => (hch _ z).2.1 rfl
  exact I.step (ch := ch) hch (fun b o hL hb hc e n => u.keep b o e n (fun z => (List.mem_cons.mp (I.stkSub b z)).elim hL hb) hc) (fun b o _ _ hc e n => u.any e n hc) (fun b o hc e n => u.free b o e n hc) (fun b o hc e => u.there b o e hc) u.tups u.frzs u.tbls (fun m' hm => by
    obtain ⟨o', es', ep', ho', r'⟩ := hm
    rw [ho] at ho'; cases ho'
    exact ⟨_, es', ep', hL, r'⟩) hok hg
theorem Inv.turned {t' : Nat} {it : Addr} (I : Inv X pins σ H s) (k : ∀ b o, b ≠ it → s.heap.get? b = some o → h'.get? b = some o) (hn : H it = none) (hL : it ≠ X.env.locals)
    (h1 : it ∈ X.ex ∨ X.s₀.heap.objs.size ≤ it) (h2 : ∀ x c, X.env.cells.lookup x = some c → c ≠ it) (h3 : ∀ p ∈ X.pn ++ pins, p.1 ≠ it) : Inv X pins σ H { s with heap := h', toks := t' } := by
  have nit : ∀ b u, H b = some u → b ≠ it := fun b u e z => by rw [z, hn] at e; cases e
  refine I.step (g' := s.gens) (d' := s.drawn) (ch := [it]) (fun b hb => ?_) (fun b o _ _ hc e _ => k b o (fun z => hc (by simp [z])) e) (fun b o _ _ hc e _ => ⟨o.slots, k b o (fun z => hc (by simp [z])) e⟩) (fun _ _ _ _ n => n)
    (fun b o hc e => ⟨o, k b o (fun z => hc (by simp [z])) e⟩) (fun _ _ e => e) (fun _ _ _ e => e) (fun b ps e => ⟨#[], by rw [e]; simp⟩) (fun m hm => ?_) (fun b u e => ?_) I.bare
  · have e : b = it := by simpa using hb
    subst e
    exact ⟨h1, hL, h2, h3⟩
  · obtain ⟨o, es, ep, ho, r⟩ := hm
    exact ⟨o, es, ep, k _ o (Ne.symm hL) ho, r⟩
  · refine (I.hok b u e).stay (fun c v hc q => k c v ?_ q) (fun _ q => q) fun _ _ q => q
    rcases hc with z | z
    · rw [z]; exact nit b u e
    · exact nit c _ z
theorem Inv.tok (I : Inv X pins σ H s) (t : Nat) : Inv X pins σ H { s with toks := t } := I.un (h' := s.heap) (t' := t) Un.refl I.hok
theorem Inv.kept {t' : Nat} (I : Inv X pins σ H s) (k : ∀ b u, s.heap.get? b = some u → h'.get? b = some u) : Inv X pins σ H { s with heap := h', toks := t' } := I.un (Un.kept k) (I.hok.kept k)
theorem Inv.laid {a : Addr} {o : HO} {t' : Nat} (I : Inv X pins σ H s) (k : ∀ b u, s.heap.get? b = some u → h'.get? b = some u) (hp : s.heap.objs.size ≤ a) (new : ObjOk X.prog X.w (upd H a o) h' a o) :
    Inv X pins σ (upd H a o) { s with heap := h', toks := t' } := I.un (Un.laid k hp (I.hok.fresh hp)) (I.hok.laid k hp new)
theorem Inv.write {x e : Addr} {o : HO} {t' : Nat} (I : Inv X pins σ H s) (mu : Mut (H x)) (he : e = x ∨ H e = some (.own x)) (k : ∀ b u, b ≠ e → s.heap.get? b = some u → h'.get? b = some u) (heo : ∃ u, h'.get? e = some u)
    (new : ObjOk X.prog X.w (upd H x o) h' x o) : Inv X pins σ (upd H x o) { s with heap := h', toks := t' } := I.un (Un.write mu he k heo) (I.hok.write mu he k heo new)
theorem Inv.pins_of {pins' : List (Addr × Obj)} (I : Inv X pins σ H s) (h : ∀ p ∈ pins', s.heap.get? p.1 = some p.2 ∧ H p.1 = none ∧ p.1 ≠ X.env.locals ∧ p.1 ∉ X.fs ∧ ∀ v, p.2.data ≠ .cell v) : Inv X pins' σ H s :=
  ⟨I.ok, I.os, I.bare, I.base, I.loc, I.cell, I.free, I.freeC, fun p hp => (List.mem_append.mp hp).elim (fun z => I.pin p (List.mem_append_left _ z)) (h p), I.hok, I.len⟩
theorem nodup_ix {N : List Str} (hN : N.Nodup) {i j : Nat} {x : Str} (a : N[i]? = some x) (b : N[j]? = some x) : i = j := by
  obtain ⟨h1, e1⟩ := List.getElem?_eq_some_iff.mp a
  obtain ⟨h2, e2⟩ := List.getElem?_eq_some_iff.mp b
  exact (List.getElem_inj hN).mp (e1.trans e2.symm)
theorem store_ok2 {M : Model} {A : Around} {E : Value → Shared → Prop} {i : Nat} {x : Str} {v : V} {u : Value} {Q : Unit → Shared → Prop} (I : Inv X pins σ H s) (hN : X.N.Nodup) (hi : X.N[i]? = some x) (hx : Loc X.env.scope x) (r : RelV v u)
    (h : ∀ s', Inv X pins (σ.set i (some v)) H s' → (∃ a, Heap.SameBut a s.heap s'.heap ∧ (a = X.env.locals ∨ X.env.cells.lookup x = some a)) → Q () s') (hf : X.fn x = true ∨ X.env.scope.names.lookup x = some .local := by first | exact .inl rfl | exact .inr rfl | assumption) : wpAny M A (storeName X.env x u) Q E s := by
  obtain ⟨m, hn, hl⟩ := id I.loc
  have hcls : (X.env.scope.kind == .class || (X.env.scope.kind == .module && X.env.locals != X.env.globals)) = false := by rw [I.ok.kind]; rfl
  have hiσ : i < σ.length := by rw [I.len]; exact (List.getElem?_eq_some_iff.mp hi).1
  have cne := I.cne
  have tracked : ∀ {a : Addr} {h' : Heap}, (∃ o, s.heap.get? a = some o ∧ H a = none) → Heap.SameBut a s.heap h' → HOk X.prog X.w H h' := fun {a h'} ha hs b ob e => by
    obtain ⟨_, _, hfree⟩ := ha
    refine (I.hok b ob e).stay (fun c w' hc q => (hs.2 c ?_).trans q) (fun _ q => q) fun _ _ q => q
    rintro rfl
    rcases hc with rfl | hc
    · rw [hfree] at e; cases e
    · rw [hfree] at hc; cases hc
  rcases hx with hk | hk
  · refine wpAny_storeName_local hk hn (fun h' hn' hs => ?_) hcls
    obtain ⟨oL, _, _, hoL, _⟩ := id hn
    refine h _ ⟨I.ok, I.os, I.bare, ⟨fun b o e n hb hx => ?_, fun b o e n hb hx => ?_, I.base.free, fun b o e hx => ?_, I.base.tups, I.base.frzs, I.base.tbls⟩, ⟨_, hn', fun j y v' e1 e2 e3 => ?_⟩, fun y c e => ?_, I.free, I.freeC, fun p hp => ?_, tracked ⟨oL, hoL, I.free⟩ hs, by simpa using I.len⟩ ⟨_, hs, .inl rfl⟩
    · exact (hs.2 b (Nat.ne_of_lt (Nat.lt_of_lt_of_le (Heap.lt_size e) I.ok.above))).trans (I.base.keep b o e n hb hx)
    · obtain ⟨sl, e1⟩ := I.base.slot b o e n hb hx
      exact ⟨sl, (hs.2 b (Nat.ne_of_lt (Nat.lt_of_lt_of_le (Heap.lt_size e) I.ok.above))).trans e1⟩
    · obtain ⟨o', e1⟩ := I.base.there b o e hx
      exact ⟨o', (hs.2 b (Nat.ne_of_lt (Nat.lt_of_lt_of_le (Heap.lt_size e) I.ok.above))).trans e1⟩
    · by_cases hj : j = i
      · subst hj
        rw [hi] at e1; cases e1
        rw [List.getElem?_set_self hiσ] at e2
        cases e2
        exact ⟨u, r, .inl ⟨hk, by simp⟩⟩
      · rw [List.getElem?_set_ne (Ne.symm hj)] at e2
        obtain ⟨u', r', q⟩ := hl j y v' e1 e2 e3
        refine ⟨u', r', ?_⟩
        rcases q with ⟨k, e⟩ | ⟨k, c, e, z⟩
        · refine .inl ⟨k, ?_⟩
          have : y ≠ x := fun e => hj (nodup_ix hN e1 (e ▸ hi))
          simp [this, e]
        · exact .inr ⟨k, c, e, z.sameBut hs (cne y c e)⟩
    · obtain ⟨w', z⟩ := I.cell y c e
      exact ⟨w', z.sameBut hs (cne y c e)⟩
    · obtain ⟨e, n, ne, nf, d⟩ := I.pin p hp
      exact ⟨(hs.2 p.1 ne).trans e, n, ne, nf, d⟩
  · have hfn : X.fn x = true := by
      rcases hf with z | z
      · exact z
      · rw [z] at hk; cases hk
    obtain ⟨c, hc⟩ := I.ok.has x (.inl hk)
    obtain ⟨w', z⟩ := I.cell x c hc
    refine wpAny_storeName_cell I.ok.kind hk hc z (fun h' hc' hs => ?_)
    obtain ⟨oc, hoc, hocd⟩ := id z
    refine h { s with heap := h' } ⟨I.ok, I.os, I.bare, ⟨fun b o e n hb hx => ?_, fun b o e n hb hx => ?_, I.base.free, fun b o e hx => ?_, I.base.tups, I.base.frzs, I.base.tbls⟩, ⟨m, hn.sameBut hs (Ne.symm (cne x c hc)), fun j y v' e1 e2 e3 => ?_⟩, fun y c' e => ?_, I.free, I.freeC, fun p hp => ?_, tracked ⟨oc, hoc, I.freeC x c hc⟩ hs, by simpa using I.len⟩ ⟨c, hs, .inr hc⟩
    · exact (hs.2 b (Nat.ne_of_lt (Nat.lt_of_lt_of_le (Heap.lt_size e) (I.ok.cab x c hfn hc)))).trans (I.base.keep b o e n hb hx)
    · obtain ⟨sl, e1⟩ := I.base.slot b o e n hb hx
      exact ⟨sl, (hs.2 b (Nat.ne_of_lt (Nat.lt_of_lt_of_le (Heap.lt_size e) (I.ok.cab x c hfn hc)))).trans e1⟩
    · obtain ⟨o', e1⟩ := I.base.there b o e hx
      exact ⟨o', (hs.2 b (Nat.ne_of_lt (Nat.lt_of_lt_of_le (Heap.lt_size e) (I.ok.cab x c hfn hc)))).trans e1⟩
    · by_cases hj : j = i
      · subst hj
        rw [hi] at e1; cases e1
        rw [List.getElem?_set_self hiσ] at e2
        cases e2
        exact ⟨u, r, .inr ⟨.inl hk, c, hc, hc'⟩⟩
      · rw [List.getElem?_set_ne (Ne.symm hj)] at e2
        obtain ⟨u', r', q⟩ := hl j y v' e1 e2 e3
        refine ⟨u', r', ?_⟩
        rcases q with q | ⟨k, c', e, z'⟩
        · exact .inl q
        · refine .inr ⟨k, c', e, z'.sameBut hs ?_⟩
          rintro rfl
          exact hj (nodup_ix hN e1 (I.ok.inj _ _ _ e hc ▸ hi))
    · by_cases hcc : c' = c
      · subst hcc; exact ⟨_, hc'⟩
      · obtain ⟨w2, z2⟩ := I.cell y c' e
        exact ⟨w2, z2.sameBut hs hcc⟩
    · obtain ⟨e, n, ne, nf, d⟩ := I.pin p hp
      refine ⟨(hs.2 p.1 ?_).trans e, n, ne, nf, d⟩
      intro q
      rw [q, hoc] at e
      have q' : oc = p.2 := Option.some.inj e
      exact d w' (by rw [← q']; exact hocd)
theorem store_ok {M : Model} {A : Around} {E : Value → Shared → Prop} {i : Nat} {x : Str} {v : V} {u : Value} {Q : Unit → Shared → Prop} (I : Inv X pins σ H s) (hN : X.N.Nodup) (hi : X.N[i]? = some x) (hx : Loc X.env.scope x) (r : RelV v u)
    (h : ∀ s', Inv X pins (σ.set i (some v)) H s' → Q () s') (hf : X.fn x = true ∨ X.env.scope.names.lookup x = some .local := by first | exact .inl rfl | exact .inr rfl | assumption) : wpAny M A (storeName X.env x u) Q E s :=
  store_ok2 I hN hi hx r (fun s' I' _ => h s' I') hf
theorem Inv.call' {s' : Shared} {ch : List Addr} (I : Inv X pins σ H s) (ho : s'.os = s.os) (u : Un (frs X.stack) ch H H' s.heap s'.heap) (hok : HOk X.prog X.w H' s'.heap) (hg : AllBare s'.gens)
    (hch : ∀ b ∈ ch, (b ∈ X.ex ∨ X.s₀.heap.objs.size ≤ b) ∧ b ≠ X.env.locals ∧ (∀ x c, X.env.cells.lookup x = some c → c ≠ b) ∧ ∀ p ∈ X.pn ++ pins, p.1 ≠ b) : Inv X pins σ H' s' := by
  obtain ⟨h', g', d', t', o'⟩ := s'
  have e : o' = s.os := ho
  subst e
  exact I.call (g' := g') (t' := t') (d' := d') u hok hg hch
end
abbrev XK := Value → Option Addr → Hp → Prop
abbrev St := List (Option V)
abbrev VK := V → Hp → Prop
abbrev TE := St → Hp → VK → Prop
abbrev TT := St → Hp → (Bool → Hp → Prop) → Prop
abbrev TA := St → Hp → (List V → Hp → Prop) → Prop
structure Ends where
  nx : St → Hp → Prop
  rt : VK
  bk : St → Hp → Prop := fun _ _ => False
  ct : St → Hp → Prop := fun _ _ => False
abbrev TS := Ends → St → Hp → Prop
def EP (X : Cx) (pins : List (Addr × Obj)) (σ : St) (Q : VK) (u : Value) (s' : Shared) : Prop := ∃ v H', Inv X pins σ H' s' ∧ RelV v u ∧ Q v H'
def TP (X : Cx) (pins : List (Addr × Obj)) (σ : St) (Q : Bool → Hp → Prop) (b : Bool) (s' : Shared) : Prop := ∃ H', Inv X pins σ H' s' ∧ Q b H'
def AP (X : Cx) (pins : List (Addr × Obj)) (σ : St) (Q : List V → Hp → Prop) (us : List Value) (s' : Shared) : Prop := ∃ vs H', Inv X pins σ H' s' ∧ Vals vs us ∧ Q vs H'
def SP (X : Cx) (pins : List (Addr × Obj)) (D : Ends) (f : Flow) (s' : Shared) : Prop :=
  match f with
  | .next => ∃ σ' H', Inv X pins σ' H' s' ∧ D.nx σ' H'
  | .brk => ∃ σ' H', Inv X pins σ' H' s' ∧ D.bk σ' H'
  | .cont => ∃ σ' H', Inv X pins σ' H' s' ∧ D.ct σ' H'
  | .ret u => ∃ v σ' H', Inv X pins σ' H' s' ∧ RelV v u ∧ D.rt v H'
def PE (X : Cx) (e : Expr) (t : TE) : Prop :=
  ∀ (pins : List (Addr × Obj)) (s : Shared) (σ : St) (H : Hp) (Q : VK), Inv X pins σ H s → t σ H Q → wpAny (model X.prog X.w) X.A (eval e X.env) (EP X pins σ Q) X.xe s
def PT (X : Cx) (e : Expr) (t : TT) : Prop :=
  ∀ (pins : List (Addr × Obj)) (s : Shared) (σ : St) (H : Hp) (Q : Bool → Hp → Prop), Inv X pins σ H s → t σ H Q → wpAny (model X.prog X.w) X.A (isTrue e X.env (eval e X.env)) (TP X pins σ Q) X.xe s
def PW (X : Cx) (e : Expr) (t : TT) : Prop :=
  ∀ (whole : Sem Value) (pins : List (Addr × Obj)) (s : Shared) (σ : St) (H : Hp) (Q : Bool → Hp → Prop), Inv X pins σ H s → t σ H Q → wpAny (model X.prog X.w) X.A (isTrue e X.env whole) (TP X pins σ Q) X.xe s
theorem PW.pt {X : Cx} {e : Expr} {t : TT} (h : PW X e t) : PT X e t := h _
def PA (X : Cx) (es : List Expr) (t : TA) : Prop :=
  ∀ (pos : Pos) (pins : List (Addr × Obj)) (s : Shared) (σ : St) (H : Hp) (Q : List V → Hp → Prop), Inv X pins σ H s → t σ H Q → wpAny (model X.prog X.w) X.A (spliced (backTo pos (starEach es X.env))) (AP X pins σ Q) X.xe s
def PS (X : Cx) (st : Stmt) (t : TS) : Prop :=
  ∀ (pins : List (Addr × Obj)) (s : Shared) (σ : St) (H : Hp) (D : Ends), Inv X pins σ H s → t D σ H → wpAny (model X.prog X.w) X.A (exec st X.env) (SP X pins D) X.xe s
def PSs (X : Cx) (st : List Stmt) (t : TS) : Prop :=
  ∀ (pins : List (Addr × Obj)) (s : Shared) (σ : St) (H : Hp) (D : Ends), Inv X pins σ H s → t D σ H → wpAny (model X.prog X.w) X.A (execs st X.env) (SP X pins D) X.xe s
theorem thn {α : Type} {t : Sem α} {Q Q' : α → Shared → Prop} {M : Model} {A : Around} {E : Value → Shared → Prop} {s : Shared} (h : wpAny M A t Q E s) (hQ : ∀ a s, Q a s → Q' a s) : wpAny M A t Q' E s := wpAny_mono h hQ fun _ _ x => x
end L2
namespace L2
open PySem PySem.Spec PyProof.Rows
section
variable {X : Cx}
theorem bin {a b : Expr} {ta tb : TE} (ha : PE X a ta) (hb : PE X b tb) {pins : List (Addr × Obj)} {s : Shared} {σ : St} {H : Hp} {R : V → V → Hp → Prop} (I : Inv X pins σ H s) (h : ta σ H fun x H1 => tb σ H1 fun y H2 => R x y H2)
    {α : Type} {Q : α → Shared → Prop} {f : Value → Value → Sem α}
    (hf : ∀ v u s2 x y H2, Inv X pins σ H2 s2 → RelV x v → RelV y u → R x y H2 → wpAny (model X.prog X.w) X.A (f v u) Q X.xe s2) :
    wpAny (model X.prog X.w) X.A (eval a X.env) (fun v s₁ => wpAny (model X.prog X.w) X.A (eval b X.env) (fun u s₂ => wpAny (model X.prog X.w) X.A (f v u) Q X.xe s₂) X.xe s₁) X.xe s := by
  refine thn (ha pins s σ H _ I h) fun v s1 ⟨x, H1, I1, r1, q1⟩ => ?_
  refine thn (hb pins s1 σ H1 _ I1 q1) fun u s2 ⟨y, H2, I2, r2, q2⟩ => ?_
  exact hf v u s2 x y H2 I2 r1 r2 q2
def tVar (i : Nat) : TE := fun σ H Q => ∃ v, σ[i]? = some (some v) ∧ Q v H
def tC (v : V) : TE := fun _ H Q => Q v H
theorem pe_var {i : Nat} {x : Str} {pos : Pos} (hN : X.N[i]? = some x) (hv : Vis X.env.scope x) (hd : (x == ("__debug__" : Str)) = false := by decide) (hcd : (x == ("__classdict__" : Str)) = false := by decide) : PE X (.Name x pos) (tVar i) := by
  intro pins s σ H Q I h
  obtain ⟨v, e, h⟩ := h
  obtain ⟨m, hn, hl⟩ := I.loc
  obtain ⟨u, r, l⟩ := hl i x v hN e hv
  have fin : EP X pins σ Q u s := ⟨v, H, I, r, h⟩
  rcases l with ⟨hk, hm⟩ | ⟨hk, c, hc, hcell⟩
  · exact wpAny_Name (wpAny_loadName_local I.ok.kind hk hn hm fin) hd
  · rcases hk with hk | hk
    · exact wpAny_Name (wpAny_loadName_cell I.ok.kind hk hc hcell fin) hd
    · exact wpAny_Name (wpAny_loadName_free I.ok.kind hk hc hcell fin hcd) hd
theorem pe_int {i j pos} : PE X (.Constant (.int i) j pos) (tC (.int i)) := fun _ _ _ H _ I h => wpAny_Constant_int ⟨.int i, H, I.tok _, ⟨_, rfl⟩, h⟩
theorem pe_bl {b j pos} : PE X (.Constant (.bool b) j pos) (tC (.bl b)) := fun _ _ _ H _ I h => Constant_bool ⟨.bl b, H, I, rfl, h⟩
theorem pe_non {j pos} : PE X (.Constant .none j pos) (tC .non) := fun _ _ _ H _ I h => Constant_none ⟨.non, H, I, rfl, h⟩
theorem pe_str {x j pos} : PE X (.Constant (.str x) j pos) (tC (.str x)) := fun _ _ _ H _ I h => Calls.Constant_str ⟨.str x, H, I.tok _, ⟨_, rfl⟩, h⟩
def Gl (X : Cx) (x : Str) : Prop := X.env.kindOf x = some .globalImplicit
theorem ld_glob {E : Value → Shared → Prop} {pins : List (Addr × Obj)} {s : Shared} {σ : St} {H : Hp} {x : Str} {u : Value} {pos : Pos} {Q : Value → Shared → Prop} (I : Inv X pins σ H s) (hg : Gl X x) (hm : X.mg x = some u) (h : Q u s)
    (hd : (x == ("__debug__" : Str)) = false := by decide) : wpAny (model X.prog X.w) X.A (eval (.Name x pos) X.env) Q E s :=
  Calls.Name_function_global I.ok.kind hg (Calls.loadGlobal_global (by rw [I.ok.glob]; exact I.mod.glob.keeps I.bk) hm h) hd
theorem ld_blt {E : Value → Shared → Prop} {pins : List (Addr × Obj)} {s : Shared} {σ : St} {H : Hp} {x : Str} {u : Value} {pos : Pos} {Q : Value → Shared → Prop} (I : Inv X pins σ H s) (hg : Gl X x) (hm : X.mg x = none) (hv : bootBuiltins x = some u) (h : Q u s)
    (hn : x ≠ "__name__" := by decide) (hd : (x == ("__debug__" : Str)) = false := by decide) : wpAny (model X.prog X.w) X.A (eval (.Name x pos) X.env) Q E s := by
  obtain ⟨mb, h1, h2⟩ := I.mod.blt
  exact Calls.Name_function_global I.ok.kind hg (Calls.loadGlobal_builtin (by rw [I.ok.glob]; exact I.mod.glob.keeps I.bk) hm (by rw [I.ok.blt]; exact h1.keeps I.bk) ((h2 x hn).trans hv) h) hd
theorem pe_glob {x : Str} {v : V} {u : Value} {pos : Pos} (hg : Gl X x) (hm : X.mg x = some u) (r : RelV v u) (hd : (x == ("__debug__" : Str)) = false := by decide) : PE X (.Name x pos) (tC v) :=
  fun _ _ _ H _ I h => ld_glob I hg hm ⟨v, H, I, r, h⟩ hd
theorem pe_bltn {x : Str} {v : V} {u : Value} {pos : Pos} (hg : Gl X x) (hm : X.mg x = none) (hv : bootBuiltins x = some u) (r : RelV v u) (hn : x ≠ "__name__" := by decide) (hd : (x == ("__debug__" : Str)) = false := by decide) : PE X (.Name x pos) (tC v) :=
  fun _ _ _ H _ I h => ld_blt I hg hm hv ⟨v, H, I, r, h⟩ hn hd
variable {a b : Expr} {ta tb : TE} {pos : Pos}
def PC (X : Cx) (op : CmpOp) (a b : Expr) (t : TE) : Prop :=
  ∀ (pins : List (Addr × Obj)) (s : Shared) (σ : St) (H : Hp) (Q : VK), Inv X pins σ H s → t σ H Q →
    wpAny (model X.prog X.w) X.A (eval a X.env) (fun v s₁ => wpAny (model X.prog X.w) X.A (eval b X.env) (fun u s₂ => wpAny (model X.prog X.w) X.A (compareOp op v u) (EP X pins σ Q) X.xe s₂) X.xe s₁) X.xe s
theorem nobehind (b : Expr) {op : CmpOp} (h : op ≠ .In) (h2 : op ≠ .NotIn) : behindInMarks op b = false := by
  have e1 : (op == CmpOp.In) = false := by cases op <;> first | rfl | exact absurd rfl h
  have e2 : (op == CmpOp.NotIn) = false := by cases op <;> first | rfl | exact absurd rfl h2
  cases b <;> simp [behindInMarks, e1, e2]
def tNotN (ta : TE) : TE := fun σ H Q => ta σ H fun x H1 => Q (.bl (!decide (x = .non))) H1
theorem RelV.none_iff {x : V} {v : Value} (r : RelV x v) : (v == Value.none) = decide (x = .non) := by
  cases x with
  | non => cases r; rfl
  | bl _ => cases r; rfl
  | int _ => obtain ⟨t, rfl⟩ := r; rfl
  | str _ => obtain ⟨t, rfl⟩ := r; rfl
  | byt _ => obtain ⟨t, rfl⟩ := r; rfl
  | flt _ => obtain ⟨t, rfl⟩ := r; rfl
  | ref _ => cases r; rfl
  | ty _ => cases r; rfl
theorem pc_notN {j pos'} (ha : PE X a ta) : PC X .IsNot a (.Constant .none j pos') (tNotN ta) := by
  intro pins s σ H Q I h
  refine thn (ha pins s σ H _ I h) fun v s1 ⟨x, H1, I1, r1, q1⟩ => ?_
  exact Constant_none (isnot_none_gen ⟨.bl _, H1, I1, by rw [r1.none_iff]; rfl, q1⟩)
def tB (t : TE) : TT := fun σ H Q => t σ H fun x H1 => ∃ c, x = .bl c ∧ Q c H1
theorem pt_cmp {op : CmpOp} {t : TE} (h : PC X op a b t) (h1 : behindInMarks op b = false := by first | exact nobehind _ (by decide) (by decide) | rfl) : PT X (.Compare a [op] [b] pos) (tB t) := by
  intro pins s σ H Q I hw
  refine wpAny_isTrue_Compare1 (thn (h pins s σ H _ I hw) fun v s1 h1 => thn h1 fun u s2 h2 => thn h2 fun c s3 ⟨x, H1, I1, r1, q1⟩ => ?_) h1
  obtain ⟨d, rfl, q⟩ := q1
  cases r1
  exact wpAny_truthy_bool ⟨H1, I1, q⟩
theorem pt_val {e : Expr} {t : TE} (h : PE X e t) (he : ∀ whole, isTrue e X.env whole = (do let v ← whole; standAt e.pos; holding [v] (truthy v)) := by intro _; rfl) : PT X e (tB t) := by
  intro pins s σ H Q I hw
  refine isTrue_plain (thn (h pins s σ H _ I hw) fun v s1 ⟨x, H1, I1, r1, q1⟩ => ?_) (he _)
  obtain ⟨d, rfl, q⟩ := q1
  cases r1
  exact wpAny_truthy_bool ⟨H1, I1, q⟩
variable {tA tB' : TT} {rest : List Expr}
def tAnd (t u : TT) : TT := fun σ H Q => t σ H fun c H1 => if c = true then u σ H1 Q else Q false H1
def tOr (t u : TT) : TT := fun σ H Q => t σ H fun c H1 => if c = true then Q true H1 else u σ H1 Q
def tNot (t : TT) : TT := fun σ H Q => t σ H fun c H1 => Q (!c) H1
theorem pw_and1 (ha : PT X a tA) : PW X (.BoolOp .And [a] pos) tA := by
  intro wh pins s σ H Q I h
  refine isTrue_and (thn (ha pins s σ H Q I h) fun c s1 e => ?_)
  cases c with
  | true => exact isTrue_and_nil e
  | false => exact e
theorem pw_or1 (ha : PT X a tA) : PW X (.BoolOp .Or [a] pos) tA := by
  intro wh pins s σ H Q I h
  refine isTrue_or (thn (ha pins s σ H Q I h) fun c s1 e => ?_)
  cases c with
  | false => exact isTrue_or_nil e
  | true => exact e
theorem pw_and (ha : PT X a tA) (hb : PW X (.BoolOp .And (b :: rest) pos) tB') : PW X (.BoolOp .And (a :: b :: rest) pos) (tAnd tA tB') := by
  intro wh pins s σ H Q I h
  refine isTrue_and (thn (ha pins s σ H _ I h) fun c s1 ⟨H1, I1, q1⟩ => ?_)
  cases c with
  | true => exact hb wh pins s1 σ H1 Q I1 q1
  | false => exact ⟨H1, I1, q1⟩
theorem pw_or (ha : PT X a tA) (hb : PW X (.BoolOp .Or (b :: rest) pos) tB') : PW X (.BoolOp .Or (a :: b :: rest) pos) (tOr tA tB') := by
  intro wh pins s σ H Q I h
  refine isTrue_or (thn (ha pins s σ H _ I h) fun c s1 ⟨H1, I1, q1⟩ => ?_)
  cases c with
  | true => exact ⟨H1, I1, q1⟩
  | false => exact hb wh pins s1 σ H1 Q I1 q1
theorem pt_not (ha : PT X a tA) : PT X (.UnaryOp .Not a pos) (tNot tA) := by
  intro pins s σ H Q I h
  exact isTrue_not (ha pins s σ H (fun c H1 => Q (!c) H1) I h)
def tAndV (ta tb : TE) : TE := fun σ H Q => ta σ H fun x H1 => ∃ c, x = .bl c ∧ if c = true then tb σ H1 Q else Q (.bl false) H1
def tNotV (ta : TE) : TE := fun σ H Q => ta σ H fun x H1 => ∃ c, x = .bl c ∧ Q (.bl (!c)) H1
theorem pe_one {op} {t : TE} (h : PE X a t) : PE X (.BoolOp op [a] pos) t := fun pins s σ H Q I hw => BoolOp_one (h pins s σ H Q I hw)
theorem pe_and (ha : PE X a ta) (hb : PE X (.BoolOp .And (b :: rest) pos) tb) : PE X (.BoolOp .And (a :: b :: rest) pos) (tAndV ta tb) := by
  intro pins s σ H Q I h
  refine BoolOp_and (thn (ha pins s σ H _ I h) fun v s1 ⟨x, H1, I1, r1, q1⟩ => ?_)
  obtain ⟨c, rfl, q1⟩ := q1
  cases r1
  refine wpAny_truthy_bool ?_
  cases c with
  | true => exact hb pins s1 σ H1 Q I1 q1
  | false => exact ⟨.bl false, H1, I1, rfl, q1⟩
theorem pe_not (ha : PE X a ta) : PE X (.UnaryOp .Not a pos) (tNotV ta) := by
  intro pins s σ H Q I h
  refine UnaryOp_ (thn (ha pins s σ H _ I h) fun v s1 ⟨x, H1, I1, r1, q1⟩ => ?_)
  obtain ⟨c, rfl, q1⟩ := q1
  cases r1
  exact not_of (wpAny_truthy_bool ⟨.bl (!c), H1, I1, rfl, q1⟩)
end
end L2
namespace L2
open PySem PySem.Spec PyProof.Rows
def SqL (K : PySem.W.Frag) (H : Hp) (a : Addr) (xs : List V) : Prop :=
  Rd H a (.lst xs) ∨
    ∃ (o : Obj) (its : Array Value) (n : Nat), K.lookup a = some o ∧ o.cls = .type "list" ∧ o.dict = none ∧ o.data = .seq its n ∧ its.size ≤ sizeLine ∧ Vals xs its.toList
def SqT (K : PySem.W.Frag) (H : Hp) (a : Addr) (xs : List V) : Prop :=
  Rd H a (.tup xs) ∨
    ∃ (o : Obj) (its : Array Value) (n : Nat), K.lookup a = some o ∧ o.cls = .type "tuple" ∧ o.data = .seq its n ∧ its.size ≤ sizeLine ∧ Vals xs its.toList
def absV : Value → Option V
  | .none => some .non
  | .bool b => some (.bl b)
  | .int i _ => some (.int i)
  | .str x _ => some (.str x)
  | .bytes b _ => some (.byt b)
  | .float b _ => some (.flt b)
  | .ref a => some (.ref a)
  | .type n => some (.ty n)
  | _ => none
theorem RelV.abs {x : V} {u : Value} (r : RelV x u) : absV u = some x := by
  cases x with
  | non => cases r; rfl
  | bl _ => cases r; rfl
  | int _ => obtain ⟨t, rfl⟩ := r; rfl
  | str _ => obtain ⟨t, rfl⟩ := r; rfl
  | byt _ => obtain ⟨t, rfl⟩ := r; rfl
  | flt _ => obtain ⟨t, rfl⟩ := r; rfl
  | ref _ => cases r; rfl
  | ty _ => cases r; rfl
theorem RelV.inj {x y : V} {u : Value} (r : RelV x u) (q : RelV y u) : x = y := Option.some.inj (r.abs.symm.trans q.abs)
theorem Vals.inj : ∀ {xs ys : List V} {us : List Value}, Vals xs us → Vals ys us → xs = ys
  | _, _, _, .nil, .nil => rfl
  | _, _, _, .cons r t, .cons r' t' => by rw [r.inj r', Vals.inj t t']
section
variable {X : Cx} {pins : List (Addr × Obj)} {σ : St} {H : Hp} {s : Shared} {a : Addr} {xs ys : List V}
theorem SqL.of {K : PySem.W.Frag} (h : H a = some (.lst xs)) : SqL K H a xs := .inl (.inl h)
theorem SqT.of {K : PySem.W.Frag} (h : H a = some (.tup xs)) : SqT K H a xs := .inl (.inl h)
theorem Inv.list (I : Inv X pins σ H s) (h : SqL X.K H a xs) : ∃ its : List Value, Vals xs its ∧ PlainL s.heap a its.toArray ∧ xs.length ≤ sizeLine := by
  rcases h with h | ⟨o, its, n, hk, hc, hd, hs, hz, r⟩
  · obtain ⟨z, its, n, r, e⟩ := h.ok I.hok
    exact ⟨its, r, ⟨_, n, e, rfl, rfl, rfl⟩, z⟩
  · refine ⟨its.toList, r, ⟨o, n, I.kIn a o hk, hc, hd, by simpa using hs⟩, ?_⟩
    have e := r.length
    simp only [Array.length_toList] at e
    omega
theorem Inv.tuple (I : Inv X pins σ H s) (h : SqT X.K H a xs) : ∃ its : List Value, Vals xs its ∧ IsTup s.heap a its.toArray ∧ xs.length ≤ sizeLine := by
  rcases h with h | ⟨o, its, n, hk, hc, hs, hz, r⟩
  · obtain ⟨z, its, r, p⟩ := h.ok I.hok
    exact ⟨its, r, p, z⟩
  · refine ⟨its.toList, r, ⟨o, I.kIn a o hk, hc, n, by simpa using hs⟩, ?_⟩
    have e := r.length
    simp only [Array.length_toList] at e
    omega
theorem Inv.list_inj (I : Inv X pins σ H s) (h : SqL X.K H a xs) (h' : SqL X.K H a ys) : xs = ys := by
  obtain ⟨its, r, ⟨o, n, e, _, _, d⟩, _⟩ := I.list h
  obtain ⟨its', r', ⟨o', n', e', _, _, d'⟩, _⟩ := I.list h'
  rw [e] at e'; cases e'
  rw [d] at d'
  injection d' with d1 _
  have : its = its' := by simpa using congrArg Array.toList d1
  subst this
  exact r.inj r'
theorem Inv.tuple_inj (I : Inv X pins σ H s) (h : SqT X.K H a xs) (h' : SqT X.K H a ys) : xs = ys := by
  obtain ⟨its, r, ⟨o, e, _, n, d⟩, _⟩ := I.tuple h
  obtain ⟨its', r', ⟨o', e', _, n', d'⟩, _⟩ := I.tuple h'
  rw [e] at e'; cases e'
  rw [d] at d'
  injection d' with d1 _
  have : its = its' := by simpa using congrArg Array.toList d1
  subst this
  exact r.inj r'
end
abbrev Cx.wish (X : Cx) (E : Value → Shared → Prop) : Cx := { X with xe := E }
abbrev Cx.nox (X : Cx) : Cx := X.wish fun _ _ => False
theorem Cx.Ok.wish {X : Cx} (ok : X.Ok) (E : Value → Shared → Prop) : (X.wish E).Ok :=
  ⟨ok.mod, ok.kind, ok.glob, ok.blt, ok.above, ok.inj, ok.has, ok.cab, ok.hd, ok.frames, ok.stk, ok.exf, ok.bs, ok.bsz, ok.noex, ok.exfs, ok.funs, ok.frf⟩
theorem Cx.Ok.unwish {X : Cx} {E : Value → Shared → Prop} (ok : (X.wish E).Ok) : X.Ok :=
  ⟨ok.mod, ok.kind, ok.glob, ok.blt, ok.above, ok.inj, ok.has, ok.cab, ok.hd, ok.frames, ok.stk, ok.exf, ok.bs, ok.bsz, ok.noex, ok.exfs, ok.funs, ok.frf⟩
section
variable {X : Cx} {pins : List (Addr × Obj)} {σ : St} {H : Hp} {s : Shared} {E : Value → Shared → Prop}
theorem Inv.wish (I : Inv X pins σ H s) (E : Value → Shared → Prop) : Inv (X.wish E) pins σ H s := ⟨I.ok.wish E, I.os, I.bare, I.base, I.loc, I.cell, I.free, I.freeC, I.pin, I.hok, I.len⟩
theorem Inv.unwish (I : Inv (X.wish E) pins σ H s) : Inv X pins σ H s := ⟨I.ok.unwish, I.os, I.bare, I.base, I.loc, I.cell, I.free, I.freeC, I.pin, I.hok, I.len⟩
theorem SP.unwish {D : Ends} {f : Flow} {s' : Shared} (h : SP (X.wish E) pins D f s') : SP X pins D f s' := by
  cases f with
  | next => obtain ⟨σ', H', I, q⟩ := h; exact ⟨σ', H', I.unwish, q⟩
  | brk => obtain ⟨σ', H', I, q⟩ := h; exact ⟨σ', H', I.unwish, q⟩
  | cont => obtain ⟨σ', H', I, q⟩ := h; exact ⟨σ', H', I.unwish, q⟩
  | ret u => obtain ⟨v, σ', H', I, r, q⟩ := h; exact ⟨v, σ', H', I.unwish, r, q⟩
theorem PSs.nox {st : List Stmt} {t : TS} (h : PSs X.nox st t) : PSs X st t := fun pins s σ H D I hw =>
  wpAny_mono (h pins s σ H D (I.wish _) hw) (fun _ _ q => q.unwish) fun _ _ z => False.elim z
end
section
variable {X : Cx} {st : Stmt} {rest : List Stmt} {t u : TS} {e : Expr} {te : TE} {pos : Pos}
def tNext : TS := fun D σ H => D.nx σ H
def tSeq (t u : TS) : TS := fun D σ H => t { D with nx := u D } σ H
theorem pss_nil : PSs X [] tNext := fun _ _ σ H _ I h => wpAny_execs_nil ⟨σ, H, I, h⟩
theorem pss_cons (h1 : PS X st t) (h2 : PSs X rest u) : PSs X (st :: rest) (tSeq t u) := by
  intro pins s σ H D I h
  refine wpAny_execs_cons (thn (h1 pins s σ H { D with nx := u D } I h) fun f s1 q => ?_)
  cases f with
  | next =>
    obtain ⟨σ', H', I', q⟩ := q
    exact h2 pins s1 σ' H' D I' q
  | ret v => exact q
  | brk => exact q
  | cont => exact q
theorem pss_one (h1 : PS X st t) : PSs X [st] t := by
  intro pins s σ H D I h
  refine wpAny_execs_cons (thn (h1 pins s σ H D I h) fun f s1 q => ?_)
  cases f with
  | next => exact wpAny_execs_nil q
  | ret v => exact q
  | brk => exact q
  | cont => exact q
theorem Inv.quiet {pins : List (Addr × Obj)} {σ : St} {H : Hp} {s : Shared} (I : Inv X pins σ H s) : interactive X.env = false := by simp [interactive, I.ok.kind]
def tDrop (te : TE) : TS := fun D σ H => te σ H fun _ H1 => D.nx σ H1
theorem ps_expr (he : PE X e te) (hs : swapsWith e none pos.line X.env = pure false := by rfl) : PS X (.Expr e pos) (tDrop te) := by
  intro pins s σ H D I h
  exact wpAny_Expr_any (thn (he pins s σ H _ I h) fun v s1 ⟨x, H1, I1, r1, q1⟩ => ⟨σ, H1, I1, q1⟩) I.quiet hs
def tRet (te : TE) : TS := fun D σ H => te σ H D.rt
theorem ps_ret (he : PE X e te) : PS X (.Return (some e) pos) (tRet te) := by
  intro pins s σ H D I h
  exact wpAny_Return_some (thn (he pins s σ H _ I h) fun v s1 ⟨x, H1, I1, r1, q1⟩ => ⟨x, σ, H1, I1, r1, q1⟩)
def tIfS (c : TT) (t u : TS) : TS := fun D σ H => c σ H fun b H1 => if b = true then t D σ H1 else u D σ H1
theorem ps_if {c : Expr} {a b : List Stmt} {tc : TT} (hc : PT X c tc) (ha : PSs X a t) (hb : PSs X b u) : PS X (.If c a b pos) (tIfS tc t u) := by
  intro pins s σ H D I h
  refine wpAny_If (thn (hc pins s σ H _ I h) fun d s1 ⟨H1, I1, q1⟩ => ?_)
  cases d with
  | true => exact ha pins s1 σ H1 D I1 q1
  | false => exact hb pins s1 σ H1 D I1 q1
def tNever : TS := fun _ _ _ => False
theorem pss_never {sts : List Stmt} : PSs X sts tNever := fun _ _ _ _ _ _ h => h.elim
end
abbrev TG := V → St → Hp → (St → Hp → Prop) → Prop
abbrev TGs := List V → St → Hp → (St → Hp → Prop) → Prop
def PG (X : Cx) (target : Expr) (t : TG) : Prop :=
  ∀ (pins : List (Addr × Obj)) (s : Shared) (σ : St) (H : Hp) (v : V) (u : Value) (Q : St → Hp → Prop), Inv X pins σ H s → RelV v u → t v σ H Q →
    wpAny (model X.prog X.w) X.A (assign target X.env u) (fun _ s' => ∃ σ' H', Inv X pins σ' H' s' ∧ Q σ' H') X.xe s
def PGs (X : Cx) (ts : List Expr) (t : TGs) : Prop :=
  ∀ (pins : List (Addr × Obj)) (s : Shared) (σ : St) (H : Hp) (vs : List V) (us : List Value) (Q : St → Hp → Prop), Inv X pins σ H s → Vals vs us → t vs σ H Q →
    wpAny (model X.prog X.w) X.A (assignInOrder ((assignEach ts X.env).map (·.2)) us) (fun _ s' => ∃ σ' H', Inv X pins σ' H' s' ∧ Q σ' H') X.xe s
section
variable {X : Cx} {pos : Pos}
def gName (i : Nat) : TG := fun v σ H Q => Q (σ.set i (some v)) H
theorem pg_name {i : Nat} {x : Str} (hN : X.N.Nodup) (hi : X.N[i]? = some x) (hx : Loc X.env.scope x) (hf : X.fn x = true ∨ X.env.scope.names.lookup x = some .local := by first | exact .inl rfl | exact .inr rfl | assumption) : PG X (.Name x pos) (gName i) := by
  intro pins s σ H v u Q I r h
  exact wpAny_assign_Name (store_ok I hN hi hx r (fun s' I' => ⟨_, H, I', h⟩) hf)
def gNil : TGs := fun vs σ H Q => vs = [] ∧ Q σ H
def gCons (t : TG) (u : TGs) : TGs := fun vs σ H Q => ∃ v r, vs = v :: r ∧ t v σ H fun σ' H' => u r σ' H' Q
theorem pgs_nil : PGs X [] gNil := by
  intro pins s σ H vs us Q I r h
  obtain ⟨e, h⟩ := h
  subst e
  cases r
  exact assignInOrder_nil ⟨σ, H, I, h⟩
theorem pgs_cons {e : Expr} {es : List Expr} {t : TG} {u : TGs} (h1 : PG X e t) (h2 : PGs X es u)
    (hs : (assignEach (e :: es) X.env).map (·.2) = assign e X.env :: (assignEach es X.env).map (·.2) := by rfl) : PGs X (e :: es) (gCons t u) := by
  intro pins s σ H vs us Q I r h
  obtain ⟨v, vr, e1, h⟩ := h
  subst e1
  cases r with
  | cons r rr =>
    rw [hs]
    refine assignInOrder_cons (thn (h1 pins s σ H _ _ _ I r h) fun _ s1 ⟨σ1, H1, I1, q1⟩ => ?_)
    exact h2 pins s1 σ1 H1 _ _ Q I1 rr q1
def gTup (K : PySem.W.Frag) (n : Nat) (t : TGs) : TG := fun v σ H Q => ∃ a xs, v = .ref a ∧ SqT K H a xs ∧ xs.length = n ∧ t xs σ H Q
theorem pg_tup {es : List Expr} {k : Nat} {t : TGs} {n : Nat} (hc : X.calm = true) (h : PGs X es t)
    (hn : (assignEach es X.env).length = n := by rfl) (hst : (assignEach es X.env).findIdx? (·.1) = none := by rfl) : PG X (.Tuple es k pos) (gTup X.K n t) := by
  intro pins s σ H v u Q I r hw
  obtain ⟨a, xs, e1, hq, hl, hw⟩ := hw
  subst e1
  cases r
  obtain ⟨its, rv, ht, hz⟩ := I.tuple hq
  refine assign_Tuple_tuple (I.ok.hd hc) ht (by simp [hn, ← hl, rv.length]) hst fun h' hx => ?_
  have I1 : Inv X pins σ H { s with heap := h' } := I.kept (t' := s.toks) fun b o e => hx b o (Nat.ne_of_lt (Heap.lt_size e)) e
  exact h pins _ σ H xs _ Q I1 (by simpa using rv) hw
def tAsg (te : TE) (g : TG) : TS := fun D σ H => te σ H fun x H1 => g x σ H1 D.nx
theorem ps_set {i : Nat} {x : Str} {e : Expr} {te : TE} {pos' : Pos} (hN : X.N.Nodup) (hi : X.N[i]? = some x) (hx : Loc X.env.scope x) (he : PE X e te) (hs : swapsWith e (some (.Name x pos')) pos.line X.env = pure false := by rfl) (hf : X.fn x = true ∨ X.env.scope.names.lookup x = some .local := by first | exact .inl rfl | exact .inr rfl | assumption) :
    PS X (.Assign [.Name x pos'] e pos) (tAsg te (gName i)) := by
  intro pins s σ H D I h
  refine wpAny_Assign_Name (thn (he pins s σ H _ I h) fun v s1 ⟨y, H1, I1, r1, q1⟩ => ?_) hs
  exact store_ok I1 hN hi hx r1 (fun s2 I2 => ⟨_, H1, I2, q1⟩) hf
end
section
variable {X : Cx} {pos : Pos}
def tWhile (c : TT) (tb : TS) : TS := fun D σ H => ∃ W : Nat → St → Hp → Prop, (∃ m, W m σ H) ∧ ∀ m σ H, W m σ H →
  c σ H fun b H1 => if b = true then ∃ N : St → Hp → Prop, (∀ σ' H', N σ' H' → ∃ m', m' < m ∧ W m' σ' H') ∧ tb { D with nx := N, ct := N, bk := D.nx } σ H1 else D.nx σ H1
theorem ps_while {c : Expr} {body : List Stmt} {tc : TT} {tb : TS} (hp : PassesOwn (model X.prog X.w) X.A X.env X.xe) (hc : PT X c tc) (hb : PSs X body tb) : PS X (.While c body [] pos) (tWhile tc tb) := by
  intro pins s σ H D I h
  obtain ⟨W, ⟨m0, w0⟩, turn⟩ := h
  refine wpAny_While (codeAny_whileLoop (fun n s' => ∃ σ' H', Inv X pins σ' H' s' ∧ W n σ' H') ?_ m0 ⟨σ, H, I, w0⟩)
  rintro n s1 ⟨σ1, H1, I1, w1⟩
  refine wpAny_passesOwn hp (thn (hc pins s1 σ1 H1 _ I1 (turn n σ1 H1 w1)) fun b s2 ⟨H2, I2, q2⟩ => ?_)
  cases b with
  | true =>
    obtain ⟨N, hN, q2⟩ := q2
    rw [if_pos rfl]
    refine wpAny_passesOwn hp (thn (hb pins s2 σ1 H2 _ I2 q2) fun f s3 q3 => ?_)
    cases f with
    | next =>
      obtain ⟨σ3, H3, I3, n3⟩ := q3
      obtain ⟨m', hm, w3⟩ := hN σ3 H3 n3
      exact ⟨m', hm, σ3, H3, I3, w3⟩
    | cont =>
      obtain ⟨σ3, H3, I3, n3⟩ := q3
      obtain ⟨m', hm, w3⟩ := hN σ3 H3 n3
      exact ⟨m', hm, σ3, H3, I3, w3⟩
    | brk => exact q3
    | ret v => exact q3
  | false =>
    rw [if_neg Bool.false_ne_true]
    exact wpAny_execs_nil ⟨σ1, H2, I2, q2⟩
end
structure It where
  go : Nat → Hp → Prop
  yld : Nat → Hp → V → Hp → Prop
  stop : Nat → Hp → Prop
def FpOk (X : Cx) (pins : List (Addr × Obj)) (H : Hp) (b : Addr) : Prop :=
  H b = none ∧ b ≠ X.env.locals ∧ b ∉ X.fs ∧ (b ∈ X.ex ∨ X.s₀.heap.objs.size ≤ b) ∧ (∀ x c, X.env.cells.lookup x = some c → c ≠ b) ∧ ∀ p ∈ X.pn ++ pins, p.1 ≠ b
theorem Inv.fpOk {X : Cx} {pins : List (Addr × Obj)} {σ : St} {H H' : Hp} {s : Shared} {b : Addr} (I : Inv X pins σ H s) (hb : s.heap.objs.size ≤ b) (hn : H' b = none) : FpOk X pins H' b := by
  refine ⟨hn, Nat.ne_of_gt (Nat.lt_of_lt_of_le I.lt hb), I.nofs hb, .inr (Nat.le_trans I.sz hb), fun x c e z => ?_, fun p hp z => ?_⟩
  · obtain ⟨v, q⟩ := I.cell x c e
    exact absurd (Nat.lt_of_lt_of_le q.lt (by rw [z]; exact hb)) (Nat.lt_irrefl _)
  · exact absurd (Nat.lt_of_lt_of_le (Heap.lt_size (I.pin p hp).1) (by rw [z]; exact hb)) (Nat.lt_irrefl _)
structure Turn (P : Program) (w : World) (K : PySem.W.Frag) (tg : Expr) (J : It) (fp : List Addr) (it : Addr) (tn : Nat → Heap → Prop) : Prop where
  mem : it ∈ fp
  obj : ∀ i h, tn i h → ∀ b ∈ fp, ∃ o, h.get? b = some o ∧ ∀ v, o.data ≠ .cell v
  keep : ∀ i h h', tn i h → (∀ b ∈ fp, ∀ o, h.get? b = some o → h'.get? b = some o) → tn i h'
  item : ∀ (X : Cx), X.prog = P → X.w = w → X.K = K → X.calm = true → ∀ (i : Nat) (pins : List (Addr × Obj)) (s : Shared) (σ : St) (H : Hp) (E : Value → Shared → Prop), Inv X pins σ H s → (∀ b ∈ fp, FpOk X pins H b) → tn i s.heap → J.go i H →
    wpAny (model P w) X.A (pyNext (.ref it)) (fun r s1 => ∃ u, r = some u ∧
      wpAny (model P w) X.A (letOwnedTupleGo tg (.ref it) u) (fun _ s2 => ∃ x H', Inv X pins σ H' s2 ∧ RelV x u ∧ J.yld i H x H' ∧ tn (i + 1) s2.heap ∧ ∀ b ∈ fp, H' b = none) E s1) E s
  done : ∀ (X : Cx), X.prog = P → X.w = w → X.K = K → X.calm = true → ∀ (i : Nat) (pins : List (Addr × Obj)) (s : Shared) (σ : St) (H : Hp) (E : Value → Shared → Prop), Inv X pins σ H s → (∀ b ∈ fp, FpOk X pins H b) → tn i s.heap → J.stop i H →
    wpAny (model P w) X.A (pyNext (.ref it)) (fun r s1 => r = none ∧ Inv X pins σ H s1) E s
  self : ∀ (A : Around) (i : Nat) (s : Shared) (Q : Value → Shared → Prop) (E : Value → Shared → Prop), tn i s.heap → Q (.ref it) s → wpAny (model P w) A (pyIter (.ref it)) Q E s
abbrev TI := St → Hp → (It → Hp → Prop) → Prop
def PIE (X : Cx) (pins : List (Addr × Obj)) (σ : St) (tg : Expr) (R : It → Hp → Prop) (itv : Value) (s2 : Shared) : Prop :=
  ∃ (it : Addr) (fp : List Addr) (tn : Nat → Heap → Prop) (J : It) (H' : Hp), itv = .ref it ∧ Inv X pins σ H' s2 ∧ Turn X.prog X.w X.K tg J fp it tn ∧ tn 0 s2.heap ∧ (∀ b ∈ fp, FpOk X pins H' b) ∧ R J H'
def PI (X : Cx) (tg iter : Expr) (wi : TI) : Prop :=
  ∀ (pins : List (Addr × Obj)) (s : Shared) (σ : St) (H : Hp) (R : It → Hp → Prop), Inv X pins σ H s → wi σ H R →
    wpAny (model X.prog X.w) X.A (eval iter X.env) (fun v s1 => wpAny (model X.prog X.w) X.A (pyIter v) (PIE X pins σ tg R) X.xe s1) X.xe s
theorem go_of {M : Model} {A : Around} {E : Value → Shared → Prop} {s : Shared} {tg : Expr} {it : Addr} {u : Value} {o : Obj} {n : String} {vs : Array Value} {Q : Unit → Shared → Prop} (ho : s.heap.get? it = some o) (hc : o.cls = .type n) (hd : o.data = .fields vs)
    (hn : ["enumerate", "zip", "dict_itemiterator", "dict_reverseitemiterator", "odict_iterator", "itertools.zip_longest", "itertools.pairwise"].contains n = false) (hQ : Q () s) : wpAny M A (letOwnedTupleGo tg (.ref it) u) Q E s := by
  unfold letOwnedTupleGo
  cases tg <;> first
    | exact wpAny_pure hQ
    | (cases u <;> first
        | exact wpAny_pure hQ
        | (refine wpAny_bind (wpAny_load ho ?_)
           rw [hc, hd]
           show wpAny M A (if (["enumerate", "zip", "dict_itemiterator", "dict_reverseitemiterator", "odict_iterator", "itertools.zip_longest", "itertools.pairwise"].contains n && vs[0]? == some (rawInt _)) = true then _ else _) Q E s
           rw [if_neg (by intro h; rw [hn, Bool.false_and] at h; cases h)]
           exact wpAny_pure hQ))
def Itl (K : PySem.W.Frag) (a : Addr) : It :=
  ⟨fun i H => ∃ xs x, SqL K H a xs ∧ xs[i]? = some x, fun i H x H' => H' = H ∧ ∀ xs, SqL K H a xs → xs[i]? = some x, fun i H => ∃ xs, SqL K H a xs ∧ xs.length ≤ i⟩
def Itt (K : PySem.W.Frag) (a : Addr) : It :=
  ⟨fun i H => ∃ xs x, SqT K H a xs ∧ xs[i]? = some x, fun i H x H' => H' = H ∧ ∀ xs, SqT K H a xs → xs[i]? = some x, fun i H => ∃ xs, SqT K H a xs ∧ xs.length ≤ i⟩
def Itr (lo : Int) (n : Nat) : It := ⟨fun i _ => i < n, fun i H x H' => H' = H ∧ x = .int (lo + i), fun i _ => n ≤ i⟩
theorem turn_list {P : Program} {w : World} {K : PySem.W.Frag} {tg : Expr} (a it : Addr) : Turn P w K tg (Itl K a) [it] it (fun i h => h.IsListIter it a i) where
  mem := by simp
  obj := fun i h st b hb => by
    have e : b = it := by simpa using hb
    subst e
    obtain ⟨o, e, c, d⟩ := st
    exact ⟨o, e, fun v z => by rw [d] at z; cases z⟩
  keep := fun i h h' st k => st.at fun o e => k it (by simp) o e
  item := by
    intro X hP hw hK hc i pins s σ H E I hf st hg
    subst hP hw hK
    obtain ⟨xs, x, hq, hx⟩ := hg
    obtain ⟨its, rv, p, hz⟩ := I.list hq
    obtain ⟨u, hu, ru⟩ := rv.get hx
    obtain ⟨f0, f1, f2, f3, f4, f5⟩ := hf it (by simp)
    refine wpAny_pyNext_list_item st p.isList (x := u) (by simpa using hu) fun h' st' sb => ?_
    have I1 : Inv X pins σ H { s with heap := h' } := I.turned (t' := s.toks) (fun b o hb e => (sb.2 b hb).trans e) f0 f1 f3 f4 f5
    obtain ⟨o, e, c, d⟩ := id st'
    exact ⟨u, rfl, go_of (s := { s with heap := h' }) e c d (by decide) ⟨x, H, I1, ru, ⟨rfl, fun ys hy => by rw [I.list_inj hy hq]; exact hx⟩, st', fun b hb => (hf b hb).1⟩⟩
  done := by
    intro X hP hw hK hc i pins s σ H E I hf st hg
    subst hP hw hK
    obtain ⟨xs, hq, hx⟩ := hg
    obtain ⟨its, rv, p, hz⟩ := I.list hq
    obtain ⟨f0, f1, f2, f3, f4, f5⟩ := hf it (by simp)
    have hl := rv.length
    exact wpAny_pyNext_list_end (I.ok.hd hc) st p.isList (by simp; omega) fun h' eb => ⟨rfl, I.turned (t' := s.toks) (fun b o hb e => eb b o hb e) f0 f1 f3 f4 f5⟩
  self := fun _ _ _ _ _ st h => wpAny_pyIter_listiter st h
theorem turn_tuple {P : Program} {w : World} {K : PySem.W.Frag} {tg : Expr} (a it : Addr) : Turn P w K tg (Itt K a) [it] it (fun i h => h.IsTupleIter it a i) where
  mem := by simp
  obj := fun i h st b hb => by
    have e : b = it := by simpa using hb
    subst e
    obtain ⟨o, e, c, d⟩ := st
    exact ⟨o, e, fun v z => by rw [d] at z; cases z⟩
  keep := fun i h h' st k => st.at fun o e => k it (by simp) o e
  item := by
    intro X hP hw hK hc i pins s σ H E I hf st hg
    subst hP hw hK
    obtain ⟨xs, x, hq, hx⟩ := hg
    obtain ⟨its, rv, p, hz⟩ := I.tuple hq
    obtain ⟨u, hu, ru⟩ := rv.get hx
    obtain ⟨f0, f1, f2, f3, f4, f5⟩ := hf it (by simp)
    refine wpAny_pyNext_tuple_item st (show s.heap.IsTuple a its.toArray from p) (x := u) (by simpa using hu) fun h' st' sb => ?_
    have I1 : Inv X pins σ H { s with heap := h' } := I.turned (t' := s.toks) (fun b o hb e => (sb.2 b hb).trans e) f0 f1 f3 f4 f5
    obtain ⟨o, e, c, d⟩ := id st'
    exact ⟨u, rfl, go_of (s := { s with heap := h' }) e c d (by decide) ⟨x, H, I1, ru, ⟨rfl, fun ys hy => by rw [I.tuple_inj hy hq]; exact hx⟩, st', fun b hb => (hf b hb).1⟩⟩
  done := by
    intro X hP hw hK hc i pins s σ H E I hf st hg
    subst hP hw hK
    obtain ⟨xs, hq, hx⟩ := hg
    obtain ⟨its, rv, p, hz⟩ := I.tuple hq
    obtain ⟨f0, f1, f2, f3, f4, f5⟩ := hf it (by simp)
    have hl := rv.length
    exact wpAny_pyNext_tuple_end (I.ok.hd hc) st (show s.heap.IsTuple a its.toArray from p) (by simp; omega) fun h' eb => ⟨rfl, I.turned (t' := s.toks) (fun b o hb e => eb b o hb e) f0 f1 f3 f4 f5⟩
  self := fun _ _ _ _ _ st h => wpAny_pyIter_tupleiter st h
theorem turn_range {P : Program} {w : World} {K : PySem.W.Frag} {tg : Expr} (it : Addr) (lo : Int) (n : Nat) : Turn P w K tg (Itr lo n) [it] it (fun i h => IsRangeIter h it (lo + (i : Nat) * 1) ((n : Int) - (i : Nat)) 1) where
  mem := by simp
  obj := fun i h st b hb => by
    have e : b = it := by simpa using hb
    subst e
    exact ⟨_, st, fun v z => by
      have z' : Data.fields _ = Data.cell v := z
      cases z'⟩
  keep := fun i h h' st k => k it (by simp) _ st
  item := by
    intro X hP hw hK hc i pins s σ H E I hf st hg
    subst hP hw hK
    obtain ⟨f0, f1, f2, f3, f4, f5⟩ := hf it (by simp)
    have W := Walks.range (prog := X.prog) (w := X.w) (I.ok.hd hc) it lo 1 n
    refine W.item i s _ _ hg st fun v h' tk hv st' kk => ?_
    obtain ⟨t, rfl⟩ := hv
    have I1 : Inv X pins σ H { s with heap := h', toks := tk } := I.turned (fun b o hb e => kk b o (by simpa using hb) e) f0 f1 f3 f4 f5
    refine ⟨_, rfl, go_of (s := { s with heap := h', toks := tk }) (n := "range_iterator") st' rfl rfl (by decide) ⟨.int (lo + i), H, I1, ⟨t, ?_⟩, ⟨rfl, rfl⟩, st', fun b hb => (hf b hb).1⟩⟩
    rw [Int.mul_one]
  done := by
    intro X hP hw hK hc i pins s σ H E I hf st hg
    subst hP hw hK
    obtain ⟨f0, f1, f2, f3, f4, f5⟩ := hf it (by simp)
    exact wpAny_pyNext_range_end (I.ok.hd hc) st (by have : n ≤ i := hg; omega) fun h' eb => ⟨rfl, I.turned (t' := s.toks) (fun b o hb e => eb b o hb e) f0 f1 f3 f4 f5⟩
  self := fun _ _ _ _ _ st h => wpAny_pyIter_rangeiter st h
end L2
namespace L2
open PySem PySem.Spec PyProof.Rows
section
variable {X : Cx} {tg : Expr}
def iList (K : PySem.W.Frag) (tl : TE) : TI := fun σ H R => tl σ H fun x H1 => ∃ a, x = .ref a ∧ (∃ xs, SqL K H1 a xs) ∧ R (Itl K a) H1
def iTup (K : PySem.W.Frag) (tl : TE) : TI := fun σ H R => tl σ H fun x H1 => ∃ a, x = .ref a ∧ (∃ xs, SqT K H1 a xs) ∧ R (Itt K a) H1
theorem pi_list {l : Expr} {tl : TE} (hl : PE X l tl) : PI X tg l (iList X.K tl) := by
  intro pins s σ H R I h
  refine thn (hl pins s σ H _ I h) fun v s1 ⟨x, H1, I1, r1, q1⟩ => ?_
  obtain ⟨a, e, ⟨xs, hq⟩, q⟩ := q1
  subst e
  cases r1
  obtain ⟨its, rv, p, hz⟩ := I1.list hq
  refine wpAny_pyIter_list p.isList ?_
  refine ⟨s1.heap.objs.size, [s1.heap.objs.size], _, _, H1, rfl, I1.kept (t' := s1.toks) fun b o e => Heap.get?_push_of_some _ e, turn_list a _, ⟨_, Heap.get?_push_size _ rfl, rfl, rfl⟩, fun b hb => ?_, q⟩
  have e : b = s1.heap.objs.size := by simpa using hb
  subst e
  exact I1.fpOk (Nat.le_refl _) (I1.hok.fresh (Nat.le_refl _))
theorem pi_tup {l : Expr} {tl : TE} (hl : PE X l tl) : PI X tg l (iTup X.K tl) := by
  intro pins s σ H R I h
  refine thn (hl pins s σ H _ I h) fun v s1 ⟨x, H1, I1, r1, q1⟩ => ?_
  obtain ⟨a, e, ⟨xs, hq⟩, q⟩ := q1
  subst e
  cases r1
  obtain ⟨its, rv, p, hz⟩ := I1.tuple hq
  refine wpAny_pyIter_tuple (show s1.heap.IsTuple a its.toArray from p) ?_
  refine ⟨s1.heap.objs.size, [s1.heap.objs.size], _, _, H1, rfl, I1.kept (t' := s1.toks) fun b o e => Heap.get?_push_of_some _ e, turn_tuple a _, ⟨_, Heap.get?_push_size _ rfl, rfl, rfl⟩, fun b hb => ?_, q⟩
  have e : b = s1.heap.objs.size := by simpa using hb
  subst e
  exact I1.fpOk (Nat.le_refl _) (I1.hok.fresh (Nat.le_refl _))
theorem range_it {pins : List (Addr × Obj)} {σ : St} {H : Hp} {s : Shared} {R : It → Hp → Prop} {E : Value → Shared → Prop} {lo hi : Int} {t u v : Tok} {tk : Nat} (I : Inv X pins σ H s) (h1 : -(2 ^ 62) ≤ lo) (h2 : lo < 2 ^ 62) (h3 : -(2 ^ 62) ≤ hi) (h4 : hi < 2 ^ 62)
    (q : R (Itr lo (hi - lo).toNat) H) : wpAny (model X.prog X.w) X.A (pyIter (.ref s.heap.objs.size)) (PIE X pins σ tg R) E { s with heap := s.heap.push { cls := .type "range", data := .fields #[.int lo t, .int hi u, .int 1 v] }, toks := tk } := by
  refine wpAny_pyIter_range (IsRange.new ..) (small_one h1 h2 h3 h4) ?_
  have I1 : Inv X pins σ H { s with heap := s.heap.push { cls := .type "range", data := .fields #[.int lo t, .int hi u, .int 1 v] }, toks := tk } := I.kept fun b o e => Heap.get?_push_of_some _ e
  refine ⟨(s.heap.push { cls := .type "range", data := .fields #[.int lo t, .int hi u, .int 1 v] }).objs.size, [(s.heap.push { cls := .type "range", data := .fields #[.int lo t, .int hi u, .int 1 v] }).objs.size], _, _, H, rfl,
    I1.kept (t' := tk) fun b o e => Heap.get?_push_of_some _ e, turn_range _ lo (hi - lo).toNat, ?_, fun b hb => ?_, q⟩
  · have e1 : lo + ((0 : Nat) : Int) * 1 = lo := by simp
    have e2 : (((hi - lo).toNat : Nat) : Int) - ((0 : Nat) : Int) = Builtin.Range.rangeSize lo hi 1 := by rw [rangeSize_one]; split <;> omega
    show IsRangeIter _ _ (lo + ((0 : Nat) : Int) * 1) ((((hi - lo).toNat : Nat) : Int) - ((0 : Nat) : Int)) 1
    rw [e1, e2]
    exact Heap.get?_push_size _ rfl
  · have e : b = (s.heap.push { cls := .type "range", data := .fields #[.int lo t, .int hi u, .int 1 v] }).objs.size := by simpa using hb
    subst e
    exact I1.fpOk (Nat.le_refl _) (I1.hok.fresh (Nat.le_refl _))
def iRng1 (ta : TA) : TI := fun σ H R => ta σ H fun vs H1 => ∃ j : Int, vs = [.int j] ∧ -(2 ^ 62) ≤ j ∧ j < 2 ^ 62 ∧ R (Itr 0 j.toNat) H1
theorem pi_range1 {a : Expr} {ta : TA} {p pos : Pos} (hg : Gl X "range") (hm : X.mg "range" = none) (ha : PA X [a] ta) (hs : starEach [a] X.env = [(false, eval a X.env)] := by rfl) : PI X tg (.Call (.Name "range" p) [a] [] pos) (iRng1 ta) := by
  intro pins s σ H R I h
  refine Call_ (ld_blt I hg hm boot_range (PyProof.Rows.callWith_type1 (thn (ha pos pins s σ H _ I h) fun us s1 ⟨vs, H1, I1, r1, q1⟩ => ?_) hs rfl))
  obtain ⟨j, e, q1, q2, q⟩ := q1
  subst e
  cases r1 with
  | cons r rr =>
    cases rr
    obtain ⟨t, rfl⟩ := r
    exact call_range_1 (range_it I1 (by omega) (by omega) q1 q2 (by simpa using q))
def tFor (wi : TI) (g : TG) (tb : TS) : TS := fun D σ H => wi σ H fun J H1 => ∃ W : Nat → Nat → St → Hp → Prop, (∃ m, W 0 m σ H1) ∧ ∀ i m σ H, W i m σ H →
  (J.stop i H ∧ D.nx σ H) ∨ (J.go i H ∧ ∃ N : St → Hp → Prop, (∀ σ' H', N σ' H' → ∃ m', m' < m ∧ W (i + 1) m' σ' H') ∧ ∀ x H', J.yld i H x H' → g x σ H' fun σ2 H2 => tb { D with nx := N, ct := N, bk := D.nx } σ2 H2)
def pinsAt (fp : List Addr) (h : Heap) : List (Addr × Obj) := fp.filterMap fun b => (h.get? b).map fun o => (b, o)
theorem mem_pinsAt {fp : List Addr} {h : Heap} {b : Addr} {o : Obj} (hb : b ∈ fp) (e : h.get? b = some o) : (b, o) ∈ pinsAt fp h := List.mem_filterMap.mpr ⟨b, hb, by rw [e]; rfl⟩
theorem of_pinsAt {fp : List Addr} {h : Heap} {p : Addr × Obj} (hp : p ∈ pinsAt fp h) : p.1 ∈ fp ∧ h.get? p.1 = some p.2 := by
  obtain ⟨b, hb, e⟩ := List.mem_filterMap.mp hp
  cases q : h.get? b with
  | none => rw [q] at e; cases e
  | some o =>
    rw [q] at e
    have e' : (b, o) = p := Option.some.inj e
    subst e'
    exact ⟨hb, q⟩
theorem Inv.pinned {pins : List (Addr × Obj)} {σ : St} {H : Hp} {s : Shared} {fp : List Addr} (I : Inv X pins σ H s) (hf : ∀ b ∈ fp, FpOk X pins H b) (ho : ∀ b ∈ fp, ∃ o, s.heap.get? b = some o ∧ ∀ v, o.data ≠ .cell v) : Inv X (pins ++ pinsAt fp s.heap) σ H s :=
  I.pins_of fun p hp => (List.mem_append.mp hp).elim (fun z => I.pin p (List.mem_append_right _ z)) fun z => by
    obtain ⟨hb, e⟩ := of_pinsAt z
    obtain ⟨f0, f1, f2, _⟩ := hf p.1 hb
    obtain ⟨o, e', d⟩ := ho p.1 hb
    rw [e] at e'; cases e'
    exact ⟨e, f0, f1, f2, d⟩
theorem Inv.unpinned {pins pl : List (Addr × Obj)} {σ : St} {H : Hp} {s : Shared} (I : Inv X (pins ++ pl) σ H s) : Inv X pins σ H s := I.pins_of fun p hp => I.pin p (List.mem_append_right _ (List.mem_append_left _ hp))
theorem ps_for {iter : Expr} {body : List Stmt} {wi : TI} {g : TG} {tb : TS} {pos : Pos} (hp : PassesOwn (model X.prog X.w) X.A X.env X.xe) (hc : X.calm = true) (hi : PI X tg iter wi) (hg : PG X tg g) (hb : PSs X body tb)
    (hs : ∀ x, foldedSetIterable iter X.env x = pure x := by intro _; rfl) : PS X (.For tg iter body [] pos) (tFor wi g tb) := by
  intro pins s σ H D I h
  refine wpAny_For (thn (hi pins s σ H _ I h) fun v s1 h1 => thn h1 fun itv s2 h2 => ?_) hs
  obtain ⟨it, fp, tn, J, H2, e, I2, T, st2, f2, W, ⟨m0, w0⟩, turn⟩ := h2
  subst e
  have stat : ∀ {H' : Hp}, (∀ b ∈ fp, H' b = none) → ∀ b ∈ fp, FpOk X pins H' b := fun hn b hb => ⟨hn b hb, (f2 b hb).2⟩
  refine codeAny_forLoop_any (fun n s' => ∃ i σ' H', Inv X pins σ' H' s' ∧ tn i s'.heap ∧ (∀ b ∈ fp, H' b = none) ∧ W i n σ' H') ?_ m0 ⟨0, σ, H2, I2, st2, fun b hb => (f2 b hb).1, w0⟩
  rintro n s3 ⟨i, σ3, H3, I3, st3, fr3, w3⟩
  rcases turn i n σ3 H3 w3 with ⟨stop, qn⟩ | ⟨go, N, hN, step⟩
  · refine wpAny_passesOwn hp (thn (T.done X rfl rfl rfl hc i pins s3 σ3 H3 X.xe I3 (stat fr3) st3 stop) fun r s4 ⟨hr, I4⟩ => ?_)
    subst hr
    exact wpAny_execs_nil ⟨σ3, H3, I4, qn⟩
  · refine wpAny_passesOwn hp (thn (T.item X rfl rfl rfl hc i pins s3 σ3 H3 X.xe I3 (stat fr3) st3 go) fun r s4 ⟨u, hr, h4⟩ => ?_)
    subst hr
    refine wpAny_passesOwn hp (thn h4 fun _ s5 ⟨x, H5, I5, r5, y5, st5, fr5⟩ => ?_)
    have I5' := I5.pinned (stat fr5) (T.obj _ _ st5)
    refine wpAny_passesOwn hp (thn (hg _ s5 σ3 H5 x u _ I5' r5 (step x H5 y5)) fun _ s6 ⟨σ6, H6, I6, q6⟩ => ?_)
    refine wpAny_passesOwn hp (thn (hb _ s6 σ6 H6 _ I6 q6) fun f s7 q7 => ?_)
    have again : ∀ {σ7 : St} {H7 : Hp}, Inv X (pins ++ pinsAt fp s5.heap) σ7 H7 s7 → N σ7 H7 → ∃ m, m < n ∧ ∃ i σ' H', Inv X pins σ' H' s7 ∧ tn i s7.heap ∧ (∀ b ∈ fp, H' b = none) ∧ W i m σ' H' := fun {σ7 H7} I7 n7 => by
      obtain ⟨m', hm, w7⟩ := hN σ7 H7 n7
      refine ⟨m', hm, i + 1, σ7, H7, I7.unpinned, T.keep _ _ _ st5 fun b hb o e => (I7.pin (b, o) (List.mem_append_right _ (List.mem_append_right _ (mem_pinsAt hb e)))).1, fun b hb => ?_, w7⟩
      obtain ⟨o, e, d⟩ := T.obj _ _ st5 b hb
      exact (I7.pin (b, o) (List.mem_append_right _ (List.mem_append_right _ (mem_pinsAt hb e)))).2.1
    cases f with
    | next => obtain ⟨σ7, H7, I7, n7⟩ := q7; exact again I7 n7
    | cont => obtain ⟨σ7, H7, I7, n7⟩ := q7; exact again I7 n7
    | brk => obtain ⟨σ7, H7, I7, q7⟩ := q7; exact ⟨σ7, H7, I7.unpinned, q7⟩
    | ret v => obtain ⟨x7, σ7, H7, I7, r7, q7⟩ := q7; exact ⟨x7, σ7, H7, I7.unpinned, r7, q7⟩
end
theorem for_list {K : PySem.W.Frag} {a : Addr} {xs : List V} {g : TG} {tb : TS} {D : Ends} {σ : St} {H : Hp} (Pv : Nat → St → Hp → Prop) (h0 : Pv 0 σ H) (hl : ∀ i σ H, i ≤ xs.length → Pv i σ H → SqL K H a xs)
    (hs : ∀ i x σ H, xs[i]? = some x → Pv i σ H → g x σ H fun σ2 H2 => tb { D with nx := Pv (i + 1), ct := Pv (i + 1), bk := D.nx } σ2 H2) (hd : ∀ σ H, Pv xs.length σ H → D.nx σ H) :
    ∃ W : Nat → Nat → St → Hp → Prop, (∃ m, W 0 m σ H) ∧ ∀ i m σ H, W i m σ H →
      ((Itl K a).stop i H ∧ D.nx σ H) ∨ ((Itl K a).go i H ∧ ∃ N : St → Hp → Prop, (∀ σ' H', N σ' H' → ∃ m', m' < m ∧ W (i + 1) m' σ' H') ∧ ∀ x H', (Itl K a).yld i H x H' → g x σ H' fun σ2 H2 => tb { D with nx := N, ct := N, bk := D.nx } σ2 H2) := by
  refine ⟨fun i m σ H => m = xs.length - i ∧ i ≤ xs.length ∧ Pv i σ H, ⟨xs.length, by simp, Nat.zero_le _, h0⟩, ?_⟩
  rintro i m σ H ⟨rfl, hi, p⟩
  have q := hl i σ H hi p
  by_cases hlt : i < xs.length
  · refine .inr ⟨⟨xs, xs[i], q, by simp [hlt]⟩, Pv (i + 1), fun σ' H' p' => ⟨xs.length - (i + 1), by omega, rfl, hlt, p'⟩, fun x H' y => ?_⟩
    obtain ⟨e, y⟩ := y
    subst e
    exact hs i x σ _ (y xs q) p
  · have e : i = xs.length := by omega
    subst e
    exact .inl ⟨⟨xs, q, Nat.le_refl _⟩, hd σ H p⟩
theorem for_tup {K : PySem.W.Frag} {a : Addr} {xs : List V} {g : TG} {tb : TS} {D : Ends} {σ : St} {H : Hp} (Pv : Nat → St → Hp → Prop) (h0 : Pv 0 σ H) (hl : ∀ i σ H, i ≤ xs.length → Pv i σ H → SqT K H a xs)
    (hs : ∀ i x σ H, xs[i]? = some x → Pv i σ H → g x σ H fun σ2 H2 => tb { D with nx := Pv (i + 1), ct := Pv (i + 1), bk := D.nx } σ2 H2) (hd : ∀ σ H, Pv xs.length σ H → D.nx σ H) :
    ∃ W : Nat → Nat → St → Hp → Prop, (∃ m, W 0 m σ H) ∧ ∀ i m σ H, W i m σ H →
      ((Itt K a).stop i H ∧ D.nx σ H) ∨ ((Itt K a).go i H ∧ ∃ N : St → Hp → Prop, (∀ σ' H', N σ' H' → ∃ m', m' < m ∧ W (i + 1) m' σ' H') ∧ ∀ x H', (Itt K a).yld i H x H' → g x σ H' fun σ2 H2 => tb { D with nx := N, ct := N, bk := D.nx } σ2 H2) := by
  refine ⟨fun i m σ H => m = xs.length - i ∧ i ≤ xs.length ∧ Pv i σ H, ⟨xs.length, by simp, Nat.zero_le _, h0⟩, ?_⟩
  rintro i m σ H ⟨rfl, hi, p⟩
  have q := hl i σ H hi p
  by_cases hlt : i < xs.length
  · refine .inr ⟨⟨xs, xs[i], q, by simp [hlt]⟩, Pv (i + 1), fun σ' H' p' => ⟨xs.length - (i + 1), by omega, rfl, hlt, p'⟩, fun x H' y => ?_⟩
    obtain ⟨e, y⟩ := y
    subst e
    exact hs i x σ _ (y xs q) p
  · have e : i = xs.length := by omega
    subst e
    exact .inl ⟨⟨xs, q, Nat.le_refl _⟩, hd σ H p⟩
theorem for_range {lo : Int} {n : Nat} {g : TG} {tb : TS} {D : Ends} {σ : St} {H : Hp} (Pv : Nat → St → Hp → Prop) (h0 : Pv 0 σ H)
    (hs : ∀ i σ H, i < n → Pv i σ H → g (.int (lo + i)) σ H fun σ2 H2 => tb { D with nx := Pv (i + 1), ct := Pv (i + 1), bk := D.nx } σ2 H2) (hd : ∀ σ H, Pv n σ H → D.nx σ H) :
    ∃ W : Nat → Nat → St → Hp → Prop, (∃ m, W 0 m σ H) ∧ ∀ i m σ H, W i m σ H →
      ((Itr lo n).stop i H ∧ D.nx σ H) ∨ ((Itr lo n).go i H ∧ ∃ N : St → Hp → Prop, (∀ σ' H', N σ' H' → ∃ m', m' < m ∧ W (i + 1) m' σ' H') ∧ ∀ x H', (Itr lo n).yld i H x H' → g x σ H' fun σ2 H2 => tb { D with nx := N, ct := N, bk := D.nx } σ2 H2) := by
  refine ⟨fun i m σ H => m = n - i ∧ i ≤ n ∧ Pv i σ H, ⟨n, by simp, Nat.zero_le _, h0⟩, ?_⟩
  rintro i m σ H ⟨rfl, hi, p⟩
  by_cases hlt : i < n
  · refine .inr ⟨hlt, Pv (i + 1), fun σ' H' p' => ⟨n - (i + 1), by omega, rfl, hlt, p'⟩, fun x H' y => ?_⟩
    obtain ⟨e, y⟩ := y
    subst e y
    exact hs i σ _ hlt p
  · have e : i = n := by omega
    subst e
    exact .inl ⟨Nat.le_refl _, hd σ H p⟩
end L2
namespace L2
open PySem PySem.Spec PyProof.Rows
abbrev R2 := V → V → Hp → VK → Prop
def OpR (X : Cx) (f : Value → Value → Sem Value) (r : R2) : Prop :=
  ∀ (pins : List (Addr × Obj)) (s : Shared) (σ : St) (H : Hp) (x y : V) (v u : Value) (Q : VK), Inv X pins σ H s → RelV x v → RelV y u → r x y H Q →
    wpAny (model X.prog X.w) X.A (f v u) (EP X pins σ Q) X.xe s
def UnR (X : Cx) (f : Value → Sem Value) (r : V → Hp → VK → Prop) : Prop :=
  ∀ (pins : List (Addr × Obj)) (s : Shared) (σ : St) (H : Hp) (x : V) (v : Value) (Q : VK), Inv X pins σ H s → RelV x v → r x H Q →
    wpAny (model X.prog X.w) X.A (f v) (EP X pins σ Q) X.xe s
def CallR (X : Cx) (f : Value) (r : List V → Hp → VK → Prop) : Prop :=
  ∀ (pins : List (Addr × Obj)) (s : Shared) (σ : St) (H : Hp) (xs : List V) (us : List Value) (Q : VK), Inv X pins σ H s → Vals xs us → r xs H Q →
    wpAny (model X.prog X.w) X.A (call f us) (EP X pins σ Q) X.xe s
def TruR (X : Cx) (r : V → Hp → (Bool → Hp → Prop) → Prop) : Prop :=
  ∀ (pins : List (Addr × Obj)) (s : Shared) (σ : St) (H : Hp) (x : V) (v : Value) (Q : Bool → Hp → Prop), Inv X pins σ H s → RelV x v → r x H Q →
    wpAny (model X.prog X.w) X.A (truthy v) (TP X pins σ Q) X.xe s
def tOp (r : R2) (ta tb : TE) : TE := fun σ H Q => ta σ H fun x H1 => tb σ H1 fun y H2 => r x y H2 Q
def tUn (r : V → Hp → VK → Prop) (ta : TE) : TE := fun σ H Q => ta σ H fun x H1 => r x H1 Q
def rI (C : Int → Int → Prop) (g : Int → Int → V) : R2 := fun x y H Q => ∃ i j, x = .int i ∧ y = .int j ∧ C i j ∧ Q (g i j) H
def rI0 (g : Int → Int → V) : R2 := fun x y H Q => ∃ i j, x = .int i ∧ y = .int j ∧ Q (g i j) H
def rU (g : Int → V) : V → Hp → VK → Prop := fun x H Q => ∃ i, x = .int i ∧ Q (g i) H
section
variable {X : Cx} {a b c : Expr} {ta tb tc : TE} {pos : Pos}
theorem binT (ha : PE X a ta) (hb : PE X b tb) {pins : List (Addr × Obj)} {s : Shared} {σ : St} {H : Hp} {R : V → V → Hp → Prop} (I : Inv X pins σ H s)
    (h : ta σ H fun x H1 => tb σ H1 fun y H2 => R x y H2) {Q : Value → Shared → Prop} {f : Value → Value → Sem Value}
    (hf : ∀ v u s2 x y H2, Inv X pins σ H2 s2 → RelV x v → RelV y u → R x y H2 → wpAny (model X.prog X.w) X.A (f v u) Q X.xe s2) :
    wpAny (model X.prog X.w) X.A (eval a X.env) (fun v s₁ => wpAny (model X.prog X.w) X.A (eval b X.env) (fun u s₂ => wpAny (model X.prog X.w) X.A (f v u) Q X.xe s₂) X.xe s₁) X.xe s := by
  refine thn (ha pins s σ H _ I h) fun v s1 ⟨x, H1, I1, r1, q1⟩ => ?_
  refine thn (hb pins s1 σ H1 _ I1 q1) fun u s2 ⟨y, H2, I2, r2, q2⟩ => ?_
  exact hf v u s2 x y H2 I2 r1 r2 q2
theorem pe_op {op : Operator} {r : R2} (ho : OpR X (binaryOp op) r) (ha : PE X a ta) (hb : PE X b tb) : PE X (.BinOp a op b pos) (tOp r ta tb) := by
  intro pins s σ H Q I h
  exact wpAny_BinOp (binT ha hb I h fun v u s2 x y H2 I2 rx ry q => ho pins s2 σ H2 x y v u Q I2 rx ry q)
theorem pe_un {op : UnaryOp} {r : V → Hp → VK → Prop} (ho : UnR X (unaryOp op) r) (ha : PE X a ta) : PE X (.UnaryOp op a pos) (tUn r ta) := by
  intro pins s σ H Q I h
  exact UnaryOp_ (thn (ha pins s σ H _ I h) fun v s1 ⟨x, H1, I1, r1, q1⟩ => ho pins s1 σ H1 x v Q I1 r1 q1)
theorem opI {f : Value → Value → Sem Value} {C : Int → Int → Prop} {g : Int → Int → Int}
    (rule : ∀ (i j : Int) (t u : Tok) (s : Shared) (Q : Value → Shared → Prop) (E : Value → Shared → Prop), C i j → Q (.int (g i j) s.toks) { s with toks := s.toks + 1 } → wpAny (model X.prog X.w) X.A (f (.int i t) (.int j u)) Q E s) :
    OpR X f (rI C fun i j => .int (g i j)) := by
  intro pins s σ H x y v u Q I rx ry h
  obtain ⟨i, j, rfl, rfl, hc, q⟩ := h
  obtain ⟨t, rfl⟩ := rx
  obtain ⟨t', rfl⟩ := ry
  exact rule i j t t' s _ _ hc ⟨.int (g i j), H, I.tok _, ⟨_, rfl⟩, q⟩
theorem opI0 {f : Value → Value → Sem Value} {g : Int → Int → Int}
    (rule : ∀ (i j : Int) (t u : Tok) (s : Shared) (Q : Value → Shared → Prop) (E : Value → Shared → Prop), Q (.int (g i j) s.toks) { s with toks := s.toks + 1 } → wpAny (model X.prog X.w) X.A (f (.int i t) (.int j u)) Q E s) :
    OpR X f (rI0 fun i j => .int (g i j)) := by
  intro pins s σ H x y v u Q I rx ry h
  obtain ⟨i, j, rfl, rfl, q⟩ := h
  obtain ⟨t, rfl⟩ := rx
  obtain ⟨t', rfl⟩ := ry
  exact rule i j t t' s _ _ ⟨.int (g i j), H, I.tok _, ⟨_, rfl⟩, q⟩
theorem opB0 {f : Value → Value → Sem Value} {g : Int → Int → Bool}
    (rule : ∀ (i j : Int) (t u : Tok) (s : Shared) (Q : Value → Shared → Prop) (E : Value → Shared → Prop), Q (.bool (g i j)) s → wpAny (model X.prog X.w) X.A (f (.int i t) (.int j u)) Q E s) :
    OpR X f (rI0 fun i j => .bl (g i j)) := by
  intro pins s σ H x y v u Q I rx ry h
  obtain ⟨i, j, rfl, rfl, q⟩ := h
  obtain ⟨t, rfl⟩ := rx
  obtain ⟨t', rfl⟩ := ry
  exact rule i j t t' s _ _ ⟨.bl (g i j), H, I, rfl, q⟩
def CDiv (i j : Int) : Prop := 0 < j ∧ j < 1073741824
def CMul (i j : Int) : Prop := (-(2 ^ 64) < i ∧ i < 2 ^ 64) ∨ (-(2 ^ 64) < j ∧ j < 2 ^ 64)
theorem CMul.ok {i j : Int} (h : CMul i j) : IntMulOk i j := by
  rcases h with ⟨h1, h2⟩ | ⟨h1, h2⟩
  · exact .of_left (intBits_le_64 h1 h2)
  · exact .of_right (intBits_le_64 h1 h2)
theorem op_add : OpR X (binaryOp .Add) (rI0 fun i j => .int (i + j)) := opI0 fun _ _ _ _ _ _ _ q => add_int q
theorem op_sub : OpR X (binaryOp .Sub) (rI0 fun i j => .int (i - j)) := opI0 fun _ _ _ _ _ _ _ q => sub_int q
theorem op_mul : OpR X (binaryOp .Mult) (rI CMul fun i j => .int (i * j)) := opI fun _ _ _ _ _ _ _ hc q => mul_int q hc.ok
theorem op_fdiv : OpR X (binaryOp .FloorDiv) (rI CDiv fun i j => .int (i / j)) := opI fun i j _ _ _ _ _ hc q => by
  have h1 : (0 : Int) < j := hc.1
  have h2 : j < 1073741824 := hc.2
  exact floordiv_int (by omega) (by rw [Int.fdiv_eq_ediv_of_nonneg i (by omega)]; exact q) (.inl (PyProof.noPylong_small (by omega)))
theorem op_mod : OpR X (binaryOp .Mod) (rI (fun _ j => 0 < j) fun i j => .int (i % j)) := opI fun i j _ _ _ _ _ hc q => by
  have h1 : (0 : Int) < j := hc
  exact mod_int' (by omega) (by rw [Int.fmod_eq_emod_of_nonneg i (by omega)]; exact q)
theorem unI {f : Value → Sem Value} {g : Int → Int}
    (rule : ∀ (i : Int) (t : Tok) (s : Shared) (Q : Value → Shared → Prop) (E : Value → Shared → Prop), Q (.int (g i) s.toks) { s with toks := s.toks + 1 } → wpAny (model X.prog X.w) X.A (f (.int i t)) Q E s) :
    UnR X f (rU fun i => .int (g i)) := by
  intro pins s σ H x v Q I rx h
  obtain ⟨i, rfl, q⟩ := h
  obtain ⟨t, rfl⟩ := rx
  exact rule i t s _ _ ⟨.int (g i), H, I.tok _, ⟨_, rfl⟩, q⟩
theorem un_neg : UnR X (unaryOp .USub) (rU fun i => .int (-i)) := unI fun _ _ _ _ _ q => neg_int q
end
def scal : V → V → Bool
  | .non, .non => true | .non, .int _ => true | .int _, .non => true | .non, .bl _ => true | .bl _, .non => true | .non, .str _ => true | .str _, .non => true
  | .int _, .int _ => true | .bl _, .bl _ => true | .str _, .str _ => true | .byt _, .byt _ => true
  | .int _, .str _ => true | .str _, .int _ => true | .bl _, .str _ => true | .str _, .bl _ => true
  | _, _ => false
def rEq : R2 := fun x y H Q => scal x y = true ∧ Q (.bl (decide (x = y))) H
def rNe : R2 := fun x y H Q => scal x y = true ∧ Q (.bl (!decide (x = y))) H
theorem dec_int {i j : Int} : decide (V.int i = V.int j) = (i == j) := by
  rw [Bool.eq_iff_iff]
  simp
theorem dec_bl {i j : Bool} : decide (V.bl i = V.bl j) = (i == j) := by
  rw [Bool.eq_iff_iff]
  simp
theorem dec_str {i j : Str} : decide (V.str i = V.str j) = (i == j) := by
  rw [Bool.eq_iff_iff]
  simp
theorem dec_byt {i j : Array UInt8} : decide (V.byt i = V.byt j) = (i.toList == j.toList) := by
  rw [Bool.eq_iff_iff]
  cases i
  cases j
  simp
section
variable {X : Cx} {a b c : Expr} {ta tb tc : TE} {pos : Pos}
theorem fin_bl {pins : List (Addr × Obj)} {σ : St} {H : Hp} {s : Shared} {Q : VK} {k k' : Bool} (I : Inv X pins σ H s) (q : Q (.bl k) H) (e : k = k') : EP X pins σ Q (.bool k') s := by
  subst e
  exact ⟨.bl k, H, I, rfl, q⟩
theorem op_eq : OpR X (compareOp .Eq) rEq := by
  intro pins s σ H x y v u Q I rx ry h
  obtain ⟨hs, q⟩ := h
  cases x with
  | non =>
    cases rx
    cases y with
    | non => cases ry; exact PySem.EqNone.eq_none_none (fin_bl I q (by simp))
    | bl j => cases ry; exact PySem.EqNone.eq_none_bool (fin_bl I q (by simp))
    | int j => obtain ⟨t', rfl⟩ := ry; exact PySem.EqNone.eq_none_int (fin_bl I q (by simp))
    | str j => obtain ⟨t', rfl⟩ := ry; exact PySem.EqNone.eq_none_str (fin_bl I q (by simp))
    | _ => exact absurd (show false = true from hs) Bool.false_ne_true
  | bl i =>
    cases rx
    cases y with
    | non => cases ry; exact PySem.EqNone.eq_bool_none (fin_bl I q (by simp))
    | bl j => cases ry; exact eq_bool (fin_bl I q dec_bl)
    | str j => obtain ⟨t', rfl⟩ := ry; exact PySem.EqMixed.eq_bool_str (fin_bl I q (by simp))
    | _ => exact absurd (show false = true from hs) Bool.false_ne_true
  | int i =>
    obtain ⟨t, rfl⟩ := rx
    cases y with
    | non => cases ry; exact PySem.EqNone.eq_int_none (fin_bl I q (by simp))
    | int j => obtain ⟨t', rfl⟩ := ry; exact eq_int (fin_bl I q dec_int)
    | str j => obtain ⟨t', rfl⟩ := ry; exact PySem.EqMixed.eq_int_str (fin_bl I q (by simp))
    | _ => exact absurd (show false = true from hs) Bool.false_ne_true
  | str i =>
    obtain ⟨t, rfl⟩ := rx
    cases y with
    | non => cases ry; exact PySem.EqNone.eq_str_none (fin_bl I q (by simp))
    | bl j => cases ry; exact PySem.EqMixed.eq_str_bool (fin_bl I q (by simp))
    | int j => obtain ⟨t', rfl⟩ := ry; exact PySem.EqMixed.eq_str_int (fin_bl I q (by simp))
    | str j => obtain ⟨t', rfl⟩ := ry; exact eq_str (fin_bl I q dec_str)
    | _ => exact absurd (show false = true from hs) Bool.false_ne_true
  | byt i =>
    obtain ⟨t, rfl⟩ := rx
    cases y with
    | byt j => obtain ⟨t', rfl⟩ := ry; exact PySem.W.eq_bytes (fin_bl I q dec_byt)
    | _ => exact absurd (show false = true from hs) Bool.false_ne_true
  | _ => cases y <;> exact absurd (show false = true from hs) Bool.false_ne_true
theorem op_ne : OpR X (compareOp .NotEq) rNe := by
  intro pins s σ H x y v u Q I rx ry h
  obtain ⟨hs, q⟩ := h
  cases x with
  | non =>
    cases rx
    cases y with
    | non => cases ry; exact PySem.EqNone.ne_none_none (fin_bl I q (by simp))
    | bl j => cases ry; exact PySem.EqNone.ne_none_bool (fin_bl I q (by simp))
    | int j => obtain ⟨t', rfl⟩ := ry; exact PySem.EqNone.ne_none_int (fin_bl I q (by simp))
    | str j => obtain ⟨t', rfl⟩ := ry; exact PySem.EqNone.ne_none_str (fin_bl I q (by simp))
    | _ => exact absurd (show false = true from hs) Bool.false_ne_true
  | bl i =>
    cases rx
    cases y with
    | non => cases ry; exact PySem.EqNone.ne_bool_none (fin_bl I q (by simp))
    | bl j => cases ry; exact ne_bool (fin_bl I q (congrArg not dec_bl))
    | str j => obtain ⟨t', rfl⟩ := ry; exact PySem.EqMixed.ne_bool_str (fin_bl I q (by simp))
    | _ => exact absurd (show false = true from hs) Bool.false_ne_true
  | int i =>
    obtain ⟨t, rfl⟩ := rx
    cases y with
    | non => cases ry; exact PySem.EqNone.ne_int_none (fin_bl I q (by simp))
    | int j => obtain ⟨t', rfl⟩ := ry; exact ne_int (fin_bl I q (congrArg not dec_int))
    | str j => obtain ⟨t', rfl⟩ := ry; exact PySem.EqMixed.ne_int_str (fin_bl I q (by simp))
    | _ => exact absurd (show false = true from hs) Bool.false_ne_true
  | str i =>
    obtain ⟨t, rfl⟩ := rx
    cases y with
    | non => cases ry; exact PySem.EqNone.ne_str_none (fin_bl I q (by simp))
    | bl j => cases ry; exact PySem.EqMixed.ne_str_bool (fin_bl I q (by simp))
    | int j => obtain ⟨t', rfl⟩ := ry; exact PySem.EqMixed.ne_str_int (fin_bl I q (by simp))
    | str j => obtain ⟨t', rfl⟩ := ry; exact ne_str (fin_bl I q (congrArg not dec_str))
    | _ => exact absurd (show false = true from hs) Bool.false_ne_true
  | byt i =>
    obtain ⟨t, rfl⟩ := rx
    cases y with
    | byt j => obtain ⟨t', rfl⟩ := ry; exact PySem.W.ne_bytes (fin_bl I q (congrArg not dec_byt))
    | _ => exact absurd (show false = true from hs) Bool.false_ne_true
  | _ => cases y <;> exact absurd (show false = true from hs) Bool.false_ne_true
theorem op_lt : OpR X (compareOp .Lt) (rI0 fun i j => .bl (decide (i < j))) := opB0 fun _ _ _ _ _ _ _ q => lt_int q
theorem op_gt : OpR X (compareOp .Gt) (rI0 fun i j => .bl (decide (j < i))) := opB0 fun _ _ _ _ _ _ _ q => gt_int q
theorem op_isN : OpR X (compareOp .Is) (fun x y H Q => y = .non ∧ Q (.bl (decide (x = .non))) H) := by
  intro pins s σ H x y v u Q I rx ry h
  obtain ⟨rfl, q⟩ := h
  cases ry
  refine is_none_gen (fin_bl I q ?_)
  cases x <;> first
    | (cases rx; rfl)
    | (obtain ⟨t, rfl⟩ := rx; rfl)
theorem op_notN : OpR X (compareOp .IsNot) (fun x y H Q => y = .non ∧ Q (.bl (!decide (x = .non))) H) := by
  intro pins s σ H x y v u Q I rx ry h
  obtain ⟨rfl, q⟩ := h
  cases ry
  refine isnot_none_gen (fin_bl I q ?_)
  cases x <;> first
    | (cases rx; rfl)
    | (obtain ⟨t, rfl⟩ := rx; rfl)
theorem nomark (b : Expr) {op : CmpOp} (h : op ≠ .In := by decide) (h2 : op ≠ .NotIn := by decide) : behindInMarks op b = false := by
  have e1 : (op == CmpOp.In) = false := by cases op <;> first | rfl | exact absurd rfl h
  have e2 : (op == CmpOp.NotIn) = false := by cases op <;> first | rfl | exact absurd rfl h2
  cases b <;> simp [behindInMarks, e1, e2]
theorem pe_cmpR {op : CmpOp} {r : R2} (ho : OpR X (compareOp op) r) (ha : PE X a ta) (hb : PE X b tb) (hm : behindInMarks op b = false) : PE X (.Compare a [op] [b] pos) (tOp r ta tb) := by
  intro pins s σ H Q I h
  exact wpAny_Compare1 (binT ha hb I h fun v u s2 x y H2 I2 rx ry q => ho pins s2 σ H2 x y v u Q I2 rx ry q) hm
def tTest (t : TE) : TT := fun σ H Q => t σ H fun x H' => ∃ k, x = .bl k ∧ Q k H'
theorem pt_cmpR {op : CmpOp} {r : R2} (ho : OpR X (compareOp op) r) (ha : PE X a ta) (hb : PE X b tb) (hm : behindInMarks op b = false) : PT X (.Compare a [op] [b] pos) (tTest (tOp r ta tb)) := by
  intro pins s σ H Q I h
  refine wpAny_isTrue_Compare1 (thn (ha pins s σ H _ I h) fun v s1 ⟨x, H1, I1, r1, q1⟩ => thn (hb pins s1 σ H1 _ I1 q1) fun u s2 ⟨y, H2, I2, r2, q2⟩ =>
    thn (ho pins s2 σ H2 x y v u _ I2 r1 r2 q2) fun c s3 ⟨z, H3, I3, r3, k, e, q3⟩ => ?_) hm
  subst e
  cases r3
  exact wpAny_truthy_bool ⟨H3, I3, q3⟩
def TruV (K : PySem.W.Frag) (x : V) (H : Hp) (k : Bool) : Prop :=
  match x with
  | .non => k = false
  | .bl b => k = b
  | .int i => k = (i != 0)
  | .str y => y.length ≤ sizeLine ∧ k = ((y.length : Int) != 0)
  | .byt y => y.size ≤ sizeLine ∧ k = ((y.size : Int) != 0)
  | .ref p => (∃ xs, SqL K H p xs ∧ k = !xs.isEmpty) ∨ (∃ xs, SqT K H p xs ∧ k = !xs.isEmpty) ∨ ∃ kvs, H p = some (.dK kvs) ∧ k = !kvs.isEmpty
  | _ => False
theorem isEmpty_kv {κ : Type} {kvs : List (κ × V)} {vs : List (κ × Value)} (r : KV kvs vs) : (!vs.isEmpty) = !kvs.isEmpty := by
  cases r <;> rfl
theorem isEmpty_of {xs : List V} {its : List Value} (r : Vals xs its) : (!its.toArray.isEmpty) = !xs.isEmpty := by
  cases r <;> simp
theorem line63 : (sizeLine : Nat) < 2 ^ 63 := by rw [sizeLine_eq]; decide
theorem tru_ok : TruR X (fun x H Q => ∃ k, TruV X.K x H k ∧ Q k H) := by
  intro pins s σ H x v Q I rx h
  obtain ⟨k, e, q⟩ := h
  have hl := line63
  have hs : sizeLine = 16777216 := sizeLine_eq
  cases x with
  | non =>
    cases rx
    have e' : k = false := e
    subst e'
    exact truthy_none ⟨H, I, q⟩
  | bl b =>
    cases rx
    have e' : k = b := e
    subst e'
    exact wpAny_truthy_bool ⟨H, I, q⟩
  | int i =>
    obtain ⟨t, rfl⟩ := rx
    have e' : k = (i != 0) := e
    subst e'
    exact PySem.P.truthy_int ⟨H, I, q⟩
  | str y =>
    obtain ⟨t, rfl⟩ := rx
    obtain ⟨hy, e'⟩ : y.length ≤ sizeLine ∧ k = ((y.length : Int) != 0) := e
    subst e'
    exact PySem.P.truthy_str (by omega) ⟨H, I.tok _, q⟩
  | byt y =>
    obtain ⟨t, rfl⟩ := rx
    obtain ⟨hy, e'⟩ : y.size ≤ sizeLine ∧ k = ((y.size : Int) != 0) := e
    subst e'
    exact PySem.W.truthy_bytes (by omega) ⟨H, I.tok _, q⟩
  | ref p =>
    cases rx
    have e' : (∃ xs, SqL X.K H p xs ∧ k = !xs.isEmpty) ∨ (∃ xs, SqT X.K H p xs ∧ k = !xs.isEmpty) ∨ ∃ kvs, H p = some (.dK kvs) ∧ k = !kvs.isEmpty := e
    rcases e' with ⟨xs, hx, e'⟩ | ⟨xs, hx, e'⟩ | ⟨kvs, hx, e'⟩
    · subst e'
      obtain ⟨its, r, pl, hz⟩ := I.list hx
      have hlen := r.length
      exact wpAny_truthy_list pl.isList (by simp only [List.size_toArray]; omega) ⟨H, I.tok _, by rw [isEmpty_of r]; exact q⟩
    · subst e'
      obtain ⟨its, r, pl, hz⟩ := I.tuple hx
      have hlen := r.length
      exact truthy_tuple pl (by simp only [List.size_toArray]; omega) ⟨H, I.tok _, by rw [isEmpty_of r]; exact q⟩
    · subst e'
      obtain ⟨hz, hS, vs, r, m⟩ : kvs.length ≤ sizeLine ∧ (p == sysModules) = false ∧ ∃ vs, KV kvs vs ∧ s.heap.DictOf (mixKind X.prog X.w) p vs := I.hok p _ hx
      have hlen : kvs.length = vs.length := Paired.length r
      exact wpAny_truthy_dict hS m (by omega) ⟨H, I.tok _, by rw [isEmpty_kv r]; exact q⟩
  | _ => exact (show False from e).elim
theorem pt_truth (ha : PE X a ta) (he : ∀ whole, isTrue a X.env whole = (do let v ← whole; standAt a.pos; holding [v] (truthy v))) :
    PT X a (fun σ H Q => ta σ H fun x H' => ∃ k, TruV X.K x H' k ∧ Q k H') := by
  intro pins s σ H Q I h
  exact isTrue_plain (thn (ha pins s σ H _ I h) fun v s1 ⟨x, H1, I1, r1, q1⟩ => tru_ok pins s1 σ H1 x v Q I1 r1 q1) (he _)
theorem op_add_str : OpR X (binaryOp .Add) (fun x y H Q => ∃ i j, x = .str i ∧ y = .str j ∧ i.length + j.length ≤ sizeLine ∧ Q (.str (i ++ j)) H) := by
  intro pins s σ H x y v u Q I rx ry h
  obtain ⟨i, j, rfl, rfl, hz, q⟩ := h
  obtain ⟨t, rfl⟩ := rx
  obtain ⟨t', rfl⟩ := ry
  exact add_str (fun t' tk => ⟨.str (i ++ j), H, I.tok _, ⟨_, rfl⟩, q⟩) hz
theorem vals1 {x : V} {us : List Value} (r : Vals [x] us) : ∃ u, us = [u] ∧ RelV x u := by
  cases r with
  | cons r1 r2 => cases r2; exact ⟨_, rfl, r1⟩
theorem vals2 {x y : V} {us : List Value} (r : Vals [x, y] us) : ∃ u w', us = [u, w'] ∧ RelV x u ∧ RelV y w' := by
  cases r with
  | cons r1 r2 =>
    cases r2 with
    | cons r3 r4 => cases r4; exact ⟨_, _, rfl, r1, r3⟩
end
end L2
namespace L2
open PySem PySem.Spec PyProof.Rows
structure ObjM (h : Heap) (x dx C : Addr) (mA : Str → Option Value) : Prop where
  obj : h.get? x = some (PySem.W.instObj C dx)
  ns : h.Ns1 dx mA
  ne : dx ≠ x
theorem lookIn_ns {h : Heap} {dx : Addr} {mA : Str → Option Value} (n : h.Ns1 dx mA) : ∃ od, h.get? dx = some od ∧ ∀ name, PySem.W.lookIn name od = some (mA name) := by
  obtain ⟨o, es, ep, ho, hd, hk, _, hm⟩ := n
  refine ⟨o, ho, fun name => ?_⟩
  have e := hm name
  unfold nsFind findBy at e
  rw [← Array.find?_toList] at e
  unfold PySem.W.lookIn
  rw [hd]
  dsimp only
  split
  · rename_i y q
    rw [q] at e
    exact congrArg some e
  · rename_i q
    rw [q] at e
    have a : es.toList.any (·.refKey) = false := by
      rw [List.any_eq_false]
      intro y hy
      obtain ⟨z, t, hkey⟩ := hk y (Array.mem_toList_iff.mp hy)
      simp [DictEntry.refKey, hkey]
    have a' : ¬ es.toList.any (·.refKey) = true := by rw [a]; exact Bool.false_ne_true
    rw [if_neg a']
    exact congrArg some e
theorem ObjM.look {h : Heap} {x dx C : Addr} {mA : Str → Option Value} (I : ObjM h x dx C mA) : ∃ od, PySem.W.InstAt h x (PySem.W.instObj C dx) C (some od) ∧ ∀ name, PySem.W.lookIn name od = some (mA name) :=
  let ⟨od, ho, hl⟩ := lookIn_ns I.ns
  ⟨od, ⟨I.obj, rfl, rfl, ho⟩, hl⟩
section
variable {prog : Program} {w : World} {A : Around} {E : Value → Shared → Prop} {s : Shared} {K : PySem.W.Frag} {x dx C f : Addr} {mA : Str → Option Value} {name : Str} {v : Value}
end
theorem RelO.some_of {v : V} {o : Option Value} (r : RelO (some v) o) : ∃ u, o = some u ∧ RelV v u := by
  cases o with
  | none => exact (show False from r).elim
  | some u => exact ⟨u, rfl, r⟩
section
variable {P : Program} {w : World} {H H' : Hp} {h h' : Heap} {a C dx : Addr} {fs fs' : List (Str × V)}
theorem ins_get (hok : HOk P w H h) (e : H a = some (.ins C dx fs)) : ∃ mA, ObjM h a dx C mA ∧ (∀ f, RelO (fs.lookup f) (mA f)) ∧ PySem.Within mA (fs.map (·.1)) ∧ fs.length ≤ 1000 ∧ H dx = some (.own a) := by
  obtain ⟨d, z, ne, ob, mA, n, r, q⟩ := (show ObjOk P w H h a (.ins C dx fs) from hok a _ e)
  exact ⟨mA, ⟨ob, n, ne⟩, r, q, z, d⟩
end
structure Cls (K : PySem.W.Frag) (C : Addr) : Prop where
  pg : PySem.W.plainGet K C Str.empty = true
  hd : PySem.W.hasDictIn K C = true
  po : PySem.W.plainOver K C = true
  sa : PySem.W.findIn K (.ref C) "__setattr__" = some (some (.builtin "object.__setattr__"))
theorem Cls.get {K : PySem.W.Frag} {C : Addr} (c : Cls K C) (f : Str) : PySem.W.plainGet K C f = true := c.pg
section
variable {X : Cx} {pins : List (Addr × Obj)} {σ : St} {H : Hp} {s : Shared} {a C dx : Addr} {fs : List (Str × V)} {f : Str} {v : V} {A : Around} {E : Value → Shared → Prop}
end
section
variable {X : Cx} {o e value : Expr} {f : Str} {pos pos' tpos : Pos} {ta tv : TE}
end
section
variable {X : Cx} {pins : List (Addr × Obj)} {σ : St} {H : Hp} {s : Shared} {A : Around} {E : Value → Shared → Prop} {Q : Value → Shared → Prop} {c : Value} {b : Bool}
inductive TyOf (K : PySem.W.Frag) (H : Hp) : V → Value → Prop where
  | non : TyOf K H .non (.type "NoneType")
  | bl (x : Bool) : TyOf K H (.bl x) (.type "bool")
  | int (i : Int) : TyOf K H (.int i) (.type "int")
  | str (x : Str) : TyOf K H (.str x) (.type "str")
  | flt (x : UInt64) : TyOf K H (.flt x) (.type "float")
  | lst {a : Addr} {xs : List V} (e : H a = some (.lst xs)) : TyOf K H (.ref a) (.type "list")
  | frz {a : Addr} {o : Obj} {xs : List V} (e : H a = some (.frz o (.lst xs))) : TyOf K H (.ref a) (.type "list")
  | tup {a : Addr} {xs : List V} (e : H a = some (.tup xs)) : TyOf K H (.ref a) (.type "tuple")
  | dK {a : Addr} {kvs : List (Key × V)} (e : H a = some (.dK kvs)) : TyOf K H (.ref a) (.type "dict")
  | dT {a : Addr} {kvs : List (List Key × V)} (e : H a = some (.dT kvs)) : TyOf K H (.ref a) (.type "dict")
  | ins {a C dx : Addr} {fs : List (Str × V)} (e : H a = some (.ins C dx fs)) (cl : Cls K C) (ha : PySem.W.findIn K (.ref C) "__class__" = some (some (.builtin "object.__class__")))
      (hn : PySem.W.specialIn K (.builtin "object.__class__") "__get__" = some (some (.builtin "getset_descriptor.__get__"))) (htk : PySem.W.takesIn K (.builtin "object.__class__") = some true)
      (hm : PySem.W.mroIn K C (.type "object") = some true) : TyOf K H (.ref a) (.ref C)
theorem isinst_ok {x : V} {u t : Value} (I : Inv X pins σ H s) (rx : RelV x u) (ty : TyOf X.K H x t) (e : PySem.W.kitOne X.K t c = some b) (h : ∀ tk, Q (.bool b) { s with toks := tk }) :
    wpAny (model X.prog X.w) A (call (.builtin "isinstance") [u, c]) Q E s := by
  cases ty with
  | non => cases (show u = Value.none from rx); exact PySem.W.kia_one PySem.W.kitx_none I.kIn True.intro e (fun z => nomatch z) h
  | bl y => cases (show u = Value.bool y from rx); exact PySem.W.kia_one PySem.W.kitx_bool I.kIn True.intro e (fun z => nomatch z) h
  | int i => obtain ⟨t, q⟩ := (show ∃ t, u = Value.int i t from rx); cases q; exact PySem.W.kia_one PySem.W.kitx_int I.kIn True.intro e (fun z => nomatch z) h
  | str y => obtain ⟨t, q⟩ := (show ∃ t, u = Value.str y t from rx); cases q; exact PySem.W.kia_one PySem.W.kitx_str I.kIn True.intro e (fun z => nomatch z) h
  | flt y => obtain ⟨t, q⟩ := (show ∃ t, u = Value.float y t from rx); cases q; exact PySem.W.kia_one PySem.W.kitx_float I.kIn True.intro e (fun z => nomatch z) h
  | @lst a xs ea =>
    cases (show u = Value.ref a from rx)
    obtain ⟨_, _, n, _, h1⟩ := (show ObjOk X.prog X.w H s.heap a (.lst xs) from I.hok a _ ea)
    exact PySem.W.kia_one PySem.W.kitx_list I.kIn ⟨_, h1, rfl⟩ e (fun z => nomatch z) h
  | @frz a ob xs ea =>
    cases (show u = Value.ref a from rx)
    obtain ⟨_, _, _, n, _, h1⟩ := (show ObjOk X.prog X.w H s.heap a (.frz ob (.lst xs)) from I.hok a _ ea)
    exact PySem.W.kia_one PySem.W.kitx_list I.kIn ⟨_, h1, rfl⟩ e (fun z => nomatch z) h
  | @tup a xs ea =>
    cases (show u = Value.ref a from rx)
    obtain ⟨_, _, _, p⟩ := (show ObjOk X.prog X.w H s.heap a (.tup xs) from I.hok a _ ea)
    obtain ⟨o, h1, h2, _⟩ := p
    exact PySem.W.kia_one PySem.W.kitx_tuple I.kIn ⟨o, h1, h2⟩ e (fun z => nomatch z) h
  | @dK a kvs ea =>
    cases (show u = Value.ref a from rx)
    obtain ⟨_, _, vs, _, p⟩ := (show ObjOk X.prog X.w H s.heap a (.dK kvs) from I.hok a _ ea)
    obtain ⟨o, es, ep, h1, h2, _⟩ := p
    exact PySem.W.kia_one PySem.W.kitx_dict I.kIn ⟨o, h1, h2.1⟩ e (fun z => nomatch z) h
  | @dT a kvs ea =>
    cases (show u = Value.ref a from rx)
    obtain ⟨_, _, xs, _, o, es, ep, h1, h2, _⟩ := (show ObjOk X.prog X.w H s.heap a (.dT kvs) from I.hok a _ ea)
    exact PySem.W.kia_one PySem.W.kitx_dict I.kIn ⟨o, h1, h2.1⟩ e (fun z => nomatch z) h
  | @ins a C dx fs ea cl ha hn htk hm =>
    cases (show u = Value.ref a from rx)
    obtain ⟨mA, O, _⟩ := ins_get I.hok ea
    obtain ⟨od, J, _⟩ := O.look
    exact PySem.W.kia_one (PySem.W.kitx_own (cl.get _) cl.hd ha hn htk hm) I.kIn J e (fun z => nomatch z) h
end
end L2
namespace L2
open PySem PySem.Spec PyProof.Rows
structure Room (k : Nat) (A : Around) : Prop where
  hd : A.handled = none
  dp : A.depth + 3 * k + 5 < recursionLimit
  un : A.units + 16 * k + 200 < cLine
theorem Room.mono {j k : Nat} {A : Around} (r : Room k A) (h : j ≤ k) : Room j A := ⟨r.hd, by have := r.dp; omega, by have := r.un; omega⟩
theorem Room.deeper {k : Nat} {A : Around} (r : Room (k + 1) A) (env : Env) : Room k (A.deeper env) :=
  ⟨r.hd, by have := r.dp; show A.depth + 1 + 3 * k + 5 < _; omega, by have := r.un; show A.units + 3 + 16 * k + 200 < _; omega⟩
theorem Room.depth {k : Nat} {A : Around} (r : Room k A) : A.depth < recursionLimit := by have := r.dp; omega
theorem Room.units {k : Nat} {A : Around} (r : Room k A) : A.units + 64 < cLine := by have := r.un; omega
def tNil : TA := fun _ H Q => Q [] H
def tCons (ta : TE) (tr : TA) : TA := fun σ H Q => ta σ H fun x H1 => tr σ H1 fun xs H2 => Q (x :: xs) H2
section
variable {X : Cx} {e : Expr} {es : List Expr} {te : TE} {t : TA} {pos : Pos}
theorem pa_nil : PA X [] tNil := fun _ _ _ _ H Q I h => Calls.spliced_nil ⟨[], H, I, .nil, h⟩
theorem pa_cons (ha : PE X e te) (hr : PA X es t) (hs : starEach (e :: es) X.env = (false, eval e X.env) :: starEach es X.env := by rfl) : PA X (e :: es) (tCons te t) := by
  intro pos pins s σ H Q I h
  rw [hs]
  show wpAny _ _ (spliced ((false, eval e X.env) :: backTo pos (starEach es X.env))) _ _ s
  refine Calls.spliced_cons (thn (ha pins s σ H _ I h) fun u s1 ⟨x, H1, I1, r1, q1⟩ => ?_)
  exact thn (hr pos pins s1 σ H1 _ I1 q1) fun us s2 ⟨xs, H2, I2, r2, q2⟩ => ⟨x :: xs, H2, I2, .cons r1 r2, q2⟩
def tTup (t : TA) : TE := fun σ H Q => t σ H fun xs H1 => xs.length ≤ sizeLine ∧ ∀ p, H1 p = none → Q (.ref p) (upd H1 p (.tup xs))
def tLst (t : TA) : TE := fun σ H Q => t σ H fun xs H1 => xs.length ≤ sizeLine ∧ ∀ p, H1 p = none → Q (.ref p) (upd H1 p (.lst xs))
theorem pe_tup {x1} (h : PA X es t) : PE X (.Tuple es x1 pos) (tTup t) := by
  intro pins s σ H Q I hq
  refine wpAny_Tuple_spliced (thn (h pos pins s σ H _ I hq) fun us s1 ⟨xs, H1, I1, r, z, q⟩ => ⟨by rw [← r.length]; exact z, ?_⟩)
  have hf : H1 s1.heap.objs.size = none := I1.hok.fresh (Nat.le_refl _)
  refine ⟨.ref s1.heap.objs.size, upd H1 s1.heap.objs.size (.tup xs), I1.laid (t' := s1.toks) (fun b u e => Heap.get?_push_of_some _ e) (Nat.le_refl _) ?_, rfl, q _ hf⟩
  exact ⟨z, us, r, ⟨_, Heap.get?_push_size _ rfl, rfl, _, rfl⟩⟩
theorem pe_lst (h : PA X es t) : PE X (.List es pos) (tLst t) := by
  intro pins s σ H Q I hq
  refine wpAny_List_spliced (thn (h pos pins s σ H _ I hq) fun us s1 ⟨xs, H1, I1, r, z, q⟩ => ⟨by rw [← r.length]; exact z, ?_⟩)
  have hf : H1 s1.heap.objs.size = none := I1.hok.fresh (Nat.le_refl _)
  refine ⟨.ref s1.heap.objs.size, upd H1 s1.heap.objs.size (.lst xs), I1.laid (t' := s1.toks) (fun b u e => Heap.get?_push_of_some _ e) (Nat.le_refl _) ?_, rfl, q _ hf⟩
  exact ⟨z, us, 0, r, Heap.get?_push_size _ rfl⟩
end
abbrev Sp := List V → Hp → VK → XK → Prop
abbrev CXT := List Env → Hp → Shared → XK → Value → Shared → Prop
structure Env0 (P : Program) (w : World) (K : PySem.W.Frag) (mg : Str → Option Value) (base : Heap) (A : Around) (outer : List Env) (s : Shared) (H : Hp) : Prop where
  frames : A.frames = some outer
  mod : Mod K mg base
  bs : ∀ b o, base.get? b = some o → s.heap.get? b = some o ∧ H b = none
  bsz : base.objs.size ≤ s.heap.objs.size
  funs : s.heap.FunFrames base outer
  frf : ∀ b ∈ frs outer, H b = none
  hok : HOk P w H s.heap
  bare : AllBare s.gens
def CE (outer : List Env) (P : Program) (w : World) (H : Hp) (s : Shared) (Q : VK) (u : Value) (s' : Shared) : Prop :=
  ∃ v H', s'.os = s.os ∧ AllBare s'.gens ∧ Un (frs outer) [] H H' s.heap s'.heap ∧ HOk P w H' s'.heap ∧ RelV v u ∧ Q v H'
def CR (CX : CXT) (outer : List Env) (P : Program) (w : World) (H : Hp) (s : Shared) (Q : VK) (E : XK) (r : Result) (s' : Shared) : Prop :=
  match r with
  | .ok (.ret u) => CE outer P w H s Q u s'
  | .ok _ => False
  | .error e => CX outer H s E e s'
structure FnOk (P : Program) (w : World) (K : PySem.W.Frag) (mg : Str → Option Value) (base : Heap) (CX : CXT) (k : Nat) (f : Addr) (fd : FuncData) (ps : List Str) (sp : Sp) : Prop where
  len : ∀ vs H Q E, sp vs H Q E → vs.length = ps.length
  run : ∀ (A : Around) (outer : List Env) (s : Shared) (H : Hp) (args : Args) (us : List Value) (vs : List V) (Q : VK) (E : XK), Room k A → Env0 P w K mg base A outer s H → BindsTo s fd args (ps.zip us) → Vals vs us → sp vs H Q E →
    codeAny (model P w) A (.call (.ref f) args) (CR CX outer P w H s Q E) s
theorem FnOk.imp {P : Program} {w : World} {K : PySem.W.Frag} {mg : Str → Option Value} {base : Heap} {CX : CXT} {k : Nat} {f : Addr} {fd : FuncData} {ps : List Str} {sp sp' : Sp} (F : FnOk P w K mg base CX k f fd ps sp)
    (h : ∀ vs H Q E, sp' vs H Q E → sp vs H Q E) : FnOk P w K mg base CX k f fd ps sp' :=
  ⟨fun vs H Q E q => F.len vs H Q E (h _ _ _ _ q), fun A outer s H args us vs Q E hr he hb hv hs => F.run A outer s H args us vs Q E hr he hb hv (h _ _ _ _ hs)⟩
section
variable {X : Cx} {pins : List (Addr × Obj)} {σ : St} {H : Hp} {s s' : Shared}
theorem Inv.env0 (I : Inv X pins σ H s) : Env0 X.prog X.w X.K X.mg X.base X.A X.stack s H :=
  ⟨I.ok.frames, I.ok.mod, I.bs, Nat.le_trans I.ok.bsz I.sz, I.stack, I.stkFree, I.hok, I.bare⟩
theorem Inv.after {Q : VK} {u : Value} (I : Inv X pins σ H s) (h : CE X.stack X.prog X.w H s Q u s') : EP X pins σ Q u s' := by
  obtain ⟨v, H', os, bare, un, hok, r, q⟩ := h
  obtain ⟨hh, g, d, t, os'⟩ := s'
  obtain rfl : os' = s.os := os
  exact ⟨v, H', I.call (h' := hh) (g' := g) (d' := d) (t' := t) (ch := []) un hok bare (fun b z => absurd z (by simp)), r, q⟩
end
def tCall (sp : Sp) (dvs : List V) (E : XK) (t : TA) : TE := fun σ H Q => t σ H fun vs H1 => sp (vs ++ dvs) H1 Q E
def Binds (K : PySem.W.Frag) (fd : FuncData) (ps : List Str) (ds : List Value) : Prop :=
  ∀ (s : Shared) (us : List Value), K.In s.heap → (us ++ ds).length = ps.length → BindsTo s fd ⟨us, []⟩ (ps.zip (us ++ ds))
theorem Binds.all {K : PySem.W.Frag} {fd : FuncData} {ps : List Str} (h : ∀ us : List Value, us.length = ps.length → bindArgs fd ⟨us, []⟩ = pure (ps.zip us)) : Binds K fd ps [] := fun s us _ hl => by
  rw [List.append_nil] at hl ⊢
  exact .of_eq (h us hl)
def Passes (CX : CXT) (X : Cx) (E : XK) : Prop := ∀ (pins : List (Addr × Obj)) (σ : St) (H : Hp) (s : Shared) (e : Value) (s' : Shared), Inv X pins σ H s → CX X.stack H s E e s' → X.xe e s'
section
variable {X : Cx} {CX : CXT} {k : Nat} {f C : Addr} {fd : FuncData} {ps : List Str} {sp : Sp} {dvs : List V} {ds : List Value} {E : XK} {x m : Str} {p pos apos : Pos} {e o : Expr} {es : List Expr} {ta : TE} {t : TA}
theorem run_fn {pins : List (Addr × Obj)} {σ : St} {H : Hp} {s : Shared} {Q : VK} {us : List Value} {vs : List V} (F : FnOk X.prog X.w X.K X.mg X.base CX k f fd ps sp) (hr : Room k X.A) (hb : Binds X.K fd ps ds) (hd : Vals dvs ds) (hx : Passes CX X E)
    (I : Inv X pins σ H s) (r : Vals vs us) (h : sp (vs ++ dvs) H Q E) : wpAny (model X.prog X.w) X.A (call (.ref f) us) (EP X pins σ Q) X.xe s := by
  have r2 : Vals (vs ++ dvs) (us ++ ds) := r.append hd
  have hl : (us ++ ds).length = ps.length := by rw [← r2.length]; exact F.len _ _ _ _ h
  refine wpAny_call (codeAny_mono (F.run X.A X.stack s H ⟨us, []⟩ (us ++ ds) (vs ++ dvs) Q E hr I.env0 (hb s us I.kIn hl) r2 h) fun r s' hq => ?_)
  cases r with
  | error e => exact hx pins σ H s e s' I hq
  | ok fl =>
    cases fl with
    | ret u => exact I.after hq
    | next => exact False.elim hq
    | brk => exact False.elim hq
    | cont => exact False.elim hq
theorem pe_call (F : FnOk X.prog X.w X.K X.mg X.base CX k f fd ps sp) (hr : Room k X.A) (hg : Gl X x) (hm : X.mg x = some (.ref f)) (hk : PySem.W.keepIn X.K (.ref f) = true) (hb : Binds X.K fd ps ds) (hd : Vals dvs ds) (hx : Passes CX X E)
    (ha : PA X (e :: es) t) (hdb : (x == ("__debug__" : Str)) = false := by decide) (he : starEach (e :: es) X.env = (false, eval e X.env) :: starEach es X.env := by rfl) (hpl : (backTo pos (starEach es X.env)).any (·.1) = false := by rfl) :
    PE X (.Call (.Name x p) (e :: es) [] pos) (tCall sp dvs E t) := by
  intro pins s σ H Q I h
  refine wpAny_Call_Name_kw (ld_glob I hg hm ?_ hdb)
  refine PySem.W.callWith_K (h₀ := X.base) I.ok.mod.kin hk (thn (ha pos pins s σ H _ I h) fun us s1 ⟨vs, H1, I1, r, q⟩ => ⟨I1.kIn, ?_⟩) he hpl
  exact run_fn F hr hb hd hx I1 r q
theorem pe_call0 (F : FnOk X.prog X.w X.K X.mg X.base CX k f fd ps sp) (hr : Room k X.A) (hg : Gl X x) (hm : X.mg x = some (.ref f)) (hk : PySem.W.keepIn X.K (.ref f) = true) (hb : Binds X.K fd ps ds) (hd : Vals dvs ds) (hx : Passes CX X E)
    (hdb : (x == ("__debug__" : Str)) = false := by decide) : PE X (.Call (.Name x p) [] [] pos) (tCall sp dvs E tNil) := by
  intro pins s σ H Q I h
  refine wpAny_Call_Name_kw (ld_glob I hg hm ?_ hdb)
  exact PySem.W.callWith_K0 I.kIn hk (run_fn (us := []) F hr hb hd hx I .nil h)
end
section
variable {X : Cx} {CX : CXT} {k : Nat} {f C : Addr} {fd : FuncData} {ps ks : List Str} {sp : Sp} {E : XK} {x m : Str} {p pos apos kpos : Pos} {e o : Expr} {es : List Expr} {kws : List Keyword} {te ta : TE} {t tk : TA} {nm : Option Str}
variable {g : List Value → List Value → List Value} {gV : List V → List V → List V}
end
structure FnScope (N P : List Str) (sc : Scope) : Prop where
  kind : sc.kind = .function
  co : sc.isCoroutine = false
  gen : sc.isGenerator = false
  nd : N.Nodup
  pre : N.take P.length = P
  par : ∀ x ∈ P, sc.names.lookup x = some .local ∨ sc.names.lookup x = some .cell
  nofree : ∀ y ∈ sc.names, y.2 ≠ .free
theorem bindL_out {kindOf : Str → Option NameKind} {x : Str} : ∀ {binds : List (Str × Value)} {m : Str → Option Value}, (∀ v, (x, v) ∉ binds) → bindL kindOf binds m x = m x
  | [], _, _ => rfl
  | (n, v) :: r, m, h => by
    unfold bindL
    rw [bindL_out fun w hw => h w (List.mem_cons_of_mem _ hw)]
    split
    · have : x ≠ n := by rintro rfl; exact h v List.mem_cons_self
      simp [this]
    · rfl
theorem bindC_out {kindOf : Str → Option NameKind} {x : Str} : ∀ {binds : List (Str × Value)} {m : Str → Option Value}, (∀ v, (x, v) ∉ binds) → bindC kindOf binds m x = m x
  | [], _, _ => rfl
  | (n, v) :: r, m, h => by
    unfold bindC
    rw [bindC_out fun w hw => h w (List.mem_cons_of_mem _ hw)]
    split
    · rfl
    · have : x ≠ n := by rintro rfl; exact h v List.mem_cons_self
      simp [this]
theorem bindL_get {kindOf : Str → Option NameKind} {x : Str} {v : Value} : ∀ {P : List Str} {vs : List Value} {i : Nat} {m : Str → Option Value}, P.Nodup → P[i]? = some x → vs[i]? = some v → kindOf x = some .local →
    bindL kindOf (P.zip vs) m x = some v
  | [], _, _, _, _, h, _, _ => by simp at h
  | _ :: _, [], _, _, _, _, h, _ => by simp at h
  | p :: P, w :: vs, 0, m, nd, h1, h2, hk => by
    simp at h1 h2; subst h1; subst h2
    show bindL kindOf ((p, w) :: P.zip vs) m p = _
    unfold bindL
    rw [bindL_out fun v hv => (List.nodup_cons.mp nd).1 (List.of_mem_zip hv).1, if_pos hk]
    simp
  | p :: P, w :: vs, i + 1, m, nd, h1, h2, hk => by
    show bindL kindOf ((p, w) :: P.zip vs) m x = _
    unfold bindL
    exact bindL_get (i := i) (List.nodup_cons.mp nd).2 (by simpa using h1) (by simpa using h2) hk
theorem bindC_get {kindOf : Str → Option NameKind} {x : Str} {v : Value} : ∀ {P : List Str} {vs : List Value} {i : Nat} {m : Str → Option Value}, P.Nodup → P[i]? = some x → vs[i]? = some v → kindOf x ≠ some .local →
    bindC kindOf (P.zip vs) m x = some v
  | [], _, _, _, _, h, _, _ => by simp at h
  | _ :: _, [], _, _, _, _, h, _ => by simp at h
  | p :: P, w :: vs, 0, m, nd, h1, h2, hk => by
    simp at h1 h2; subst h1; subst h2
    show bindC kindOf ((p, w) :: P.zip vs) m p = _
    unfold bindC
    rw [bindC_out fun v hv => (List.nodup_cons.mp nd).1 (List.of_mem_zip hv).1, if_neg hk]
    simp
  | p :: P, w :: vs, i + 1, m, nd, h1, h2, hk => by
    show bindC kindOf ((p, w) :: P.zip vs) m x = _
    unfold bindC
    exact bindC_get (i := i) (List.nodup_cons.mp nd).2 (by simpa using h1) (by simpa using h2) hk
def start (N : List Str) (vs : List V) : St := vs.map some ++ List.replicate (N.length - vs.length) none
def cxOf (CX : CXT) (P : Program) (w : World) (K : PySem.W.Frag) (mg : Str → Option Value) (base : Heap) (N : List Str) (qual : Str) (scope : Scope) (f : Addr) (cd : Value) (A : Around) (outer : List Env) (s : Shared) (H : Hp) (E : XK) : Cx where
  prog := P
  w := w
  K := K
  mg := mg
  base := base
  A := A.deeper (envOfC qual scope s.heap.objs.size f cd)
  N := N
  s₀ := s
  H₀ := H
  env := envOfC qual scope s.heap.objs.size f cd
  outer := outer
  stack := envOfC qual scope s.heap.objs.size f cd :: outer
  ex := []
  calm := true
  fn := fun _ => true
  pn := []
  xe := fun e s' => wpAny (model P w) (A.deeper (envOfC qual scope s.heap.objs.size f cd)) (leaving (envOfC qual scope s.heap.objs.size f cd) e) (fun _ s'' => CX outer H s E e s'') (fun e' s'' => CX outer H s E e' s'') s'
theorem cell_has {sc : Scope} {n : Nat} {x : Str} (h : sc.names.lookup x = some .cell) : ∃ c, (cellsFrom n sc.names []).lookup x = some c := by
  have q := PySem.W.cellsFrom_some sc.names n [] (.inl h)
  exact Option.isSome_iff_exists.mp q
theorem inv_start {CX : CXT} {P : Program} {w : World} {K : PySem.W.Frag} {mg : Str → Option Value} {base : Heap} {N ps : List Str} {qual : Str} {scope : Scope} {f : Addr} {cd : Value} {A : Around} {outer : List Env} {s s1 : Shared} {H : Hp} {E : XK} {us : List Value} {vs : List V}
    (S : FnScope N ps scope) (hd : A.handled = none) (e0 : Env0 P w K mg base A outer s H) (hl : vs.length = ps.length) (r : Vals vs us)
    (x : InCallC s s.heap.objs.size (bindL (envOfC qual scope s.heap.objs.size f cd).kindOf (ps.zip us) fun _ => none) (cellsFrom (s.heap.objs.size + 1) scope.names []) (bindC (envOfC qual scope s.heap.objs.size f cd).kindOf (ps.zip us) fun _ => none) s1) :
    Inv (cxOf CX P w K mg base N qual scope f cd A outer s H E) [] (start N vs) H s1 := by
  have hpl : ps.length ≤ N.length := by have := congrArg List.length S.pre; rw [List.length_take] at this; omega
  obtain ⟨h1, tk, rfl, hk⟩ := x.done
  have noA : ∀ b : Addr, b ∉ (cxOf CX P w K mg base N qual scope f cd A outer s H E).ex := fun b z => absurd (show b ∈ ([] : List Addr) from z) (by simp)
  refine ⟨⟨e0.mod, S.kind, rfl, rfl, Nat.le_refl _, fun y z c h1 h2 => ?_, fun y hy => ?_, fun y c _ h => ?_, fun _ => hd, Around.frames_deeper e0.frames, .inr ⟨rfl, rfl⟩, fun b z => absurd z (noA b), e0.bs, e0.bsz, fun b _ _ => noA b, fun b z => absurd z (noA b), e0.funs, e0.frf⟩,
    rfl, e0.bare, Un.kept hk, ⟨_, x.toInCall.ns, fun i y v h1 h2 h3 => ?_⟩, fun y c h => ⟨_, x.cell y c h⟩, e0.hok.fresh (Nat.le_refl _), fun y c h => ?_, fun p hp => absurd (show p ∈ ([] : List (Addr × Obj)) from hp) (by simp), e0.hok.kept hk, ?_⟩
  · exact name_of_addr x.apart (PySem.mem_of_lookup h1) (PySem.mem_of_lookup h2)
  · have hy : scope.names.lookup y = some .cell ∨ scope.names.lookup y = some .free := hy
    rcases hy with hy | hy
    · exact cell_has hy
    · exact absurd rfl (S.nofree _ (PySem.mem_of_lookup hy))
  · exact Nat.le_of_lt (x.above y c (PySem.mem_of_lookup h))
  · have hi : i < vs.length := by
      unfold start at h2
      by_cases hi : i < vs.length
      · exact hi
      · rw [List.getElem?_append_right (by simpa using hi)] at h2
        rw [List.getElem?_replicate] at h2
        split at h2 <;> cases h2
    have ha : vs[i]? = some v := by
      unfold start at h2
      rw [List.getElem?_append_left (by simpa using hi), List.getElem?_map] at h2
      cases e : vs[i]? with
      | none => rw [e] at h2; cases h2
      | some a => rw [e] at h2; cases h2; rfl
    obtain ⟨u, hu, rv⟩ := r.get ha
    have hp : ps[i]? = some y := by
      rw [← S.pre, List.getElem?_take_of_lt (by omega)]; exact h1
    have ndP : ps.Nodup := by rw [← S.pre]; exact S.nd.sublist (List.take_sublist _ _)
    refine ⟨u, rv, ?_⟩
    rcases S.par y (List.mem_of_getElem? hp) with k | k
    · exact .inl ⟨k, bindL_get ndP hp hu k⟩
    · obtain ⟨c, e⟩ := cell_has (n := s.heap.objs.size + 1) k
      refine .inr ⟨.inl k, c, e, ?_⟩
      have q := x.cell y c e
      rw [bindC_get ndP hp hu (by show scope.names.lookup y ≠ _; rw [k]; decide)] at q
      exact q
  · exact e0.hok.fresh (Nat.le_of_lt (x.above y c (PySem.mem_of_lookup h)))
  · unfold start
    show _ = N.length
    rw [List.length_append, List.length_map, List.length_replicate]
    omega
theorem fn_of {CX : CXT} {P : Program} {w : World} {K : PySem.W.Frag} {mg : Str → Option Value} {base : Heap} {k : Nat} {f : Addr} {name qual : Str} {params : Arguments} {body : List Stmt} {scope : Scope} {dV kV doc pm cdv ct oc : Value} {an od : Option Addr}
    {osl : Array (Option Value)} {N ps : List Str} {sp : Sp} (lk : K.lookup f = some ⟨oc, od, .func (PySem.W.fnOf name qual params body scope dV kV doc pm an cdv ct), osl⟩) (hcd : PySem.W.codeIn K cdv qual = true) (S : FnScope N ps scope)
    (len : ∀ vs H Q E, sp vs H Q E → vs.length = ps.length)
    (hbody : ∀ (A : Around) (outer : List Env) (s : Shared) (H : Hp) (vs : List V) (Q : VK) (E : XK), Room k (A.deeper (envOfC qual scope s.heap.objs.size f cdv)) → sp vs H Q E →
      ∃ t, PSs (cxOf CX P w K mg base N qual scope f cdv A outer s H E) body t ∧ t { nx := fun _ H' => Q .non H', rt := Q } (start N vs) H) :
    FnOk P w K mg base CX (k + 1) f (PySem.W.fnOf name qual params body scope dV kV doc pm an cdv ct) ps sp := by
  refine ⟨len, fun A outer s H args us vs Q E hr e0 hb r hsp => ?_⟩
  have hl := len _ _ _ _ hsp
  have KX : K.In s.heap := e0.mod.kin.keeps fun b o e => (e0.bs b o e).1
  have lim : s.heap.NoLimit := e0.mod.nolimit.keeps fun b o e => (e0.bs b o e).1
  have hkind : ∀ y ∈ ps.zip us, scope.names.lookup y.1 = some .local ∨ (scope.names.lookup y.1 = some .cell ∧ ((cellsFrom (s.heap.objs.size + 1) scope.names []).lookup y.1).isSome = true) := fun ⟨n, v⟩ hy => by
    rcases S.par n (List.of_mem_zip hy).1 with q | q
    · exact .inl q
    · exact .inr ⟨q, PySem.W.cellsFrom_some _ _ _ (.inl q)⟩
  refine codeAny_call_function hr.depth (KX _ _ lk) rfl S.co S.gen rfl (PySem.W.codeRec_of KX hcd) (hb _ _ _ _ ?_)
  refine wpAny_newFunctionEnv_cells S.kind hkind fun env he s1 x => ?_
  subst he
  refine ⟨lim.keeps x.toInCall.keep, codeAny_func ?_⟩
  obtain ⟨t, ht, hq⟩ := hbody A outer s H vs Q E (hr.deeper _) hsp
  have I : Inv (cxOf CX P w K mg base N qual scope f cdv A outer s H E) [] (start N vs) H s1 := inv_start S hr.hd e0 hl r x
  refine wpAny_mono (ht [] s1 (start N vs) H _ I hq) (fun fl s' hs => ?_) fun e s' hs => hs
  have fin : ∀ {σ' : St} {H' : Hp} {v : V} {u : Value}, Inv (cxOf CX P w K mg base N qual scope f cdv A outer s H E) [] σ' H' s' → RelV v u → Q v H' → CE outer P w H s Q u s' :=
    fun {σ' H' v u} J rv q => ⟨v, H', J.os, J.bare, J.base, J.hok, rv, q⟩
  cases fl with
  | ret u =>
    obtain ⟨v, σ', H', J, rv, q⟩ := hs
    exact fin J rv q
  | next =>
    obtain ⟨σ', H', J, q⟩ := hs
    exact fin (v := V.non) (u := Value.none) J rfl q
  | brk =>
    obtain ⟨_, _, _, q⟩ := hs
    exact False.elim q
  | cont =>
    obtain ⟨_, _, _, q⟩ := hs
    exact False.elim q
end L2
namespace L2
open PySem PySem.Spec PyProof.Rows
section
variable {X : Cx} {x : Str} {p pos : Pos} {e : Expr} {es : List Expr} {t : TA} {id T : String} {r : List V → Hp → VK → Prop}
def tCB (r : List V → Hp → VK → Prop) (t : TA) : TE := fun σ H Q => t σ H fun vs H1 => r vs H1 Q
theorem pe_callB (hc : CallR X (.builtin id) r) (hg : Gl X x) (hm : X.mg x = none) (hv : bootBuiltins x = some (.builtin id)) (ha : PA X (e :: es) t) (hn : x ≠ "__name__" := by decide) (hdb : (x == ("__debug__" : Str)) = false := by decide)
    (he : starEach (e :: es) X.env = (false, eval e X.env) :: starEach es X.env := by rfl) (hpl : (backTo pos (starEach es X.env)).any (·.1) = false := by rfl) : PE X (.Call (.Name x p) (e :: es) [] pos) (tCB r t) := by
  intro pins s σ H Q I h
  refine wpAny_Call_Name_kw (ld_blt I hg hm hv ?_ hn hdb)
  exact PyProof.Rows.callWith_builtin1 (thn (ha pos pins s σ H _ I h) fun us s1 ⟨vs, H1, I1, r1, q1⟩ => hc pins s1 σ H1 vs us Q I1 r1 q1) he hpl
theorem pe_callTy (hc : CallR X (.type T) r) (hg : Gl X x) (hm : X.mg x = none) (hv : bootBuiltins x = some (.type T)) (ha : PA X (e :: es) t) (hn : x ≠ "__name__" := by decide) (hdb : (x == ("__debug__" : Str)) = false := by decide)
    (he : starEach (e :: es) X.env = (false, eval e X.env) :: starEach es X.env := by rfl) (hpl : (backTo pos (starEach es X.env)).any (·.1) = false := by rfl) : PE X (.Call (.Name x p) (e :: es) [] pos) (tCB r t) := by
  intro pins s σ H Q I h
  refine wpAny_Call_Name_kw (ld_blt I hg hm hv ?_ hn hdb)
  exact PyProof.Rows.callWith_type1 (thn (ha pos pins s σ H _ I h) fun us s1 ⟨vs, H1, I1, r1, q1⟩ => hc pins s1 σ H1 vs us Q I1 r1 q1) he hpl
end
end L2
namespace HT
open PySem PyProof.Rows
section
open PySem.SeqAt
open PySem.AutoSeq1 (wpAny_loadPart')
open PySem.MeetsSeq PySem.MeetsSeq2 PySem.MeetsSeq3
end
section
variable {prog : Program} {w : World} {A : Around} {E : Value → Shared → Prop} {s : Shared}
theorem cat_tup {t b : Addr} {vs ws : List Value} {Q : Value → Shared → Prop} (ht : IsTup s.heap t vs.toArray) (hb : IsTup s.heap b ws.toArray) (hv : vs ≠ [])
    (h1 : ws = [] → Q (.ref t) s) (h2 : ws ≠ [] → Q (.ref s.heap.objs.size) { s with heap := s.heap.push { cls := .type "tuple", data := .seq (vs ++ ws).toArray } })
    (hsz : vs.length + ws.length ≤ sizeLine) : wpAny (model prog w) A (binaryOp .Add (.ref t) (.ref b)) Q E s := by
  obtain ⟨⟨cls, dd, data, sl⟩, ho, hc, n, hd⟩ := id ht
  obtain ⟨⟨cls2, dd2, data2, sl2⟩, ho2, hc2, n2, hd2⟩ := id hb
  simp only at hc hd hc2 hd2
  subst hc hd hc2 hd2
  have e : vs.toArray ++ ws.toArray = (vs ++ ws).toArray := by simp
  by_cases hw : ws = []
  · exact concat_meets ⟨_, ho, rfl⟩ ⟨_, ho2, rfl⟩ noFill_tuple_add seq_tuple_add PySem.F.slot_tuple_add PySem.F.entry_tuple_add (PySem.F.args_tuple_add_2 _ _)
      (tuple_addW1 t b vs.toArray ws.toArray n n2 dd dd2 sl sl2 (by simpa using hv) (by simp [hw])) ⟨ho, ho2, h1 hw⟩
  · refine concat_meets ⟨_, ho, rfl⟩ ⟨_, ho2, rfl⟩ noFill_tuple_add seq_tuple_add PySem.F.slot_tuple_add PySem.F.entry_tuple_add (PySem.F.args_tuple_add_2 _ _)
      (tuple_addW2 t b vs.toArray ws.toArray n n2 dd dd2 sl sl2 (by simpa using hv) (by simpa using hw) (by rw [List.size_toArray, List.size_toArray]; exact hsz)) ⟨ho, ho2, ?_⟩
    rw [e]
    exact h2 hw
def sIx (n d : Nat) : Option Int → Nat
  | none => d
  | some v => if v < 0 then (v + (n : Int)).toNat else min v.toNat n
theorem sIx_none (n d : Nat) : sIx n d none = d := rfl
theorem sIx_nat (n d k : Nat) : sIx n d (some (k : Int)) = min k n := by
  show (if (k : Int) < 0 then ((k : Int) + (n : Int)).toNat else min (k : Int).toNat n) = min k n
  rw [if_neg (by omega), Int.toNat_natCast]
theorem sIx_le (n d : Nat) (hd : d ≤ n) (o : Option Int) : sIx n d o ≤ n := by
  cases o with
  | none => exact hd
  | some v =>
    show (if v < 0 then (v + (n : Int)).toNat else min v.toNat n) ≤ n
    by_cases hv : v < 0
    · rw [if_pos hv]; omega
    · rw [if_neg hv]; exact Nat.min_le_right _ _
theorem clip_eq (v : Int) (n d : Nat) : (if v < 0 then max (v + (n : Int)) 0 else min v (n : Int)) = ((sIx n d (some v) : Nat) : Int) := by
  show (if v < 0 then max (v + (n : Int)) 0 else min v (n : Int)) = (((if v < 0 then (v + (n : Int)).toNat else min v.toNat n) : Nat) : Int)
  by_cases hv : v < 0
  · simp only [if_pos hv]; omega
  · simp only [if_neg hv]; omega
theorem adjust_gen (lo hi : Option Int) (n : Nat) : Builtin.Slice.sliceAdjust lo hi 1 (n : Int) = (((sIx n 0 lo : Nat) : Int), ((sIx n n hi : Nat) : Int)) := by
  have h1 : ¬ ((1 : Int) < 0) := by omega
  unfold Builtin.Slice.sliceAdjust
  simp only [h1, if_false]
  refine Prod.ext ?_ ?_
  · cases lo with
    | none => rfl
    | some v => exact clip_eq v n 0
  · cases hi with
    | none => rfl
    | some v => exact clip_eq v n n
theorem places_gen (i j : Nat) : Builtin.Slice.slicePlaces (i : Int) (j : Int) 1 = j - i := by
  unfold Builtin.Slice.slicePlaces
  have h1 : (1 : Int) > 0 := by omega
  simp only [h1, if_true, Int.ediv_one]
  split <;> omega
theorem slicePart_ {v : Value} {o : Option Int} {Q : Option Int → Shared → Prop} (p : IsPart v o) (h : Q o s) : wpAny (model prog w) A (Builtin.Slice.slicePartIndex v) Q E s := by
  cases p with
  | none => exact slicePart_none h
  | int i t => exact slicePart_int h
theorem sliceApplied_gen {sl : Addr} {vl vu : Value} {lo hi : Option Int} {n : Nat} {Q : Int × Int × Nat → Shared → Prop} (hs : s.heap.IsSliceOf sl vl vu .none) (pl : IsPart vl lo) (pu : IsPart vu hi)
    (h : Q (((sIx n 0 lo : Nat) : Int), 1, sIx n n hi - sIx n 0 lo) s) : wpAny (model prog w) A (Builtin.Slice.sliceApplied (.ref sl) (pure (n : Int))) Q E s := by
  obtain ⟨os, hos, hcs, hds⟩ := id hs
  unfold Builtin.Slice.sliceApplied Builtin.Slice.sliceFields
  refine wpAny_bind (wpAny_bind (wpAny_field hos hds (x := vl) rfl (wpAny_bind (wpAny_field hos hds (x := vu) rfl (wpAny_bind (wpAny_field hos hds (x := .none) rfl (wpAny_pure ?_)))))))
  refine wpAny_bind (slicePart_none ?_)
  show wpAny _ _ (if ((1 : Int) == 0) = true then _ else _) _ _ s
  rw [if_neg (by decide)]
  refine wpAny_bind (slicePart_ pl (wpAny_bind (slicePart_ pu (wpAny_bind (wpAny_pure ?_)))))
  show wpAny _ _ (match Builtin.Slice.sliceAdjust lo hi 1 (n : Int) with | (lo, hi) => pure (lo, (1 : Int), Builtin.Slice.slicePlaces lo hi 1)) _ _ s
  rw [adjust_gen lo hi n]
  show wpAny _ _ (pure (((sIx n 0 lo : Nat) : Int), (1 : Int), Builtin.Slice.slicePlaces ((sIx n 0 lo : Nat) : Int) ((sIx n n hi : Nat) : Int) 1)) _ _ s
  rw [places_gen]
  exact wpAny_pure h
theorem pick_gen (xs : Array Value) (i k : Nat) : ((List.range k).filterMap fun (m : Nat) => xs[((i : Int) + (m : Int) * 1).toNat]?).toArray = ((xs.toList.drop i).take k).toArray := by
  have e : (fun (m : Nat) => xs[((i : Int) + (m : Int) * 1).toNat]?) = fun m => xs[i + m]? := by
    funext m
    have : ((i : Int) + (m : Int) * 1).toNat = i + m := by omega
    rw [this]
  rw [e]
  have := pick_run xs i k
  rw [List.filterMap_map] at this
  have e2 : ((fun x => xs[x]?) ∘ fun x => i + x) = fun m => xs[i + m]? := rfl
  rw [e2] at this
  rw [this]
theorem getItem_tuple_cut {t sl : Addr} {items : Array Value} {vl vu : Value} {lo hi : Option Int} {Q : Value → Shared → Prop} (ht : IsTup s.heap t items) (hs : s.heap.IsSliceOf sl vl vu .none) (pl : IsPart vl lo) (pu : IsPart vu hi)
    (hw : ¬ (sIx items.size 0 lo = 0 ∧ sIx items.size items.size hi = items.size))
    (h : Q (.ref s.heap.objs.size) { s with heap := s.heap.push { cls := .type "tuple", data := .seq ((items.toList.drop (sIx items.size 0 lo)).take (sIx items.size items.size hi - sIx items.size 0 lo)).toArray } })
    (hsz : items.size ≤ sizeLine) : wpAny (model prog w) A (getItem (.ref t) (.ref sl)) Q E s := by
  have htake : sizeOk (.seq ((items.toList.drop (sIx items.size 0 lo)).take (sIx items.size items.size hi - sIx items.size 0 lo)).toArray) := by
    show ((items.toList.drop (sIx items.size 0 lo)).take (sIx items.size items.size hi - sIx items.size 0 lo)).toArray.size ≤ sizeLine
    rw [List.size_toArray, List.length_take, List.length_drop, Array.length_toList]
    omega
  have hj : sIx items.size items.size hi ≤ items.size := sIx_le _ _ (Nat.le_refl _) hi
  obtain ⟨os, hos, hcs, hds⟩ := id hs
  have hTs : s.TypeIs (.ref sl) "slice" := ⟨os, hos, hcs⟩
  unfold getItem
  try with_reducible refine wpAny_holding ?_
  first | refine wpAny_bind (wpAny_pure ?_) | skip
  refine wpAny_bind (wpAny_sequenceKey ht.typeIs (by decide) ?_)
  refine wpAny_bind (wpAny_callSpecial?_slot (name := Str.ofString "__getitem__") ht.typeIs PyProof.Rows.slot_tuple_getitem
    (wpAny_call_entry PyProof.Rows.slot_tuple_getitem ht.typeIs entry_tuple_getitem ?_ (args_tuple_getitem _ _)))
  show wpAny _ _ (Builtin.Tuple.tupleItemsOf (.ref t) >>= _) _ _ s
  refine wpAny_bind (tupleItemsOf_ ht ?_)
  refine wpAny_bind (wpAny_typeOf hTs ?_)
  rw [if_pos (by decide)]
  refine wpAny_bind (sliceApplied_gen hs pl pu ?_)
  have hno : ¬ ((((sIx items.size 0 lo : Nat) : Int) == 0 && (1 : Int) == 1 && (sIx items.size items.size hi - sIx items.size 0 lo) == items.size) = true) := by
    intro q
    rw [Bool.and_eq_true, Bool.and_eq_true] at q
    have q1 : ((sIx items.size 0 lo : Nat) : Int) = 0 := eq_of_beq q.1.1
    have q2 : sIx items.size items.size hi - sIx items.size 0 lo = items.size := eq_of_beq q.2
    exact hw ⟨by omega, by omega⟩
  show wpAny _ _ (if (((sIx items.size 0 lo : Nat) : Int) == 0 && (1 : Int) == 1 && (sIx items.size items.size hi - sIx items.size 0 lo) == items.size) = true then _ else _) _ _ s
  rw [if_neg hno, pick_gen]
  first
    | exact wpAny_bind (m := Builtin.Tuple.tupleExact _) (wpAny_newObj_type (wpAny_pure ⟨_, rfl, wpAny_pure h⟩) htake)
    | exact wpAny_bind (m := Builtin.Tuple.tupleExact _) (wpAny_newObj_type (wpAny_bind (wpAny_pure (wpAny_pure ⟨_, rfl, wpAny_pure h⟩))) htake)
    | exact wpAny_bind (wpAny_bind (m := Builtin.Tuple.tupleExact _) (wpAny_newObj_type (wpAny_pure (wpAny_pure ⟨_, rfl, wpAny_pure h⟩)) htake))
    | exact wpAny_bind (wpAny_bind (m := Builtin.Tuple.tupleExact _) (wpAny_newObj_type (wpAny_pure ⟨_, rfl, wpAny_pure h⟩) htake))
end
end HT
namespace L2
open PySem PySem.Spec PyProof.Rows
abbrev TO := St → Hp → (Option Int → Hp → Prop) → Prop
def PO (X : Cx) (e : Option Expr) (t : TO) : Prop :=
  ∀ (pins : List (Addr × Obj)) (s : Shared) (σ : St) (H : Hp) (Q : Option Int → Hp → Prop), Inv X pins σ H s → t σ H Q →
    wpAny (model X.prog X.w) X.A (evalPart e X.env) (fun u s' => ∃ o H', Inv X pins σ H' s' ∧ IsPart u o ∧ Q o H') X.xe s
def tNoPart : TO := fun _ H Q => Q none H
def tPart (t : TE) : TO := fun σ H Q => t σ H fun x H1 => ∃ i, x = .int i ∧ Q (some i) H1
section
variable {X : Cx} {e : Expr} {te : TE} {lo hi : Option Expr} {tl th : TO} {pos p2 : Pos}
theorem po_none : PO X none tNoPart := by
  intro pins s σ H Q I h
  rw [evalPart_none]
  exact wpAny_pure ⟨none, H, I, .none, h⟩
theorem po_some (h : PE X e te) : PO X (some e) (tPart te) := by
  intro pins s σ H Q I hw
  rw [evalPart_some]
  refine thn (h pins s σ H _ I hw) fun u s1 ⟨x, H1, I1, r1, q1⟩ => ?_
  obtain ⟨i, rfl, q⟩ := q1
  obtain ⟨t, rfl⟩ := r1
  exact ⟨some i, H1, I1, .int i t, q⟩
def SlR (X : Cx) (r : V → Option Int → Option Int → Hp → VK → Prop) : Prop :=
  ∀ (pins : List (Addr × Obj)) (s : Shared) (σ : St) (H : Hp) (x : V) (v vl vu : Value) (lo hi : Option Int) (sl : Addr) (Q : VK), Inv X pins σ H s → RelV x v → s.heap.IsSliceOf sl vl vu .none → IsPart vl lo → IsPart vu hi → r x lo hi H Q →
    ∃ T id, typeLookup (.type T) "__getitem__" = pure (some (.builtin id)) ∧ s.TypeIs v T ∧ wpAny (model X.prog X.w) X.A (getItem v (.ref sl)) (EP X pins σ Q) X.xe s
def tSl (r : V → Option Int → Option Int → Hp → VK → Prop) (te : TE) (tl th : TO) : TE := fun σ H Q => te σ H fun x H1 => tl σ H1 fun l H2 => th σ H2 fun u H3 => r x l u H3 Q
theorem pe_slice {r : V → Option Int → Option Int → Hp → VK → Prop} (hr : SlR X r) (he : PE X e te) (hl : PO X lo tl) (hu : PO X hi th) : PE X (.Subscript e (.Slice lo hi none p2) pos) (tSl r te tl th) := by
  intro pins s σ H Q I h
  refine Subscript_ (thn (he pins s σ H _ I h) fun v s1 ⟨x, H1, I1, r1, q1⟩ => ?_)
  refine wpAny_Slice (thn (hl pins s1 σ H1 _ I1 q1) fun vl s2 ⟨l, H2, I2, pl, q2⟩ => thn (hu pins s2 σ H2 _ I2 q2) fun vu s3 ⟨u, H3, I3, pu, q3⟩ => ?_)
  rw [evalPart_none]
  refine wpAny_pure ?_
  have I4 : Inv X pins σ H3 { s3 with heap := s3.heap.push { cls := .type "slice", data := .fields #[vl, vu, .none] } } := I3.kept (t' := s3.toks) fun b ob q => Heap.get?_push_of_some _ q
  obtain ⟨T, id, hT, ht, hg⟩ := hr pins { s3 with heap := s3.heap.push { cls := .type "slice", data := .fields #[vl, vu, .none] } } σ H3 x v vl vu l u s3.heap.objs.size Q I4 r1 (Heap.IsSliceOf.new ..) pl pu q3
  show wpAny (model X.prog X.w) X.A (subscriptTail e (.Slice lo hi none p2) v (.ref s3.heap.objs.size)) (EP X pins σ Q) X.xe { s3 with heap := s3.heap.push { cls := .type "slice", data := .fields #[vl, vu, .none] } }
  exact tail_any (ops := [.ref s3.heap.objs.size, v]) ht hT hg (by with_unfolding_all rfl)
def cutV (xs : List V) (lo hi : Option Int) : List V := (xs.drop (HT.sIx xs.length 0 lo)).take (HT.sIx xs.length xs.length hi - HT.sIx xs.length 0 lo)
theorem cutV_length (xs : List V) (lo hi : Option Int) : (cutV xs lo hi).length ≤ xs.length := by
  unfold cutV
  rw [List.length_take, List.length_drop]
  omega
def rSlT (K : PySem.W.Frag) : V → Option Int → Option Int → Hp → VK → Prop := fun x lo hi H Q => ∃ a xs, x = .ref a ∧ SqT K H a xs ∧
  ¬ (HT.sIx xs.length 0 lo = 0 ∧ HT.sIx xs.length xs.length hi = xs.length) ∧ ∀ p, H p = none → Q (.ref p) (upd H p (.tup (cutV xs lo hi)))
theorem sl_tup : SlR X (rSlT X.K) := by
  intro pins s σ H x v vl vu lo hi sl Q I rx hs pl pu h
  obtain ⟨a, xs, rfl, hx, hw, q⟩ := h
  cases rx
  obtain ⟨its, r, ht, hz⟩ := I.tuple hx
  have hlen : its.toArray.size = xs.length := by rw [List.size_toArray]; exact r.length.symm
  refine ⟨"tuple", _, PyProof.Rows.slot_tuple_getitem.lookup, ht.typeIs, ?_⟩
  refine HT.getItem_tuple_cut ht hs pl pu (by rw [hlen]; exact hw) ?_ (by rw [hlen]; exact hz)
  rw [hlen]
  refine ⟨.ref s.heap.objs.size, _, I.laid (t' := s.toks) (o := .tup (cutV xs lo hi)) (fun b ob q => Heap.get?_push_of_some _ q) (Nat.le_refl _) ?_, rfl, q _ (I.hok.fresh (Nat.le_refl _))⟩
  exact ⟨Nat.le_trans (cutV_length xs lo hi) hz, _, (r.drop (HT.sIx xs.length 0 lo)).take (HT.sIx xs.length xs.length hi - HT.sIx xs.length 0 lo), IsTup.new _ _⟩
def rCatT (K : PySem.W.Frag) : R2 := fun x y H Q => ∃ a b xs ys, x = .ref a ∧ y = .ref b ∧ SqT K H a xs ∧ SqT K H b ys ∧ xs ≠ [] ∧ xs.length + ys.length ≤ sizeLine ∧
  (ys = [] → Q (.ref a) H) ∧ (ys ≠ [] → ∀ p, H p = none → Q (.ref p) (upd H p (.tup (xs ++ ys))))
theorem Vals.nil_iff {xs : List V} {us : List Value} (r : Vals xs us) : us = [] ↔ xs = [] := by
  cases r with
  | nil => simp
  | cons _ _ => simp
theorem op_catT : OpR X (binaryOp .Add) (rCatT X.K) := by
  intro pins s σ H x y v u Q I rx ry h
  obtain ⟨a, b, xs, ys, rfl, rfl, ha, hb, hx, hz, q1, q2⟩ := h
  cases rx
  cases ry
  obtain ⟨its, r1, p1, _⟩ := I.tuple ha
  obtain ⟨its2, r2, p2, _⟩ := I.tuple hb
  refine HT.cat_tup p1 p2 (fun z => hx (r1.nil_iff.mp z)) (fun z => ⟨.ref a, H, I, rfl, q1 (r2.nil_iff.mp z)⟩) (fun z => ?_) (by rw [← r1.length, ← r2.length]; exact hz)
  refine ⟨.ref s.heap.objs.size, _, I.laid (t' := s.toks) (o := .tup (xs ++ ys)) (fun b ob q => Heap.get?_push_of_some _ q) (Nat.le_refl _) ?_, rfl, q2 (fun w => z (r2.nil_iff.mpr w)) _ (I.hok.fresh (Nat.le_refl _))⟩
  exact ⟨by rw [List.length_append]; exact hz, _, r1.append r2, IsTup.new _ _⟩
end
end L2
namespace L2
open PySem PySem.Spec PyProof.Rows
def ixN (n : Nat) (i : Int) : Option Nat := if 0 ≤ i then (if i < n then some i.toNat else none) else if -(n : Int) ≤ i then some (i + n).toNat else none
def atI {α : Type} (xs : List α) (i : Int) : Option α := (ixN xs.length i).bind fun j => xs[j]?
theorem ixN_seq {n : Nat} {i : Int} {j : Nat} (h : ixN n i = some j) : seqIndex? i n = some j ∧ j < n ∧ -(n : Int) ≤ i ∧ i < n := by
  unfold ixN at h
  by_cases h0 : 0 ≤ i
  · rw [if_pos h0] at h
    by_cases h1 : i < n
    · rw [if_pos h1] at h
      have e : i.toNat = j := Option.some.inj h
      exact ⟨by rw [seqIndex_of h0 h1, e], by omega, by omega, h1⟩
    · rw [if_neg h1] at h; cases h
  · rw [if_neg h0] at h
    by_cases h1 : -(n : Int) ≤ i
    · rw [if_pos h1] at h
      have e : (i + n).toNat = j := Option.some.inj h
      exact ⟨by rw [seqIndex_neg (by omega) h1, e], by omega, h1, by omega⟩
    · rw [if_neg h1] at h; cases h
theorem atI_get {α : Type} {xs : List α} {i : Int} {v : α} (h : atI xs i = some v) : ∃ j, seqIndex? i xs.length = some j ∧ xs[j]? = some v ∧ j < xs.length ∧ -(xs.length : Int) ≤ i ∧ i < xs.length := by
  unfold atI at h
  cases e : ixN xs.length i with
  | none => rw [e] at h; cases h
  | some j =>
    rw [e] at h
    obtain ⟨h1, h2, h3, h4⟩ := ixN_seq e
    exact ⟨j, h1, h, h2, h3, h4⟩
theorem atI_nat {α : Type} {xs : List α} {j : Nat} {v : α} (h : xs[j]? = some v) : atI xs (j : Int) = some v := by
  have hj : j < xs.length := (List.getElem?_eq_some_iff.mp h).1
  have e : ixN xs.length (j : Int) = some j := by
    unfold ixN
    rw [if_pos (by omega), if_pos (by omega)]; simp
  unfold atI; rw [e]; exact h
theorem atI_last {α : Type} (xs : List α) (v : α) : atI (xs ++ [v]) (-1) = some v := by
  have hl : (xs ++ [v]).length = xs.length + 1 := by simp
  have e : ixN (xs ++ [v]).length (-1) = some xs.length := by
    unfold ixN
    rw [hl, if_neg (by decide), if_pos (by omega)]
    congr 1
    omega
  unfold atI
  rw [e]
  show (xs ++ [v])[xs.length]? = some v
  simp
def PlainIx (b : Expr) : Prop := ∀ o i, subscripted b false o i = operate [o, i] (getItem o i)
def IxR (X : Cx) (r : R2) : Prop :=
  ∀ (value slice : Expr) (pins : List (Addr × Obj)) (s : Shared) (σ : St) (H : Hp) (x y : V) (v u : Value) (Q : VK), Inv X pins σ H s → RelV x v → RelV y u → r x y H Q →
    subscripted slice false v u = operate [v, u] (getItem v u) → wpAny (model X.prog X.w) X.A (subscriptTail value slice v u) (EP X pins σ Q) X.xe s
def MtR (X : Cx) (id : String) (r : V → List V → Hp → VK → Prop) : Prop :=
  ∀ (pins : List (Addr × Obj)) (s : Shared) (σ : St) (H : Hp) (x : V) (xs : List V) (v : Value) (us : List Value) (Q : VK), Inv X pins σ H s → RelV x v → Vals xs us → r x xs H Q →
    wpAny (model X.prog X.w) X.A (call (.builtin id) (v :: us)) (EP X pins σ Q) X.xe s
section
variable {X : Cx} {a b : Expr} {ta tb : TE} {pos : Pos}
theorem pe_ix {r : R2} (hr : IxR X r) (ha : PE X a ta) (hb : PE X b tb) (hs : PlainIx b) : PE X (.Subscript a b pos) (tOp r ta tb) := by
  intro pins s σ H Q I h
  exact Subscript_ (binT ha hb I h fun v u s2 x y H2 I2 rx ry q => hr a b pins s2 σ H2 x y v u Q I2 rx ry q (hs _ _))
def rIxL (K : PySem.W.Frag) : R2 := fun x y H Q => ∃ p xs i v, x = .ref p ∧ y = .int i ∧ SqL K H p xs ∧ atI xs i = some v ∧ Q v H
def rIxT (K : PySem.W.Frag) : R2 := fun x y H Q => ∃ p xs i v, x = .ref p ∧ y = .int i ∧ SqT K H p xs ∧ atI xs i = some v ∧ Q v H
theorem ix_list : IxR X (rIxL X.K) := by
  intro value slice pins s σ H x y v u Q I rx ry h hs
  obtain ⟨p, xs, i, z, rfl, rfl, hq, he, q⟩ := h
  cases rx
  obtain ⟨t, rfl⟩ := ry
  obtain ⟨its, r, pl, hz⟩ := I.list hq
  obtain ⟨j, h1, h2, h3, h4, h5⟩ := atI_get he
  obtain ⟨w, ew, rw'⟩ := r.get h2
  have hl := r.length
  have hn := line63
  have fin : EP X pins σ Q w s := ⟨z, H, I, rw', q⟩
  by_cases h0 : 0 ≤ i
  · have hj : i.toNat = j := by
      rw [seqIndex_of h0 h5] at h1
      exact Option.some.inj h1
    exact item_listR pl.isList h0 (by omega) (by rw [hj]; simpa using ew) fin hs
  · have hj : (i + (its.toArray.size : Int)).toNat = j := by
      rw [seqIndex_neg (by omega) h4] at h1
      rw [List.size_toArray, ← hl]
      exact Option.some.inj h1
    exact subscriptTail_builtinR (x := w) pl.isList.typeIs slot_list_getitem.lookup
      (wpAny_getItem_list_neg (Q := fun r s' => r = w ∧ EP X pins σ Q r s') pl.isList (by omega) (by rw [List.size_toArray] <;> omega) (by omega) (by rw [hj]; simpa using ew) ⟨rfl, fin⟩) hs
theorem ix_tup : IxR X (rIxT X.K) := by
  intro value slice pins s σ H x y v u Q I rx ry h hs
  obtain ⟨p, xs, i, z, rfl, rfl, hq, he, q⟩ := h
  cases rx
  obtain ⟨t, rfl⟩ := ry
  obtain ⟨its, r, pl, hz⟩ := I.tuple hq
  obtain ⟨j, h1, h2, h3, h4, h5⟩ := atI_get he
  obtain ⟨w, ew, rw'⟩ := r.get h2
  have hl := r.length
  have hn := line63
  have fin : EP X pins σ Q w s := ⟨z, H, I, rw', q⟩
  exact subscriptTail_builtinR (x := w) pl.typeIs slot_tuple_getitem.lookup
    (getItem_tuple (j := j) (Q := fun r s' => r = w ∧ EP X pins σ Q r s') pl (by omega) (by omega) (by rw [List.size_toArray, ← hl]; exact h1) (by simpa using ew) ⟨rfl, fin⟩) hs
theorem slice_bounds (lo hi : Option Int) (n : Nat) : (sliceBounds lo hi none n).1 = ((HT.sIx n 0 lo : Nat) : Int) ∧ (sliceBounds lo hi none n).2.1 = ((HT.sIx n n hi : Nat) : Int) ∧ (sliceBounds lo hi none n).2.2 = 1 := by
  refine ⟨?_, ?_, rfl⟩
  · cases lo with
    | none => simp [sliceBounds, HT.sIx]
    | some i =>
      simp only [sliceBounds, HT.sIx, Option.getD_none, show (1 : Int) > 0 by decide, if_true]
      by_cases h : i < 0
      · simp only [h, if_true] <;> omega
      · simp only [h, if_false] <;> omega
  · cases hi with
    | none => simp [sliceBounds, HT.sIx]
    | some i =>
      simp only [sliceBounds, HT.sIx, Option.getD_none, show (1 : Int) > 0 by decide, if_true]
      by_cases h : i < 0
      · simp only [h, if_true] <;> omega
      · simp only [h, if_false] <;> omega
theorem slicePick_cut (its : List Value) (lo hi : Option Int) : slicePick its.toArray lo hi none = ((its.drop (HT.sIx its.length 0 lo)).take (HT.sIx its.length its.length hi - HT.sIx its.length 0 lo)).toArray := by
  obtain ⟨h1, h2, h3⟩ := slice_bounds lo hi its.toArray.size
  unfold slicePick
  rw [h1, h2, h3]
  simp only [sliceRange_one, pick_run, List.size_toArray] <;> rfl
def rSlL (K : PySem.W.Frag) : V → Option Int → Option Int → Hp → VK → Prop := fun x lo hi H Q => ∃ a xs, x = .ref a ∧ SqL K H a xs ∧ ∀ p, H p = none → Q (.ref p) (upd H p (.lst (cutV xs lo hi)))
theorem sl_list : SlR X (rSlL X.K) := by
  intro pins s σ H x v vl vu lo hi sl Q I rx hs pl pu h
  obtain ⟨a, xs, rfl, hx, q⟩ := h
  cases rx
  obtain ⟨its, r, ht, hz⟩ := I.list hx
  have hlen := r.length
  refine ⟨"list", _, slot_list_getitem.lookup, ht.isList.typeIs, ?_⟩
  refine wpAny_getItem_list_slice ht.isList hs pl pu .none (by simp) ?_ (by rw [List.size_toArray] <;> omega)
  rw [slicePick_cut, ← hlen]
  refine ⟨.ref s.heap.objs.size, _, I.laid (t' := s.toks) (o := .lst (cutV xs lo hi)) (fun b ob q => Heap.get?_push_of_some _ q) (Nat.le_refl _) ?_, rfl, q _ (I.hok.fresh (Nat.le_refl _))⟩
  exact ⟨Nat.le_trans (cutV_length xs lo hi) hz, _, 0, (r.drop (HT.sIx xs.length 0 lo)).take (HT.sIx xs.length xs.length hi - HT.sIx xs.length 0 lo), Heap.get?_push_size _ rfl⟩
def flatV : V → Bool
  | .non => true
  | .bl _ => true
  | .int _ => true
  | .str _ => true
  | _ => false
def eqV : V → V → Bool
  | .non, .non => true
  | .bl a, .bl b => a == b
  | .bl a, .int b => (if a then 1 else 0) == b
  | .int a, .bl b => a == (if b then 1 else 0)
  | .int a, .int b => a == b
  | .str a, .str b => a == b
  | _, _ => false
theorem eqAt_V {A : Around} {s : Shared} {y x : V} {u v : Value} (ry : RelV y u) (rx : RelV x v) (fy : flatV y = true) (fx : flatV x = true) : SeqAt.EqAt A s u v (eqV y x) := by
  cases y with
  | non =>
    cases ry
    cases x with
    | non => cases rx; exact SeqAt.EqAt.same _
    | bl b => cases rx; exact SeqAt.EqAt.none_bool b
    | int b => obtain ⟨t, rfl⟩ := rx; exact SeqAt.EqAt.none_int b t
    | str b => obtain ⟨t, rfl⟩ := rx; exact SeqAt.EqAt.none_str b t
    | _ => exact absurd (show false = true from fx) Bool.false_ne_true
  | bl a =>
    cases ry
    cases x with
    | non => cases rx; exact SeqAt.EqAt.bool_none a
    | bl b => cases rx; exact SeqAt.EqAt.bool_bool a b
    | int b => obtain ⟨t, rfl⟩ := rx; exact SeqAt.EqAt.bool_int a b t
    | str b => obtain ⟨t, rfl⟩ := rx; exact SeqAt.EqAt.bool_str a b t
    | _ => exact absurd (show false = true from fx) Bool.false_ne_true
  | int a =>
    obtain ⟨t', rfl⟩ := ry
    cases x with
    | non => cases rx; exact SeqAt.EqAt.int_none a t'
    | bl b => cases rx; exact SeqAt.EqAt.int_bool a t' b
    | int b => obtain ⟨t, rfl⟩ := rx; exact SeqAt.EqAt.int_int a t' b t
    | str b => obtain ⟨t, rfl⟩ := rx; exact SeqAt.EqAt.int_str a t' b t
    | _ => exact absurd (show false = true from fx) Bool.false_ne_true
  | str a =>
    obtain ⟨t', rfl⟩ := ry
    cases x with
    | non => cases rx; exact SeqAt.EqAt.str_none a t'
    | bl b => cases rx; exact SeqAt.EqAt.str_bool a t' b
    | int b => obtain ⟨t, rfl⟩ := rx; exact SeqAt.EqAt.str_int a t' b t
    | str b => obtain ⟨t, rfl⟩ := rx; exact SeqAt.EqAt.str_str a t' b t
    | _ => exact absurd (show false = true from fx) Bool.false_ne_true
  | _ => exact absurd (show false = true from fy) Bool.false_ne_true
def eqU (x : V) (u : Value) : Bool := match u with
  | .none => eqV .non x
  | .bool b => eqV (.bl b) x
  | .int i _ => eqV (.int i) x
  | .str z _ => eqV (.str z) x
  | _ => false
theorem eqU_of {x y : V} {u : Value} (r : RelV y u) (f : flatV y = true) : eqU x u = eqV y x := by
  cases y with
  | non => cases r; rfl
  | bl b => cases r; rfl
  | int i => obtain ⟨t, rfl⟩ := r; rfl
  | str z => obtain ⟨t, rfl⟩ := r; rfl
  | _ => exact absurd (show false = true from f) Bool.false_ne_true
theorem any_eqU {x : V} : ∀ {xs : List V} {us : List Value}, Vals xs us → xs.all flatV = true → us.any (eqU x) = xs.any fun y => eqV y x
  | _, _, .nil, _ => rfl
  | y :: xs, u :: us, .cons r t, f => by
    rw [List.all_cons, Bool.and_eq_true] at f
    rw [List.any_cons, List.any_cons, eqU_of r f.1, any_eqU t f.2]
theorem mem_eqAt {A : Around} {s : Shared} {x : V} {v : Value} (rx : RelV x v) (fx : flatV x = true) : ∀ {xs : List V} {us : List Value}, Vals xs us → xs.all flatV = true → ∀ u ∈ us, SeqAt.EqAt A s u v (eqU x u)
  | _, _, .nil, _ => fun u hu => by cases hu
  | y :: xs, u :: us, .cons r t, f => fun u' hu => by
    rw [List.all_cons, Bool.and_eq_true] at f
    rcases List.mem_cons.mp hu with rfl | hu
    · rw [eqU_of r f.1]; exact eqAt_V r rx f.1 fx
    · exact mem_eqAt rx fx t f.2 u' hu
def inV (x : V) (xs : List V) : Bool := xs.any fun y => eqV y x
def rIn (K : PySem.W.Frag) (neg : Bool) : R2 := fun x y H Q => ∃ p xs, y = .ref p ∧ (SqL K H p xs ∨ SqT K H p xs) ∧ flatV x = true ∧ xs.all flatV = true ∧ Q (.bl (if neg then !inV x xs else inV x xs)) H
theorem op_in_seq : OpR X (compareOp .In) (rIn X.K false) := by
  intro pins s σ H x y v u Q I rx ry h
  obtain ⟨p, xs, rfl, hq, fx, fs, q⟩ := h
  cases ry
  rcases hq with hq | hq
  · obtain ⟨its, r, pl, hz⟩ := I.list hq
    refine SeqAt.in_listAt (eqU x) pl.isList (fun w hw => mem_eqAt rx fx r fs w (by simpa using hw)) ⟨.bl _, H, I, rfl, ?_⟩
    rw [show its.toArray.any (eqU x) = its.any (eqU x) by simp, any_eqU r fs]
    exact q
  · obtain ⟨its, r, pl, hz⟩ := I.tuple hq
    refine SeqAt.in_tupleAt (eqU x) pl (fun w hw => mem_eqAt rx fx r fs w (by simpa using hw)) ⟨.bl _, H, I, rfl, ?_⟩
    rw [show its.toArray.any (eqU x) = its.any (eqU x) by simp, any_eqU r fs]
    exact q
theorem call_len_seq : CallR X (.builtin "len") (fun xs H Q => ∃ p ys, xs = [.ref p] ∧ (SqL X.K H p ys ∨ SqT X.K H p ys) ∧ Q (.int ys.length) H) := by
  intro pins s σ H xs us Q I r h
  obtain ⟨p, ys, rfl, hq, q⟩ := h
  obtain ⟨u, rfl, rx⟩ := vals1 r
  cases rx
  have hn := line63
  rcases hq with hq | hq
  · obtain ⟨its, r', pl, hz⟩ := I.list hq
    have hlen := r'.length
    exact Calls.call_len_list pl.isList (by simp only [List.size_toArray] <;> omega) ⟨.int ys.length, H, I.tok _, ⟨s.toks + 1, by rw [List.size_toArray, hlen]⟩, q⟩
  · obtain ⟨its, r', pl, hz⟩ := I.tuple hq
    have hlen := r'.length
    exact len_tuple pl (by simp only [List.size_toArray] <;> omega) ⟨.int ys.length, H, I.tok _, ⟨s.toks + 1, by rw [List.size_toArray, hlen]⟩, q⟩
def tyV (K : PySem.W.Frag) (T : String) (x : V) (H : Hp) : Prop := match x with
  | .str _ => T = "str"
  | .int _ => T = "int"
  | .ref p => (T = "list" ∧ ∃ xs, SqL K H p xs) ∨ (T = "tuple" ∧ ∃ o, K.lookup p = some o ∧ o.cls = .type "tuple" ∧ o.dict = none) ∨
      (T = "dict" ∧ ((∃ kvs, H p = some (.dK kvs)) ∨ ∃ kvs, H p = some (.dT kvs))) ∨ (T = "set" ∧ ∃ S n, H p = some (.set S n))
  | _ => False
theorem tyV_is {pins : List (Addr × Obj)} {σ : St} {H : Hp} {s : Shared} {T : String} {x : V} {v : Value} (I : Inv X pins σ H s) (r : RelV x v) (ty : tyV X.K T x H) :
    s.TypeIs v T ∧ ∀ a, v = .ref a → ∃ ob, s.heap.get? a = some ob ∧ ob.dict = none := by
  cases x with
  | str z =>
    obtain ⟨t, rfl⟩ := r
    cases (show T = "str" from ty)
    exact ⟨typeIs_str s z t, fun _ e => nomatch e⟩
  | int i =>
    obtain ⟨t, rfl⟩ := r
    cases (show T = "int" from ty)
    exact ⟨typeIs_int s i t, fun _ e => nomatch e⟩
  | ref p =>
    cases r
    rcases ty with ⟨rfl, xs, hq⟩ | ⟨rfl, o, hk, hc, hd⟩ | ⟨rfl, hk⟩ | ⟨rfl, S, n, hk⟩
    · obtain ⟨its, _, pl, _⟩ := I.list hq
      refine ⟨pl.isList.typeIs, fun a e => ?_⟩
      cases e
      obtain ⟨o, n, e, c, hd, _⟩ := pl
      exact ⟨o, e, hd⟩
    · refine ⟨⟨o, I.kIn p o hk, hc⟩, fun a e => ?_⟩
      cases e
      exact ⟨o, I.kIn _ o hk, hd⟩
    · have z : ∃ o, s.heap.get? p = some o ∧ o.ExactDict := by
        rcases hk with ⟨kvs, hk⟩ | ⟨kvs, hk⟩
        · obtain ⟨_, _, _, _, o, _, _, e, ex, _⟩ := I.hok p _ hk
          exact ⟨o, e, ex⟩
        · obtain ⟨_, _, _, _, o, _, _, e, ex, _⟩ := I.hok p _ hk
          exact ⟨o, e, ex⟩
      obtain ⟨o, e, ex⟩ := z
      refine ⟨⟨o, e, ex.1⟩, fun a e2 => ?_⟩
      cases e2
      exact ⟨o, e, ex.2.1⟩
    · obtain ⟨o, _, _, _, e, ex, _⟩ := I.hok p _ hk
      refine ⟨⟨o, e, ex.1⟩, fun a e2 => ?_⟩
      cases e2
      exact ⟨o, e, ex.2.1⟩
  | _ => exact False.elim ty
def tBM0 (K : PySem.W.Frag) (T : String) (r : V → List V → Hp → VK → Prop) (to : TE) : TE := fun σ H Q => to σ H fun x H1 => tyV K T x H1 ∧ r x [] H1 Q
def tBM (K : PySem.W.Frag) (T : String) (r : V → List V → Hp → VK → Prop) (to : TE) (t : TA) : TE := fun σ H Q => to σ H fun x H1 => tyV K T x H1 ∧ t σ H1 fun xs H2 => r x xs H2 Q
variable {o e : Expr} {es : List Expr} {to : TE} {t : TA} {name : Str} {apos cpos : Pos} {T id : String} {r : V → List V → Hp → VK → Prop}
theorem pe_bm0 (pa : PlainAttrs T) (slot : Slot T name id) (hty : typeOf (.builtin id) = pure (.type "method_descriptor")) (hm : MtR X id r) (ho : PE X o to)
    (hbase : attributeBase o name X.env (eval o X.env) = eval o X.env := by rfl) (hline : (apos.endLine == cpos.line) = true := by rfl) : PE X (.Call (.Attribute o name apos) [] [] cpos) (tBM0 X.K T r to) := by
  intro pins s σ H Q I h
  refine wpAny_Call_method0_late hbase hline (thn (ho pins s σ H _ I h) fun v s1 ⟨x, H1, I1, r1, ty, q1⟩ => ?_)
  obtain ⟨h1, h2⟩ := tyV_is I1 r1 ty
  exact ⟨T, id, pa, slot, hty, h1, h2, Calls.callWith_builtin rfl (PySem.evalArgs_none (hm pins s1 σ H1 x [] v [] Q I1 r1 .nil q1))⟩
theorem pe_bm (pa : PlainAttrs T) (slot : Slot T name id) (hty : typeOf (.builtin id) = pure (.type "method_descriptor")) (hm : MtR X id r) (ho : PE X o to) (ha : PA X (e :: es) t)
    (hbase : attributeBase o name X.env (eval o X.env) = eval o X.env := by rfl)
    (hfew : ((backTo cpos (starEach (e :: es) X.env)).all (fun x => !x.1) && (backToKw cpos (keywordEach [] X.env)).all (fun x => x.1.isSome)
      && decide ((e :: es).length + ([] : List Keyword).length + (if ([] : List Keyword).isEmpty then 0 else 1) < 30)) = true := by rfl)
    (hline : (apos.endLine == cpos.line) = true := by rfl) (hs : starEach (e :: es) X.env = (false, eval e X.env) :: starEach es X.env := by rfl) (hplain : (backTo cpos (starEach es X.env)).any (·.1) = false := by rfl) :
    PE X (.Call (.Attribute o name apos) (e :: es) [] cpos) (tBM X.K T r to t) := by
  intro pins s σ H Q I h
  refine wpAny_Call_method_late hbase hfew hline rfl (thn (ho pins s σ H _ I h) fun v s1 ⟨x, H1, I1, r1, ty, q1⟩ => ?_)
  obtain ⟨h1, h2⟩ := tyV_is I1 r1 ty
  refine ⟨T, id, pa, slot, hty, h1, h2, ?_⟩
  have hA := ha cpos pins s1 σ H1 _ I1 q1
  rw [hs] at hA ⊢
  refine Calls.callWith_builtin (by show (false || (backTo cpos (starEach es X.env)).any (·.1)) = false; rw [hplain] <;> rfl) (Calls.evalArgs_plain ?_)
  exact thn hA fun us s2 ⟨vs, H2, I2, r2, q2⟩ => hm pins s2 σ H2 x vs v us Q I2 r1 r2 q2
end
end L2
namespace L2
open PySem PySem.Spec PyProof.Rows
def MtM (X : Cx) (id : String) (r : V → List V → Hp → VK → Prop) : Prop :=
  ∀ (pins : List (Addr × Obj)) (s : Shared) (σ : St) (H : Hp) (x : V) (xs : List V) (v : Value) (us : List Value) (Q : VK), Inv X pins σ H s → RelV x v → Vals xs us → r x xs H Q →
    wpAny (model X.prog X.w) X.A (call (.builtin id) (v :: us)) (EP X pins σ Q) X.xe s
theorem Vals.one : ∀ {x : V} {us : List Value}, Vals [x] us → ∃ u, us = [u] ∧ RelV x u
  | _, _, .cons r .nil => ⟨_, rfl, r⟩
theorem Vals.two : ∀ {x y : V} {us : List Value}, Vals [x, y] us → ∃ u v, us = [u, v] ∧ RelV x u ∧ RelV y v
  | _, _, _, .cons r (.cons q .nil) => ⟨_, _, rfl, r, q⟩
theorem Vals.zero : ∀ {us : List Value}, Vals [] us → us = []
  | _, .nil => rfl
theorem Vals.dropLast {xs : List V} {us : List Value} (h : Vals xs us) : Vals xs.dropLast us.dropLast := by
  induction h with
  | nil => exact .nil
  | cons r t ih =>
    cases t with
    | nil => exact .nil
    | cons q t' => exact .cons r ih
theorem Vals.reverse {xs : List V} {us : List Value} (h : Vals xs us) : Vals xs.reverse us.reverse := by
  induction h with
  | nil => exact .nil
  | cons r t ih => rw [List.reverse_cons, List.reverse_cons]; exact Vals.append ih (.cons r .nil)
theorem erase_last {α : Type} (l : List α) : l.eraseIdx (l.length - 1) = l.dropLast := by
  induction l with
  | nil => rfl
  | cons a r ih =>
    cases r with
    | nil => rfl
    | cons b r =>
      have e : (a :: b :: r).length - 1 = ((b :: r).length - 1) + 1 := by
        have h1 : (a :: b :: r).length = r.length + 2 := rfl
        have h2 : (b :: r).length = r.length + 1 := rfl
        omega
      rw [e, List.eraseIdx_cons_succ, ih]
      all_goals rfl
section
variable {X : Cx} {pins : List (Addr × Obj)} {σ : St} {H : Hp} {s : Shared} {l b : Addr} {xs ys zs : List V}
theorem Inv.lset {its its' : List Value} {n : Nat} {f : Array Value → Array Value} {t' : Nat} (I : Inv X pins σ H s) (hH : H l = some (.lst xs))
    (e : s.heap.get? l = some { cls := .type "list", data := .seq its.toArray n }) (hf : f its.toArray = its'.toArray) (hv : Vals ys its') (hz : ys.length ≤ sizeLine) :
    Inv X pins σ (upd H l (.lst ys)) { s with heap := s.heap.update l (Obj.mapSeq f), toks := t' } := by
  have q := PySem.IsL.update e f
  rw [hf] at q
  refine I.write (x := l) (e := l) (by rw [hH]; exact trivial) (.inl rfl) (fun b' u hb hu => (Heap.get?_update_other s.heap (Obj.mapSeq f) (Ne.symm hb)).trans hu) ⟨_, q⟩ ?_
  exact ⟨hz, its', _, hv, q⟩
theorem Inv.lnew {its : List Value} {t' : Nat} (I : Inv X pins σ H s) (hv : Vals ys its) (hz : ys.length ≤ sizeLine) :
    Inv X pins σ (upd H s.heap.objs.size (.lst ys)) { s with heap := s.heap.push { cls := .type "list", data := .seq its.toArray }, toks := t' } :=
  I.laid (fun _ _ q => Heap.get?_push_of_some _ q) (Nat.le_refl _) ⟨hz, its, 0, hv, Heap.get?_push_size _ rfl⟩
theorem Inv.fresh (I : Inv X pins σ H s) : H s.heap.objs.size = none := I.hok.fresh (Nat.le_refl _)
theorem Inv.lstM (I : Inv X pins σ H s) (hH : H l = some (.lst xs)) : xs.length ≤ sizeLine ∧ ∃ (its : List Value) (n : Nat), Vals xs its ∧ xs.length = its.length ∧ s.heap.get? l = some { cls := .type "list", data := .seq its.toArray n } := by
  obtain ⟨z, its, n, r, e⟩ := I.hok l _ hH
  exact ⟨z, its, n, r, r.length, e⟩
theorem notLongL {n : Nat} (h : n ≤ sizeLine) : Builtin.List.listTooLong n = false := by
  unfold Builtin.List.listTooLong
  exact decide_eq_false (by omega)
end
section
variable {X : Cx}
def rAppend : V → List V → Hp → VK → Prop := fun x vs H Q => ∃ l xs y, x = .ref l ∧ vs = [y] ∧ H l = some (.lst xs) ∧ xs.length < sizeLine ∧ Q .non (upd H l (.lst (xs ++ [y])))
theorem mt_append : MtM X "list.append" rAppend := by
  intro pins s σ H x vs v us Q I rx rv h
  obtain ⟨l, xs, y, rfl, rfl, hH, hz, q⟩ := h
  cases rx
  obtain ⟨u, rfl, ru⟩ := rv.one
  obtain ⟨z, its, n, r, hl, e⟩ := I.lstM hH
  refine call_meets F.slot_list_append ⟨_, e, rfl⟩ F.entry_list_append (F.args_list_append_2 _ _) (PySem.list_append l its.toArray n u (by rw [List.size_toArray]; omega)) ⟨e, ?_⟩
  refine ⟨.non, _, I.lset (its' := its ++ [u]) hH e (by simp) (r.append (.cons ru .nil)) ?_, rfl, q⟩
  rw [List.length_append, List.length_singleton]
  omega
def rExtend : V → List V → Hp → VK → Prop := fun x vs H Q => ∃ l b xs zs, x = .ref l ∧ vs = [.ref b] ∧ H l = some (.lst xs) ∧ H b = some (.lst zs) ∧ xs.length + zs.length ≤ sizeLine ∧ Q .non (upd H l (.lst (xs ++ zs)))
theorem mt_extend : MtM X "list.extend" rExtend := by
  intro pins s σ H x vs v us Q I rx rv h
  obtain ⟨l, b, xs, zs, rfl, rfl, hH, hB, hz, q⟩ := h
  cases rx
  obtain ⟨u, rfl, ru⟩ := rv.one
  cases ru
  obtain ⟨z, its, n, r, hl, e⟩ := I.lstM hH
  obtain ⟨z2, its2, n2, r2, hl2, e2⟩ := I.lstM hB
  have hsz : its.toArray.size + its2.toArray.size ≤ sizeLine := by rw [List.size_toArray, List.size_toArray]; omega
  have hlong : ¬ (!its.toArray.isEmpty && Builtin.List.listTooLong (its.toArray.size + its2.toArray.size)) = true := by
    rw [notLongL hsz, Bool.and_false]
    exact Bool.false_ne_true
  refine call_meets F.slot_list_extend ⟨_, e, rfl⟩ F.entry_list_extend (F.args_list_extend_2 _ _)
    (AutoSeq1.list_extend_list_list_0 l its.toArray n b its2.toArray n2 hlong (by rw [List.size_toArray]; omega) (by omega)) ⟨e, e2, ?_⟩
  refine ⟨.non, _, I.lset (its' := its ++ its2) hH e (by simp) (r.append r2) ?_, rfl, q⟩
  rw [List.length_append]
  omega
def rPop : V → List V → Hp → VK → Prop := fun x vs H Q => ∃ l xs y, x = .ref l ∧ vs = [] ∧ H l = some (.lst xs) ∧ xs[xs.length - 1]? = some y ∧ Q y (upd H l (.lst xs.dropLast))
theorem mt_pop : MtM X "list.pop" rPop := by
  intro pins s σ H x vs v us Q I rx rv h
  obtain ⟨l, xs, y, rfl, rfl, hH, hy, q⟩ := h
  cases rx
  have hus := rv.zero
  subst hus
  obtain ⟨z, its, n, r, hl, e⟩ := I.lstM hH
  obtain ⟨u, hu, ru⟩ := r.get hy
  have hy' : its.toArray[its.toArray.size - 1]? = some u := by
    show its.toArray[its.length - 1]? = some u
    rw [← Array.getElem?_toList, ← hl]
    exact hu
  refine call_meets F.slot_list_pop ⟨_, e, rfl⟩ F.entry_list_pop (F.args_list_pop_1 _) (MeetsSeq.list_pop_last l its.toArray n u hy' (by rw [List.size_toArray]; omega)) ⟨e, ?_⟩
  refine ⟨y, _, I.lset (its' := its.dropLast) hH e ?_ r.dropLast ?_, ru, q⟩
  · show its.toArray.eraseIdxIfInBounds (its.toArray.size - 1) = its.dropLast.toArray
    rw [List.size_toArray, List.eraseIdxIfInBounds_toArray, erase_last]
  · rw [List.length_dropLast]
    omega
def rCat : R2 := fun x y H Q => ∃ l b xs zs, x = .ref l ∧ y = .ref b ∧ H l = some (.lst xs) ∧ H b = some (.lst zs) ∧ xs.length + zs.length ≤ sizeLine ∧ ∀ p, H p = none → Q (.ref p) (upd H p (.lst (xs ++ zs)))
theorem op_cat : OpR X (binaryOp .Add) rCat := by
  intro pins s σ H x y v u Q I rx ry h
  obtain ⟨l, b, xs, zs, rfl, rfl, hH, hB, hz, q⟩ := h
  cases rx
  cases ry
  obtain ⟨z, its, n, r, hl, e⟩ := I.lstM hH
  obtain ⟨z2, its2, n2, r2, hl2, e2⟩ := I.lstM hB
  refine PySem.P.add_list e e2 ?_ (by rw [List.size_toArray, List.size_toArray]; omega)
  have ea : its.toArray ++ its2.toArray = (its ++ its2).toArray := by simp
  rw [ea]
  exact ⟨.ref _, _, I.lnew (t' := s.toks) (r.append r2) (by rw [List.length_append]; omega), rfl, q _ I.fresh⟩
end
section
variable {prog : Program} {w : World} {A : Around} {E : Value → Shared → Prop} {s : Shared}
end
section
variable {X : Cx}
end
end L2
namespace L2
open PySem PySem.Spec PyProof.Rows
section
variable {κ : Type} [DecidableEq κ]
def valV (kvs : List (κ × V)) (k : κ) : Option V := (kvs.find? fun kv => decide (kv.1 = k)).map (·.2)
def putK (kvs : List (κ × V)) (k : κ) (v : V) : List (κ × V) :=
  if (kvs.any fun kv => decide (kv.1 = k)) = true then kvs.map (fun kv => if kv.1 = k then (kv.1, v) else kv) else kvs ++ [(k, v)]
theorem valV_pos {p : κ × V} {r : List (κ × V)} {k : κ} (e : p.1 = k) : valV (p :: r) k = some p.2 := by simp [valV, List.find?_cons, e]
theorem valV_neg {p : κ × V} {r : List (κ × V)} {k : κ} (e : ¬ p.1 = k) : valV (p :: r) k = valV r k := by simp [valV, List.find?_cons, e]
theorem valV_any (k : κ) : ∀ kvs : List (κ × V), (kvs.any fun kv => decide (kv.1 = k)) = (valV kvs k).isSome
  | [] => rfl
  | p :: r => by
    rw [List.any_cons]
    by_cases e : p.1 = k
    · simp only [valV_pos e, decide_eq_true e, Bool.true_or, Option.isSome_some]
    · rw [valV_neg e, decide_eq_false e, Bool.false_or]; exact valV_any k r
theorem valV_map (k j : κ) (y : V) : ∀ kvs : List (κ × V), valV (kvs.map fun kv => if kv.1 = k then (kv.1, y) else kv) j = (valV kvs j).map fun x => if j = k then y else x
  | [] => rfl
  | p :: r => by
    have ih := valV_map k j y r
    rw [List.map_cons]
    by_cases h : p.1 = k
    · rw [if_pos h]
      by_cases e : p.1 = j
      · rw [valV_pos (p := (p.1, y)) e, valV_pos e, Option.map_some, if_pos (e.symm.trans h)]
      · rw [valV_neg (p := (p.1, y)) e, valV_neg e, ih]
    · rw [if_neg h]
      by_cases e : p.1 = j
      · rw [valV_pos (p := p) e, valV_pos e, Option.map_some, if_neg (fun z => h (e.trans z))]
      · rw [valV_neg (p := p) e, valV_neg e, ih]
theorem valV_snoc (k j : κ) (y : V) : ∀ kvs : List (κ × V), valV kvs k = none → valV (kvs ++ [(k, y)]) j = if j = k then some y else valV kvs j
  | [], _ => by
    by_cases e : k = j
    · rw [if_pos e.symm]; exact valV_pos (p := (k, y)) e
    · rw [if_neg (fun z => e z.symm)]; exact valV_neg (p := (k, y)) e
  | p :: r, hn => by
    rw [List.cons_append]
    have hk : ¬ p.1 = k := fun z => by rw [valV_pos z] at hn; cases hn
    rw [valV_neg hk] at hn
    have ih := valV_snoc k j y r hn
    by_cases e : p.1 = j
    · rw [valV_pos e, valV_pos e, if_neg (fun z => hk (e.trans z))]
    · rw [valV_neg e, valV_neg e, ih]
theorem valV_put (kvs : List (κ × V)) (k j : κ) (y : V) : valV (putK kvs k y) j = if j = k then some y else valV kvs j := by
  unfold putK
  by_cases a : (kvs.any fun kv => decide (kv.1 = k)) = true
  · rw [if_pos a, valV_map]
    rw [valV_any] at a
    by_cases e : j = k
    · obtain ⟨x, hx⟩ := Option.isSome_iff_exists.mp a
      rw [if_pos e, e, hx, Option.map_some, if_pos rfl]
    · rw [if_neg e]
      cases valV kvs j with
      | none => rfl
      | some x => rw [Option.map_some, if_neg e]
  · rw [if_neg a]
    refine valV_snoc k j y kvs ?_
    rw [valV_any] at a
    cases q : valV kvs k with
    | none => rfl
    | some x => rw [q] at a; exact (a rfl).elim
theorem length_putK (kvs : List (κ × V)) (k : κ) (v : V) : (putK kvs k v).length ≤ kvs.length + 1 := by
  unfold putK
  split
  · rw [List.length_map]; omega
  · rw [List.length_append, List.length_cons, List.length_nil]; omega
theorem putK_new {kvs : List (κ × V)} {k : κ} (v : V) (h : valV kvs k = none) : putK kvs k v = kvs ++ [(k, v)] := by
  unfold putK
  rw [valV_any, h]
  exact if_neg (by decide)
theorem RelO.isSome_eq {o : Option V} {u : Option Value} (r : RelO o u) : o.isSome = u.isSome := by
  cases o with
  | none => cases u with
    | none => rfl
    | some _ => exact (show False from r).elim
  | some _ => cases u with
    | none => exact (show False from r).elim
    | some _ => rfl
theorem KV.val {kvs : List (κ × V)} {vs : List (κ × Value)} (r : KV kvs vs) (k : κ) : RelO (valV kvs k) (valueAt vs k) := by
  unfold KV at r
  induction r with
  | nil => exact True.intro
  | @cons p q ps qs h t ih =>
    obtain ⟨h1, h2⟩ := h
    by_cases e : p.1 = k
    · have e' : q.1 = k := h1.symm.trans e
      have b : valueAt (q :: qs) k = some q.2 := by simp [valueAt, List.find?_cons, e']
      rw [valV_pos e, b]; exact h2
    · have e' : ¬ q.1 = k := fun z => e (h1.trans z)
      have b : valueAt (q :: qs) k = valueAt qs k := by simp [valueAt, List.find?_cons, e']
      rw [valV_neg e, b]; exact ih
theorem KV.any {kvs : List (κ × V)} {vs : List (κ × Value)} (r : KV kvs vs) (k : κ) : (kvs.any fun kv => decide (kv.1 = k)) = vs.any fun kv => decide (kv.1 = k) := by
  unfold KV at r
  induction r with
  | nil => rfl
  | cons h t ih => rw [List.any_cons, List.any_cons, ih, h.1]
theorem KV.repl {kvs : List (κ × V)} {vs : List (κ × Value)} (r : KV kvs vs) (k : κ) {y : V} {u : Value} (ry : RelV y u) :
    KV (kvs.map fun kv => if kv.1 = k then (kv.1, y) else kv) (vs.map fun kv => if kv.1 = k then (kv.1, u) else kv) := by
  unfold KV at r ⊢
  induction r with
  | nil => exact .nil
  | @cons p q ps qs h t ih =>
    rw [List.map_cons, List.map_cons]
    refine .cons ?_ ih
    obtain ⟨h1, h2⟩ := h
    by_cases e : p.1 = k
    · rw [if_pos e, if_pos (h1.symm.trans e)]; exact ⟨h1, ry⟩
    · rw [if_neg e, if_neg (fun z => e (h1.trans z))]; exact ⟨h1, h2⟩
theorem KV.put {kvs : List (κ × V)} {vs : List (κ × Value)} (r : KV kvs vs) (k : κ) {y : V} {u : Value} (ry : RelV y u) : KV (putK kvs k y) (stored vs k u) := by
  unfold putK stored
  rw [r.any k]
  by_cases e : (vs.any fun kv => decide (kv.1 = k)) = true
  · rw [if_pos e, if_pos e]; exact r.repl k ry
  · rw [if_neg e, if_neg e]; exact Paired.snoc r ⟨rfl, ry⟩
theorem KV.length {kvs : List (κ × V)} {vs : List (κ × Value)} (r : KV kvs vs) : kvs.length = vs.length := Paired.length r
end
theorem kV_is {P : Program} {w : World} {k : Key} {u : Value} (r : RelV (kV k) u) : (mixKind P w).is k u = true := by
  cases k with
  | inl i => obtain ⟨t, e⟩ := (show ∃ t, u = Value.int i t from r); subst e; exact mixKind_int P w i t
  | inr x => obtain ⟨t, e⟩ := (show ∃ t, u = Value.str x t from r); subst e; exact mixKind_str P w x t
theorem items_are {P : Program} {w : World} : ∀ {ks : List Key} {us : List Value}, Vals (ks.map kV) us → ItemsAre (mixKind P w) ks us
  | [], _, r => by rw [List.map_nil] at r; cases r; exact .nil
  | k :: ks, _, r => by
    rw [List.map_cons] at r
    cases r with
    | cons h t => exact .cons (kV_is h) (items_are t)
abbrev KT (H : Hp) : List (List Key × V) → List (List Key × Addr × Value) → Prop := Paired fun p q => p.1 = q.1 ∧ H q.2.1 = some (.tup (p.1.map kV)) ∧ RelV p.2 q.2.2
theorem KT.val {H : Hp} {kvs : List (List Key × V)} {xs : List (List Key × Addr × Value)} (r : KT H kvs xs) (k : List Key) : RelO (valV kvs k) ((atKey xs k).map (·.2)) := by
  induction r with
  | nil => exact True.intro
  | @cons p q ps qs h t ih =>
    obtain ⟨h1, _, h2⟩ := h
    by_cases e : p.1 = k
    · have e' : q.1 = k := h1.symm.trans e
      have b : atKey (q :: qs) k = some q.2 := by simp [atKey, List.find?_cons, e']
      rw [valV_pos e, b]; exact h2
    · have e' : ¬ q.1 = k := fun z => e (h1.trans z)
      have b : atKey (q :: qs) k = atKey qs k := by simp [atKey, List.find?_cons, e']
      rw [valV_neg e, b]; exact ih
theorem KT.repl {H : Hp} {kvs : List (List Key × V)} {xs : List (List Key × Addr × Value)} (r : KT H kvs xs) (k : List Key) {y : V} {u : Value} (ry : RelV y u) :
    KT H (kvs.map fun kv => if kv.1 = k then (kv.1, y) else kv) (xs.map (putAt k u)) := by
  induction r with
  | nil => exact .nil
  | @cons p q ps qs h t ih =>
    rw [List.map_cons, List.map_cons]
    refine .cons ?_ ih
    obtain ⟨h1, h2, h3⟩ := h
    unfold putAt
    by_cases e : p.1 = k
    · rw [if_pos e, if_pos (h1.symm.trans e)]; exact ⟨h1, h2, ry⟩
    · rw [if_neg e, if_neg (fun z => e (h1.trans z))]; exact ⟨h1, h2, h3⟩
theorem KT.put {H : Hp} {kvs : List (List Key × V)} {xs : List (List Key × Addr × Value)} (r : KT H kvs xs) (k : List Key) {b : Addr} {y : V} {u : Value} (hb : H b = some (.tup (k.map kV))) (ry : RelV y u) :
    KT H (putK kvs k y) (storedH xs k b u) := by
  have e : (kvs.any fun kv => decide (kv.1 = k)) = (atKey xs k).isSome := by
    rw [valV_any, (r.val k).isSome_eq, Option.isSome_map]
  unfold putK storedH
  rw [e]
  by_cases q : (atKey xs k).isSome = true
  · rw [if_pos q, if_pos q]; exact r.repl k ry
  · rw [if_neg q, if_neg q]; exact Paired.snoc r ⟨rfl, hb, ry⟩
theorem KT.keeps {H H' : Hp} {kvs : List (List Key × V)} {xs : List (List Key × Addr × Value)} (r : KT H kvs xs) (ht : ∀ b ys, H b = some (.tup ys) → H' b = some (.tup ys)) : KT H' kvs xs :=
  Paired.mapP r fun _ _ z => ⟨z.1, ht _ _ z.2.1, z.2.2⟩
section
variable {P : Program} {w : World} {H : Hp} {h : Heap} {a : Addr}
theorem rd_of {u : HO} (ok : HOk P w H h) (e : Rd H a u) : ObjOk P w H h a u := e.ok ok
theorem dk_rd {kvs : List (Key × V)} (ok : HOk P w H h) (e : Rd H a (.dK kvs)) : kvs.length ≤ sizeLine ∧ (a == sysModules) = false ∧ ∃ vs, KV kvs vs ∧ h.DictOf (mixKind P w) a vs :=
  show ObjOk P w H h a (.dK kvs) from rd_of ok e
theorem dk_of {kvs : List (Key × V)} (ok : HOk P w H h) (e : H a = some (.dK kvs)) : kvs.length ≤ sizeLine ∧ (a == sysModules) = false ∧ ∃ vs, KV kvs vs ∧ h.DictOf (mixKind P w) a vs := dk_rd ok (.inl e)
theorem key_of {ks : List Key} (ok : HOk P w H h) (e : H a = some (.tup (ks.map kV))) : (tupleKind (mixKind P w)).is h ks a := by
  obtain ⟨_, its, r, o, h1, h2, n, h3⟩ := (show ObjOk P w H h a (.tup (ks.map kV)) from ok a _ e)
  exact ⟨o, its.toArray, n, h1, h2, h3, by simpa using items_are r⟩
theorem dt_rd {kvs : List (List Key × V)} (ok : HOk P w H h) (e : Rd H a (.dT kvs)) : kvs.length ≤ sizeLine ∧ (a == sysModules) = false ∧
    ∃ xs, KT H kvs xs ∧ h.DictOfH (tupleKind (mixKind P w)) a xs := by
  obtain ⟨z, y, xs, r, o, es, ep, h1, h2, h3, h4, h5⟩ := (show ObjOk P w H h a (.dT kvs) from rd_of ok e)
  refine ⟨z, y, xs, r, o, es, ep, h1, h2, h3, h4, fun x hx => ?_, h5⟩
  have all : ∀ {l : List (List Key × V)} {m : List (List Key × Addr × Value)}, KT H l m → ∀ x ∈ m, (tupleKind (mixKind P w)).is h x.1 x.2.1 := by
    intro l m q
    induction q with
    | nil => intro x hx; exact nomatch hx
    | @cons p q ps qs hq t ih =>
      intro x hx
      rcases List.mem_cons.mp hx with e | hx
      · subst e
        exact key_of ok (by rw [← hq.1]; exact hq.2.1)
      · exact ih x hx
  exact all r x hx
theorem dt_of {kvs : List (List Key × V)} (ok : HOk P w H h) (e : H a = some (.dT kvs)) : kvs.length ≤ sizeLine ∧ (a == sysModules) = false ∧
    ∃ xs, KT H kvs xs ∧ h.DictOfH (tupleKind (mixKind P w)) a xs := dt_rd ok (.inl e)
end
def DGet (H : Hp) (a : Addr) (y : V) (r : Option V) : Prop :=
  (∃ kvs k, Rd H a (.dK kvs) ∧ y = kV k ∧ r = valV kvs k) ∨ ∃ kvs k b, Rd H a (.dT kvs) ∧ y = .ref b ∧ H b = some (.tup (k.map kV)) ∧ r = valV kvs k
def DPut (H : Hp) (a : Addr) (y v : V) (H' : Hp) : Prop :=
  (∃ kvs k, H a = some (.dK kvs) ∧ y = kV k ∧ kvs.length < sizeLine ∧ H' = upd H a (.dK (putK kvs k v))) ∨
  ∃ kvs k b, H a = some (.dT kvs) ∧ y = .ref b ∧ H b = some (.tup (k.map kV)) ∧ kvs.length < sizeLine ∧ H' = upd H a (.dT (putK kvs k v))
theorem DGet.k {H : Hp} {a : Addr} {kvs : List (Key × V)} {k : Key} (e : H a = some (.dK kvs)) : DGet H a (kV k) (valV kvs k) := .inl ⟨kvs, k, .inl e, rfl, rfl⟩
theorem DGet.t {H : Hp} {a b : Addr} {kvs : List (List Key × V)} {k : List Key} (e : H a = some (.dT kvs)) (eb : H b = some (.tup (k.map kV))) : DGet H a (.ref b) (valV kvs k) := .inr ⟨kvs, k, b, .inl e, rfl, eb, rfl⟩
theorem DPut.k {H : Hp} {a : Addr} {kvs : List (Key × V)} {k : Key} {v : V} (e : H a = some (.dK kvs)) (hl : kvs.length < sizeLine) : DPut H a (kV k) v (upd H a (.dK (putK kvs k v))) := .inl ⟨kvs, k, e, rfl, hl, rfl⟩
theorem DPut.t {H : Hp} {a b : Addr} {kvs : List (List Key × V)} {k : List Key} {v : V} (e : H a = some (.dT kvs)) (eb : H b = some (.tup (k.map kV))) (hl : kvs.length < sizeLine) :
    DPut H a (.ref b) v (upd H a (.dT (putK kvs k v))) := .inr ⟨kvs, k, b, e, rfl, eb, hl, rfl⟩
section
variable {X : Cx} {pins : List (Addr × Obj)} {σ : St} {H : Hp} {s : Shared} {a : Addr} {y v : V} {u r : Value} {o : Option V} {A : Around} {E : Value → Shared → Prop}
theorem Inv.big (I : Inv X pins σ H s) : sysModules < s.heap.objs.size := by
  have h : mainGlobals < s.heap.objs.size := (I.mod.glob.keeps I.bk).lt
  exact Nat.lt_trans (by decide) h
theorem d_getItem {Q : Value → Shared → Prop} (hu : A.units + 1 < cLine) (I : Inv X pins σ H s) (g : DGet H a y (some v)) (ry : RelV y u) (h : ∀ w' s', Inv X pins σ H s' → RelV v w' → Q w' s') :
    wpAny (model X.prog X.w) A (getItem (.ref a) u) Q E s := by
  rcases g with ⟨kvs, k, e, ey, l⟩ | ⟨kvs, k, b, e, ey, eb, l⟩
  · subst ey
    obtain ⟨z, hd, vs, rel, dd⟩ := dk_rd I.hok e
    obtain ⟨w', hw, rw'⟩ := RelO.some_of (v := v) (o := valueAt vs k) (by rw [l]; exact rel.val k)
    exact wpAny_getItem_of (kV_is ry) dd.mapOf hw (h w' _ (I.tok _) rw')
  · subst ey
    cases (show u = Value.ref b from ry)
    obtain ⟨z, hd, xs, rel, dd⟩ := dt_rd I.hok e
    obtain ⟨w', hw, rw'⟩ := RelO.some_of (v := v) (o := (atKey xs k).map (·.2)) (by rw [l]; exact rel.val k)
    obtain ⟨p, hp, hp2⟩ := Option.map_eq_some_iff.mp hw
    refine wpAny_getItem_heap (tupleKind_room_in1 hu) (key_of I.hok eb) dd hp ?_
    rw [hp2]
    exact h w' _ (I.tok _) rw'
theorem d_notIn {Q : Value → Shared → Prop} (hu : A.units + 1 < cLine) (I : Inv X pins σ H s) (g : DGet H a y o) (ry : RelV y u) (h : ∀ s', Inv X pins σ H s' → Q (.bool (!o.isSome)) s') :
    wpAny (model X.prog X.w) A (compareOp .NotIn u (.ref a)) Q E s := by
  rcases g with ⟨kvs, k, e, ey, l⟩ | ⟨kvs, k, b, e, ey, eb, l⟩
  · subst ey
    obtain ⟨z, hd, vs, rel, dd⟩ := dk_rd I.hok e
    refine wpAny_notIn_of (kV_is ry) hd dd.mapOf ?_
    rw [← (rel.val k).isSome_eq, ← l]
    exact h _ (I.tok _)
  · subst ey
    cases (show u = Value.ref b from ry)
    obtain ⟨z, hd, xs, rel, dd⟩ := dt_rd I.hok e
    refine wpAny_notIn_heap (tupleKind_room_in1 hu) (key_of I.hok eb) hd dd ?_
    have q := (rel.val k).isSome_eq
    rw [Option.isSome_map] at q
    rw [← q, ← l]
    exact h _ (I.tok _)
theorem d_write {h' : Heap} {t' : Nat} {ob : HO} (I : Inv X pins σ H s) (mu : Mut (H a)) (hs : Heap.SameBut a s.heap h') (he : ∃ q, h'.get? a = some q) (new : ObjOk X.prog X.w (upd H a ob) h' a ob) :
    Inv X pins σ (upd H a ob) { s with heap := h', toks := t' } :=
  I.write (x := a) (e := a) mu (.inl rfl) (fun b q hb z => (hs.2 b hb).trans z) he new
theorem dk_new {P : Program} {w : World} {H' : Hp} {h' : Heap} {kvs : List (Key × V)} {vs : List (Key × Value)} (z : kvs.length ≤ sizeLine) (hd : (a == sysModules) = false) (rel : KV kvs vs) (dd : h'.DictOf (mixKind P w) a vs) :
    ObjOk P w H' h' a (.dK kvs) := ⟨z, hd, vs, rel, dd⟩
theorem d_setItem {H' : Hp} {Q : Unit → Shared → Prop} (hu : A.units + 1 < cLine) (I : Inv X pins σ H s) (g : DPut H a y v H') (ry : RelV y u) (rv : RelV v r) (h : ∀ s', Inv X pins σ H' s' → Q () s') :
    wpAny (model X.prog X.w) A (setItem (.ref a) u r) Q E s := by
  rcases g with ⟨kvs, k, e, ey, l, eH⟩ | ⟨kvs, k, b, e, ey, eb, l, eH⟩
  · subst ey eH
    obtain ⟨z, hd, vs, rel, dd⟩ := dk_of I.hok e
    have hz : vs.length ≤ sizeLine := by rw [← rel.length]; exact z
    have hl : (putK kvs k v).length ≤ sizeLine := by have := length_putK kvs k v; omega
    refine wpAny_setItem_pairs (hsz := hz) (kV_is ry) dd fun h' dd' hs => h _ ?_
    have he : ∃ q, h'.get? a = some q := let ⟨q, _, _, hq, _⟩ := dd'; ⟨q, hq⟩
    exact d_write I (by rw [e]; exact True.intro) hs he (dk_new hl hd (rel.put k rv) dd')
  · subst ey eH
    cases (show u = Value.ref b from ry)
    obtain ⟨z, hd, xs, rel, dd⟩ := dt_of I.hok e
    have hz : xs.length ≤ sizeLine := by rw [← Paired.length rel]; exact z
    have hl : (putK kvs k v).length ≤ sizeLine := by have := length_putK kvs k v; omega
    refine wpAny_setItem_heap (hsz := hz) (tupleKind_room_in1 hu) (key_of I.hok eb) dd fun h' dd' hs => h _ ?_
    obtain ⟨q, es, ep, hq, h2, h3, h4, _, h5⟩ := dd'
    refine d_write I (by rw [e]; exact True.intro) hs ⟨q, hq⟩ ⟨hl, hd, _, (rel.put k eb rv).keeps fun c ys ec => ?_, q, es, ep, hq, h2, h3, h4, h5⟩
    rw [upd_ne (ne_of ec e (fun z => nomatch z))]
    exact ec
end
section
variable {X : Cx} {pins : List (Addr × Obj)} {σ : St} {H : Hp} {s : Shared} {a : Addr} {kvs : List (Key × V)} {k : Key} {u : Value} {A : Around} {E : Value → Shared → Prop}
end
def NoSl (i : Expr) : Prop := ∀ ov iv, subscripted i false ov iv = operate [ov, iv] (getItem ov iv)
theorem subD_of {prog : Program} {w : World} {A : Around} {E : Value → Shared → Prop} {s : Shared} {env : Env} {value slice : Expr} {pos : Pos} {T id : String} {Q : Value → Shared → Prop}
    (hl : typeLookup (.type T) "__getitem__" = pure (some (.builtin id))) (hs : NoSl slice)
    (h : wpAny (model prog w) A (eval value env) (fun o s₁ => wpAny (model prog w) A (eval slice env) (fun i s₂ => s₂.TypeIs o T ∧ wpAny (model prog w) A (getItem o i) Q E s₂) E s₁) E s) :
    wpAny (model prog w) A (eval (.Subscript value slice pos) env) Q E s := by
  refine Subscript_ (wpAny_mono h (fun o s₁ h₁ => wpAny_mono h₁ (fun i s₂ h₂ => ?_) fun _ _ x => x) fun _ _ x => x)
  obtain ⟨hT, h₂⟩ := h₂
  unfold subscriptTail
  refine wpAny_bind ?_
  rw [getitemInPython_of_ne hT.not_modules]
  refine wpAny_bind (wpAny_specialOf hT hl ?_)
  have fin : wpAny (model prog w) A (subscripted slice false o i) (fun r s₃ => wpAny (model prog w) A (letTemporaryGo value o r >>= fun _ => pure r) Q E s₃) E s₂ := by
    rw [hs o i]
    exact wpAny_operating (wpAny_mono h₂ (fun r s₃ h₃ => wpAny_bind (wpAny_letTemporaryGo (wpAny_pure h₃))) fun _ _ x => x)
  first
    | exact wpAny_pure (wpAny_bind fin)
    | exact wpAny_bind (wpAny_pure (wpAny_bind fin))
    | exact wpAny_bind fin
theorem dict_typeIs {X : Cx} {pins : List (Addr × Obj)} {σ : St} {H : Hp} {s : Shared} {a : Addr} {y : V} {o : Option V} (I : Inv X pins σ H s) (g : DGet H a y o) : s.TypeIs (.ref a) "dict" := by
  rcases g with ⟨kvs, k, e, _, _⟩ | ⟨kvs, k, b, e, _, _, _⟩
  · obtain ⟨_, _, vs, _, dd⟩ := dk_rd I.hok e
    exact dd.typeIs
  · obtain ⟨_, _, xs, _, dd⟩ := dt_rd I.hok e
    exact dd.typeIs
def tDGet (td ty : TE) : TE := fun σ H Q => td σ H fun x H1 => ty σ H1 fun y H2 => ∃ a v, x = .ref a ∧ DGet H2 a y (some v) ∧ Q v H2
def tDNotIn (ty td : TE) : TE := fun σ H Q => ty σ H fun y H1 => td σ H1 fun x H2 => ∃ a o, x = .ref a ∧ DGet H2 a y o ∧ Q (.bl (!o.isSome)) H2
def sDPut (td ty tv : TE) : TS := fun D σ H => tv σ H fun v H1 => td σ H1 fun x H2 => ty σ H2 fun y H3 => ∃ a H4, x = .ref a ∧ DPut H3 a y v H4 ∧ D.nx σ H4
section
variable {X : Cx} {o i e value : Expr} {pos pos' tpos : Pos} {td ty tv : TE}
theorem pe_dget (hu : X.A.units + 1 < cLine) (ho : PE X o td) (hi : PE X i ty) (hs : NoSl i) : PE X (.Subscript o i pos) (tDGet td ty) := by
  intro pins s σ H Q I h
  refine subD_of PySem.F.slot_dict_getitem.lookup hs (thn (ho pins s σ H _ I h) fun u s1 ⟨x, H1, I1, rx, q1⟩ => thn (hi pins s1 σ H1 _ I1 q1) fun iv s2 ⟨y, H2, I2, ry, a, v, ex, g, q2⟩ => ?_)
  subst ex
  obtain rfl : u = Value.ref a := rx
  exact ⟨dict_typeIs I2 g, d_getItem hu I2 g ry fun w' s3 I3 rw' => ⟨v, H2, I3, rw', q2⟩⟩
theorem pc_dnotin (hu : X.A.units + 1 < cLine) (hi : PE X i ty) (ho : PE X o td) : PC X .NotIn i o (tDNotIn ty td) := by
  intro pins s σ H Q I h
  refine thn (hi pins s σ H _ I h) fun iv s1 ⟨y, H1, I1, ry, q1⟩ => thn (ho pins s1 σ H1 _ I1 q1) fun u s2 ⟨x, H2, I2, rx, a, ov, ex, g, q2⟩ => ?_
  subst ex
  obtain rfl : u = Value.ref a := rx
  exact d_notIn hu I2 g ry fun s3 I3 => ⟨.bl (!ov.isSome), H2, I3, rfl, q2⟩
theorem ps_dput (hu : X.A.units + 1 < cLine) (ho : PE X o td) (hi : PE X i ty) (hv : PE X value tv) (hs : swapsWith value (some (.Subscript o i pos')) pos.line X.env = pure false) :
    PS X (.Assign [.Subscript o i pos'] value pos) (sDPut td ty tv) := by
  intro pins s σ H D I h
  refine wpAny_Assign_Subscript (thn (hv pins s σ H _ I h) fun r s1 ⟨v, H1, I1, rv, q1⟩ => thn (ho pins s1 σ H1 _ I1 q1) fun u s2 ⟨x, H2, I2, rx, q2⟩ => thn (hi pins s2 σ H2 _ I2 q2) fun iv s3 ⟨y, H3, I3, ry, a, H4, ex, g, q3⟩ => ?_) hs
  subst ex
  obtain rfl : u = Value.ref a := rx
  exact d_setItem hu I3 g ry rv fun s4 I4 => ⟨σ, H4, I4, q3⟩
end
theorem dt_empty {P : Program} {w : World} {H : Hp} (h : Heap) (hb : sysModules < h.objs.size) : ObjOk P w H (h.push { cls := .type "dict", data := .dict #[] }) h.objs.size (.dT []) :=
  ⟨Nat.zero_le _, beq_eq_false_iff_ne.mpr (Ne.symm (Nat.ne_of_lt hb)), [], .nil, _, #[], 0, Heap.get?_push_size _ rfl, ⟨rfl, rfl, rfl⟩, rfl, rfl, List.nodup_nil⟩
def tDNewT : TE := fun _ H Q => ∀ p, H p = none → Q (.ref p) (upd H p (.dT []))
section
variable {X : Cx} {pos : Pos}
theorem pe_dnewT : PE X (.Dict [] [] pos) tDNewT := fun pins s σ H Q I h =>
  wpAny_Dict_empty ⟨.ref s.heap.objs.size, _, I.laid (a := s.heap.objs.size) (o := .dT []) (t' := s.toks) (fun _ _ q => Heap.get?_push_of_some _ q) (Nat.le_refl _) (dt_empty s.heap I.big), rfl, h _ (I.hok.fresh (Nat.le_refl _))⟩
end
def tPairs : List (TE × TE) → St → Hp → (List (V × V) → Hp → Prop) → Prop
  | [], _, H, Q => Q [] H
  | (tk, tv) :: r, σ, H, Q => tk σ H fun x H1 => tv σ H1 fun y H2 => tPairs r σ H2 fun ps H3 => Q ((x, y) :: ps) H3
abbrev VV : List (V × V) → List (Value × Value) → Prop := Paired fun p q => RelV p.1 q.1 ∧ RelV p.2 q.2
def PPs (X : Cx) (pos : Pos) (keys : List (Option Expr)) (values : List Expr) (trs : List (TE × TE)) : Prop :=
  ∀ (pins : List (Addr × Obj)) (s : Shared) (σ : St) (H : Hp) (Q : List (V × V) → Hp → Prop), Inv X pins σ H s → tPairs trs σ H Q →
    wpAny (model X.prog X.w) X.A (evalPairs (pairTrees keys values X.env pos)) (fun vs s' => ∃ ps H', Inv X pins σ H' s' ∧ VV ps vs ∧ Q ps H') X.xe s
theorem pps_nil {X : Cx} {pos : Pos} : PPs X pos [] [] [] := fun pins s σ H Q I h => pairTrees_nil_walk ⟨[], H, I, .nil, h⟩
theorem pps_cons {X : Cx} {pos : Pos} {k v : Expr} {ks : List (Option Expr)} {vs : List Expr} {tk tv : TE} {trs : List (TE × TE)} (hk : PE X k tk) (hv : PE X v tv) (hr : PPs X pos ks vs trs) :
    PPs X pos (some k :: ks) (v :: vs) ((tk, tv) :: trs) := fun pins s σ H Q I h =>
  pairTrees_cons_walk (thn (hk pins s σ H _ I h) fun u s1 ⟨x, H1, I1, rx, q1⟩ => thn (hv pins s1 σ H1 _ I1 q1) fun w2 s2 ⟨y, H2, I2, ry, q2⟩ =>
    thn (hr pins s2 σ H2 _ I2 q2) fun ws s3 ⟨ps, H3, I3, rel, q3⟩ => ⟨(x, y) :: ps, H3, I3, .cons ⟨rx, ry⟩ rel, q3⟩)
def mergeK (kvs more : List (Key × V)) : List (Key × V) := more.foldl (fun acc kv => putK acc kv.1 kv.2) kvs
theorem KV.merge : ∀ {more : List (Key × V)} {rs : List (Key × Value)} {kvs : List (Key × V)} {vs : List (Key × Value)}, KV more rs → KV kvs vs → KV (mergeK kvs more) (merged vs rs) := by
  intro more rs kvs vs r
  unfold KV at r
  induction r generalizing kvs vs with
  | nil => intro q; exact q
  | @cons p q ps qs h t ih =>
    intro r0
    have e : KV (putK kvs p.1 p.2) (stored vs q.1 q.2) := by
      have := r0.put p.1 h.2
      rw [← h.1]; exact this
    exact ih e
theorem length_mergeK : ∀ (more kvs : List (Key × V)), (mergeK kvs more).length ≤ kvs.length + more.length
  | [], kvs => by show kvs.length ≤ kvs.length + 0; omega
  | p :: r, kvs => by
    have h1 := length_mergeK r (putK kvs p.1 p.2)
    have h2 := length_putK kvs p.1 p.2
    show (mergeK (putK kvs p.1 p.2) r).length ≤ _
    rw [List.length_cons]; omega
def IsD (H : Hp) (a : Addr) : Prop := (∃ kvs, Rd H a (.dK kvs)) ∨ ∃ kvs, Rd H a (.dT kvs)
theorem isD_at {X : Cx} {pins : List (Addr × Obj)} {σ : St} {H : Hp} {s : Shared} {a : Addr} (I : Inv X pins σ H s) (d : IsD H a) :
    s.TypeIs (.ref a) "dict" ∧ (∀ b, Value.ref a = .ref b → ∃ ob, s.heap.get? b = some ob ∧ ob.dict = none) ∧ (a == sysModules) = false := by
  rcases d with ⟨kvs, e⟩ | ⟨kvs, e⟩
  · obtain ⟨_, hd, vs, _, dd⟩ := dk_rd I.hok e
    refine ⟨dd.typeIs, fun b q => ?_, hd⟩
    cases q
    obtain ⟨ob, _, _, h1, h2, _⟩ := dd
    exact ⟨ob, h1, h2.2.1⟩
  · obtain ⟨_, hd, xs, _, dd⟩ := dt_rd I.hok e
    refine ⟨dd.typeIs, fun b q => ?_, hd⟩
    cases q
    obtain ⟨ob, _, _, h1, h2, _⟩ := dd
    exact ⟨ob, h1, h2.2.1⟩
section
variable {X : Cx} {pins : List (Addr × Obj)} {σ : St} {H : Hp} {s : Shared} {a : Addr} {y d : V} {u r : Value} {o : Option V} {A : Around} {E : Value → Shared → Prop}
end
section
variable {X : Cx} {o e f : Expr} {apos cpos : Pos} {td ty tx : TE}
end
section
variable {X : Cx} {pins : List (Addr × Obj)} {σ : St} {H : Hp} {s : Shared} {a : Addr} {kvs : List (Key × V)} {A : Around} {E : Value → Shared → Prop}
end
section
variable {X : Cx} {pins : List (Addr × Obj)} {σ : St} {H : Hp} {s : Shared} {a : Addr} {y : V} {u : Value} {A : Around} {E : Value → Shared → Prop}
end
end L2
namespace Att
open PySem PySem.W PySem.Calls PyProof.Rows
theorem ints_of_wellAll {P : Params} {h : Heap} : ∀ (ns : List Int) (vs : List Value), WellAll P h vs (ns.map WData.int) → IntsAre vs ns := by
  intro ns
  induction ns with
  | nil =>
    intro vs w
    rw [List.map_nil] at w
    cases w
    exact .nil
  | cons n ns ih =>
    intro vs w
    rw [List.map_cons] at w
    cases w with
    | cons a b =>
      cases a
      exact .cons _ _ (ih _ b)
theorem script_of {l : OpenLaw} {n : Nat} (hn : l.most = some n) {P : Params} {h : Heap} {args : List WData} {vals : List Value}
    (hpre : l.row.toRowW.claim.pre args = true) (hwl : WellAll P h vals args) :
    ∃ a vs ns, vals = [Value.ref a] ∧ args = [WData.list (ns.map WData.int)] ∧ h.get? a = some { cls := .type "list", data := .seq vs.toArray } ∧ IntsAre vs ns ∧ ns.length ≤ n := by
  have hsh : WShape.hasAll [] args [.list .int] = true := (pre_splitW hpre).1
  have hc : l.pre.holds [] { args := args } = true := (pre_splitW hpre).2
  obtain ⟨d, r, rfl, h1, h2⟩ := hasAllW_cons hsh
  obtain rfl := hasAllW_nil h2
  obtain ⟨xs, rfl, h3⟩ := hasW_list h1
  obtain ⟨ns, rfl⟩ := items_int h3
  have hlen : ns.length ≤ n := by
    unfold OpenLaw.pre at hc
    have h4 : (WTm.not (.lt (.lit (.int (n : Int))) (.len (.arg 0)))).holds [] { args := [.list (ns.map .int)] } = true := by
      have h4 := (holds_andW hc).1
      rw [hn] at h4
      exact h4
    have h5 := condW_of h4 (w_not (w_lt w_lit (w_len_list (w_arg rfl))))
    rw [List.length_map] at h5
    refine Nat.le_of_not_lt fun q => ?_
    have q' : (n : Int) < ((ns.length : Nat) : Int) := by omega
    first
      | (rw [decide_eq_true q'] at h5; exact absurd h5 (by decide))
      | (simp at h5; omega)
  cases hwl with
  | cons w1 w2 =>
    cases w2
    cases w1 with
    | list ho hall => exact ⟨_, _, ns, rfl, rfl, ho, ints_of_wellAll ns _ hall, hlen⟩
theorem post_true (l : OpenLaw) (args : List WData) : l.row.toRowW.claim.post args (.bool true) args = true :=
  postW_of (r := l.row.toRowW) (X := (true == true))
    (show WShape.has [] (.bool true) .bool = true by first | rfl | decide | simp [WShape.has, WShape.arms, WShape.armsAll])
    (show (WTm.eq .res (.lit (.bool true))).value [] { args := args, res := some (.bool true), after := args } = some (.bool (true == true)) from w_eq_bool (w_res rfl) w_lit) rfl
theorem attach_call {l : OpenLaw} {n : Nat} {q : Program} {loose : List Str} {XP : (Str → Option Value) → Heap → Prop} {YP : World → Heap → Prop} {d : DefRec}
    (hn : l.most = some n) (hdf : d.params.defaults = [])
    (call : ∀ (w : World) (s₀ s₁ : Shared) (mg mb : Str → Option Value) (fa : Addr) (o : Obj) (pm cd doc : Value) (a : Addr) (vs : List Value) (ns : List Int),
      Ground q loose [] XP w s₀ mg mb s₁.heap → YP w s₁.heap →
      s₁.heap.get? fa = some o → o.data = .func (docDef d.name d.params d.body d.scope pm cd doc) → s₁.heap.CodeRec cd d.name → mg d.name = some (.ref fa) →
      s₁.heap.get? a = some { cls := .type "list", data := .seq vs.toArray } → IntsAre vs ns → ns.length ≤ n → s₁.gens = #[] →
      codeAny (model l.prog w) callerA (.call (.ref fa) ⟨[.ref a], []⟩) (fun r s' => r = .ok (.ret (.bool true)) ∧ OldK s₁.heap s'.heap ∧ s'.os = s₁.os ∧ AllBare s'.gens) s₁) :
    WalkO q loose XP YP l.row.toRowW d [] (fun f vs => PySem.call f vs) := by
  intro w s₀ s₁ mg mb G Y fa o pm cd doc dV kV ho hd hcd hD hmg hg args vals as hpre hlay hrd hwl hlo
  obtain rfl : dV = .none := Dflts.none hD hdf
  obtain rfl : kV = .none := Dflts.noKw hD
  obtain ⟨a, vs, ns, rfl, rfl, hobj, hints, hlen⟩ := script_of hn hpre hwl
  refine enter_call (codeAny_mono (call w s₀ s₁ mg mb fa o pm cd doc a vs ns G Y ho (fd_plain hd) hcd hmg hobj hints hlen hg) fun r s' hq => ?_)
  obtain ⟨rfl, h2, h3, h4⟩ := hq
  exact ⟨.inl ⟨.bool true, .bool true, [], rfl, fun _ => rfl, .bool true, post_true l _, fun _ => ⟨List.Pairwise.nil, fun _ hm => (nomatch hm)⟩⟩, h2, h3, h4⟩
section
variable {prog : Program} {w : World} {A : Around} {E : Value → Shared → Prop} {s : Shared} {K : Frag}
end
end Att
namespace L2
open PySem PySem.Spec PyProof.Rows
theorem vals_ints : ∀ {vs : List Value} {ns : List Int}, IntsAre vs ns → Vals (ns.map V.int) vs
  | _, _, .nil => .nil
  | _, _, .cons n t h => .cons ⟨t, rfl⟩ (vals_ints h)
def Only (H : Hp) : Prop := ∀ b, H b = none ∨ ∃ o xs, H b = some (.frz o (.lst xs))
theorem law_call {P : Program} {w : World} {K : PySem.W.Frag} {mg mb : Str → Option Value} {CX : CXT} {k : Nat} {fa a : Addr} {fd : FuncData} {x : Str} {sp : Sp} {s₁ : Shared} {vs : List Value} {ns : List Int}
    (KX : K.In s₁.heap) (hns : s₁.heap.Ns mainGlobals mg) (hb : s₁.heap.Ns builtinsNs mb) (hbb : ∀ x : Str, x ≠ "__name__" → mb x = bootBuiltins x) (hlim : s₁.heap.NoLimit) (hg : s₁.gens = #[])
    (ha : s₁.heap.get? a = some { cls := .type "list", data := .seq vs.toArray }) (hi : IntsAre vs ns) (hl : ns.length ≤ sizeLine) (hr : Room k callerA)
    (F : ∀ base : Heap, K.In base → base.Ns mainGlobals mg → FnOk P w K mg base CX k fa fd [x] sp) (hbind : ∀ (s : Shared) (u : Value), BindsTo s fd ⟨[u], []⟩ [(x, u)])
    (hsp : ∀ H : Hp, Only H → SqL K H a (ns.map V.int) → sp [.ref a] H (fun v _ => v = .bl true) fun _ _ _ => False)
    (hCX : ∀ H e s', CX [] H s₁ (fun _ _ _ => False) e s' → False) :
    codeAny (model P w) callerA (.call (.ref fa) ⟨[.ref a], []⟩) (fun r s' => r = .ok (.ret (.bool true)) ∧ OldK s₁.heap s'.heap ∧ s'.os = s₁.os ∧ AllBare s'.gens) s₁ := by
  have rv := vals_ints hi
  have lenV := hi.length
  have core : ∀ H : Hp, Only H → SqL K H a (ns.map V.int) → HOk P w H s₁.heap → (∀ b, H b ≠ none → b = a) → (H a ≠ none → K.lookup a = none) →
      codeAny (model P w) callerA (.call (.ref fa) ⟨[.ref a], []⟩) (fun r s' => r = .ok (.ret (.bool true)) ∧ OldK s₁.heap s'.heap ∧ s'.os = s₁.os ∧ AllBare s'.gens) s₁ := by
    intro H hO hS hok hA hK
    have base_of : ∀ {b : Addr} {o : Obj}, s₁.heap.get? b = some o → H b = none → (hidT s₁.heap H).get? b = some o := fun e n => hidT_get e n
    have noA : ∀ {b : Addr} {o : Obj} {es : Array DictEntry} {ep : Nat}, s₁.heap.get? b = some o → o.data = .dict es ep → H b = none := fun {b o es ep} e d => by
      cases q : H b with
      | none => rfl
      | some u =>
        have e' : b = a := hA b (by rw [q]; simp)
        subst e'
        rw [ha] at e; cases e
        have d' : Data.seq vs.toArray _ = Data.dict es ep := d
        cases d'
    have nsK : ∀ {b : Addr} {m : Str → Option Value}, s₁.heap.Ns b m → (hidT s₁.heap H).Ns b m := fun {b m} ⟨o, es, ep, e, d, r⟩ => ⟨o, es, ep, base_of e (noA e d), d, r⟩
    have hKb : K.In (hidT s₁.heap H) := fun b o e => base_of (KX b o e) (by
      cases q : H b with
      | none => rfl
      | some u =>
        have e' : b = a := hA b (by rw [q]; simp)
        subst e'
        rw [hK (by rw [q]; simp)] at e; cases e)
    have hM : Mod K mg (hidT s₁.heap H) := ⟨hKb, nsK hns, ⟨mb, nsK hb, hbb⟩, let ⟨mc, h1, h2⟩ := hlim; ⟨mc, nsK h1, h2⟩⟩
    have e0 : Env0 P w K mg (hidT s₁.heap H) callerA [] s₁ H := ⟨rfl, hM, fun b o e => of_hidT e, Nat.le_of_eq (hidT_size _ _), trivial, fun b hb => absurd (show b ∈ ([] : List Addr) from hb) (by simp), hok, .of_eq hg⟩
    refine codeAny_mono ((F _ hKb (nsK hns)).run callerA [] s₁ H ⟨[.ref a], []⟩ [.ref a] [.ref a] _ _ hr e0 (hbind s₁ (.ref a)) (.cons rfl .nil) (hsp H hO hS)) fun r s' h => ?_
    cases r with
    | error e => exact (hCX H e s' h).elim
    | ok fl =>
      cases fl with
      | next => exact False.elim h
      | brk => exact False.elim h
      | cont => exact False.elim h
      | ret u =>
        obtain ⟨v, H', os, bare, un, hok', r', q⟩ := h
        have q' : v = .bl true := q
        subst q'
        obtain rfl : u = Value.bool true := r'
        refine ⟨rfl, OldK.of_keep fun b o e => ?_, os, bare⟩
        cases q : H b with
        | none => exact un.keep b o e q (by intro z; exact absurd (show b ∈ ([] : List Addr) from z) (by simp)) (by simp)
        | some u =>
          rcases hO b with z | ⟨ob, xs, z⟩
          · rw [q] at z; cases z
          · have z2 := un.frzs b ob _ z
            obtain ⟨e1, _⟩ := hok b _ z
            obtain ⟨e2, _⟩ := hok' b _ z2
            rw [e] at e1; cases e1
            exact e2
  cases hk : K.lookup a with
  | some o =>
    have e := KX a o hk
    rw [ha] at e
    cases e
    refine core (fun _ => none) (fun _ => .inl rfl) (.inr ⟨_, vs.toArray, _, hk, rfl, rfl, rfl, by rw [List.size_toArray, lenV]; exact hl, by simpa using rv⟩) (fun b u z => by have z' : (none : Option HO) = some u := z; cases z') (fun b z => absurd rfl z) fun z => absurd rfl z
  | none =>
    refine core (fun b => if b = a then some (.frz { cls := .type "list", data := .seq vs.toArray } (.lst (ns.map V.int))) else none) (fun b => ?_) (.inl (.inr ⟨{ cls := .type "list", data := .seq vs.toArray }, if_pos rfl⟩)) (fun b u z => ?_) (fun b z => ?_) fun _ => hk
    · by_cases hb : b = a
      · exact .inr ⟨_, _, if_pos hb⟩
      · exact .inl (if_neg hb)
    · by_cases hb : b = a
      · have z' := (if_pos hb).symm.trans z
        cases z'
        subst hb
        exact ⟨ha, by rw [List.length_map]; exact hl, vs, _, rv, ha⟩
      · have z' := (if_neg hb).symm.trans z
        cases z'
    · by_cases hb : b = a
      · exact hb
      · exact absurd (if_neg hb) z
end L2
namespace L2
open PySem PySem.Spec PyProof.Rows
theorem walk_of {l : PySem.W.OpenLaw} {n k : Nat} {q : Program} {loose : List Str} {XP : (Str → Option Value) → Heap → Prop} {YP : World → Heap → Prop} {d : DefRec} {K : Params → PySem.W.Frag} {CX : World → CXT} {sp : World → Sp} {x : Str}
    (hn : l.most = some n) (hn2 : n ≤ sizeLine) (hdf : d.params.defaults = []) (hr : Room k callerA)
    (hY : ∀ (w : World) (h : Heap), YP w h → (K w.params).In h)
    (F : ∀ (w : World) (mg : Str → Option Value) (fa : Addr) (h : Heap), (K w.params).In h → h.Ns mainGlobals mg → mg d.name = some (.ref fa) →
      ∃ fd : FuncData, (∀ (s : Shared) (u : Value), BindsTo s fd ⟨[u], []⟩ [(x, u)]) ∧
        ∀ base : Heap, (K w.params).In base → base.Ns mainGlobals mg → FnOk l.prog w (K w.params) mg base (CX w) k fa fd [x] (sp w))
    (hsp : ∀ (w : World) (H : Hp) (a : Addr) (ns : List Int), ns.length ≤ n → Only H → SqL (K w.params) H a (ns.map V.int) → sp w [.ref a] H (fun v _ => v = .bl true) fun _ _ _ => False)
    (hCX : ∀ (w : World) (H : Hp) (s : Shared) (e : Value) (s' : Shared), CX w [] H s (fun _ _ _ => False) e s' → False) :
    PySem.W.WalkO q loose XP YP l.row.toRowW d [] (fun f vs => PySem.call f vs) := by
  refine Att.attach_call hn hdf fun w s₀ s₁ mg mb fa o pm cd doc a vs ns G Y ho hd hcd hmg hobj hints hlen hg => ?_
  have KX := hY w _ Y
  obtain ⟨fd, hb, hF⟩ := F w mg fa _ KX G.T.g hmg
  exact law_call KX G.T.g G.T.b G.T.builtins G.T.nolimit hg hobj hints (Nat.le_trans hlen hn2) hr hF hb (fun H hO hS => hsp w H a ns hlen hO hS) fun H e s' => hCX w H s₁ e s'
end L2
namespace L2
open PySem PySem.Spec PyProof.Rows
def defArgs (s : Stmt) : Arguments := match s with
  | .FunctionDef _ a _ _ _ _ _ _ _ _ => a
  | _ => { posonlyargs := [], args := [], vararg := none, kwonlyargs := [], kw_defaults := [], kwarg := none, defaults := [] }
def defBody (s : Stmt) : List Stmt := match s with
  | .FunctionDef _ _ b _ _ _ _ _ _ _ => b
  | _ => []
def defScope (s : Stmt) : Scope := match s with
  | .FunctionDef _ _ _ _ _ _ sc _ _ _ => sc
  | _ => { kind := .function, names := [], isGenerator := false, isCoroutine := false }
abbrev CX0 : CXT := fun _ _ _ _ _ _ => False
abbrev E0 : XK := fun _ _ _ => False
theorem pass0 {X : Cx} : Passes CX0 X E0 := fun _ _ _ _ _ _ _ h => h.elim
structure Fun (K : PySem.W.Frag) (x qual : Str) (st : Stmt) (f : Addr) (fd : FuncData) : Prop where
  ex : ∃ (oc : Value) (od : Option Addr) (kV doc pm : Value) (an : Option Addr) (cdv ct : Value) (osl : Array (Option Value)),
    fd = PySem.W.fnOf x qual (defArgs st) (defBody st) (defScope st) .none kV doc pm an cdv ct ∧ K.lookup f = some ⟨oc, od, .func fd, osl⟩ ∧ PySem.W.codeIn K cdv qual = true
  kp : PySem.W.keepIn K (.ref f) = true
section
variable {P : Program} {w : World} {K : PySem.W.Frag} {mg : Str → Option Value} {base : Heap}
theorem Fun.ok {x qual : Str} {st : Stmt} {f : Addr} {fd : FuncData} {N ps : List Str} {k : Nat} {sp : Sp} (F : Fun K x qual st f fd) (S : FnScope N ps (defScope st)) (len : ∀ vs H Q E, sp vs H Q E → vs.length = ps.length)
    (hbody : ∀ (cdv : Value) (A : Around) (outer : List Env) (s : Shared) (H : Hp) (vs : List V) (Q : VK) (E : XK), Room k (A.deeper (envOfC qual (defScope st) s.heap.objs.size f cdv)) → sp vs H Q E →
      ∃ t, PSs (cxOf CX0 P w K mg base N qual (defScope st) f cdv A outer s H E).nox (defBody st) t ∧ t { nx := fun _ H' => Q .non H', rt := Q } (start N vs) H) : FnOk P w K mg base CX0 (k + 1) f fd ps sp := by
  obtain ⟨oc, od, kV, doc, pm, an, cdv, ct, osl, rfl, lk, hcd⟩ := F.ex
  refine fn_of lk hcd S len fun A outer s H vs Q E hr hsp => ?_
  obtain ⟨t, h, q⟩ := hbody cdv A outer s H vs Q E hr hsp
  exact ⟨t, h.nox, q⟩
theorem Fun.binds {x qual : Str} {st : Stmt} {f : Addr} {fd : FuncData} {ps : List Str} (F : Fun K x qual st f fd)
    (h : ∀ (kV doc pm : Value) (an : Option Addr) (cdv ct : Value) (us : List Value), us.length = ps.length → bindArgs (PySem.W.fnOf x qual (defArgs st) (defBody st) (defScope st) .none kV doc pm an cdv ct) ⟨us, []⟩ = pure (ps.zip us)) : Binds K fd ps [] := by
  obtain ⟨oc, od, kV, doc, pm, an, cdv, ct, osl, rfl, lk, hcd⟩ := F.ex
  exact .all (h kV doc pm an cdv ct)
theorem fun_mk {x qual : Str} {st : Stmt} {f : Addr} {oc : Value} {od an : Option Addr} {osl : Array (Option Value)} {kV doc pm cdv ct : Value} (l : K.lookup f = some ⟨oc, od, .func (PySem.W.fnOf x qual (defArgs st) (defBody st) (defScope st) .none kV doc pm an cdv ct), osl⟩)
    (c : PySem.W.codeIn K cdv qual = true) (k : PySem.W.keepIn K (.ref f) = true) : Fun K x qual st f (PySem.W.fnOf x qual (defArgs st) (defBody st) (defScope st) .none kV doc pm an cdv ct) := ⟨⟨oc, od, kV, doc, pm, an, cdv, ct, osl, rfl, l, c⟩, k⟩
end
theorem hu_of {A : Around} {k : Nat} (hr : Room k A) : A.units + 1 < cLine := Nat.lt_of_le_of_lt (Nat.add_le_add_left (by decide : 1 ≤ 64) _) hr.units
theorem small1000 {n : Nat} (h : n ≤ 1000) : n < sizeLine := Nat.lt_of_le_of_lt h (by decide)
section
variable {X : Cx}
theorem pv (i : Nat) {x : Str} {pos : Pos} (hN : X.N[i]? = some x := by rfl) (hv : Vis X.env.scope x := by first | exact Or.inl rfl | exact Or.inr (Or.inl rfl) | exact Or.inr (Or.inr rfl)) (hd : (x == ("__debug__" : Str)) = false := by decide)
    (hcd : (x == ("__classdict__" : Str)) = false := by decide) : PE X (.Name x pos) (tVar i) := pe_var hN hv hd hcd
end
theorem iteF {A B : Prop} (h : B) : if false = true then A else B := by
  rw [if_neg Bool.false_ne_true]
  exact h
theorem iteT {A B : Prop} (h : A) : if true = true then A else B := by
  rw [if_pos rfl]
  exact h
theorem ite2 {c A B : Prop} [Decidable c] (h1 : c → A) (h2 : ¬ c → B) : if c then A else B := by
  by_cases h : c
  · rw [if_pos h]
    exact h1 h
  · rw [if_neg h]
    exact h2 h
def Same (H H' : Hp) : Prop := ∀ b o, H b = some o → H' b = some o
theorem Same.refl (H : Hp) : Same H H := fun _ _ h => h
theorem Same.trans {H H1 H2 : Hp} (a : Same H H1) (b : Same H1 H2) : Same H H2 := fun c o h => b c o (a c o h)
theorem Same.free {H H' : Hp} (e : Same H H') {l : Addr} (h : H' l = Option.none) : H l = Option.none := by
  cases q : H l with
  | none => rfl
  | some o =>
    rw [e l o q] at h
    cases h
theorem Same.seq {K : PySem.W.Frag} {H H' : Hp} {a : Addr} {xs : List V} (e : Same H H') (h : SqL K H a xs) : SqL K H' a xs := by
  rcases h with (h | ⟨o, h⟩) | h
  · exact .inl (.inl (e _ _ h))
  · exact .inl (.inr ⟨o, e _ _ h⟩)
  · exact .inr h
end L2
namespace L2
open PySem PySem.Spec PyProof.Rows
section
variable {X : Cx}
end
section
variable {κ : Type} [DecidableEq κ]
end
end L2
set_option Elab.async false
set_option linter.all false
set_option maxRecDepth 100000
set_option maxHeartbeats 4000000
namespace L2
open PySem PySem.Spec PyProof.Rows
section
variable {X : Cx} {pins : List (Addr × Obj)} {σ : St} {H : Hp} {s : Shared} {D : Addr} {o : HO}
theorem HOk.adopt {P : Program} {w : World} {h : Heap} (x : HOk P w H h) (hn : H D = none) (new : ObjOk P w (upd H D o) h D o) : HOk P w (upd H D o) h := fun b u e => by
  by_cases hb : b = D
  · subst hb; rw [upd_same] at e; cases e; exact new
  · rw [upd_ne hb] at e
    exact (x b u e).stay (fun c v _ q => q) (fun c q => by rw [upd_ne (ne_of_none q hn)]; exact q) fun c xs q => by rw [upd_ne (ne_of_none q hn)]; exact q
theorem Inv.adopt (I : Inv X pins σ H s) (hf : FpOk X pins H D) (new : ObjOk X.prog X.w (upd H D o) s.heap D o) : Inv X pins σ (upd H D o) s := by
  obtain ⟨f0, f1, f2, f3, f4, f5⟩ := hf
  obtain ⟨hp, g, d, t, os⟩ := s
  refine I.step (h' := hp) (g' := g) (t' := t) (d' := d) (ch := [D]) (fun b hb => ?_) (fun b ob _ _ _ e _ => e) (fun b ob _ _ _ e _ => ⟨ob.slots, e⟩) (fun b ob hb e n => ?_) (fun b ob _ e => ⟨ob, e⟩)
    (fun b xs e => by rw [upd_ne (ne_of_none e f0)]; exact e) (fun b ob u e => by rw [upd_ne (ne_of_none e f0)]; exact e) (fun b ps e => ⟨#[], by rw [upd_ne (ne_of_none e f0), e]; simp⟩) (fun m hm => hm) (I.hok.adopt f0 new) I.bare
  · have e : b = D := by simpa using hb
    subst e
    exact ⟨f3, f1, f4, f5⟩
  · rw [upd_ne (fun z => hb (by simp [z]))]
    exact n
end
section
variable {prog : Program} {w : World} {A : Around} {R : Result → Shared → Prop} {s : Shared}
abbrev noE : Value → Shared → Prop := fun _ _ => False
theorem compLoop_go {elt tgt iter : Expr} {scope : Scope} {pos : Pos} {it acc : Value} {env : Env} (J : Nat → Shared → Prop)
    (turn : ∀ n s, J n s → wpAny (model prog w) A (pyNext it) (fun r s1 => match r with
      | none => R (.ok .next) s1
      | some v => wpAny (model prog w) A (letOwnedTupleGo tgt it v) (fun _ s2 => wpAny (model prog w) A (assign tgt env v) (fun _ s3 =>
          wpAny (model prog w) A (eval elt env) (fun x s4 => wpAny (model prog w) A (call (.builtin "list.append") [acc, x]) (fun _ s5 => ∃ m, m < n ∧ J m s5) noE s4) noE s3) noE s2) noE s1) noE s)
    (n : Nat) (h : J n s) : codeAny (model prog w) A (.compLoop (.ListComp elt [⟨tgt, iter, [], 0⟩] scope pos) 0 it acc env) R s := by
  refine codeAny_loop rfl J (fun k s' hJ => ?_) n h
  show wpAny _ A ((compTurn (.ListComp elt [⟨tgt, iter, [], 0⟩] scope pos) 0 it acc env).onRaise (fun x => do noteFrame x env; theTreesLotGoes x)) _ _ s'
  refine wpAny_noted ?_
  rw [compTurn_list1]
  refine wpAny_bind (wpAny_standAt (wpAny_bind (wpAny_mono (turn k s' hJ) (fun r s1 h1 => ?_) fun _ _ z => z.elim)))
  cases r with
  | none => exact wpAny_pure h1
  | some v =>
    refine wpAny_bind (wpAny_mono h1 (fun _ s2 h2 => wpAny_bind (wpAny_mono h2 (fun _ s3 h3 => ?_) fun _ _ z => z.elim)) fun _ _ z => z.elim)
    exact wpAny_bind (wpAny_bind (wpAny_mono h3 (fun x s4 h4 => wpAny_bind (wpAny_mono h4 (fun _ s5 h5 => wpAny_pure (wpAny_pure ⟨rfl, h5⟩)) fun _ _ z => z.elim)) fun _ _ z => z.elim))
end
structure CompSc (N : List Str) (sc scope : Scope) (x : Str) : Prop where
  kind : scope.kind = .function
  nocell : ∀ y ∈ scope.names, y.2 ≠ .cell
  names : ∀ y ∈ scope.names, y.2 = .local → scope.names.lookup y.1 = some .local
  own : scope.names.lookup x = some .local
  free : ∀ y ∈ scope.names, y.2 = .free → sc.names.lookup y.1 = some .cell ∨ sc.names.lookup y.1 = some .free
  loc : ∀ y ∈ N, scope.names.lookup y ≠ some .local
  nd : (x :: N).Nodup
theorem lookup_mapK {f : Str → NameKind → NameKind} : ∀ (l : List (Str × NameKind)) (y : Str), (l.map fun p => (p.1, f p.1 p.2)).lookup y = (l.lookup y).map (f y)
  | [], _ => rfl
  | (n, k) :: r, y => by
    rw [List.map_cons, List.lookup_cons, List.lookup_cons]
    cases h : y == n with
    | true => rw [show y = n from eq_of_beq h]; rfl
    | false => exact lookup_mapK r y
theorem relabel_lookup (scope : Scope) (env : Env) (y : Str) : (relabel scope env).names.lookup y = (scope.names.lookup y).map fun k => if (k == .free && env.scope.kind == .function && env.kindOf y == some .cell) = true then .cell else k := by
  have e : (relabel scope env).names = scope.names.map fun p => (p.1, (fun y k => if (k == NameKind.free && env.scope.kind == .function && env.kindOf y == some .cell) = true then NameKind.cell else k) p.1 p.2) := by
    show scope.names.map _ = _
    apply List.map_congr_left
    rintro ⟨n, k⟩ _
    show (if _ = true then (n, NameKind.cell) else (n, k)) = (n, if _ = true then NameKind.cell else k)
    split <;> rfl
  rw [e]
  exact lookup_mapK (f := fun y k => if (k == NameKind.free && env.scope.kind == .function && env.kindOf y == some .cell) = true then NameKind.cell else k) scope.names y
section
variable {N : List Str} {sc scope : Scope} {x : Str} {env : Env}
theorem CompSc.free_of (S : CompSc N sc scope x) {y : Str} (h : (relabel scope env).names.lookup y = some .cell ∨ (relabel scope env).names.lookup y = some .free) : (y, NameKind.free) ∈ scope.names := by
  rw [relabel_lookup] at h
  cases e : scope.names.lookup y with
  | none => rw [e] at h; simp at h
  | some k =>
    have hm := PySem.mem_of_lookup e
    have hk := S.nocell _ hm
    cases k with
    | free => exact hm
    | cell => exact absurd rfl hk
    | _ => rw [e] at h; simp at h
theorem CompSc.outer (S : CompSc N sc scope x) {y : Str} (hy : y ∈ N) (h : Vis (relabel scope env) y) : ((relabel scope env).names.lookup y = some .cell ∨ (relabel scope env).names.lookup y = some .free) := by
  rcases h with h | h | h
  · exfalso
    rw [relabel_lookup] at h
    cases e : scope.names.lookup y with
    | none => rw [e] at h; simp at h
    | some k =>
      rw [e] at h
      have : k = .local := by
        have h2 : (if (k == NameKind.free && env.scope.kind == .function && env.kindOf y == some .cell) = true then NameKind.cell else k) = .local := by simpa using h
        split at h2
        · cases h2
        · exact h2
      subst this
      exact S.loc y hy e
  · exact .inl h
  · exact .inr h
theorem closure_of (hf : ∀ y ∈ scope.names, y.2 = .free → ∃ c, env.cells.lookup y.1 = some c) :
    ∃ cl, closureFor scope env = pure cl ∧ (∀ y c, cl.lookup y = some c → env.cells.lookup y = some c) ∧ ∀ y, (y, NameKind.free) ∈ scope.names → ∃ c, cl.lookup y = some c := by
  have key : ∀ (l : List (Str × NameKind)) (acc : List (Str × Addr)), (∀ y ∈ l, y.2 = .free → ∃ c, env.cells.lookup y.1 = some c) → (∀ y c, acc.lookup y = some c → env.cells.lookup y = some c) →
      ∃ cl, (forIn l acc (fun (p : Str × NameKind) (r : List (Str × Addr)) => if p.2 == NameKind.free then (do let c ← cellOf env p.1; pure (ForInStep.yield ((p.1, c) :: r))) else pure (ForInStep.yield r)) : Sem (List (Str × Addr))) = pure cl ∧
        (∀ y c, cl.lookup y = some c → env.cells.lookup y = some c) ∧ (∀ y, (y, NameKind.free) ∈ l → ∃ c, cl.lookup y = some c) ∧ ∀ y c, acc.lookup y = some c → ∃ c, cl.lookup y = some c := by
    intro l
    induction l with
    | nil => intro acc _ ha; exact ⟨acc, rfl, ha, fun y h => by simp at h, fun y c h => ⟨c, h⟩⟩
    | cons p r ih =>
      intro acc hp ha
      obtain ⟨n, k⟩ := p
      by_cases hk : k = .free
      · subst hk
        obtain ⟨c, hc⟩ := hp (n, .free) List.mem_cons_self rfl
        obtain ⟨cl, e, h1, h2, h3⟩ := ih ((n, c) :: acc) (fun y hy => hp y (List.mem_cons_of_mem _ hy)) (fun y d hd => by
          rw [List.lookup_cons] at hd
          cases hb : y == n with
          | true => rw [hb] at hd; simp at hd; rw [show y = n from eq_of_beq hb, ← hd]; exact hc
          | false => rw [hb] at hd; exact ha y d hd)
        refine ⟨cl, ?_, h1, fun y hy => ?_, fun y d hd => ?_⟩
        · rw [List.forIn_cons]
          simp only [beq_self_eq_true, if_true, cellOf, hc, pure_bind]
          exact e
        · rcases List.mem_cons.mp hy with z | z
          · cases z
            exact h3 n c (by simp [List.lookup_cons])
          · exact h2 y z
        · cases hb : y == n with
          | true => exact h3 y c (by rw [List.lookup_cons, hb])
          | false => exact h3 y d (by rw [List.lookup_cons, hb]; exact hd)
      · obtain ⟨cl, e, h1, h2, h3⟩ := ih acc (fun y hy => hp y (List.mem_cons_of_mem _ hy)) ha
        refine ⟨cl, ?_, h1, fun y hy => ?_, h3⟩
        · rw [List.forIn_cons]
          have hb : (k == NameKind.free) = false := by simpa using hk
          simp only [hb, Bool.false_eq_true, if_false, pure_bind]
          exact e
        · rcases List.mem_cons.mp hy with z | z
          · cases z; exact absurd rfl hk
          · exact h2 y z
  obtain ⟨cl, e, h1, h2, _⟩ := key scope.names [] hf (fun y c h => by simp at h)
  refine ⟨cl, ?_, h1, h2⟩
  unfold closureFor
  simp only [bind_pure]
  exact e
end
def Cx.comp (X : Cx) (scope : Scope) (cl : List (Str × Addr)) (x : Str) (C : Addr) (s0 : Shared) (H0 : Hp) (fp : List Addr) (pins : List (Addr × Obj)) : Cx :=
  { X with N := x :: X.N, s₀ := s0, H₀ := H0, env := compEnvC scope cl C X.env, outer := X.stack, ex := fp, fn := fun _ => false, pn := X.pn ++ pins, xe := fun _ _ => False }
section
variable {X : Cx} {pins : List (Addr × Obj)} {σ : St} {H : Hp} {s : Shared} {scope : Scope} {cl : List (Str × Addr)} {x : Str} {C : Addr} {fp : List Addr}
theorem Inv.stkNot (I : Inv X pins σ H s) {b : Addr} (h1 : b ≠ X.env.locals) (h2 : b ∉ X.fs) : b ∉ frs X.stack := fun hb => by
  rcases List.mem_cons.mp (I.stkSub b hb) with e | e
  · exact h1 e
  · exact h2 e
theorem inv_comp {h4 : Heap} {tk : Nat} {m0 : Str → Option Value} (I : Inv X pins σ H s) (S : CompSc X.N X.env.scope scope x) (sub : ∀ y c, cl.lookup y = some c → X.env.cells.lookup y = some c)
    (has : ∀ y, (y, NameKind.free) ∈ scope.names → ∃ c, cl.lookup y = some c) (hk : ∀ b o, s.heap.get? b = some o → h4.get? b = some o) (hC : s.heap.objs.size ≤ C) (hns : h4.Ns C m0)
    (hf : ∀ b ∈ fp, FpOk X pins H b ∧ b < s.heap.objs.size) : Inv (X.comp scope cl x C s H fp pins) [] (none :: σ) H { s with heap := h4, toks := tk } := by
  have lt : ∀ {b : Addr} {o : Obj}, s.heap.get? b = some o → b ≠ C := fun e => Nat.ne_of_lt (Nat.lt_of_lt_of_le (Heap.lt_size e) hC)
  refine ⟨⟨I.ok.mod, S.kind, I.ok.glob, I.ok.blt, hC, fun y z c h1 h2 => I.ok.inj y z c (sub y c h1) (sub z c h2), fun y hy => has y (S.free_of (env := X.env) hy), fun y c h => absurd (show false = true from h) Bool.false_ne_true, I.ok.hd, I.ok.frames, .inl rfl,
    fun b hb => ⟨Nat.ne_of_lt (Nat.lt_of_lt_of_le (hf b hb).2 hC), fun y c e => (hf b hb).1.2.2.2.2.1 y c (sub y c e)⟩, I.bs, Nat.le_trans I.ok.bsz I.sz, fun b o e hb => ?_, fun b hb => ?_, I.stack, I.stkFree⟩,
    rfl, I.bare, Un.kept hk, ⟨m0, hns, fun i y v e1 e2 e3 => ?_⟩, fun y c e => ?_, I.hok.fresh hC, fun y c e => I.freeC y c (sub y c e), fun p hp => ?_, I.hok.kept hk, by simp [Cx.comp, I.len]⟩
  · rcases (hf b hb).1.2.2.2.1 with z | z
    · exact I.ok.noex b o e z
    · exact absurd (Nat.lt_of_lt_of_le (Heap.lt_size e) (Nat.le_trans I.ok.bsz z)) (Nat.lt_irrefl _)
  · exact I.stkNot (hf b hb).1.2.1 (hf b hb).1.2.2.1
  · cases i with
    | zero => simp at e2
    | succ i =>
      rw [List.getElem?_cons_succ] at e2
      have e1' : X.N[i]? = some y := by simpa [Cx.comp] using e1
      have hout := S.outer (env := X.env) (List.mem_of_getElem? e1') e3
      have hfr := S.free_of hout
      have hkind := S.free _ hfr rfl
      obtain ⟨m, hn, hl⟩ := I.loc
      have vis : Vis X.env.scope y := by
        rcases hkind with z | z
        · exact .inr (.inl z)
        · exact .inr (.inr z)
      obtain ⟨u, r, lk⟩ := hl i y v e1' e2 vis
      refine ⟨u, r, .inr ⟨hout, ?_⟩⟩
      obtain ⟨c, hc⟩ := has y hfr
      have hc' := sub y c hc
      rcases lk with ⟨k, _⟩ | ⟨_, c', e', z⟩
      · exfalso
        have k' : X.env.scope.names.lookup y = some .local := k
        rcases hkind with q | q <;> rw [k'] at q <;> cases q
      · rw [hc'] at e'
        cases e'
        exact ⟨c, hc, z.keeps hk⟩
  · obtain ⟨v, z⟩ := I.cell y c (sub y c e)
    exact ⟨v, z.keeps hk⟩
  · have hp' : p ∈ X.pn ++ pins := by simpa [Cx.comp] using hp
    obtain ⟨e, n, ne, nf, d⟩ := I.pin p hp'
    exact ⟨hk _ _ e, n, lt e, I.stkNot ne nf, d⟩
end
def CompW (te : TE) (σ : St) (J : It) (H1 : Hp) (Fin : List V → Hp → Prop) : Prop :=
  ∃ W : Nat → Nat → List V → Hp → Prop, (∃ m, W 0 m [] H1) ∧ ∀ i m ys H, W i m ys H →
    (J.stop i H ∧ ys.length ≤ sizeLine ∧ Fin ys H) ∨ (J.go i H ∧ ys.length < sizeLine ∧ ∀ v H', J.yld i H v H' → ∃ N : V → Hp → Prop, (∀ y H2, N y H2 → ∃ m', m' < m ∧ W (i + 1) m' (ys ++ [y]) H2) ∧ te (some v :: σ) H' N)
section
variable {X : Cx} {pins : List (Addr × Obj)} {σ : St} {H : Hp} {s : Shared} {scope : Scope} {x : Str} {elt iter : Expr} {px pos cpos : Pos} {wi : TI} {te : TE} {use : Option (Value → Sem Unit)} {Q : Value → Shared → Prop} {Fin : List V → Hp → Prop}
theorem comp_core (hc : X.calm = true) (S : CompSc X.N X.env.scope scope x) (hi : PI X (.Name x px) iter wi) (he : ∀ cl C s0 H0 fp pins, PE (X.comp scope cl x C s0 H0 fp pins) elt te) (I : Inv X pins σ H s)
    (h : wi σ H fun J H1 => CompW te σ J H1 Fin)
    (fin : ∀ (ys : List V) (H' : Hp) (s' : Shared) (D C : Addr) (m : Str → Option Value) (its : List Value) (n : Nat), Fin ys H' → Inv X pins σ H' s' → FpOk X pins H' D → ys.length ≤ sizeLine → Vals ys its → s'.heap.get? D = some { cls := .type "list", data := .seq its.toArray n } →
      FpOk X pins H' C → D ≠ C → s'.heap.Ns C m → compPost (model X.prog X.w) X.A X.xe use Q (.ref D) C (.ok .next) s')
    (hs : ∀ v, foldedSetIterable iter X.env v = pure v := by intro _; rfl) :
    wpAny (model X.prog X.w) X.A (comprehension (.ListComp elt [⟨.Name x px, iter, [], 0⟩] scope pos) scope X.env cpos (newList []) false (eval iter X.env) use) Q X.xe s := by
  obtain ⟨cl, hcl, sub, has⟩ := closure_of (scope := scope) (env := X.env) (fun y hy hy2 => by
    rcases S.free y hy hy2 with z | z
    · exact I.ok.has y.1 (.inl z)
    · exact I.ok.has y.1 (.inr z))
  refine wpAny_comprehension_free (g := ⟨.Name x px, iter, [], 0⟩) (gs := []) rfl hs hcl S.kind S.names (thn (hi pins s σ H _ I h) fun v s1 h1 => thn h1 fun itv s2 h2 => ?_)
  obtain ⟨it, fp, tn, J, H2, e, I2, T, st2, f2, W, ⟨m0, w0⟩, turn⟩ := h2
  subst e
  refine wpAny_newObj_type (wpAny_newFunctionEnv S.nocell (by intro y hy; simp at hy) (fun h4 hns hsb => ?_) S.kind)
  dsimp only at hns hsb ⊢
  have hCz : (s2.heap.push { cls := .type "list", dict := none, data := .seq ([] : List Value).toArray }).objs.size = s2.heap.objs.size + 1 := Heap.size_push ..
  generalize hG : s2.heap.push { cls := .type "list", dict := none, data := .seq ([] : List Value).toArray } = G at hns hsb hCz ⊢
  have lt : ∀ {b : Addr} {o : Obj}, s2.heap.get? b = some o → b < s2.heap.objs.size := fun e => Heap.lt_size e
  have hk : ∀ b o, s2.heap.get? b = some o → h4.get? b = some o := fun b o e => hsb.extBut b o (Nat.ne_of_lt (by rw [hCz]; exact Nat.lt_succ_of_lt (lt e))) (Heap.get?_push_of_some _ (hG ▸ Heap.get?_push_of_some _ e))
  have hD : h4.get? s2.heap.objs.size = some { cls := .type "list", data := .seq ([] : List Value).toArray 0 } :=
    hsb.extBut _ _ (Nat.ne_of_lt (by rw [hCz]; exact Nat.lt_succ_self _)) (Heap.get?_push_of_some _ (hG ▸ Heap.get?_push_size _ rfl))
  have hfp : ∀ b ∈ fp, b < s2.heap.objs.size := fun b hb => let ⟨o, e, _⟩ := T.obj _ _ st2 b hb; lt e
  have hDC : s2.heap.objs.size ≠ G.objs.size := by rw [hCz]; exact Nat.ne_of_lt (Nat.lt_succ_self _)
  have hCge : s2.heap.objs.size ≤ G.objs.size := by rw [hCz]; exact Nat.le_succ _
  let Y := X.comp scope cl x G.objs.size s2 H2 fp pins
  have I4 : Inv Y [] (none :: σ) H2 { s2 with heap := h4, toks := s2.toks + ([] : List (Str × Value)).length } := inv_comp I2 S sub has hk hCge hns fun b hb => ⟨f2 b hb, hfp b hb⟩
  have stat : ∀ {H' : Hp} {pl : List (Addr × Obj)}, (∀ b ∈ fp, H' b = none) → (∀ p ∈ pl, s2.heap.objs.size ≤ p.1) → ∀ b ∈ fp, FpOk Y pl H' b := fun {H' pl} hn hpl b hb => by
    obtain ⟨f0, f1, f3, f4, f5, f6⟩ := f2 b hb
    refine ⟨hn b hb, Nat.ne_of_lt (Nat.lt_of_lt_of_le (hfp b hb) hCge), I2.stkNot f1 f3, .inl hb, fun y c e => f5 y c (sub y c e), fun p hp => ?_⟩
    rcases List.mem_append.mp hp with z | z
    · exact f6 p z
    · exact fun q => absurd (hfp b hb) (Nat.not_lt.mpr (by rw [← q]; exact hpl p z))
  have statD : ∀ {H' : Hp}, H' s2.heap.objs.size = none → FpOk Y [] H' s2.heap.objs.size := fun {H'} hn => by
    refine ⟨hn, hDC, fun hb => ?_, .inr (Nat.le_refl _), fun y c e z => ?_, fun p hp z => ?_⟩
    · exact I2.stkNot (Nat.ne_of_gt I2.lt) (I2.nofs (Nat.le_refl _)) hb
    · obtain ⟨v, q⟩ := I2.cell y c (sub y c e)
      exact absurd q.lt (by rw [z]; exact Nat.lt_irrefl _)
    · have hp' : p ∈ X.pn ++ pins := by simpa [Y, Cx.comp] using hp
      exact absurd (lt (I2.pin p hp').1) (by rw [z]; exact Nat.lt_irrefl _)
  have pinD : ∀ {τ : St} {H' : Hp} {s' : Shared} {ob : Obj}, Inv Y [] τ H' s' → H' s2.heap.objs.size = none → s'.heap.get? s2.heap.objs.size = some ob → (∀ v, ob.data ≠ .cell v) → Inv Y [(s2.heap.objs.size, ob)] τ H' s' := fun {τ H' s' ob} J0 hn ho hd =>
    J0.pins_of fun p hp => by
      have e : p = (s2.heap.objs.size, ob) := by simpa using hp
      subst e
      exact ⟨ho, hn, (statD hn).2.1, (statD hn).2.2.1, hd⟩
  have loop : ∀ s3 : Shared, s3 = { s2 with heap := h4, toks := s2.toks + ([] : List (Str × Value)).length } →
      codeAny (model X.prog X.w) X.A (.compLoop (.ListComp elt [⟨.Name x px, iter, [], 0⟩] scope pos) 0 (.ref it) (.ref s2.heap.objs.size) Y.env)
        (compPost (model X.prog X.w) X.A X.xe use Q (.ref s2.heap.objs.size) G.objs.size) s3 := by
    rintro s3 rfl
    refine compLoop_go (fun k s' => ∃ i ys v0 H' its n, Inv Y [] (v0 :: σ) H' s' ∧ tn i s'.heap ∧ (∀ b ∈ fp, H' b = none) ∧ H' s2.heap.objs.size = none ∧ Vals ys its ∧ s'.heap.get? s2.heap.objs.size = some { cls := .type "list", data := .seq its.toArray n } ∧ W i k ys H') ?_ m0
      ⟨0, [], none, H2, [], 0, I4, T.keep _ _ _ st2 fun b _ o e => hk b o e, fun b hb => (f2 b hb).1, I2.hok.fresh (Nat.le_refl _), .nil, hD, w0⟩
    rintro k s' ⟨i, ys, v0, H', its, n, I5, st5, fr5, nD5, rv5, oD5, w5⟩
    have I5' := pinD I5 nD5 oD5 (fun v z => by cases z)
    have fp5 := stat (pl := [(s2.heap.objs.size, { cls := .type "list", data := .seq its.toArray n })]) fr5 (fun p hp => by have e : p = _ := List.mem_singleton.mp hp; rw [e]; exact Nat.le_refl _)
    rcases turn i k ys H' w5 with ⟨stop, hz, qf⟩ | ⟨go, hz, step⟩
    · refine wpAny_mono (T.done Y rfl rfl rfl hc i _ s' _ H' noE I5' fp5 st5 stop) (fun r s6 ⟨hr, I6⟩ => ?_) fun _ _ z => z
      subst hr
      show compPost _ _ _ _ _ _ _ _ s6
      have oD6 := (I6.pin (s2.heap.objs.size, _) (List.mem_append_right _ List.mem_cons_self)).1
      have nD6 := (I6.pin (s2.heap.objs.size, _) (List.mem_append_right _ List.mem_cons_self)).2.1
      obtain ⟨m6, ns6, _⟩ := I6.loc
      have I7 : Inv X pins σ H' s6 := I2.call' I6.os I6.base I6.hok I6.bare fun b hb => ⟨(f2 b hb).2.2.2.1, (f2 b hb).2.1, (f2 b hb).2.2.2.2.1, (f2 b hb).2.2.2.2.2⟩
      exact fin ys H' s6 s2.heap.objs.size G.objs.size m6 its n qf I7 (I2.fpOk (Nat.le_refl _) nD6) hz rv5 oD6 (I2.fpOk hCge I6.free) hDC ns6
    · refine wpAny_mono (T.item Y rfl rfl rfl hc i _ s' _ H' noE I5' fp5 st5 go) (fun r s6 ⟨u, hr, h6⟩ => ?_) fun _ _ z => z
      subst hr
      show wpAny _ _ (letOwnedTupleGo (.Name x px) (.ref it) u) _ _ s6
      refine wpAny_mono h6 (fun _ s7 ⟨v, H7, I7, r7, y7, st7, fr7⟩ => ?_) fun _ _ z => z
      have I7' := I7.pinned (stat (pl := [(s2.heap.objs.size, { cls := .type "list", data := .seq its.toArray n })]) fr7 (fun p hp => by have e : p = _ := List.mem_singleton.mp hp; rw [e]; exact Nat.le_refl _)) (T.obj _ _ st7)
      have hx : Loc Y.env.scope x := .inl (lookup_relabel_local S.own)
      refine wpAny_assign_Name (store_ok (i := 0) I7' S.nd rfl hx r7 (fun s8 I8 => ?_) (.inr (lookup_relabel_local S.own)))
      obtain ⟨N, hN, stepN⟩ := step v H7 y7
      refine thn (he cl G.objs.size s2 H2 fp pins _ s8 (some v :: σ) H7 _ I8 stepN) fun yu s9 ⟨y, H9, I9, r9, n9⟩ => ?_
      obtain ⟨m', hm, w9⟩ := hN y H9 n9
      have oD9 := (I9.pin (s2.heap.objs.size, _) (List.mem_append_right _ (List.mem_append_left _ List.mem_cons_self))).1
      have nD9 := (I9.pin (s2.heap.objs.size, _) (List.mem_append_right _ (List.mem_append_left _ List.mem_cons_self))).2.1
      have pinF : ∀ b ∈ fp, ∀ o, s7.heap.get? b = some o → s9.heap.get? b = some o ∧ H9 b = none := fun b hb o e =>
        ⟨(I9.pin (b, o) (List.mem_append_right _ (List.mem_append_right _ (mem_pinsAt hb e)))).1, (I9.pin (b, o) (List.mem_append_right _ (List.mem_append_right _ (mem_pinsAt hb e)))).2.1⟩
      have hlen := rv5.length
      refine call_meets F.slot_list_append ⟨_, oD9, rfl⟩ F.entry_list_append (F.args_list_append_2 _ _) (PySem.list_append s2.heap.objs.size its.toArray n yu (by rw [List.size_toArray]; omega)) ⟨oD9, ?_⟩
      obtain ⟨n9, q9⟩ : ∃ n9, (s9.heap.update s2.heap.objs.size (Obj.mapSeq fun a => a.push yu)).get? s2.heap.objs.size = some { cls := .type "list", data := .seq (its.toArray.push yu) n9 } := ⟨_, PySem.IsL.update oD9 (fun a => a.push yu)⟩
      have I9u : Inv Y [] (some v :: σ) H9 s9 := I9.pins_of fun p hp => absurd hp (by simp)
      obtain ⟨g0, g1, g2, g3, g4, g5⟩ := statD nD9
      have I10 : Inv Y [] (some v :: σ) H9 { s9 with heap := s9.heap.update s2.heap.objs.size (Obj.mapSeq fun a => a.push yu) } :=
        I9u.turned (t' := s9.toks) (fun b o hb e => (Heap.get?_update_other s9.heap _ (Ne.symm hb)).trans e) g0 g1 g3 g4 g5
      refine ⟨m', hm, i + 1, ys ++ [y], some v, H9, its ++ [yu], n9, I10, T.keep _ _ _ st7 fun b hb o e => ?_, fun b hb => ?_, nD9, rv5.append (.cons r9 .nil), ?_, w9⟩
      · exact (Heap.get?_update_other s9.heap _ (Nat.ne_of_gt (hfp b hb))).trans (pinF b hb o e).1
      · obtain ⟨o, e, _⟩ := T.obj _ _ st7 b hb
        exact (pinF b hb o e).2
      · rw [show (its ++ [yu]).toArray = its.toArray.push yu by simp]
        exact q9
  exact codeAny_compStart_list (loop _ rfl) (T.self X.A 0 _ _ _ (T.keep _ _ _ st2 fun b _ o e => hk b o e) (loop _ rfl))
end
theorem comp_range {lo : Int} {n : Nat} {te : TE} {σ : St} {H1 : Hp} {Fin : List V → Hp → Prop} (Pv : Nat → List V → Hp → Prop) (h0 : Pv 0 [] H1) (hl : ∀ i ys H, Pv i ys H → ys.length = i) (hz : n ≤ sizeLine)
    (hs : ∀ i ys H, i < n → Pv i ys H → te (some (.int (lo + i)) :: σ) H fun y H2 => Pv (i + 1) (ys ++ [y]) H2) (hd : ∀ ys H, Pv n ys H → Fin ys H) : CompW te σ (Itr lo n) H1 Fin := by
  refine ⟨fun i m ys H => m = n - i ∧ i ≤ n ∧ Pv i ys H, ⟨n, by simp, Nat.zero_le _, h0⟩, ?_⟩
  rintro i m ys H ⟨rfl, hi, p⟩
  have hy := hl i ys H p
  by_cases hlt : i < n
  · refine .inr ⟨hlt, by omega, fun x H' y => ⟨fun z H2 => Pv (i + 1) (ys ++ [z]) H2, fun z H2 p' => ⟨n - (i + 1), by omega, rfl, hlt, p'⟩, ?_⟩⟩
    obtain ⟨e, y⟩ := y
    subst e y
    exact hs i ys _ hlt p
  · have e : i = n := by omega
    subst e
    exact .inl ⟨Nat.le_refl _, by omega, hd ys H p⟩
def tComp (wi : TI) (te : TE) : TE := fun σ H Q => wi σ H fun J H1 => CompW te σ J H1 fun ys H2 => ∀ p, H2 p = none → Q (.ref p) (upd H2 p (.lst ys))
section
variable {X : Cx} {scope : Scope} {x : Str} {elt iter : Expr} {px pos spos py : Pos} {wi : TI} {te : TE}
theorem Inv.afterComp {pins : List (Addr × Obj)} {σ : St} {H : Hp} {s : Shared} {C : Addr} {h' : Heap} (I : Inv X pins σ H s) (f : FpOk X pins H C) (hs : Heap.SameBut C s.heap h') : Inv X pins σ H { s with heap := h' } :=
  I.turned (t' := s.toks) (fun b o hb e => (hs.2 b hb).trans e) f.1 f.2.1 f.2.2.2.1 f.2.2.2.2.1 f.2.2.2.2.2
theorem pe_comp (hc : X.calm = true) (S : CompSc X.N X.env.scope scope x) (hi : PI X (.Name x px) iter wi) (he : ∀ cl C s0 H0 fp pins, PE (X.comp scope cl x C s0 H0 fp pins) elt te)
    (hs : ∀ v, foldedSetIterable iter X.env v = pure v := by intro _; rfl) : PE X (.ListComp elt [⟨.Name x px, iter, [], 0⟩] scope pos) (tComp wi te) := by
  intro pins s σ H Q I h
  rw [eval_ListComp]
  refine comp_core (use := none) hc S hi he I h (fun ys H' s' D C m its n q I' fD hz rv oD fC hDC hns => ?_) hs
  refine ⟨m, hns, fun h' hsb => ?_⟩
  have I2 := I'.afterComp fC hsb
  have oD' : h'.get? D = some { cls := .type "list", data := .seq its.toArray n } := (hsb.2 D hDC).trans oD
  exact ⟨.ref D, _, I2.adopt (o := .lst ys) fD ⟨hz, its, n, rv, oD'⟩, rfl, q D fD.1⟩
theorem ps_setComp {i : Nat} {y : Str} (hc : X.calm = true) (S : CompSc X.N X.env.scope scope x) (hN : X.N.Nodup) (hy : X.N[i]? = some y) (hl : X.env.scope.names.lookup y = some .local)
    (hi : PI X (.Name x px) iter wi) (he : ∀ cl C s0 H0 fp pins, PE (X.comp scope cl x C s0 H0 fp pins) elt te)
    (hsw : swapsWith (.ListComp elt [⟨.Name x px, iter, [], 0⟩] scope pos) (some (.Name y py)) spos.line X.env = pure true) (hs : ∀ v, foldedSetIterable iter X.env v = pure v := by intro _; rfl) :
    PS X (.Assign [.Name y py] (.ListComp elt [⟨.Name x px, iter, [], 0⟩] scope pos) spos) (tAsg (tComp wi te) (gName i)) := by
  intro pins s σ H D I h
  rw [exec_Assign_Name_used _ _ _ _ hsw]
  refine wpAny_bind (wpAny_standAt (wpAny_bind ?_))
  show wpAny _ X.A (do let _ ← comprehension (.ListComp elt [⟨.Name x px, iter, [], 0⟩] scope pos) scope X.env _ (newList []) false (eval iter X.env) (some (assign (.Name y py) X.env))) _ _ s
  refine wpAny_bind (wpAny_mono (comp_core (use := some (assign (.Name y py) X.env)) (Q := fun _ s' => SP X pins D .next s') hc S hi he I h (fun ys H' s' E C m its n q I' fD hz rv oD fC hDC hns => ?_) hs) (fun _ s' hq => wpAny_pure (wpAny_pure hq)) fun _ _ z => z)
  show wpAny _ _ (assign (.Name y py) X.env (.ref E)) _ _ s'
  have I2 : Inv X pins σ (upd H' E (.lst ys)) s' := I'.adopt (o := .lst ys) fD ⟨hz, its, n, rv, oD⟩
  refine wpAny_assign_Name (store_ok2 (v := .ref E) I2 hN hy (.inl hl) rfl (fun s2 I3 ⟨a, sb, ha⟩ => ?_) (.inr hl))
  have hCa : C ≠ a := by
    rcases ha with z | z
    · rw [z]; exact fC.2.1
    · exact fun w => fC.2.2.2.2.1 y a z w.symm
  refine ⟨m, hns.sameBut sb hCa, fun h' hsb => ?_⟩
  have fC' : FpOk X pins (upd H' E (.lst ys)) C := ⟨by rw [upd_ne (Ne.symm hDC)]; exact fC.1, fC.2⟩
  exact ⟨_, _, I3.afterComp fC' hsb, q E fD.1⟩
end
end L2
set_option Elab.async false
set_option linter.all false
set_option maxRecDepth 100000
set_option maxHeartbeats 4000000
namespace L2
open PySem PySem.Spec PyProof.Rows
mutual
def Rep (K : PySem.W.Frag) (H : Hp) : PyData → V → Prop
  | .none, v => v = .non
  | .bool b, v => v = .bl b
  | .int i, v => v = .int i
  | .str x, v => v = .str x
  | .tuple ds, v => ∃ a vs, v = .ref a ∧ SqT K H a vs ∧ Reps K H ds vs
  | .list ds, v => ∃ a o vs, v = .ref a ∧ H a = some (.frz o (.lst vs)) ∧ Reps K H ds vs
  | .dict kvs, v => ∃ a C dx fs, v = .ref a ∧ H a = some (.ins C dx fs) ∧ RepF K H kvs ((("" : Str), V.int ((C : Nat) : Int)) :: fs)
def Reps (K : PySem.W.Frag) (H : Hp) : List PyData → List V → Prop
  | [], vs => vs = []
  | d :: ds, vs => ∃ v r, vs = v :: r ∧ Rep K H d v ∧ Reps K H ds r
def RepF (K : PySem.W.Frag) (H : Hp) : List (PyData × PyData) → List (Str × V) → Prop
  | [], vs => vs = []
  | (k, d) :: ds, vs => ∃ g v r, vs = (g, v) :: r ∧ k = .str g ∧ Rep K H d v ∧ RepF K H ds r
end
structure TupLe (K : PySem.W.Frag) (H H' : Hp) : Prop where
  tup : ∀ a xs, SqT K H a xs → SqT K H' a xs
  frz : ∀ a o xs, H a = some (.frz o (.lst xs)) → H' a = some (.frz o (.lst xs))
  ins : ∀ a C dx fs, H a = some (.ins C dx fs) → H' a = some (.ins C dx fs)
instance {K : PySem.W.Frag} {H H' : Hp} : CoeFun (TupLe K H H') (fun _ => ∀ a xs, SqT K H a xs → SqT K H' a xs) := ⟨TupLe.tup⟩
theorem TupLe.of_keep {K : PySem.W.Frag} {H H' : Hp} (e : ∀ b o, H b = some o → (∀ xs, o ≠ .lst xs) → (∀ kvs, o ≠ .dK kvs) → (∀ kvs, o ≠ .dT kvs) → H' b = some o) : TupLe K H H' :=
  ⟨fun a xs h => by
    rcases h with (h | ⟨o, h⟩) | h
    · exact .inl (.inl (e _ _ h (fun _ z => nomatch z) (fun _ z => nomatch z) (fun _ z => nomatch z)))
    · exact .inl (.inr ⟨o, e _ _ h (fun _ z => nomatch z) (fun _ z => nomatch z) (fun _ z => nomatch z)⟩)
    · exact .inr h, fun a o xs h => e _ _ h (fun _ z => nomatch z) (fun _ z => nomatch z) (fun _ z => nomatch z), fun a C dx fs h => e _ _ h (fun _ z => nomatch z) (fun _ z => nomatch z) (fun _ z => nomatch z)⟩
theorem TupLe.trans {K : PySem.W.Frag} {H H1 H2 : Hp} (a : TupLe K H H1) (b : TupLe K H1 H2) : TupLe K H H2 := ⟨fun c xs h => b.tup c xs (a.tup c xs h), fun c o xs h => b.frz c o xs (a.frz c o xs h), fun c C dx fs h => b.ins c C dx fs (a.ins c C dx fs h)⟩
theorem TupLe.of_same {K : PySem.W.Frag} {H H' : Hp} (e : Same H H') : TupLe K H H' := .of_keep fun b o h _ _ _ => e b o h
def SameBut (p : Addr) (H H' : Hp) : Prop := ∀ b o, b ≠ p → H b = some o → H' b = some o
theorem SameBut.of_same {p : Addr} {H H' : Hp} (e : Same H H') : SameBut p H H' := fun b o _ h => e b o h
theorem SameBut.trans {p : Addr} {H H1 H2 : Hp} (a : SameBut p H H1) (b : SameBut p H1 H2) : SameBut p H H2 := fun c o n h => b c o n (a c o n h)
theorem SameBut.upd {p : Addr} {H : Hp} (o : HO) : SameBut p H (upd H p o) := fun b u n h => by rw [upd_ne n]; exact h
theorem SameBut.tup {K : PySem.W.Frag} {p : Addr} {H H' : Hp} {xs : List V} (e : SameBut p H H') (hp : H p = some (.lst xs)) : TupLe K H H' := .of_keep fun b o h n _ _ => e b o (fun z => by rw [z, hp] at h; cases h; exact n _ rfl) h
theorem same_upd {H : Hp} {p : Addr} (h : H p = none) (o : HO) : Same H (upd H p o) := fun b u q => by rw [upd_ne (ne_of_none q h)]; exact q
section
variable {K : PySem.W.Frag} {H H' : Hp}
mutual
theorem Rep.mono (e : TupLe K H H') : ∀ (d : PyData) (v : V), Rep K H d v → Rep K H' d v
  | .none, v, h => by rw [Rep] at h ⊢; exact h
  | .bool _, v, h => by rw [Rep] at h ⊢; exact h
  | .int _, v, h => by rw [Rep] at h ⊢; exact h
  | .str _, v, h => by rw [Rep] at h ⊢; exact h
  | .tuple ds, v, h => by
    rw [Rep] at h ⊢
    obtain ⟨a, vs, e1, e2, e3⟩ := h
    exact ⟨a, vs, e1, e.tup a vs e2, Reps.mono e ds vs e3⟩
  | .list ds, v, h => by
    rw [Rep] at h ⊢
    obtain ⟨a, o, vs, e1, e2, e3⟩ := h
    exact ⟨a, o, vs, e1, e.frz a o vs e2, Reps.mono e ds vs e3⟩
  | .dict kvs, v, h => by
    rw [Rep] at h ⊢
    obtain ⟨a, C, dx, fs, e1, e2, e3⟩ := h
    exact ⟨a, C, dx, fs, e1, e.ins a C dx fs e2, RepF.mono e kvs _ e3⟩
theorem Reps.mono (e : TupLe K H H') : ∀ (ds : List PyData) (vs : List V), Reps K H ds vs → Reps K H' ds vs
  | [], vs, h => by rw [Reps] at h ⊢; exact h
  | d :: ds, vs, h => by
    rw [Reps] at h ⊢
    obtain ⟨v, r, e1, e2, e3⟩ := h
    exact ⟨v, r, e1, Rep.mono e d v e2, Reps.mono e ds r e3⟩
theorem RepF.mono (e : TupLe K H H') : ∀ (ds : List (PyData × PyData)) (vs : List (Str × V)), RepF K H ds vs → RepF K H' ds vs
  | [], vs, h => by rw [RepF] at h ⊢; exact h
  | (k, d) :: ds, vs, h => by
    rw [RepF] at h ⊢
    obtain ⟨g, v, r, e1, e2, e3, e4⟩ := h
    exact ⟨g, v, r, e1, e2, Rep.mono e d v e3, RepF.mono e ds r e4⟩
end
theorem Reps.length : ∀ {ds : List PyData} {vs : List V}, Reps K H ds vs → vs.length = ds.length
  | [], vs, h => by rw [Reps] at h; rw [h]; rfl
  | d :: ds, vs, h => by
    rw [Reps] at h
    obtain ⟨v, r, e1, _, e3⟩ := h
    rw [e1, List.length_cons, List.length_cons, Reps.length e3]
theorem Reps.get : ∀ {ds : List PyData} {vs : List V} {i : Nat} {d : PyData}, Reps K H ds vs → ds[i]? = some d → ∃ v, vs[i]? = some v ∧ Rep K H d v
  | [], vs, i, d, h, e => by simp at e
  | x :: ds, vs, 0, d, h, e => by
    rw [Reps] at h
    obtain ⟨v, r, e1, e2, _⟩ := h
    simp at e
    subst e e1
    exact ⟨v, rfl, e2⟩
  | x :: ds, vs, i + 1, d, h, e => by
    rw [Reps] at h
    obtain ⟨v, r, e1, _, e3⟩ := h
    subst e1
    obtain ⟨u, h1, h2⟩ := Reps.get (i := i) (d := d) e3 (by simpa using e)
    exact ⟨u, by simpa using h1, h2⟩
theorem Reps.append : ∀ {ds es : List PyData} {vs ws : List V}, Reps K H ds vs → Reps K H es ws → Reps K H (ds ++ es) (vs ++ ws)
  | [], es, vs, ws, h, h' => by rw [Reps] at h; rw [h]; exact h'
  | d :: ds, es, vs, ws, h, h' => by
    rw [Reps] at h
    obtain ⟨v, r, e1, e2, e3⟩ := h
    subst e1
    rw [List.cons_append, List.cons_append, Reps]
    exact ⟨v, r ++ ws, rfl, e2, Reps.append e3 h'⟩
theorem Reps.one {d : PyData} {v : V} (h : Rep K H d v) : Reps K H [d] [v] := by
  rw [Reps]; exact ⟨v, [], rfl, h, by rw [Reps]⟩
theorem Reps.nil : Reps K H [] [] := by rw [Reps]
theorem Reps.cons {d : PyData} {ds : List PyData} {v : V} {vs : List V} (h : Rep K H d v) (t : Reps K H ds vs) : Reps K H (d :: ds) (v :: vs) := by
  rw [Reps]; exact ⟨v, vs, rfl, h, t⟩
theorem Reps.split {d : PyData} {ds : List PyData} {vs : List V} (h : Reps K H (d :: ds) vs) : ∃ v r, vs = v :: r ∧ Rep K H d v ∧ Reps K H ds r := by rw [Reps] at h; exact h
theorem Rep.tuple {ds : List PyData} {a : Addr} {vs : List V} (h : SqT K H a vs) (r : Reps K H ds vs) : Rep K H (.tuple ds) (.ref a) := by
  rw [Rep]; exact ⟨a, vs, rfl, h, r⟩
theorem Rep.untuple {ds : List PyData} {v : V} (h : Rep K H (.tuple ds) v) : ∃ a vs, v = .ref a ∧ SqT K H a vs ∧ Reps K H ds vs := by rw [Rep] at h; exact h
theorem Rep.int (i : Int) : Rep K H (.int i) (.int i) := by rw [Rep]
theorem Rep.str (x : Str) : Rep K H (.str x) (.str x) := by rw [Rep]
theorem Rep.bool (b : Bool) : Rep K H (.bool b) (.bl b) := by rw [Rep]
theorem Rep.non : Rep K H .none .non := by rw [Rep]
theorem Rep.is_int {i : Int} {v : V} (h : Rep K H (.int i) v) : v = .int i := by rw [Rep] at h; exact h
theorem Rep.is_str {x : Str} {v : V} (h : Rep K H (.str x) v) : v = .str x := by rw [Rep] at h; exact h
theorem Rep.is_bool {b : Bool} {v : V} (h : Rep K H (.bool b) v) : v = .bl b := by rw [Rep] at h; exact h
theorem Rep.is_non {v : V} (h : Rep K H .none v) : v = .non := by rw [Rep] at h; exact h
end
section
variable {X : Cx} {pins : List (Addr × Obj)} {σ : St} {H : Hp} {s : Shared}
mutual
theorem Inv.reads (I : Inv X pins σ H s) : ∀ (d : PyData) (v : V) (u : Value), Rep X.K H d v → RelV v u → d.canLay0 = true → ∃ as, Reads s.heap u d as
  | .none, v, u, h, r, _ => by rw [Rep] at h; subst h; cases r; exact ⟨_, .none⟩
  | .bool b, v, u, h, r, _ => by rw [Rep] at h; subst h; cases r; exact ⟨_, .bool b⟩
  | .int i, v, u, h, r, _ => by rw [Rep] at h; subst h; obtain ⟨t, rfl⟩ := r; exact ⟨_, .int i t⟩
  | .str x, v, u, h, r, _ => by rw [Rep] at h; subst h; obtain ⟨t, rfl⟩ := r; exact ⟨_, .str x t⟩
  | .tuple ds, v, u, h, r, c => by
    rw [Rep] at h
    obtain ⟨a, vs, e1, e2, e3⟩ := h
    subst e1
    cases r
    obtain ⟨its, rv, ⟨o, ho, hc, n, hd⟩, _⟩ := I.tuple e2
    obtain ⟨as, ra⟩ := Inv.readsAll I ds vs its e3 rv (by simpa [PyData.canLay0] using c)
    exact ⟨as, .tuple ho hc hd (by simpa using ra)⟩
  | .list ds, v, u, h, r, c => by
    rw [Rep] at h
    obtain ⟨a, o0, vs, e1, e2, e3⟩ := h
    subst e1
    cases r
    obtain ⟨its, rv, ⟨o, n, ho, hc, _, hd⟩, _⟩ := I.list (.inl (.inr ⟨o0, e2⟩))
    obtain ⟨as, ra⟩ := Inv.readsAll I ds vs its e3 rv (by simpa [PyData.canLay0] using c)
    exact ⟨a :: as, .list ho hc hd (by simpa using ra)⟩
  | .dict _, v, u, h, r, c => by simp [PyData.canLay0] at c
theorem Inv.readsAll (I : Inv X pins σ H s) : ∀ (ds : List PyData) (vs : List V) (us : List Value), Reps X.K H ds vs → Vals vs us → PyData.canLayAll0 ds = true → ∃ as, ReadsAll s.heap us ds as
  | [], vs, us, h, r, _ => by rw [Reps] at h; subst h; cases r; exact ⟨_, .nil⟩
  | d :: ds, vs, us, h, r, c => by
    rw [Reps] at h
    obtain ⟨v, w, e1, e2, e3⟩ := h
    subst e1
    rw [PyData.canLayAll0, Bool.and_eq_true] at c
    cases r with
    | cons r1 r2 =>
      obtain ⟨as, ra⟩ := Inv.reads I d v _ e2 r1 c.1
      obtain ⟨bs, rb⟩ := Inv.readsAll I ds w _ e3 r2 c.2
      exact ⟨_, .cons ra rb⟩
end
def RepL (K : PySem.W.Frag) (H : Hp) (d : PyData) (v : V) : Prop := match d with
  | .list ds => ∃ a vs, v = .ref a ∧ SqL K H a vs ∧ Reps K H ds vs
  | d => Rep K H d v
theorem Inv.readsL (I : Inv X pins σ H s) {d : PyData} {v : V} {u : Value} (h : RepL X.K H d v) (r : RelV v u) (c : d.canLay0 = true) : ∃ as, Reads s.heap u d as := by
  cases d with
  | list ds =>
    obtain ⟨a, vs, e1, e2, e3⟩ := h
    subst e1
    cases r
    obtain ⟨its, rv, ⟨o, n, ho, hc, _, hd⟩, _⟩ := I.list e2
    obtain ⟨as, ra⟩ := I.readsAll ds vs its e3 rv (by simpa [PyData.canLay0] using c)
    exact ⟨a :: as, .list ho hc hd (by simpa using ra)⟩
  | _ => exact I.reads _ v u h r c
def rEqD (K : PySem.W.Frag) (n : Nat) : R2 := fun x y H Q => ∃ d e, RepL K H d x ∧ RepL K H e y ∧ d.canLay0 = true ∧ e.canLay0 = true ∧ (d.depth ≤ n ∨ e.depth ≤ n) ∧ Q (.bl (PyData.eqv d e)) H
def rNeD (K : PySem.W.Frag) (n : Nat) : R2 := fun x y H Q => ∃ d e, RepL K H d x ∧ RepL K H e y ∧ d.canLay0 = true ∧ e.canLay0 = true ∧ (d.depth ≤ n ∨ e.depth ≤ n) ∧ Q (.bl (!PyData.eqv d e)) H
theorem op_eqD {n : Nat} (hu : X.A.units + n < cLine) : OpR X (compareOp .Eq) (rEqD X.K n) := by
  intro pins s σ H x y v u Q I rx ry h
  obtain ⟨d, e, hd, he, cd, ce, hn, q⟩ := h
  obtain ⟨as, ra⟩ := I.readsL hd rx cd
  obtain ⟨bs, rb⟩ := I.readsL he ry ce
  exact SeqAt.compareEq_reads ra rb cd ce (by omega) ⟨.bl _, H, I, rfl, q⟩
theorem op_neD {n : Nat} (hu : X.A.units + n < cLine) : OpR X (compareOp .NotEq) (rNeD X.K n) := by
  intro pins s σ H x y v u Q I rx ry h
  obtain ⟨d, e, hd, he, cd, ce, hn, q⟩ := h
  obtain ⟨as, ra⟩ := I.readsL hd rx cd
  obtain ⟨bs, rb⟩ := I.readsL he ry ce
  exact SeqAt.compareNe_reads ra rb cd ce (by omega) ⟨.bl _, H, I, rfl, q⟩
end
def rCatT' (K : PySem.W.Frag) : R2 := fun x y H Q => ∃ a b xs ys, x = .ref a ∧ y = .ref b ∧ SqT K H a xs ∧ SqT K H b ys ∧ xs.length + ys.length ≤ sizeLine ∧
  (xs = [] → Q (.ref b) H) ∧ (xs ≠ [] → ys = [] → Q (.ref a) H) ∧ (xs ≠ [] → ys ≠ [] → ∀ p, H p = none → Q (.ref p) (upd H p (.tup (xs ++ ys))))
section
variable {X : Cx}
theorem op_catT' : OpR X (binaryOp .Add) (rCatT' X.K) := by
  intro pins s σ H x y v u Q I rx ry h
  obtain ⟨a, b, xs, ys, rfl, rfl, ha, hb, hz, q0, q1, q2⟩ := h
  by_cases hx : xs = []
  · cases rx
    cases ry
    obtain ⟨its, r1, ⟨⟨cls, dd, data, sl⟩, ho, hc, n, hd⟩, _⟩ := I.tuple ha
    obtain ⟨its2, r2, ⟨⟨cls2, dd2, data2, sl2⟩, ho2, hc2, n2, hd2⟩, _⟩ := I.tuple hb
    simp only at hc hd hc2 hd2
    subst hc hd hc2 hd2
    have e0 : its = [] := r1.nil_iff.mpr hx
    exact concat_meets ⟨_, ho, rfl⟩ ⟨_, ho2, rfl⟩ noFill_tuple_add seq_tuple_add PySem.F.slot_tuple_add PySem.F.entry_tuple_add (PySem.F.args_tuple_add_2 _ _)
      (tuple_addW0 a b its.toArray its2.toArray n n2 dd dd2 sl sl2 (by simp [e0])) ⟨ho, ho2, ⟨.ref b, H, I, rfl, q0 hx⟩⟩
  · exact op_catT pins s σ H (.ref a) (.ref b) v u Q I rx ry ⟨a, b, xs, ys, rfl, rfl, ha, hb, hx, hz, q1 hx, q2 hx⟩
theorem cat_reps {K : PySem.W.Frag} {H : Hp} {a b : Addr} {xs ys : List V} {Q : VK} (ha : SqT K H a xs) (hb : SqT K H b ys) (hz : xs.length + ys.length ≤ sizeLine)
    (q : ∀ (c : Addr) (H' : Hp), Same H H' → SqT K H' c (xs ++ ys) → Q (.ref c) H') : rCatT' K (.ref a) (.ref b) H Q :=
  ⟨a, b, xs, ys, rfl, rfl, ha, hb, hz, fun e => q b H (Same.refl H) (by rw [e]; exact hb), fun _ e => q a H (Same.refl H) (by rw [e, List.append_nil]; exact ha), fun _ _ p hp => q p _ (same_upd hp _) (SqT.of upd_same)⟩
theorem op_mulS : OpR X (binaryOp .Mult) (fun x y H Q => ∃ z n, x = .str z ∧ y = .int n ∧ 0 < z.length ∧ 1 < n ∧ n ≤ 1000 ∧ z.length ≤ 1000 ∧ Q (.str (Txt.mul z n)) H) := by
  intro pins s σ H x y v u Q I rx ry h
  obtain ⟨z, n, rfl, rfl, h0, h1, h2, h3, q⟩ := h
  obtain ⟨t, rfl⟩ := rx
  obtain ⟨t', rfl⟩ := ry
  have hb : (z.length : Int) * n ≤ 1000000 := by
    have a1 : (z.length : Int) ≤ 1000 := by omega
    have a2 : (z.length : Int) * n ≤ 1000 * n := Int.mul_le_mul_of_nonneg_right a1 (by omega)
    omega
  refine SB.mul ⟨?_, fun _ _ hh => ?_, fun _ _ => ?_⟩ fun t' k => ⟨.str _, H, I.tok _, ⟨_, rfl⟩, q⟩
  · rw [decide_eq_false (by omega), decide_eq_false (by omega)]; rfl
  · have : (2 ^ 63 - 1 : Int) / n ≥ 1000 := by
      rw [ge_iff_le, Int.le_ediv_iff_mul_le (by omega)]
      omega
    omega
  · show Builtin.Str.tooLong _ = false
    unfold Builtin.Str.tooLong
    refine decide_eq_false ?_
    have e : ((z.length * n.toNat : Nat) : Int) = (z.length : Int) * n := by rw [Int.natCast_mul, Int.toNat_of_nonneg (by omega)]
    have hs : sizeLine = 16777216 := sizeLine_eq
    omega
inductive TyV (K : PySem.W.Frag) (H : Hp) : V → Value → Prop where
  | of {x : V} {t : Value} (h : TyOf K H x t) : TyV K H x t
  | sqT {a : Addr} {xs : List V} (h : SqT K H a xs) : TyV K H (.ref a) (.type "tuple")
  | sqL {a : Addr} {xs : List V} (h : SqL K H a xs) : TyV K H (.ref a) (.type "list")
theorem call_isinst : CallR X (.builtin "isinstance") (fun xs H Q => ∃ x T t b, xs = [x, .ty T] ∧ TyV X.K H x t ∧ PySem.W.kitOne X.K t (.type T) = some b ∧ Q (.bl b) H) := by
  intro pins s σ H xs us Q I r h
  obtain ⟨x, T, t, b, rfl, ty, e, q⟩ := h
  obtain ⟨u, w', rfl, rx, rt⟩ := vals2 r
  cases rt
  cases ty with
  | of ty => exact isinst_ok I rx ty e fun tk => ⟨.bl b, H, I.tok _, rfl, q⟩
  | sqT hq =>
    cases rx
    obtain ⟨its, _, ⟨o, h1, h2, _⟩, _⟩ := I.tuple hq
    exact PySem.W.kia_one PySem.W.kitx_tuple I.kIn ⟨o, h1, h2⟩ e (fun z => nomatch z) fun tk => ⟨.bl b, H, I.tok _, rfl, q⟩
  | sqL hq =>
    cases rx
    obtain ⟨its, _, ⟨o, n, h1, h2, _⟩, _⟩ := I.list hq
    exact PySem.W.kia_one PySem.W.kitx_list I.kIn ⟨o, h1, h2⟩ e (fun z => nomatch z) fun tk => ⟨.bl b, H, I.tok _, rfl, q⟩
def rIsi (K : PySem.W.Frag) : List V → Hp → VK → Prop := fun xs H Q => ∃ x T t b, xs = [x, .ty T] ∧ TyV K H x t ∧ PySem.W.kitOne K t (.type T) = some b ∧ Q (.bl b) H
theorem pe_isinst {e : Expr} {te : TE} {x : Str} {T : String} {p p2 pos : Pos} (hg : Gl X "isinstance") (hm : X.mg "isinstance" = none) (hgT : Gl X x) (hmT : X.mg x = none) (hv : bootBuiltins x = some (.type T)) (he : PE X e te)
    (hn : x ≠ "__name__" := by decide) (hd : (x == ("__debug__" : Str)) = false := by decide)
    (hs : starEach [e, .Name x p2] X.env = (false, eval e X.env) :: starEach [.Name x p2] X.env := by rfl) :
    PE X (.Call (.Name "isinstance" p) [e, .Name x p2] [] pos) (tCB (rIsi X.K) (tCons te (tCons (tC (.ty T)) tNil))) :=
  pe_callB (call_isinst (X := X)) hg hm boot_isinstance (pa_cons he (pa_cons (pe_bltn hgT hmT hv rfl hn hd) pa_nil) hs) (by decide) (by decide) hs
end
end L2
set_option Elab.async false
set_option linter.all false
set_option maxRecDepth 100000
set_option maxHeartbeats 4000000
namespace L2
open PySem PySem.Spec PyProof.Rows
section
variable {prog : Program} {w : World} {A : Around} {E : Value → Shared → Prop} {s : Shared}
open AutoSeq1 (wpAny_loadPart')
theorem nextOf_tup_item {it t : Addr} {i : Nat} {items : Array Value} {x : Value} {Q : Value → Shared → Prop} (hit : s.heap.IsTupleIter it t i) (ht : s.heap.IsTuple t items) (hx : items[i]? = some x)
    (hQ : ∀ h', h'.IsTupleIter it t (i + 1) → Heap.SameBut it s.heap h' → Q x { s with heap := h' }) : wpAny (model prog w) A (Builtin.SmallTypes.nextOf (.ref it)) Q E s := by
  obtain ⟨oi, hoi, hci, hdi⟩ := id hit
  obtain ⟨ot, hot, _, nt, hdt⟩ := ht
  unfold Builtin.SmallTypes.nextOf
  refine wpAny_bind (wpAny_callSpecial?_slot (name := Str.ofString "__next__") hit.typeIs F.slot_tuple_iterator_next (wpAny_call_entry F.slot_tuple_iterator_next hit.typeIs F.entry_tuple_iterator_next ?_ (F.args_tuple_iterator_next_1 _)))
  show wpAny _ _ (field (.ref it) 0 >>= _) _ _ _
  refine wpAny_bind (wpAny_field hoi hdi (x := .ref t) rfl ?_)
  show wpAny _ _ (if (Value.ref t == Value.none) = true then _ else _) _ _ _
  rw [if_neg (show ¬ ((Value.ref t == Value.none) = true) by exact Bool.false_ne_true)]
  show wpAny _ _ (field (.ref it) 1 >>= _) _ _ _
  refine wpAny_bind (wpAny_field hoi hdi (x := .int i 0) rfl ?_)
  show wpAny _ _ (seqItems? (.ref t) >>= _) _ _ _
  refine wpAny_bind (wpAny_seqItems hot hdt ?_)
  simp only [Int.toNat_natCast, hx]
  refine wpAny_bind (wpAny_setField hoi hdi (by simp) (wpAny_pure ⟨x, rfl, wpAny_pure (hQ _ ?_ (Heap.SameBut.update ..))⟩))
  exact ⟨_, Heap.get?_update_self _ hoi (Obj.isFreed_of_fields (Obj.data_mapFields hdi _)), (Obj.cls_mapFields ..).trans hci, by rw [Obj.data_mapFields hdi]; simp [rawInt]⟩
theorem nextOf_tup_end {it t : Addr} {i : Nat} {items : Array Value} {Q : Value → Shared → Prop} (hh : A.handled = none) (hit : s.heap.IsTupleIter it t i) (ht : s.heap.IsTuple t items) (hx : items[i]? = none)
    (hE : ∀ h' e, Heap.ExtBut it s.heap h' → (∃ o, h'.get? e = some o ∧ o.cls = .type "StopIteration") → E (.ref e) { s with heap := h' }) : wpAny (model prog w) A (Builtin.SmallTypes.nextOf (.ref it)) Q E s := by
  obtain ⟨oi, hoi, hci, hdi⟩ := id hit
  obtain ⟨ot, hot, _, nt, hdt⟩ := ht
  unfold Builtin.SmallTypes.nextOf
  refine wpAny_bind (wpAny_callSpecial?_slot (name := Str.ofString "__next__") hit.typeIs F.slot_tuple_iterator_next (wpAny_call_entry F.slot_tuple_iterator_next hit.typeIs F.entry_tuple_iterator_next ?_ (F.args_tuple_iterator_next_1 _)))
  show wpAny _ _ (field (.ref it) 0 >>= _) _ _ _
  refine wpAny_bind (wpAny_field hoi hdi (x := .ref t) rfl ?_)
  show wpAny _ _ (if (Value.ref t == Value.none) = true then _ else _) _ _ _
  rw [if_neg (show ¬ ((Value.ref t == Value.none) = true) by exact Bool.false_ne_true)]
  show wpAny _ _ (field (.ref it) 1 >>= _) _ _ _
  refine wpAny_bind (wpAny_field hoi hdi (x := .int i 0) rfl ?_)
  show wpAny _ _ (seqItems? (.ref t) >>= _) _ _ _
  refine wpAny_bind (wpAny_seqItems hot hdt ?_)
  simp only [Int.toNat_natCast, hx]
  refine wpAny_bind (wpAny_rule (wpAny_bind (wpAny_setField hoi hdi (by simp) ?_)))
  show wpAny _ _ (newExc (.type "StopIteration") [] >>= _) _ _ _
  refine wpAny_bind ?_
  simp only [newExc, newTuple]
  refine wpAny_bind (wpAny_newObj_type ?_ (by size_fits))
  refine wpAny_bind (m := firstArgMember _ _) (wpAny_of_eq (a := Value.none) (by first | rfl | (simp only [firstArgMember]; rfl)) ?_)
  refine wpAny_newObj_type ?_ (by size_fits)
  simp only [raiseNew]
  refine wpAny_bind (wpAny_handled ?_)
  first | rw [show A.in1.handled = none from hh] | rw [hh]
  exact wpAny_bind (wpAny_pure (wpAny_throw (hE _ _ (((Heap.SameBut.update ..).extBut.push _).push _) ⟨_, Heap.get?_push_size _ rfl, rfl⟩)))
end
theorem draws_tup {prog : Program} {w : World} {A : Around} (hh : A.handled = none) (it t : Addr) (hne : t ≠ it) (items : Array Value) :
    Draws prog w A it [it, t] items.size (fun i v => items[i]? = some v) (fun i h => h.IsTupleIter it t i ∧ h.IsTuple t items) where
  live := fun _ _ st => let ⟨o, ho, _⟩ := st.1; ⟨o, ho⟩
  frame := fun _ _ _ st hk => ⟨let ⟨o, ho, r⟩ := st.1; ⟨o, hk it (by simp) o ho, r⟩, let ⟨o, ho, r⟩ := st.2; ⟨o, hk t (by simp) o ho, r⟩⟩
  item := fun i s Q E hi st hQ => nextOf_tup_item st.1 st.2 (x := items[i]) (by simp [hi]) fun h' h1 h2 => hQ _ h' s.toks (by simp [hi]) ⟨h1, st.2.extBut h2.extBut hne⟩ h2
  done := fun s Q E st hE => nextOf_tup_end hh st.1 st.2 (by simp) hE
section
open AutoSeq1 (wpAny_loadPart')
theorem meets_enum_tup (l : Addr) (items : Array Value) (n : Nat) (dct : Option Addr) (sl : Array (Option Value)) :
    Meets (Builtin.«enumerate.__new__» ⟨[.type "enumerate", .ref l], []⟩) (fun _ R s => s.heap.get? l = some { cls := .type "tuple", dict := dct, data := .seq items n, slots := sl } ∧
      R (.ok (.ret (.ref (s.heap.push { cls := .type "tuple_iterator", data := .fields #[.ref l, .int 0 0] }).objs.size)))
        { s with heap := (s.heap.push { cls := .type "tuple_iterator", data := .fields #[.ref l, .int 0 0] }).push { cls := .type "enumerate", data := .fields #[.none, .bool false, .ref s.heap.objs.size, rawInt 0, .none, .none] } }) :=
  .of_wp fun prog w A R s h => by
    obtain ⟨hp, g, d, tk, os⟩ := s; obtain ⟨hl, h⟩ := h
    have hsub := sub_enumerate
    have hL : Heap.IsTuple (Shared.heap ⟨hp, g, d, tk, os⟩) l items := ⟨_, hl, rfl, n, rfl⟩
    wp_walk using wpAny_loadPart' hl
    refine wpAny_stack_any fun st => wpAny_pure ?_
    split
    · rename_i c _ _ _ _ _
      cases (c == Value.type "enumerate")
      · wp_walk using wpAny_loadPart' hl, wpAny_pyIter_tuple hL
        exact ⟨_, rfl, h⟩
      · wp_walk using wpAny_loadPart' hl, wpAny_pyIter_tuple hL
        exact ⟨_, rfl, h⟩
    · wp_walk using wpAny_loadPart' hl, wpAny_pyIter_tuple hL
      exact ⟨_, rfl, h⟩
theorem call_enum_tup {prog : Program} {w : World} {A : Around} {E : Value → Shared → Prop} {s : Shared} {l : Addr} {items : Array Value} {Q : Value → Shared → Prop} (hL : s.heap.IsTuple l items)
    (h : ∀ h', IsEnum h' (s.heap.objs.size + 1) s.heap.objs.size 0 .none → h'.IsTupleIter s.heap.objs.size l 0 → h'.objs.size = s.heap.objs.size + 2 → (∀ b o, s.heap.get? b = some o → h'.get? b = some o) →
      Q (.ref (s.heap.objs.size + 1)) { s with heap := h' }) : wpAny (model prog w) A (call (.type "enumerate") [.ref l]) Q E s := by
  obtain ⟨⟨c, dct, dt, sl⟩, hl, hc, n, hd⟩ := hL
  replace hc : c = .type "tuple" := hc
  replace hd : dt = .seq items n := hd
  subst hc hd
  refine callType_new F.called_enumerate (by decide) (F.typeCall_enumerate_1 _) (F.newCall_enumerate_1 _) (fun obj => F.args_object_init_2 obj _) F.entry_enumerate_new (meets_enum_tup l items n dct sl) ⟨hl, ?_⟩
  have hz : (s.heap.push { cls := .type "tuple_iterator", data := .fields #[.ref l, .int 0 0] }).objs.size = s.heap.objs.size + 1 := Heap.size_push ..
  show _ ∧ _
  rw [hz]
  have he : IsEnum ((s.heap.push { cls := .type "tuple_iterator", data := .fields #[.ref l, .int 0 0] }).push { cls := .type "enumerate", data := .fields #[.none, .bool false, .ref s.heap.objs.size, rawInt 0, .none, .none] }) (s.heap.objs.size + 1) s.heap.objs.size 0 .none := by
    have q := Heap.get?_push_size (s.heap.push { cls := .type "tuple_iterator", data := .fields #[.ref l, .int 0 0] }) (o := { cls := .type "enumerate", data := .fields #[.none, .bool false, .ref s.heap.objs.size, rawInt 0, .none, .none] }) rfl
    rw [hz] at q; exact q
  exact ⟨⟨_, he, rfl⟩, h _ he ⟨_, Heap.get?_push_of_some _ (Heap.get?_push_size _ rfl), rfl, rfl⟩ (by rw [Heap.size_push, hz]) fun b o x => Heap.get?_push_of_some _ (Heap.get?_push_of_some _ x)⟩
end
def ItEn (src : Hp → List V → Prop) : It :=
  ⟨fun i H => ∃ xs, src H xs ∧ i < xs.length, fun i H v H' => ∃ p x, v = .ref p ∧ H p = none ∧ H' = upd H p (.tup [.int i, x]) ∧ ∀ xs, src H xs → xs[i]? = some x, fun i H => ∃ xs, src H xs ∧ i = xs.length⟩
theorem turn_enum {P : Program} {w : World} {K : PySem.W.Frag} {elts : List Expr} {k : Nat} {pos : Pos} (src : Hp → List V → Prop) (e it t : Addr) (hei : e ≠ it) (hte : t ≠ e) (hti : t ≠ it) (si : Nat → Heap → Prop) (ct : Array Value → Heap → Prop)
    (hsi : ∀ i h, si i h → ∃ o, h.get? it = some o ∧ ∀ v, o.data ≠ .cell v) (hsk : ∀ i h h', si i h → (∀ o, h.get? it = some o → h'.get? it = some o) → si i h')
    (hct : ∀ items h, ct items h → ∃ o, h.get? t = some o) (htk : ∀ items h h', ct items h → (∀ o, h.get? t = some o → h'.get? t = some o) → ct items h')
    (hD : ∀ (A : Around), A.handled = none → ∀ items, Draws P w A it [it, t] items.size (fun i v => items[i]? = some v) (fun i h => si i h ∧ ct items h))
    (hS : ∀ (X : Cx), X.prog = P → X.w = w → X.K = K → ∀ (pins : List (Addr × Obj)) (s : Shared) (σ : St) (H : Hp) xs, Inv X pins σ H s → src H xs → ∃ its : List Value, Vals xs its ∧ ct its.toArray s.heap ∧ xs.length ≤ sizeLine)
    (hI : ∀ (X : Cx), X.prog = P → X.w = w → X.K = K → ∀ (pins : List (Addr × Obj)) (s : Shared) (σ : St) (H : Hp) xs ys, Inv X pins σ H s → src H xs → src H ys → xs = ys) :
    Turn P w K (.Tuple elts k pos) (ItEn src) [e, it] e (fun i h => (∃ old, IsEnum h e it i old) ∧ si i h) where
  mem := by simp
  obj := fun i h st b hb => by
    obtain ⟨⟨old, h1⟩, h2⟩ := st
    rcases List.mem_cons.mp hb with rfl | hb
    · exact ⟨_, h1, fun v z => by cases z⟩
    · have e0 : b = it := by simpa using hb
      rw [e0]; exact hsi i h h2
  keep := fun i h h' st hk => by
    obtain ⟨⟨old, h1⟩, h2⟩ := st
    exact ⟨⟨old, hk e (by simp) _ h1⟩, hsk i h h' h2 fun o q => hk it (by simp) o q⟩
  item := by
    intro X hP hw hK hc i pins s σ H E I hf st hg
    have hP' := hP; have hw' := hw; have hK' := hK
    subst hP hw hK
    obtain ⟨xs, hsrc, hi⟩ := hg
    obtain ⟨its, rv, hct0, hz⟩ := hS X rfl rfl rfl pins s σ H xs I hsrc
    obtain ⟨⟨old, h1⟩, h2⟩ := st
    have D := hD X.A.in1 (I.ok.hd hc) its.toArray
    have WT := WalksT.enumerateD (A := X.A) D e hei (by simp [hei, Ne.symm hte]) (by simp)
    have fE := hf e (by simp)
    have fI := hf it (by simp)
    have hlen := rv.length
    refine WT.item i s _ E (by rw [List.size_toArray]; omega) ⟨⟨old, h1⟩, h2, hct0⟩ fun T vals h' tk hPt hTz hTup hMid hk => ?_
    obtain ⟨tt, xv, hxv, rfl⟩ := hPt
    have hx : xs[i]? = some (xs[i]'hi) := List.getElem?_eq_getElem hi
    obtain ⟨u, hu, ru⟩ := rv.get hx
    have exv : xv = u := by
      have q : its[i]? = some xv := by simpa using hxv
      rw [hu] at q
      exact (Option.some.inj q).symm
    subst exv
    refine ⟨.ref T, rfl, ?_⟩
    have keepB : ∀ b o, b ≠ e → b ≠ it → s.heap.get? b = some o → h'.get? b = some o := fun b o n1 n2 q => hk b o (by simp [n1, n2]) q
    have hTn : H T = none := I.hok.fresh hTz
    have tTup : h'.IsTuple T #[.int i tt, xv] := hTup
    have step : ∀ {h2 : Heap} {tk2 : Nat}, (∀ b o, b ≠ e → b ≠ it → s.heap.get? b = some o → h2.get? b = some o) → h2.IsTuple T #[.int i tt, xv] → Inv X pins σ (upd H T (.tup [.int i, xs[i]'hi])) { s with heap := h2, toks := tk2 } := fun {h2 tk2} kp tp => by
      have n0 : ∀ b u, H b = some u → b ≠ e ∧ b ≠ it := fun b u q => ⟨fun z => (by rw [z, fE.1] at q; cases q), fun z => (by rw [z, fI.1] at q; cases q)⟩
      refine I.step (g' := s.gens) (d' := s.drawn) (ch := [e, it]) (fun b hb => ?_) (fun b o _ _ hb q _ => kp b o (fun z => hb (by simp [z])) (fun z => hb (by simp [z])) q) (fun b o _ _ hb q _ => ⟨o.slots, kp b o (fun z => hb (by simp [z])) (fun z => hb (by simp [z])) q⟩)
        (fun b o hb q n => by rw [upd_ne (Nat.ne_of_lt (Nat.lt_of_lt_of_le (Heap.lt_size q) hTz))]; exact n) (fun b o hb q => ⟨o, kp b o (fun z => hb (by simp [z])) (fun z => hb (by simp [z])) q⟩)
        (fun b ys q => by rw [upd_ne (ne_of_none q hTn)]; exact q) (fun b ob v q => by rw [upd_ne (ne_of_none q hTn)]; exact q) (fun b ps q => ⟨#[], by rw [upd_ne (ne_of_none q hTn), q]; simp⟩) (fun m hm => ?_) (fun b v q => ?_) I.bare
      · rcases List.mem_cons.mp hb with rfl | hb
        · exact ⟨fE.2.2.2.1, fE.2.1, fE.2.2.2.2.1, fE.2.2.2.2.2⟩
        · have e0 : b = it := by simpa using hb
          subst e0
          exact ⟨fI.2.2.2.1, fI.2.1, fI.2.2.2.2.1, fI.2.2.2.2.2⟩
      · obtain ⟨o, es, ep, ho, r⟩ := hm
        exact ⟨o, es, ep, kp _ o (Ne.symm fE.2.1) (Ne.symm fI.2.1) ho, r⟩
      · by_cases hb : b = T
        · subst hb
          rw [upd_same] at q
          cases q
          exact ⟨by show 2 ≤ sizeLine; decide, [.int i tt, xv], .cons ⟨_, rfl⟩ (.cons ru .nil), tp⟩
        · rw [upd_ne hb] at q
          refine (I.hok b v q).stay (fun c w' hc' q' => kp c w' ?_ ?_ q') (fun c q' => by rw [upd_ne (ne_of_none q' hTn)]; exact q') fun c ys q' => by rw [upd_ne (ne_of_none q' hTn)]; exact q'
          · rcases hc' with z | z
            · rw [z]; exact (n0 b v q).1
            · exact (n0 c _ z).1
          · rcases hc' with z | z
            · rw [z]; exact (n0 b v q).2
            · exact (n0 c _ z).2
    refine WT.go elts k pos i T _ _ E hMid fun h2 st2 hk2 => ?_
    have hTe : T ≠ e := Nat.ne_of_gt (Nat.lt_of_lt_of_le (Heap.lt_size h1) hTz)
    have hTi : T ≠ it := by obtain ⟨o, q, _⟩ := hsi _ _ ‹si i s.heap›; exact Nat.ne_of_gt (Nat.lt_of_lt_of_le (Heap.lt_size q) hTz)
    have tp2 : h2.IsTuple T #[.int i tt, xv] := let ⟨o, q, r⟩ := tTup; ⟨o, hk2 T o (by simp [hTe, hTi]) q, r⟩
    have kp2 : ∀ b o, b ≠ e → b ≠ it → s.heap.get? b = some o → h2.get? b = some o := fun b o n1 n2 q => hk2 b o (by simp [n1, n2]) (keepB b o n1 n2 q)
    refine ⟨.ref T, _, step (tk2 := tk) kp2 tp2, rfl, ⟨T, xs[i]'hi, rfl, hTn, rfl, fun ys hy => by rw [hI X rfl rfl rfl pins s σ H ys xs I hy hsrc]; exact hx⟩, ⟨st2.1, st2.2.1⟩, fun b hb => ?_⟩
    rw [upd_ne]
    · exact (hf b hb).1
    · rcases List.mem_cons.mp hb with rfl | hb
      · exact Ne.symm hTe
      · have e0 : b = it := by simpa using hb
        rw [e0]; exact Ne.symm hTi
  done := by
    intro X hP hw hK hc i pins s σ H E I hf st hg
    subst hP hw hK
    obtain ⟨xs, hsrc, hi⟩ := hg
    obtain ⟨its, rv, hct0, hz⟩ := hS X rfl rfl rfl pins s σ H xs I hsrc
    obtain ⟨⟨old, h1⟩, h2⟩ := st
    have D := hD X.A.in1 (I.ok.hd hc) its.toArray
    have WT := WalksT.enumerateD (A := X.A) D e hei (by simp [hei, Ne.symm hte]) (by simp)
    have fE := hf e (by simp)
    have fI := hf it (by simp)
    have hlen := rv.length
    have hin : i = its.toArray.size := by rw [List.size_toArray]; omega
    subst hin
    refine WT.done s _ E ⟨⟨old, h1⟩, h2, hct0⟩ fun h' tk hk => ⟨rfl, ?_⟩
    have n0 : ∀ b u, H b = some u → b ≠ e ∧ b ≠ it := fun b u q => ⟨fun z => (by rw [z, fE.1] at q; cases q), fun z => (by rw [z, fI.1] at q; cases q)⟩
    have kp : ∀ b o, b ≠ e → b ≠ it → s.heap.get? b = some o → h'.get? b = some o := fun b o n1 n2 q => hk b o (by simp [n1, n2]) q
    refine I.step (g' := s.gens) (d' := s.drawn) (ch := [e, it]) (fun b hb => ?_) (fun b o _ _ hb q _ => kp b o (fun z => hb (by simp [z])) (fun z => hb (by simp [z])) q) (fun b o _ _ hb q _ => ⟨o.slots, kp b o (fun z => hb (by simp [z])) (fun z => hb (by simp [z])) q⟩)
      (fun b o hb q n => n) (fun b o hb q => ⟨o, kp b o (fun z => hb (by simp [z])) (fun z => hb (by simp [z])) q⟩) (fun b ys q => q) (fun b ob v q => q) (fun b ps q => ⟨#[], by rw [q]; simp⟩) (fun m hm => ?_) (fun b v q => ?_) I.bare
    · rcases List.mem_cons.mp hb with rfl | hb
      · exact ⟨fE.2.2.2.1, fE.2.1, fE.2.2.2.2.1, fE.2.2.2.2.2⟩
      · have e0 : b = it := by simpa using hb
        subst e0
        exact ⟨fI.2.2.2.1, fI.2.1, fI.2.2.2.2.1, fI.2.2.2.2.2⟩
    · obtain ⟨o, es, ep, ho, r⟩ := hm
      exact ⟨o, es, ep, kp _ o (Ne.symm fE.2.1) (Ne.symm fI.2.1) ho, r⟩
    · refine (I.hok b v q).stay (fun c w' hc' q' => kp c w' ?_ ?_ q') (fun c q' => q') fun c ys q' => q'
      · rcases hc' with z | z
        · rw [z]; exact (n0 b v q).1
        · exact (n0 c _ z).1
      · rcases hc' with z | z
        · rw [z]; exact (n0 b v q).2
        · exact (n0 c _ z).2
  self := fun A i s Q E st h => by
    obtain ⟨⟨old, h1⟩, _⟩ := st
    exact wpAny_pyIter_enum h1 h
section
variable {X : Cx} {l : Expr} {ta : TA} {elts : List Expr} {k : Nat} {p pos pos2 : Pos}
def iEnT (K : PySem.W.Frag) (ta : TA) : TI := fun σ H R => ta σ H fun vs H1 => ∃ a xs, vs = [.ref a] ∧ SqT K H1 a xs ∧ R (ItEn fun H ys => SqT K H a ys) H1
def iEnL (K : PySem.W.Frag) (ta : TA) : TI := fun σ H R => ta σ H fun vs H1 => ∃ a xs, vs = [.ref a] ∧ SqL K H1 a xs ∧ R (ItEn fun H ys => SqL K H a ys) H1
theorem pi_enumT (hg : Gl X "enumerate") (hm : X.mg "enumerate" = none) (ha : PA X [l] ta) (hs : starEach [l] X.env = [(false, eval l X.env)] := by rfl) : PI X (.Tuple elts k pos2) (.Call (.Name "enumerate" p) [l] [] pos) (iEnT X.K ta) := by
  intro pins s σ H R I h
  refine Call_ (ld_blt I hg hm boot_enumerate (PyProof.Rows.callWith_type1 (thn (ha pos pins s σ H _ I h) fun us s1 ⟨vs, H1, I1, r1, q1⟩ => ?_) hs rfl))
  obtain ⟨a, xs, e, hq, q⟩ := q1
  subst e
  obtain ⟨u, rfl, ru⟩ := vals1 r1
  cases ru
  obtain ⟨its, rv, pt, hz⟩ := I1.tuple hq
  have hal : a < s1.heap.objs.size := pt.lt
  refine call_enum_tup (show s1.heap.IsTuple a its.toArray from pt) fun h' he hi hz' hk => wpAny_pyIter_enum he ?_
  refine ⟨s1.heap.objs.size + 1, [s1.heap.objs.size + 1, s1.heap.objs.size], _, _, H1, rfl, I1.kept (t' := s1.toks) hk, turn_enum (fun H ys => SqT X.K H a ys) (s1.heap.objs.size + 1) s1.heap.objs.size a (Nat.succ_ne_self _) (Nat.ne_of_lt (Nat.lt_succ_of_lt hal)) (Nat.ne_of_lt hal)
      (fun i h => h.IsTupleIter s1.heap.objs.size a i) (fun items h => h.IsTuple a items) (fun i h ⟨o, e1, _, e2⟩ => ⟨o, e1, fun v z => by rw [e2] at z; cases z⟩) (fun i h h' ⟨o, e1, r⟩ k => ⟨o, k o e1, r⟩) (fun items h ⟨o, e1, _⟩ => ⟨o, e1⟩) (fun items h h' ⟨o, e1, r⟩ k => ⟨o, k o e1, r⟩)
      (fun A hh items => draws_tup hh s1.heap.objs.size a (Nat.ne_of_lt hal) items)
      (fun X' hP hw hK pins' s' σ' H' ys I' hy => by
        rw [← hK] at hy
        obtain ⟨its', rv', pt', hz''⟩ := I'.tuple hy
        exact ⟨its', rv', pt', hz''⟩)
      (fun X' hP hw hK pins' s' σ' H' ys zs I' hy hzs => by rw [← hK] at hy hzs; exact I'.tuple_inj hy hzs),
    ⟨⟨_, he⟩, hi⟩, fun b hb => ?_, q⟩
  rcases List.mem_cons.mp hb with rfl | hb
  · exact I1.fpOk (Nat.le_succ _) (I1.hok.fresh (Nat.le_succ _))
  · have e0 : b = s1.heap.objs.size := by simpa using hb
    subst e0
    exact I1.fpOk (Nat.le_refl _) (I1.hok.fresh (Nat.le_refl _))
theorem pi_enumL (hg : Gl X "enumerate") (hm : X.mg "enumerate" = none) (ha : PA X [l] ta) (hs : starEach [l] X.env = [(false, eval l X.env)] := by rfl) : PI X (.Tuple elts k pos2) (.Call (.Name "enumerate" p) [l] [] pos) (iEnL X.K ta) := by
  intro pins s σ H R I h
  refine Call_ (ld_blt I hg hm boot_enumerate (PyProof.Rows.callWith_type1 (thn (ha pos pins s σ H _ I h) fun us s1 ⟨vs, H1, I1, r1, q1⟩ => ?_) hs rfl))
  obtain ⟨a, xs, e, hq, q⟩ := q1
  subst e
  obtain ⟨u, rfl, ru⟩ := vals1 r1
  cases ru
  obtain ⟨its, rv, pl, hz⟩ := I1.list hq
  have hal : a < s1.heap.objs.size := let ⟨o, _, e, _⟩ := pl; Heap.lt_size e
  refine call_enumerate_list pl.isList fun h' he hi hz' hk => wpAny_pyIter_enum he ?_
  refine ⟨s1.heap.objs.size + 1, [s1.heap.objs.size + 1, s1.heap.objs.size], _, _, H1, rfl, I1.kept (t' := s1.toks) hk, turn_enum (fun H ys => SqL X.K H a ys) (s1.heap.objs.size + 1) s1.heap.objs.size a (Nat.succ_ne_self _) (Nat.ne_of_lt (Nat.lt_succ_of_lt hal)) (Nat.ne_of_lt hal)
      (fun i h => h.IsListIter s1.heap.objs.size a i) (fun items h => h.IsList a items) (fun i h ⟨o, e1, _, e2⟩ => ⟨o, e1, fun v z => by rw [e2] at z; cases z⟩) (fun i h h' ⟨o, e1, r⟩ k => ⟨o, k o e1, r⟩) (fun items h ⟨o, e1, _⟩ => ⟨o, e1⟩) (fun items h h' ⟨o, e1, r⟩ k => ⟨o, k o e1, r⟩)
      (fun A hh items => Draws.list hh s1.heap.objs.size a (Nat.ne_of_lt hal) items)
      (fun X' hP hw hK pins' s' σ' H' ys I' hy => by
        rw [← hK] at hy
        obtain ⟨its', rv', pl', hz''⟩ := I'.list hy
        exact ⟨its', rv', pl'.isList, hz''⟩)
      (fun X' hP hw hK pins' s' σ' H' ys zs I' hy hzs => by rw [← hK] at hy hzs; exact I'.list_inj hy hzs),
    ⟨⟨_, he⟩, hi⟩, fun b hb => ?_, q⟩
  rcases List.mem_cons.mp hb with rfl | hb
  · exact I1.fpOk (Nat.le_succ _) (I1.hok.fresh (Nat.le_succ _))
  · have e0 : b = s1.heap.objs.size := by simpa using hb
    subst e0
    exact I1.fpOk (Nat.le_refl _) (I1.hok.fresh (Nat.le_refl _))
theorem for_enum {src : Hp → List V → Prop} {xs : List V} {g : TG} {tb : TS} {D : Ends} {σ : St} {H : Hp} (Pv : Nat → St → Hp → Prop) (h0 : Pv 0 σ H) (hl : ∀ i σ H, i ≤ xs.length → Pv i σ H → src H xs)
    (hs : ∀ i x σ H p, xs[i]? = some x → Pv i σ H → H p = none → g (.ref p) σ (upd H p (.tup [.int i, x])) fun σ2 H2 => tb { D with nx := Pv (i + 1), ct := Pv (i + 1), bk := D.nx } σ2 H2) (hd : ∀ σ H, Pv xs.length σ H → D.nx σ H) :
    ∃ W : Nat → Nat → St → Hp → Prop, (∃ m, W 0 m σ H) ∧ ∀ i m σ H, W i m σ H →
      ((ItEn src).stop i H ∧ D.nx σ H) ∨ ((ItEn src).go i H ∧ ∃ N : St → Hp → Prop, (∀ σ' H', N σ' H' → ∃ m', m' < m ∧ W (i + 1) m' σ' H') ∧ ∀ x H', (ItEn src).yld i H x H' → g x σ H' fun σ2 H2 => tb { D with nx := N, ct := N, bk := D.nx } σ2 H2) := by
  refine ⟨fun i m σ H => m = xs.length - i ∧ i ≤ xs.length ∧ Pv i σ H, ⟨xs.length, by simp, Nat.zero_le _, h0⟩, ?_⟩
  rintro i m σ H ⟨rfl, hi, p⟩
  have q := hl i σ H hi p
  by_cases hlt : i < xs.length
  · refine .inr ⟨⟨xs, q, hlt⟩, Pv (i + 1), fun σ' H' p' => ⟨xs.length - (i + 1), by omega, rfl, hlt, p'⟩, fun v H' y => ?_⟩
    obtain ⟨a, x, e1, e2, e3, e4⟩ := y
    subst e1 e3
    exact hs i x σ H a (e4 xs q) p e2
  · have e : i = xs.length := by omega
    subst e
    exact .inl ⟨⟨xs, q, rfl⟩, hd σ H p⟩
end
def ItRv (K : PySem.W.Frag) (a : Addr) (n : Nat) : It :=
  ⟨fun i H => i < n ∧ ∃ xs, SqL K H a xs ∧ xs.length = n, fun i H x H' => H' = H ∧ ∀ xs, SqL K H a xs → xs.length = n → xs[n - 1 - i]? = some x, fun i H => i = n ∧ ∃ xs, SqL K H a xs ∧ xs.length = n⟩
theorem turn_rev {P : Program} {w : World} {K : PySem.W.Frag} {tg : Expr} (a it : Addr) (n : Nat) (hne : a ≠ it) : Turn P w K tg (ItRv K a n) [it] it (fun i h => i ≤ n ∧ h.IsRevIter it a ((n : Int) - 1 - (i : Int))) where
  mem := by simp
  obj := fun i h st b hb => by
    have e : b = it := by simpa using hb
    subst e
    obtain ⟨_, o, e, c, d⟩ := st
    exact ⟨o, e, fun v z => by rw [d] at z; cases z⟩
  keep := fun i h h' st k => ⟨st.1, st.2.at fun o e => k it (by simp) o e⟩
  item := by
    intro X hP hw hK hc i pins s σ H E I hf st hg
    subst hP hw hK
    obtain ⟨hi, xs, hq, hlen⟩ := hg
    obtain ⟨its, rv, p, hz⟩ := I.list hq
    have hl := rv.length
    have hx : xs[n - 1 - i]? = some (xs[n - 1 - i]'(by omega)) := List.getElem?_eq_getElem _
    obtain ⟨u, hu, ru⟩ := rv.get hx
    obtain ⟨f0, f1, f2, f3, f4, f5⟩ := hf it (by simp)
    have e1 : (n : Int) - 1 - (i : Int) = ((n - 1 - i : Nat) : Int) := by omega
    have hit := st.2
    rw [e1] at hit
    refine wpAny_pyNext_rev_item hit p.isList (x := u) (by simpa using hu) fun h' hit' sb => ?_
    have e2 : ((n - 1 - i : Nat) : Int) - 1 = (n : Int) - 1 - ((i + 1 : Nat) : Int) := by omega
    rw [e2] at hit'
    have I1 : Inv X pins σ H { s with heap := h' } := I.turned (t' := s.toks) (fun b o hb e => (sb.2 b hb).trans e) f0 f1 f3 f4 f5
    obtain ⟨o, e, c, d⟩ := id hit'
    exact ⟨u, rfl, go_of (s := { s with heap := h' }) e c d (by decide) ⟨xs[n - 1 - i]'(by omega), H, I1, ru, ⟨rfl, fun ys hy _ => by rw [I.list_inj hy hq]; exact hx⟩, ⟨hi, hit'⟩, fun b hb => (hf b hb).1⟩⟩
  done := by
    intro X hP hw hK hc i pins s σ H E I hf st hg
    subst hP hw hK
    obtain ⟨hi, xs, hq, hlen⟩ := hg
    obtain ⟨f0, f1, f2, f3, f4, f5⟩ := hf it (by simp)
    have hit := st.2
    rw [show (n : Int) - 1 - (i : Int) = -1 by omega] at hit
    exact wpAny_pyNext_rev_end (I.ok.hd hc) hit fun h' eb => ⟨rfl, I.turned (t' := s.toks) (fun b o hb e => eb b o hb e) f0 f1 f3 f4 f5⟩
  self := fun _ _ _ _ _ st h => wpAny_pyIter_revIter st.2 h
section
variable {X : Cx} {l tg : Expr} {ta : TA} {p p2 pos pos2 : Pos}
def iRev (K : PySem.W.Frag) (ta : TA) : TI := fun σ H R => ta σ H fun vs H1 => ∃ a xs, vs = [.ref a] ∧ SqL K H1 a xs ∧ R (ItRv K a xs.length) H1
theorem pi_rev (hg : Gl X "reversed") (hm : X.mg "reversed" = none) (ha : PA X [l] ta) (hs : starEach [l] X.env = [(false, eval l X.env)] := by rfl) : PI X tg (.Call (.Name "reversed" p) [l] [] pos) (iRev X.K ta) := by
  intro pins s σ H R I h
  refine Call_ (ld_blt I hg hm boot_reversed (PyProof.Rows.callWith_type1 (thn (ha pos pins s σ H _ I h) fun us s1 ⟨vs, H1, I1, r1, q1⟩ => ?_) hs rfl))
  obtain ⟨a, xs, e, hq, q⟩ := q1
  subst e
  obtain ⟨u, rfl, ru⟩ := vals1 r1
  cases ru
  obtain ⟨its, rv, pl, hz⟩ := I1.list hq
  have hal : a < s1.heap.objs.size := let ⟨o, _, e, _⟩ := pl; Heap.lt_size e
  have hl := rv.length
  have hit : (s1.heap.push (revObj a ((its.toArray.size : Int) - 1))).IsRevIter s1.heap.objs.size a ((xs.length : Int) - 1 - ((0 : Nat) : Int)) := ⟨_, Heap.get?_push_size _ rfl, rfl, by
    have e2 : (xs.length : Int) - 1 - ((0 : Nat) : Int) = (its.toArray.size : Int) - 1 := by rw [List.size_toArray, hl]; simp
    rw [e2]; rfl⟩
  refine call_reversed_list pl.isList (wpAny_pyIter_revIter (s := { s1 with heap := s1.heap.push (revObj a ((its.toArray.size : Int) - 1)) }) hit ?_)
  refine ⟨s1.heap.objs.size, [s1.heap.objs.size], _, _, H1, rfl, I1.kept (t' := s1.toks) fun b o e => Heap.get?_push_of_some _ e, turn_rev a _ xs.length (Nat.ne_of_lt hal), ⟨Nat.zero_le _, hit⟩, fun b hb => ?_, q⟩
  have e0 : b = s1.heap.objs.size := by simpa using hb
  subst e0
  exact I1.fpOk (Nat.le_refl _) (I1.hok.fresh (Nat.le_refl _))
theorem for_rev {K : PySem.W.Frag} {a : Addr} {xs : List V} {g : TG} {tb : TS} {D : Ends} {σ : St} {H : Hp} (Pv : Nat → St → Hp → Prop) (h0 : Pv 0 σ H) (hl : ∀ i σ H, i ≤ xs.length → Pv i σ H → SqL K H a xs)
    (hs : ∀ i x σ H, i < xs.length → xs[xs.length - 1 - i]? = some x → Pv i σ H → g x σ H fun σ2 H2 => tb { D with nx := Pv (i + 1), ct := Pv (i + 1), bk := D.nx } σ2 H2) (hd : ∀ σ H, Pv xs.length σ H → D.nx σ H) :
    ∃ W : Nat → Nat → St → Hp → Prop, (∃ m, W 0 m σ H) ∧ ∀ i m σ H, W i m σ H →
      ((ItRv K a xs.length).stop i H ∧ D.nx σ H) ∨ ((ItRv K a xs.length).go i H ∧ ∃ N : St → Hp → Prop, (∀ σ' H', N σ' H' → ∃ m', m' < m ∧ W (i + 1) m' σ' H') ∧ ∀ x H', (ItRv K a xs.length).yld i H x H' → g x σ H' fun σ2 H2 => tb { D with nx := N, ct := N, bk := D.nx } σ2 H2) := by
  refine ⟨fun i m σ H => m = xs.length - i ∧ i ≤ xs.length ∧ Pv i σ H, ⟨xs.length, by simp, Nat.zero_le _, h0⟩, ?_⟩
  rintro i m σ H ⟨rfl, hi, p⟩
  have q := hl i σ H hi p
  by_cases hlt : i < xs.length
  · refine .inr ⟨⟨hlt, xs, q, rfl⟩, Pv (i + 1), fun σ' H' p' => ⟨xs.length - (i + 1), by omega, rfl, hlt, p'⟩, fun x H' y => ?_⟩
    obtain ⟨e, y⟩ := y
    subst e
    exact hs i x σ _ hlt (y xs q rfl) p
  · have e : i = xs.length := by omega
    subst e
    exact .inl ⟨⟨rfl, xs, q, rfl⟩, hd σ H p⟩
end
section
variable {prog : Program} {w : World} {A : Around} {E : Value → Shared → Prop} {s : Shared}
theorem rev_no_len : typeLookup (.type "list_reverseiterator") "__len__" = pure none := by rw [typeLookup_type, builtinLookup_eq_fast]; kernel_rfl
theorem rev_hint : typeLookup (.type "list_reverseiterator") "__length_hint__" = pure (some (.builtin "list_reverseiterator.__length_hint__")) := by rw [typeLookup_type, builtinLookup_eq_fast]; kernel_rfl
theorem hint_rev {r : Addr} (hT : s.TypeIs (.ref r) "list_reverseiterator") {Q : Bool → Shared → Prop} (h : Q false s) : wpAny (model prog w) A (Builtin.List.listLengthHint (.ref r)) Q E s := by
  unfold Builtin.List.listLengthHint
  refine wpAny_bind (wpAny_specialOf hT rev_no_len ?_)
  show wpAny _ _ (specialOf (Value.ref r) (Str.ofString "__length_hint__") >>= _) _ _ _
  refine wpAny_bind (wpAny_specialOf hT rev_hint ?_)
  generalize hid : ("list_reverseiterator.__length_hint__" : String) = id0
  wp_delta
  rw [show splitId id0 = some ("list_reverseiterator", "__length_hint__") from by subst hid; decide +kernel]
  subst hid
  refine wpAny_bind (wpAny_isInstance (T := "list_reverseiterator") (b := true) hT (by rw [isSubtype_type]; kernel_rfl) ?_)
  refine wpAny_ite_split (fun hab => absurd hab (by decide)) (fun _ => ?_)
  refine wpAny_ite_split (fun _ => ?_) (fun hab => absurd (by decide +kernel) hab)
  refine wpAny_ite_split (fun hab => absurd hab (by decide +kernel)) (fun _ => ?_)
  exact wpAny_pure h
theorem extend_rev {R : Result → Shared → Prop} {r l : Addr} {items : Array Value} (hh : A.handled = none) (hne : l ≠ r) (hit : s.heap.IsRevIter r l ((items.size : Int) - 1)) (hl : s.heap.IsList l items) (hn : items.size ≤ sizeLine) (S : Addr) (hSr : S ≠ r) (hSl : S ≠ l) (res : Value) (c0 : Nat)
    (hS : s.heap.get? S = some { cls := .type "list", data := .seq #[] c0 })
    (hR : ∀ h' tk acc c, (∀ b o, b ≠ S → b ≠ r → s.heap.get? b = some o → h'.get? b = some o) → h'.get? S = some { cls := .type "list", dict := none, data := .seq acc c, slots := #[] } →
      ItemsOf (fun i v => items[items.size - 1 - i]? = some v) acc items.size → R (.ok (.ret res)) { s with heap := h', toks := tk }) :
    wpAny (model prog w) A.in1 (Builtin.List.listExtendWith (.ref S) (.ref r) res)
      (fun fin s' => match fin with | .done f => R (.ok f) s' | .again c' => c'.quiet = true ∧ codeAny (model prog w) A c' R s') (fun e s' => R (.error e) s') s := by
  have W := (Walks.listRev (prog := prog) (w := w) (A := A.in1) hh r l hne items).toS
  have hSf : S ∉ [r, l] := by simp [hSr, hSl]
  have key : ∀ (h : Heap) (c1 tk : Nat), (∀ b o, b ≠ S → s.heap.get? b = some o → h.get? b = some o) → h.get? S = some { cls := .type "list", data := .seq #[] c1 } →
      codeAny (model prog w) A (.builtin "list.extend.loop" ⟨[.ref S, .ref r, res], []⟩) R { s with heap := h, toks := tk } := by
    intro h c1 tk hk hS1
    have st0 : 0 ≤ items.size ∧ h.IsRevIter r l ((items.size : Int) - 1 - ((0 : Nat) : Int)) ∧ h.IsList l items :=
      ⟨Nat.zero_le _, by rw [show (items.size : Int) - 1 - ((0 : Nat) : Int) = (items.size : Int) - 1 by omega]; exact hit.at fun o e => hk r o (Ne.symm hSr) e, let ⟨o, e, q⟩ := hl; ⟨o, hk l o (Ne.symm hSl) e, q⟩⟩
    refine codeAny_extend_loopS W hn S hSf res items.size 0 { s with heap := h, toks := tk } #[] c1 rfl (Nat.zero_le _) st0 hS1 (ItemsOf.nil _) fun s' acc c' hm hS' hacc => ?_
    rw [Moved.eq_with hm]
    exact hR s'.heap s'.toks acc c' (fun b o n1 n2 e => hm.heap b o (by simp [n1, n2]) (hk b o n1 e)) hS' hacc
  have hT : s.TypeIs (.ref r) "list_reverseiterator" := hit.typeIs
  unfold Builtin.List.listExtendWith
  refine wpAny_bind (wpAny_typeOf hT ?_)
  have g1 : Builtin.List.listSameRef (.ref S) (.ref r) = false := by simp [Builtin.List.listSameRef, hSr]
  have g2 : (Value.type "list_reverseiterator" == Value.type "list") = false := by decide
  have g3 : (Value.type "list_reverseiterator" == Value.type "tuple") = false := by decide
  simp only [g1, g2, g3, Bool.or_false, Bool.false_eq_true, if_false]
  refine wpAny_bind (wpAny_pyIter_revIter hit (wpAny_bind (wpAny_holding (hint_rev hT ?_))))
  refine wpAny_ite_split (fun _ => ?_) (fun _ => wpAny_pure ⟨plainId_quiet F.plain_extend_loop _, key _ c0 _ (fun b o _ e => e) hS⟩)
  refine wpAny_bind (wpAny_rule (wpAny_bind ?_))
  show wpAny _ _ (updateSeq S (·.push .none) >>= fun _ => updateSeq S (·.pop)) _ _ _
  refine wpAny_bind (wpAny_updateSeq hS rfl ?_)
  have hS2 := Heap.get?_update_self (Obj.mapSeq (·.push Value.none)) hS rfl
  refine wpAny_updateSeq (hz := by seq_fits) hS2 rfl ?_
  have hS3 := Heap.get?_update_self (Obj.mapSeq (·.pop)) hS2 rfl
  exact wpAny_pure ⟨plainId_quiet F.plain_extend_loop _, key _ _ _ (fun b o hb e => (Heap.get?_update_other _ _ (Ne.symm hb)).trans ((Heap.get?_update_other _ _ (Ne.symm hb)).trans e)) hS3⟩
theorem call_list_rev {Q : Value → Shared → Prop} {r l : Addr} {items : Array Value} (hh : A.handled = none) (hne : l ≠ r) (hit : s.heap.IsRevIter r l ((items.size : Int) - 1)) (hl : s.heap.IsList l items) (hn : items.size ≤ sizeLine)
    (hQ : ∀ h' tk acc c, (∀ b o, b ≠ r → s.heap.get? b = some o → h'.get? b = some o) → h'.get? s.heap.objs.size = some { cls := .type "list", dict := none, data := .seq acc c, slots := #[] } →
      ItemsOf (fun i v => items[items.size - 1 - i]? = some v) acc items.size → Q (.ref s.heap.objs.size) { s with heap := h', toks := tk }) : wpAny (model prog w) A (call (.type "list") [.ref r]) Q E s := by
  refine callType_codes (Q₁ := fun obj s1 => obj = .ref s.heap.objs.size ∧ s1 = { s with heap := s.heap.push { cls := .type "list", data := .seq #[] } }) F.called_list (F.typeCall_list_1 _) F.entry_list_init (code_list_new _ ⟨rfl, rfl⟩) fun obj s1 h1 => ?_
  obtain ⟨rfl, rfl⟩ := h1
  have hS : (s.heap.push { cls := .type "list", data := .seq #[] }).get? s.heap.objs.size = some { cls := .type "list", data := .seq #[] } := Heap.get?_push_size _ rfl
  have hrl : r < s.heap.objs.size := let ⟨o, e, _⟩ := hit; Heap.lt_size e
  have hll : l < s.heap.objs.size := let ⟨o, e, _⟩ := hl; Heap.lt_size e
  refine ⟨⟨_, hS, rfl⟩, F.args_list_init_2 _ _, ?_⟩
  show wpAny _ _ (do let old ← Builtin.List.listItems (.ref s.heap.objs.size); Builtin.List.listUpdate (.ref s.heap.objs.size) (fun _ => #[]); letGo old.toList.reverse; Builtin.List.listExtendWith (.ref s.heap.objs.size) (.ref r) .none) _ _ _
  refine wpAny_bind ?_
  unfold Builtin.List.listItems
  refine wpAny_bind (wpAny_seqItems hS rfl (wpAny_pure ?_))
  show wpAny _ _ (updateSeq s.heap.objs.size (fun _ => #[]) >>= fun _ => letGo (#[] : Array Value).toList.reverse >>= fun _ => Builtin.List.listExtendWith (.ref s.heap.objs.size) (.ref r) .none) _ _ _
  refine wpAny_bind (wpAny_updateSeq hS rfl ?_)
  have hS2 := Heap.get?_update_self (Obj.mapSeq (fun _ => (#[] : Array Value))) hS rfl
  have oth : ∀ b o, s.heap.get? b = some o → ((s.heap.push { cls := .type "list", data := .seq #[] }).update s.heap.objs.size (Obj.mapSeq (fun _ => (#[] : Array Value)))).get? b = some o :=
    fun b o e => (Heap.get?_update_other _ _ (Nat.ne_of_gt (Heap.lt_size e))).trans (Heap.get?_push_of_some _ e)
  refine wpAny_bind (wpAny_letGo ?_)
  refine extend_rev (A := A.in1) hh hne (hit.at fun o e => oth r o e) (let ⟨o, e, q⟩ := hl; ⟨o, oth l o e, q⟩) hn _ (Nat.ne_of_gt hrl) (Nat.ne_of_gt hll) .none _ hS2 fun h' tk acc c hk hS' hacc => ?_
  exact ⟨rfl, hQ h' tk acc c (fun b o n e => hk b o (Nat.ne_of_lt (Heap.lt_size e)) n (oth b o e)) hS' hacc⟩
end
section
variable {X : Cx} {l : Expr} {ta : TA} {p p2 pos pos2 : Pos}
theorem rev_vals {xs : List V} {its : List Value} {acc : Array Value} (rv : Vals xs its) (h : ItemsOf (fun i v => its.toArray[its.toArray.size - 1 - i]? = some v) acc its.toArray.size) : Vals xs.reverse acc.toList := by
  have e : acc.toList = its.reverse := by
    apply List.ext_getElem?
    intro i
    by_cases hi : i < its.length
    · have h1 : acc.toList[i]? = some (acc.toList[i]'(by rw [Array.length_toList, h.1, List.size_toArray]; exact hi)) := List.getElem?_eq_getElem _
      have h2 := h.2 i (acc.toList[i]'(by rw [Array.length_toList, h.1, List.size_toArray]; exact hi)) (by rw [← h1]; simp)
      rw [h1, List.getElem?_reverse hi]
      simpa using h2.symm
    · rw [List.getElem?_eq_none (by rw [Array.length_toList, h.1, List.size_toArray]; omega), List.getElem?_eq_none (by rw [List.length_reverse]; omega)]
  rw [e]
  exact rv.reverse
theorem pe_listRev (hc : X.calm = true) (hgL : Gl X "list") (hmL : X.mg "list" = none) (hgR : Gl X "reversed") (hmR : X.mg "reversed" = none) (ha : PA X [l] ta) (hs : starEach [l] X.env = [(false, eval l X.env)] := by rfl)
    (hs2 : starEach [.Call (.Name "reversed" p2) [l] [] pos2] X.env = [(false, eval (.Call (.Name "reversed" p2) [l] [] pos2) X.env)] := by rfl) :
    PE X (.Call (.Name "list" p) [.Call (.Name "reversed" p2) [l] [] pos2] [] pos) (fun σ H Q => ta σ H fun vs H1 => ∃ a xs, vs = [.ref a] ∧ SqL X.K H1 a xs ∧ ∀ q, H1 q = none → Q (.ref q) (upd H1 q (.lst xs.reverse))) := by
  intro pins s σ H Q I h
  refine Call_ (ld_blt I hgL hmL boot_list (PyProof.Rows.callWith_type1 ?_ hs2 rfl))
  rw [hs2]
  show wpAny _ _ (spliced ((false, eval (.Call (.Name "reversed" p2) [l] [] pos2) X.env) :: [])) _ _ s
  refine Calls.spliced_cons ?_
  refine Call_ (ld_blt I hgR hmR boot_reversed (PyProof.Rows.callWith_type1 (thn (ha pos2 pins s σ H _ I h) fun us s1 ⟨vs, H1, I1, r1, q1⟩ => ?_) hs rfl))
  obtain ⟨a, xs, e, hq, q⟩ := q1
  subst e
  obtain ⟨u, rfl, ru⟩ := vals1 r1
  cases ru
  obtain ⟨its, rv, pl, hz⟩ := I1.list hq
  have hal : a < s1.heap.objs.size := let ⟨o, _, e, _⟩ := pl; Heap.lt_size e
  have hl := rv.length
  refine call_reversed_list pl.isList (Calls.spliced_nil ?_)
  have kp : ∀ b o, s1.heap.get? b = some o → (s1.heap.push (revObj a ((its.toArray.size : Int) - 1))).get? b = some o := fun b o e => Heap.get?_push_of_some _ e
  have I2 : Inv X pins σ H1 { s1 with heap := s1.heap.push (revObj a ((its.toArray.size : Int) - 1)) } := I1.kept (t' := s1.toks) kp
  have fr : FpOk X pins H1 s1.heap.objs.size := I1.fpOk (Nat.le_refl _) (I1.hok.fresh (Nat.le_refl _))
  have hit : (s1.heap.push (revObj a ((its.toArray.size : Int) - 1))).IsRevIter s1.heap.objs.size a ((its.toArray.size : Int) - 1) := ⟨_, Heap.get?_push_size _ rfl, rfl, rfl⟩
  refine call_list_rev (s := { s1 with heap := s1.heap.push (revObj a ((its.toArray.size : Int) - 1)) }) (items := its.toArray) (I1.ok.hd hc) (Nat.ne_of_lt hal) hit (let ⟨o, n, e, c, _, d⟩ := pl; ⟨o, kp a o e, c, n, d⟩) (by rw [List.size_toArray]; omega) fun h' tk acc c hk hD hacc => ?_
  have hz2 : (s1.heap.push (revObj a ((its.toArray.size : Int) - 1))).objs.size = s1.heap.objs.size + 1 := Heap.size_push ..
  have I3 := Inv.turned (s := { s1 with heap := s1.heap.push (revObj a ((its.toArray.size : Int) - 1)) }) (h' := h') (t' := tk) (it := s1.heap.objs.size) I2 (fun b o hb e => hk b o hb e) fr.1 fr.2.1 fr.2.2.2.1 fr.2.2.2.2.1 fr.2.2.2.2.2
  have fD : FpOk X pins H1 (s1.heap.objs.size + 1) := I1.fpOk (Nat.le_succ _) (I1.hok.fresh (Nat.le_succ _))
  rw [hz2] at hD ⊢
  exact ⟨.ref _, _, I3.adopt (o := .lst xs.reverse) fD ⟨by rw [List.length_reverse]; exact hz, acc.toList, c, rev_vals rv hacc, by simpa using hD⟩, rfl, q _ fD.1⟩
end
end L2
set_option Elab.async false
set_option linter.all false
set_option maxRecDepth 100000
set_option maxHeartbeats 4000000
namespace L2
open PySem PySem.Spec PyProof.Rows
def DEv (X : Cx) (e : Expr) (σ : St) (H0 : Hp) (d : PyData) : Prop :=
  ∀ (pins : List (Addr × Obj)) (s : Shared) (H : Hp), Same H0 H → Inv X pins σ H s → wpAny (model X.prog X.w) X.A (eval e X.env) (EP X pins σ fun v H' => Same H H' ∧ Rep X.K H' d v) X.xe s
def DEvs (X : Cx) (es : List Expr) (σ : St) (H0 : Hp) (ds : List PyData) : Prop :=
  ∀ (pos : Pos) (pins : List (Addr × Obj)) (s : Shared) (H : Hp), Same H0 H → Inv X pins σ H s → wpAny (model X.prog X.w) X.A (spliced (backTo pos (starEach es X.env))) (AP X pins σ fun vs H' => Same H H' ∧ Reps X.K H' ds vs) X.xe s
section
variable {X : Cx} {e : Expr} {es : List Expr} {σ : St} {H0 : Hp} {d : PyData} {ds : List PyData} {pos : Pos}
theorem EP.mono {pins : List (Addr × Obj)} {Q Q' : VK} {u : Value} {s : Shared} (h : EP X pins σ Q u s) (hq : ∀ v H, Q v H → Q' v H) : EP X pins σ Q' u s := let ⟨v, H, I, r, q⟩ := h; ⟨v, H, I, r, hq v H q⟩
theorem pe_dat : PE X e (fun σ H Q => ∃ d, DEv X e σ H d ∧ ∀ v H', Same H H' → Rep X.K H' d v → Q v H') := by
  intro pins s σ H Q I h
  obtain ⟨d, hd, q⟩ := h
  exact thn (hd pins s H (Same.refl H) I) fun u s1 z => z.mono fun v H' ⟨a, b⟩ => q v H' a b
theorem pe_lstD : PE X (.List es pos) (fun σ H Q => ∃ ds, DEvs X es σ H ds ∧ ds.length ≤ 1000 ∧ ∀ r H' vs, H r = none → Same H H' → H' r = some (.lst vs) → Reps X.K H' ds vs → Q (.ref r) H') := by
  intro pins s σ H Q I h
  obtain ⟨ds, hd, hz, q⟩ := h
  refine wpAny_List_spliced (thn (hd pos pins s H (Same.refl H) I) fun us s1 ⟨xs, H1, I1, r, sm, rp⟩ => ?_)
  have hl := rp.length
  have hx : xs.length ≤ sizeLine := by rw [hl]; exact Nat.le_of_lt (small1000 hz)
  refine ⟨by rw [← r.length]; exact hx, ?_⟩
  have hf : H1 s1.heap.objs.size = none := I1.hok.fresh (Nat.le_refl _)
  refine ⟨.ref s1.heap.objs.size, upd H1 s1.heap.objs.size (.lst xs), I1.laid (t' := s1.toks) (fun b u e => Heap.get?_push_of_some _ e) (Nat.le_refl _) ?_, rfl, ?_⟩
  · exact ⟨hx, us, 0, r, Heap.get?_push_size _ rfl⟩
  · have s2 := same_upd hf (.lst xs)
    exact q _ _ xs (sm.free hf) (sm.trans s2) upd_same (Reps.mono (TupLe.of_same s2) _ _ rp)
theorem de_str {x : Str} {j : Nat} : DEv X (.Constant (.str x) j pos) σ H0 (.str x) := fun pins s H _ I => pe_str pins s σ H _ I ⟨Same.refl H, .str x⟩
theorem de_int {i : Int} {j : Nat} : DEv X (.Constant (.int i) j pos) σ H0 (.int i) := fun pins s H _ I => pe_int pins s σ H _ I ⟨Same.refl H, .int i⟩
theorem de_var (i : Nat) {x : Str} {v : V} (hv : σ[i]? = some (some v)) (hr : Rep X.K H0 d v) (hN : X.N[i]? = some x := by rfl) (hx : Vis X.env.scope x := by first | exact Or.inl rfl | exact Or.inr (Or.inl rfl) | exact Or.inr (Or.inr rfl))
    (hd : (x == ("__debug__" : Str)) = false := by decide) (hcd : (x == ("__classdict__" : Str)) = false := by decide) : DEv X (.Name x pos) σ H0 d := fun pins s H sm I =>
  pe_var hN hx hd hcd pins s σ H _ I ⟨v, hv, Same.refl H, Rep.mono (TupLe.of_same sm) _ _ hr⟩
theorem de_pe {t : TE} (h : PE X e t) (q : ∀ H, Same H0 H → t σ H fun v H' => Same H H' ∧ Rep X.K H' d v) : DEv X e σ H0 d := fun pins s H sm I => h pins s σ H _ I (q H sm)
theorem de_nil : DEvs X [] σ H0 [] := fun pos pins s H sm I => pa_nil pos pins s σ H _ I ⟨Same.refl H, .nil⟩
theorem de_cons (h : DEv X e σ H0 d) (t : DEvs X es σ H0 ds) (hs : starEach (e :: es) X.env = (false, eval e X.env) :: starEach es X.env := by rfl) : DEvs X (e :: es) σ H0 (d :: ds) := by
  intro pos pins s H sm I
  rw [hs]
  show wpAny _ _ (spliced ((false, eval e X.env) :: backTo pos (starEach es X.env))) _ _ s
  refine Calls.spliced_cons (thn (h pins s H sm I) fun u s1 ⟨x, H1, I1, r1, sm1, q1⟩ => ?_)
  exact thn (t pos pins s1 H1 (sm.trans sm1) I1) fun us s2 ⟨xs, H2, I2, r2, sm2, q2⟩ => ⟨x :: xs, H2, I2, .cons r1 r2, sm1.trans sm2, .cons (Rep.mono (TupLe.of_same sm2) _ _ q1) q2⟩
theorem de_tup {k : Nat} (h : DEvs X es σ H0 ds) (hz : ds.length ≤ sizeLine := by first | decide | exact Nat.le_of_ble_eq_true rfl) : DEv X (.Tuple es k pos) σ H0 (.tuple ds) := by
  intro pins s H sm I
  refine wpAny_Tuple_spliced (thn (h pos pins s H sm I) fun us s1 ⟨xs, H1, I1, r, sm1, rp⟩ => ?_)
  have hx : xs.length ≤ sizeLine := by rw [rp.length]; exact hz
  refine ⟨by rw [← r.length]; exact hx, ?_⟩
  have hf : H1 s1.heap.objs.size = none := I1.hok.fresh (Nat.le_refl _)
  have s2 := same_upd hf (.tup xs)
  refine ⟨.ref s1.heap.objs.size, upd H1 s1.heap.objs.size (.tup xs), I1.laid (t' := s1.toks) (fun b u e => Heap.get?_push_of_some _ e) (Nat.le_refl _) ?_, rfl, sm1.trans s2, .tuple (SqT.of upd_same) (Reps.mono (TupLe.of_same s2) _ _ rp)⟩
  exact ⟨hx, us, r, ⟨_, Heap.get?_push_size _ rfl, rfl, _, rfl⟩⟩
theorem de_ix {b : Expr} {i : Int} (h : DEv X e σ H0 (.tuple ds)) (hb : DEv X b σ H0 (.int i)) (hi : atI ds i = some d) (hs : PlainIx b) : DEv X (.Subscript e b pos) σ H0 d := by
  intro pins s H sm I
  refine Subscript_ (thn (h pins s H sm I) fun v s1 ⟨x, H1, I1, r1, sm1, q1⟩ => thn (hb pins s1 H1 (sm.trans sm1) I1) fun u s2 ⟨y, H2, I2, r2, sm2, q2⟩ => ?_)
  obtain ⟨a, vs, e1, hq, rp⟩ := (Rep.mono (TupLe.of_same sm2) _ _ q1).untuple
  subst e1
  obtain rfl := q2.is_int
  obtain ⟨j, h1, h2, h3, h4, h5⟩ := atI_get hi
  obtain ⟨z, hz, rz⟩ := rp.get h2
  have hl := rp.length
  have ha : atI vs i = some z := by
    unfold atI
    have hi' := hi
    unfold atI at hi'
    rw [hl]
    cases q : ixN ds.length i with
    | none => rw [q] at hi'; cases hi'
    | some k =>
      have hk := (ixN_seq q).1
      rw [h1] at hk
      cases hk
      exact hz
  exact ix_tup e b pins s2 σ H2 (.ref a) (.int i) v u _ I2 r1 r2 ⟨a, vs, i, z, rfl, rfl, hq, ha, sm1.trans sm2, rz⟩ (hs _ _)
theorem de_cat {b : Expr} {es' : List PyData} (h : DEv X e σ H0 (.tuple ds)) (hb : DEv X b σ H0 (.tuple es')) (hz : ds.length + es'.length ≤ sizeLine) : DEv X (.BinOp e .Add b pos) σ H0 (.tuple (ds ++ es')) := by
  intro pins s H sm I
  refine wpAny_BinOp (thn (h pins s H sm I) fun v s1 ⟨x, H1, I1, r1, sm1, q1⟩ => thn (hb pins s1 H1 (sm.trans sm1) I1) fun u s2 ⟨y, H2, I2, r2, sm2, q2⟩ => ?_)
  obtain ⟨a, vs, e1, hq, rp⟩ := (Rep.mono (TupLe.of_same sm2) _ _ q1).untuple
  obtain ⟨c, ws, e2, hq2, rp2⟩ := q2.untuple
  subst e1 e2
  refine op_catT' pins s2 σ H2 _ _ v u _ I2 r1 r2 (cat_reps hq hq2 (by rw [rp.length, rp2.length]; exact hz) fun p H3 sm3 hq3 => ?_)
  exact ⟨sm1.trans (sm2.trans sm3), .tuple hq3 ((Reps.mono (TupLe.of_same sm3) _ _ rp).append (Reps.mono (TupLe.of_same sm3) _ _ rp2))⟩
end
theorem atI_of {α : Type} {xs : List α} {i : Int} (h0 : 0 ≤ i) (h1 : i < xs.length) : ∃ v, atI xs i = some v ∧ xs[i.toNat]? = some v := by
  have hk : i.toNat < xs.length := by omega
  refine ⟨xs[i.toNat], ?_, List.getElem?_eq_getElem hk⟩
  have q := atI_nat (List.getElem?_eq_getElem hk)
  rwa [Int.toNat_of_nonneg h0] at q
theorem Reps.snoc {K : PySem.W.Frag} {H : Hp} {ds : List PyData} {d : PyData} {vs : List V} (h : Reps K H (ds ++ [d]) vs) : ∃ ws v, vs = ws ++ [v] ∧ Reps K H ds ws ∧ Rep K H d v := by
  induction ds generalizing vs with
  | nil =>
    obtain ⟨v, r, e1, e2, e3⟩ := h.split
    rw [Reps] at e3
    exact ⟨[], v, by rw [e1, e3]; rfl, .nil, e2⟩
  | cons x ds ih =>
    obtain ⟨v, r, e1, e2, e3⟩ := h.split
    obtain ⟨ws, z, e4, e5, e6⟩ := ih e3
    exact ⟨v :: ws, z, by rw [e1, e4]; rfl, .cons e2 e5, e6⟩
end L2
set_option linter.all false
namespace Wk
inductive Rose (α : Type) where
  | node (a : α) (own : List (Rose α))
variable {α : Type}
def Rose.lab : Rose α → α | .node a _ => a
def Rose.own : Rose α → List (Rose α) | .node _ o => o
mutual
def Rose.size : Rose α → Nat
  | .node _ o => sizes o + 1
def sizes : List (Rose α) → Nat
  | [] => 0
  | t :: r => t.size + sizes r
end
theorem Rose.size_pos (t : Rose α) : 0 < t.size := by
  cases t with | node a o => simp [Rose.size]
theorem sizes_append (xs ys : List (Rose α)) : sizes (xs ++ ys) = sizes xs + sizes ys := by
  induction xs with
  | nil => simp [sizes]
  | cons x r ih => simp [sizes, ih, Nat.add_assoc]
theorem size_own (t : Rose α) : t.size = sizes t.own + 1 := by cases t; rfl
theorem length_le_sizes (xs : List (Rose α)) : xs.length ≤ sizes xs := by
  induction xs with
  | nil => simp [sizes]
  | cons x r ih => have := x.size_pos; simp only [List.length_cons, sizes]; omega
def Rose.at? : Rose α → List Nat → Option (Rose α)
  | t, [] => some t
  | t, k :: p => match t.own[k]? with
    | some u => u.at? p
    | none => none
termination_by t p => p.length
theorem at?_nil (t : Rose α) : t.at? [] = some t := by unfold Rose.at?; rfl
theorem at?_cons (t : Rose α) (k : Nat) (p : List Nat) : t.at? (k :: p) = (t.own[k]?).bind (·.at? p) := by
  rw [Rose.at?]; cases t.own[k]? <;> rfl
theorem at?_append (p q : List Nat) : ∀ t : Rose α, t.at? (p ++ q) = (t.at? p).bind (·.at? q) := by
  induction p with
  | nil => intro t; rw [List.nil_append, at?_nil]; rfl
  | cons k p ih =>
    intro t
    rw [List.cons_append, at?_cons, at?_cons]
    cases t.own[k]? with
    | none => rfl
    | some u => exact ih u
theorem at?_snoc (p : List Nat) (k : Nat) (t : Rose α) : t.at? (p ++ [k]) = (t.at? p).bind (fun u => u.own[k]?) := by
  rw [at?_append]
  cases t.at? p with
  | none => rfl
  | some u =>
    show u.at? [k] = u.own[k]?
    rw [at?_cons]
    cases u.own[k]? with
    | none => rfl
    | some x => show x.at? [] = _; rw [at?_nil]
mutual
def Rose.post : Rose α → List (List Nat × Rose α)
  | .node a o => posts 0 o ++ [([], .node a o)]
def posts : Nat → List (Rose α) → List (List Nat × Rose α)
  | _, [] => []
  | k, t :: r => t.post.map (fun x => (k :: x.1, x.2)) ++ posts (k + 1) r
end
theorem post_own (t : Rose α) : t.post = posts 0 t.own ++ [([], t)] := by cases t; rfl
mutual
def Rose.low : Rose α → List Nat
  | .node _ o => lows o
def lows : List (Rose α) → List Nat
  | [] => []
  | t :: _ => 0 :: t.low
end
theorem low_own (t : Rose α) : t.low = lows t.own := by cases t; rfl
def nextP (e : Rose α) (p : List Nat) : List Nat :=
  let u := p.dropLast
  let k := p.getLastD 0 + 1
  match e.at? u with
  | some t => match t.own[k]? with
    | some x => u ++ [k] ++ x.low
    | none => u
  | none => u
theorem nextP_snoc (e : Rose α) (u : List Nat) (k : Nat) (t : Rose α) (h : e.at? u = some t) :
    nextP e (u ++ [k]) = match t.own[k + 1]? with | some x => u ++ [k + 1] ++ x.low | none => u := by
  unfold nextP
  simp only [List.dropLast_concat, List.getLastD_concat, h]
theorem Rose.ind {P : Rose α → Prop} (h : ∀ a o, (∀ x ∈ o, P x) → P (.node a o)) : ∀ t, P t
  | .node a o => h a o (fun x hx => by
      have : sizeOf x < sizeOf (Rose.node a o) := by
        have := List.sizeOf_lt_of_mem hx
        simp only [Rose.node.sizeOf_spec]
        omega
      exact Rose.ind h x)
termination_by t => sizeOf t
inductive PRun (e : Rose α) : List Nat → List (List Nat) → List Nat → Prop where
  | one (a : List Nat) : PRun e a [a] a
  | cons (a : List Nat) {b : List Nat} {L : List (List Nat)} {c : List Nat} : nextP e a = b → PRun e b L c → PRun e a (a :: L) c
theorem PRun.append {e : Rose α} {a b c d : List Nat} {L M : List (List Nat)} (h : PRun e a L b) (hn : nextP e b = c) (h2 : PRun e c M d) : PRun e a (L ++ M) d := by
  induction h with
  | one a => exact .cons a hn h2
  | cons a e1 _ ih => exact .cons a e1 (ih hn)
theorem PRun.head {e : Rose α} {a b : List Nat} {L : List (List Nat)} (h : PRun e a L b) : L[0]? = some a := by cases h <;> rfl
theorem PRun.next {e : Rose α} {a b : List Nat} {L : List (List Nat)} (h : PRun e a L b) : ∀ (k : Nat) (x y : List Nat), L[k]? = some x → L[k + 1]? = some y → nextP e x = y := by
  induction h with
  | one a => intro k x y h1 h2; simp at h2
  | cons a e1 h2 ih =>
    intro k x y h3 h4
    cases k with
    | zero =>
      rw [List.getElem?_cons_succ, h2.head] at h4
      simp at h3 h4
      rw [← h3, ← h4]
      exact e1
    | succ k =>
      rw [List.getElem?_cons_succ] at h3 h4
      exact ih k x y h3 h4
theorem lows_cons (t : Rose α) (r : List (Rose α)) : lows (t :: r) = 0 :: t.low := rfl
theorem run_posts {e : Rose α} {u : List Nat} {t : Rose α} (hu : e.at? u = some t) (ih : ∀ x ∈ t.own, ∀ v, e.at? v = some x → PRun e (v ++ x.low) (x.post.map fun y => v ++ y.1) v) :
    ∀ (r : List (Rose α)) (k : Nat) (x : Rose α), t.own.drop k = x :: r → ∃ b, nextP e b = u ∧ PRun e (u ++ [k] ++ x.low) ((posts k (x :: r)).map fun y => u ++ y.1) b := by
  intro r
  induction r with
  | nil =>
    intro k x hd
    have hk : t.own[k]? = some x := by rw [← List.head?_drop, hd]; rfl
    have hk1 : t.own[k + 1]? = none := by
      rw [← List.head?_drop, ← List.tail_drop, hd]; rfl
    refine ⟨u ++ [k], ?_, ?_⟩
    · rw [nextP_snoc e u k t hu, hk1]
    · have h1 := ih x (List.mem_of_getElem? hk) (u ++ [k]) (by rw [at?_snoc, hu]; exact hk)
      have e1 : ((posts k [x]).map fun y => u ++ y.1) = (x.post.map fun y => (u ++ [k]) ++ y.1) := by
        simp [posts, List.map_map, Function.comp_def]
      rw [e1]
      exact h1
  | cons y r ihr =>
    intro k x hd
    have hk : t.own[k]? = some x := by rw [← List.head?_drop, hd]; rfl
    have hd1 : t.own.drop (k + 1) = y :: r := by rw [← List.tail_drop, hd]; rfl
    have hk1 : t.own[k + 1]? = some y := by rw [← List.head?_drop, hd1]; rfl
    obtain ⟨b, hb, hrun⟩ := ihr (k + 1) y hd1
    refine ⟨b, hb, ?_⟩
    have h1 := ih x (List.mem_of_getElem? hk) (u ++ [k]) (by rw [at?_snoc, hu]; exact hk)
    have e1 : ((posts k (x :: y :: r)).map fun z => u ++ z.1) = (x.post.map fun z => (u ++ [k]) ++ z.1) ++ ((posts (k + 1) (y :: r)).map fun z => u ++ z.1) := by
      rw [posts, List.map_append, List.map_map]
      congr 1
      simp [Function.comp_def]
    rw [e1]
    refine h1.append ?_ hrun
    rw [nextP_snoc e u k t hu, hk1]
theorem run_post (e : Rose α) : ∀ (t : Rose α) (u : List Nat), e.at? u = some t → PRun e (u ++ t.low) (t.post.map fun x => u ++ x.1) u := by
  intro t
  induction t using Rose.ind with
  | h a o ih =>
    intro u hu
    cases o with
    | nil =>
      have : ((Rose.node a []).post.map fun x => u ++ x.1) = [u] := by simp [Rose.post, posts]
      rw [this, low_own]
      show PRun e (u ++ lows []) [u] u
      simp only [lows, List.append_nil]
      exact .one u
    | cons x r =>
      obtain ⟨b, hb, hr⟩ := run_posts hu (fun y hy v hv => ih y hy v hv) r 0 x rfl
      rw [post_own, List.map_append, low_own]
      show PRun e (u ++ lows (x :: r)) _ u
      have e1 : u ++ lows (x :: r) = u ++ [0] ++ x.low := by rw [lows_cons]; simp
      rw [e1]
      refine hr.append hb ?_
      show PRun e u [u ++ []] u
      rw [List.append_nil]
      exact .one u
theorem posts_ne (r : List (Rose α)) : ∀ k, ∀ x ∈ posts k r, x.1 ≠ [] := by
  induction r with
  | nil => intro k x hx; cases hx
  | cons t r ih =>
    intro k x hx
    rw [posts] at hx
    rcases List.mem_append.mp hx with h | h
    · obtain ⟨y, _, rfl⟩ := List.mem_map.mp h
      simp
    · exact ih (k + 1) x h
def Rose.places (t : Rose α) : List (List Nat) := t.post.map Prod.fst
theorem places_eq (t : Rose α) : t.places = (posts 0 t.own).map Prod.fst ++ [[]] := by unfold Rose.places; rw [post_own, List.map_append]; rfl
theorem places_run (t : Rose α) : PRun t t.low t.places [] := by
  have h := run_post t t [] (at?_nil t)
  simpa [Rose.places] using h
theorem places_head (t : Rose α) : t.places[0]? = some t.low := (places_run t).head
theorem places_next (t : Rose α) {k : Nat} {x y : List Nat} (h1 : t.places[k]? = some x) (h2 : t.places[k + 1]? = some y) : nextP t x = y := (places_run t).next k x y h1 h2
theorem places_nil (t : Rose α) {k : Nat} (h : t.places[k]? = some []) : k + 1 = t.places.length := by
  rw [places_eq] at h ⊢
  by_cases hk : k < ((posts 0 t.own).map Prod.fst).length
  · rw [List.getElem?_append_left hk] at h
    have := List.mem_of_getElem? h
    obtain ⟨x, hx, e⟩ := List.mem_map.mp this
    exact absurd e (posts_ne t.own 0 x hx)
  · have : k < ((posts 0 t.own).map Prod.fst ++ [[]]).length := (List.getElem?_eq_some_iff.mp h).1
    rw [List.length_append] at this ⊢
    simp only [List.length_cons, List.length_nil] at this ⊢
    omega
theorem post_at (t : Rose α) : ∀ x ∈ t.post, t.at? x.1 = some x.2 := by
  induction t using Rose.ind with
  | h a o ih =>
    have key : ∀ (r : List (Rose α)) (k : Nat), o.drop k = r → ∀ x ∈ posts k r, (Rose.node a o).at? x.1 = some x.2 := by
      intro r
      induction r with
      | nil => intro k _ x hx; cases hx
      | cons y r ihr =>
        intro k hd x hx
        rw [posts] at hx
        have hk : o[k]? = some y := by rw [← List.head?_drop, hd]; rfl
        rcases List.mem_append.mp hx with h | h
        · obtain ⟨z, hz, rfl⟩ := List.mem_map.mp h
          rw [at?_cons]
          show (o[k]?).bind _ = _
          rw [hk]
          exact ih y (List.mem_of_getElem? hk) z hz
        · exact ihr (k + 1) (by rw [← List.tail_drop, hd]; rfl) x h
    intro x hx
    rw [post_own] at hx
    rcases List.mem_append.mp hx with h | h
    · exact key o 0 rfl x h
    · have e : x = ([], Rose.node a o) := by simpa using h
      rw [e]
      exact at?_nil _
theorem post_length (t : Rose α) : t.post.length = t.size := by
  induction t using Rose.ind with
  | h a o ih =>
    have key : ∀ (r : List (Rose α)) (k : Nat), (∀ x ∈ r, x ∈ o) → (posts k r).length = sizes r := by
      intro r
      induction r with
      | nil => intro k _; rfl
      | cons y r ihr =>
        intro k hs
        rw [posts, List.length_append, List.length_map, ih y (hs y List.mem_cons_self), ihr (k + 1) (fun x hx => hs x (List.mem_cons_of_mem _ hx)), sizes]
    rw [post_own, List.length_append, size_own]
    show (posts 0 o).length + 1 = sizes o + 1
    rw [key o 0 fun x hx => hx]
end Wk
set_option Elab.async false
set_option linter.all false
set_option maxRecDepth 100000
set_option maxHeartbeats 4000000
namespace Wk
open PySem L2
abbrev Ex := Rose (Str × List PyData)
mutual
def py : Ex → PyData
  | .node a o => .tuple [.str a.1, .tuple a.2, .tuple (pys o)]
def pys : List Ex → List PyData
  | [] => []
  | t :: r => py t :: pys r
end
theorem pys_map (l : List Ex) : pys l = l.map py := by
  induction l with
  | nil => rfl
  | cons t r ih => rw [pys, ih]; rfl
theorem py_eq (t : Ex) : py t = .tuple [.str t.lab.1, .tuple t.lab.2, .tuple (t.own.map py)] := by
  cases t with | node a o => rw [py, pys_map]; rfl
def plD (p : List Nat) : PyData := .tuple (p.map fun (k : Nat) => .int (k : Int))
section
variable {K : PySem.W.Frag} {H H' : Hp}
theorem ex_open {t : Ex} {v : V} (h : Rep K H (py t) v) : ∃ a b c ms os, v = .ref a ∧ SqT K H a [.str t.lab.1, .ref b, .ref c] ∧ SqT K H b ms ∧ Reps K H t.lab.2 ms ∧ SqT K H c os ∧ Reps K H (t.own.map py) os := by
  rw [py_eq] at h
  obtain ⟨a, vs, rfl, hq, rp⟩ := h.untuple
  obtain ⟨v1, r1, rfl, e1, rp⟩ := rp.split
  obtain ⟨v2, r2, rfl, e2, rp⟩ := rp.split
  obtain ⟨v3, r3, rfl, e3, rp⟩ := rp.split
  rw [Reps] at rp
  subst rp
  obtain rfl := e1.is_str
  obtain ⟨b, ms, rfl, hb, rb⟩ := e2.untuple
  obtain ⟨c, os, rfl, hc, rc⟩ := e3.untuple
  exact ⟨a, b, c, ms, os, rfl, hq, hb, rb, hc, rc⟩
theorem pl_open {p : List Nat} {v : V} (h : Rep K H (plD p) v) : ∃ a, v = .ref a ∧ SqT K H a (p.map fun (k : Nat) => V.int (k : Int)) := by
  obtain ⟨a, vs, rfl, hq, rp⟩ := Rep.untuple h
  have e : vs = p.map fun (k : Nat) => V.int (k : Int) := by
    clear hq h
    induction p generalizing vs with
    | nil => rw [List.map_nil, Reps] at rp; exact rp
    | cons k p ih =>
      rw [List.map_cons] at rp
      obtain ⟨v, r, rfl, e1, e2⟩ := rp.split
      rw [List.map_cons, ← ih r e2, e1.is_int]
  subst e
  exact ⟨a, rfl, hq⟩
theorem pl_reps (p : List Nat) : Reps K H (p.map fun (k : Nat) => PyData.int (k : Int)) (p.map fun (k : Nat) => V.int (k : Int)) := by
  induction p with
  | nil => exact .nil
  | cons k p ih => exact .cons (.int _) ih
theorem pl_mk {p : List Nat} {a : Addr} (h : SqT K H a (p.map fun (k : Nat) => V.int (k : Int))) : Rep K H (plD p) (.ref a) := .tuple h (pl_reps p)
end
def shift (p : List Nat) (x : List Nat × Ex) : List Nat × Ex := (p ++ x.1, x.2)
def revP (x : List Nat × Ex) : List (List Nat × Ex) := (x.2.post.map (shift x.1)).reverse
def kids (p : List Nat) : Nat → List Ex → List (List Nat × Ex)
  | _, [] => []
  | k, t :: r => (p ++ [k], t) :: kids p (k + 1) r
theorem kids_rev (p : List Nat) : ∀ (r : List Ex) (k : Nat), ((posts k r).map (shift p)).reverse = (kids p k r).reverse.flatMap revP
  | [], _ => rfl
  | t :: r, k => by
    rw [posts, kids, List.map_append, List.reverse_append, kids_rev p r (k + 1), List.reverse_cons, List.flatMap_append]
    congr 1
    simp [revP, shift, Function.comp_def, List.flatMap_cons, List.map_map]
theorem revP_eq (p : List Nat) (t : Ex) : revP (p, t) = (p, t) :: (kids p 0 t.own).reverse.flatMap revP := by
  rw [← kids_rev, revP]
  show (t.post.map (shift p)).reverse = _
  rw [post_own, List.map_append, List.reverse_append]
  simp [shift]
theorem kids_snoc (p : List Nat) (t : Ex) : ∀ (r : List Ex) (k : Nat), kids p k (r ++ [t]) = kids p k r ++ [(p ++ [k + r.length], t)]
  | [], k => by simp [kids]
  | x :: r, k => by
    rw [List.cons_append, kids, kids, kids_snoc p t r (k + 1)]
    simp
    omega
def total (st : List (List Nat × Ex)) : Nat := (st.map fun x => x.2.size).sum
theorem total_cons (x : List Nat × Ex) (st : List (List Nat × Ex)) : total (x :: st) = x.2.size + total st := by simp [total]
theorem total_append (a b : List (List Nat × Ex)) : total (a ++ b) = total a + total b := by simp [total, List.map_append, List.sum_append]
theorem total_reverse (a : List (List Nat × Ex)) : total a.reverse = total a := by
  induction a with
  | nil => rfl
  | cons x r ih => rw [List.reverse_cons, total_append, ih, total_cons, total_cons]; simp [total]; omega
theorem total_kids (p : List Nat) : ∀ (r : List Ex) (k : Nat), total (kids p k r) = sizes r
  | [], _ => rfl
  | t :: r, k => by rw [kids, total_cons, total_kids p r (k + 1), sizes]
theorem length_le_total (st : List (List Nat × Ex)) : st.length ≤ total st := by
  induction st with
  | nil => exact Nat.zero_le _
  | cons x r ih => rw [total_cons, List.length_cons]; have := x.2.size_pos; omega
end Wk
set_option Elab.async false
set_option linter.all false
set_option maxRecDepth 100000
set_option maxHeartbeats 4000000
namespace L2
open PySem PySem.Spec PyProof.Rows
def DefOk (P : Program) (w : World) (K : PySem.W.Frag) (mg : Str → Option Value) (base : Heap) (k : Nat) (x : Str) (ps : List Str) (sp : Sp) : Prop :=
  ∃ (f : Addr) (fd : FuncData), FnOk P w K mg base CX0 k f fd ps sp ∧ Binds K fd ps [] ∧ PySem.W.keepIn K (.ref f) = true ∧ mg x = some (.ref f)
section
variable {X : Cx} {k : Nat} {x : Str} {ps : List Str} {sp : Sp} {e : Expr} {es : List Expr} {t : TA} {p pos : Pos}
theorem pe_callD (D : DefOk X.prog X.w X.K X.mg X.base k x ps sp) (hr : Room k X.A) (hg : Gl X x) (ha : PA X (e :: es) t) (hdb : (x == ("__debug__" : Str)) = false := by decide)
    (he : starEach (e :: es) X.env = (false, eval e X.env) :: starEach es X.env := by rfl) (hpl : (backTo pos (starEach es X.env)).any (·.1) = false := by rfl) : PE X (.Call (.Name x p) (e :: es) [] pos) (tCall sp [] E0 t) := by
  obtain ⟨f, fd, G, b, kp, m⟩ := D
  exact pe_call G hr hg m kp b .nil pass0 ha hdb he hpl
theorem pe_callD0 (D : DefOk X.prog X.w X.K X.mg X.base k x ps sp) (hr : Room k X.A) (hg : Gl X x) (hdb : (x == ("__debug__" : Str)) = false := by decide) : PE X (.Call (.Name x p) [] [] pos) (tCall sp [] E0 tNil) := by
  obtain ⟨f, fd, G, b, kp, m⟩ := D
  exact pe_call0 G hr hg m kp b .nil pass0 hdb
def tHash (m n : Int) (te : TE) : TE := fun σ H Q => te σ H fun v H1 => ∃ c : Int, v = .int c ∧ Q (.int (c * 48271 % m % n)) H1
theorem pe_hash {te : TE} {m n : Int} {j1 j2 j3 : Nat} {p1 p2 p3 p4 p5 p6 : Pos} (he : PE X e te) (hm : 0 < m := by decide) (hn : 0 < n := by decide) :
    PE X (.BinOp (.BinOp (.BinOp e .Mult (.Constant (.int 48271) j1 p1) p2) .Mod (.Constant (.int m) j2 p3) p4) .Mod (.Constant (.int n) j3 p5) p6) (tHash m n te) := by
  intro pins s σ H Q I h
  refine wpAny_BinOp (wpAny_BinOp (wpAny_BinOp (thn (he pins s σ H _ I h) fun v s1 ⟨y, H1, I1, r1, c, ey, q⟩ => ?_)))
  subst ey
  refine thn (pe_int pins s1 σ H1 (fun v H' => v = .int 48271 ∧ H' = H1) I1 ⟨rfl, rfl⟩) fun u s2 ⟨y2, H2, I2, r2, e1, e2⟩ => ?_
  subst e1 e2
  refine thn (op_mul pins s2 σ H2 _ _ v u (fun v H' => v = .int (c * 48271) ∧ H' = H2) I2 r1 r2 ⟨c, 48271, rfl, rfl, .inr ⟨by decide, by decide⟩, rfl, rfl⟩) fun v3 s3 ⟨y3, H3, I3, r3, e1, e2⟩ => ?_
  subst e1 e2
  refine thn (pe_int pins s3 σ H3 (fun v H' => v = .int m ∧ H' = H3) I3 ⟨rfl, rfl⟩) fun u4 s4 ⟨y4, H4, I4, r4, e1, e2⟩ => ?_
  subst e1 e2
  refine thn (op_mod pins s4 σ H4 _ _ v3 u4 (fun v H' => v = .int (c * 48271 % m) ∧ H' = H4) I4 r3 r4 ⟨_, _, rfl, rfl, hm, rfl, rfl⟩) fun v5 s5 ⟨y5, H5, I5, r5, e1, e2⟩ => ?_
  subst e1 e2
  refine thn (pe_int pins s5 σ H5 (fun v H' => v = .int n ∧ H' = H5) I5 ⟨rfl, rfl⟩) fun u6 s6 ⟨y6, H6, I6, r6, e1, e2⟩ => ?_
  subst e1 e2
  exact op_mod pins s6 σ H6 _ _ v5 u6 Q I6 r5 r6 ⟨_, _, rfl, rfl, hn, q⟩
theorem hash_lo (c m n : Int) (hn : 0 < n := by decide) : 0 ≤ c * 48271 % m % n := Int.emod_nonneg _ (by omega)
theorem hash_hi (c m n : Int) (hn : 0 < n := by decide) : c * 48271 % m % n < n := Int.emod_lt_of_pos _ hn
end
end L2
set_option Elab.async false
set_option linter.all false
set_option maxRecDepth 100000
set_option maxHeartbeats 4000000
namespace Wk
open PySem L2
inductive Kd where
  | num | truth | list (k : Kd) | to (k m : Kd)
  deriving DecidableEq
def kdD : Kd → PyData
  | .num => .tuple [.str "num"]
  | .truth => .tuple [.str "truth"]
  | .list k => .tuple [.str "list", kdD k]
  | .to k m => .tuple [.str "to", kdD k, kdD m]
def kinds7 : List Kd := [.num, .list .num, .to .num .num, .truth, .list (.list .num), .list (.to .num .num), .to .num (.to .num .num)]
def nm0 : Str := "x"
def nmX : Str := Txt.mul "x" 30
def nmA : Str := nmX ++ ("a" : Str)
def nmB : Str := nmX ++ ("b" : Str)
def names4 : List Str := [nm0, nmA, nmB, nmX]
abbrev nd (w : Str) (ms : List PyData) (o : List Ex) : Ex := .node (w, ms) o
inductive Wf : Ex → Prop where
  | num (i : Int) : Wf (nd "num" [.int i] [])
  | truth (b : Bool) : Wf (nd "truth" [.bool b] [])
  | name (x : Str) (hx : x ∈ names4) : Wf (nd "name" [.str x] [])
  | nil (k : Kd) (hk : k ∈ kinds7) : Wf (nd "nil" [kdD k] [])
  | add {a b : Ex} : Wf a → Wf b → Wf (nd "add" [] [a, b])
  | less {a b : Ex} : Wf a → Wf b → Wf (nd "less" [] [a, b])
  | front {a b : Ex} : Wf a → Wf b → Wf (nd "front" [] [a, b])
  | call {a b : Ex} : Wf a → Wf b → Wf (nd "call" [] [a, b])
  | ifx {c a b : Ex} : Wf c → Wf a → Wf b → Wf (nd "if" [] [c, a, b])
  | case (k : Kd) (h t : Str) {l a b : Ex} (hk : k ∈ kinds7) (hh : h ∈ names4) (ht : t ∈ names4) : Wf l → Wf a → Wf b → Wf (nd "case" [kdD k, .str h, .str t] [l, a, b])
  | fn (x : Str) (k : Kd) {b : Ex} (hx : x ∈ names4) (hk : k ∈ kinds7) : Wf b → Wf (nd "fun" [.str x, kdD k] [b])
section
variable (K : PySem.W.Frag)
def spWhole : Sp := fun vs H Q _ => ∃ i : Int, vs = [.int i] ∧ Q (.bl true) H
def spKinds : Sp := fun vs H Q _ => vs = [] ∧ ∀ r H' ks, Same H H' → H r = none → H' r = some (.lst ks) → Reps K H' (kinds7.map kdD) ks → Q (.ref r) H'
def spLeaf : Sp := fun vs H Q _ => ∃ c : Int, vs = [.int c] ∧ ∀ v H' e, Same H H' → Wf e → e.size = 1 → Rep K H' (py e) v → Q v H'
structure Pile (H : Hp) (p : Addr) (es : List Ex) : Prop where
  at_ : ∃ vs, H p = some (.lst vs) ∧ Reps K H (es.map py) vs
  wf : ∀ e ∈ es, Wf e
def spThere : Sp := fun vs H Q _ => ∃ (v u : V) (e t : Ex) (p : List Nat), vs = [v, u] ∧ Rep K H (py e) v ∧ Rep K H (plD p) u ∧ e.at? p = some t ∧ ∀ w, Rep K H (py t) w → Q w H
def spLow : Sp := fun vs H Q _ => ∃ (v u : V) (e t : Ex) (p : List Nat), vs = [v, u] ∧ Rep K H (py e) v ∧ Rep K H (plD p) u ∧ e.at? p = some t ∧ p.length + e.size ≤ 100000 ∧
  ∀ w H', Same H H' → Rep K H' (plD (p ++ t.low)) w → Q w H'
def spNext : Sp := fun vs H Q _ => ∃ (v u : V) (e t : Ex) (p : List Nat), vs = [v, u] ∧ Rep K H (py e) v ∧ Rep K H (plD p) u ∧ e.at? p = some t ∧ p ≠ [] ∧ p.length + e.size ≤ 100000 ∧
  ∀ w H', Same H H' → Rep K H' (plD (nextP e p)) w → Q w H'
def spIsPlace : Sp := fun vs H Q _ => ∃ (u : V) (p : List Nat), vs = [u] ∧ Rep K H (plD p) u ∧ Q (.bl true) H
end
structure Plain (mg : Str → Option Value) : Prop where
  len : mg "len" = none
  list : mg "list" = none
  tuple : mg "tuple" = none
  int : mg "int" = none
  bool : mg "bool" = none
  range : mg "range" = none
  enumerate : mg "enumerate" = none
  reversed : mg "reversed" = none
  isinstance : mg "isinstance" = none
theorem kit_int_bool (K : PySem.W.Frag) : PySem.W.kitOne K (.type "int") (.type "bool") = some false := by first | rfl | kernel_rfl
theorem size_mem {u : Ex} : ∀ {l : List Ex}, u ∈ l → u.size ≤ sizes l
  | [], h => nomatch h
  | x :: r, h => by
    rcases List.mem_cons.mp h with rfl | h
    · rw [sizes]; omega
    · have := size_mem h; rw [sizes]; omega
theorem at?_size {e t : Ex} : ∀ {p : List Nat}, e.at? p = some t → t.size + p.length ≤ e.size := by
  intro p
  induction p generalizing e with
  | nil => intro h; rw [at?_nil] at h; cases h; simp
  | cons k p ih =>
    intro h
    rw [at?_cons] at h
    cases q : e.own[k]? with
    | none => rw [q] at h; cases h
    | some u =>
      rw [q] at h
      have h1 := ih (e := u) h
      have h2 : u.size ≤ sizes e.own := by
        have hm := List.mem_of_getElem? q
        exact size_mem hm
      rw [size_own e, List.length_cons]
      omega
end Wk
namespace Wk
open PySem L2
section
variable {X : Cx} {σ : St} {H0 : Hp}
theorem de_xs {j1 j2 : Nat} {p1 p2 p3 : Pos} : DEv X (.BinOp (.Constant (.str "x") j1 p1) .Mult (.Constant (.int 30) j2 p2) p3) σ H0 (.str nmX) :=
  de_pe (pe_op op_mulS pe_str pe_int) fun H _ => ⟨_, _, rfl, rfl, by decide, by decide, by decide, by decide, Same.refl H, .str _⟩
theorem de_xsc {c : Str} {j1 j2 j3 : Nat} {p1 p2 p3 p4 p5 : Pos} (hc : nmX.length + c.length ≤ sizeLine) : DEv X (.BinOp (.BinOp (.Constant (.str "x") j1 p1) .Mult (.Constant (.int 30) j2 p2) p3) .Add (.Constant (.str c) j3 p4) p5) σ H0 (.str (nmX ++ c)) :=
  de_pe (pe_op op_add_str (pe_op op_mulS pe_str pe_int) pe_str) fun H _ => ⟨_, _, rfl, rfl, by decide, by decide, by decide, by decide, _, _, rfl, rfl, hc, Same.refl H, .str _⟩
theorem de_names {a1 a2 a3 a4 a5 a6 a7 a8 a9 : Nat} {p1 p2 p3 p4 p5 p6 p7 p8 p9 q1 q2 q3 q4 q5 : Pos} :
    DEvs X [.Constant (.str "x") a1 p1, .BinOp (.BinOp (.Constant (.str "x") a2 p2) .Mult (.Constant (.int 30) a3 p3) q1) .Add (.Constant (.str "a") a4 p4) q2, .BinOp (.BinOp (.Constant (.str "x") a5 p5) .Mult (.Constant (.int 30) a6 p6) q3) .Add (.Constant (.str "b") a7 p7) q4,
      .BinOp (.Constant (.str "x") a8 p8) .Mult (.Constant (.int 30) a9 p9) q5] σ H0 (names4.map .str) :=
  de_cons de_str (de_cons (de_xsc (by decide)) (de_cons (de_xsc (by decide)) (de_cons de_xs de_nil)))
end
end Wk
namespace Wk
open PySem L2
theorem nil_or_snoc {α : Type} (l : List α) : l = [] ∨ ∃ L b, l = L ++ [b] := by
  cases h : l.reverse with
  | nil => exact .inl (by simpa using h)
  | cons b r => exact .inr ⟨r.reverse, b, by rw [← List.reverse_reverse l, h, List.reverse_cons]⟩
theorem start_inv (e : Ex) : [] ++ [(([] : List Nat), e)].flatMap revP = e.post.reverse := by
  rw [List.nil_append, List.flatMap_singleton]
  show (e.post.map (shift [])).reverse = _
  rw [show e.post.map (shift []) = e.post from (List.map_congr_left fun x _ => rfl).trans (List.map_id _)]
theorem same_but {p : Addr} {H Ha Hb : Hp} (a : Same H Ha) (b : SameBut p Ha Hb) (n : H p = none) : Same H Hb := fun c o h => b c o (ne_of_none h n) (a c o h)
theorem at?_take {e t : Ex} {p : List Nat} (h : e.at? p = some t) {i k : Nat} (hk : p[i]? = some k) : ∃ t' u, e.at? (p.take i) = some t' ∧ t'.own[k]? = some u ∧ e.at? (p.take (i + 1)) = some u := by
  have hi : i < p.length := (List.getElem?_eq_some_iff.mp hk).1
  have e1 : p = p.take (i + 1) ++ p.drop (i + 1) := (List.take_append_drop ..).symm
  have e2 : p.take (i + 1) = p.take i ++ [k] := by rw [List.take_add_one, hk]; rfl
  rw [e1, at?_append] at h
  cases q : e.at? (p.take (i + 1)) with
  | none => rw [q] at h; cases h
  | some u =>
    have q2 := q
    rw [e2, at?_snoc] at q2
    cases q3 : e.at? (p.take i) with
    | none => rw [q3] at q2; cases q2
    | some t' => rw [q3] at q2; exact ⟨t', u, rfl, q2, rfl⟩
theorem own_rep {K : PySem.W.Frag} {H : Hp} {t u : Ex} {os : List V} {k : Nat} (r : Reps K H (t.own.map py) os) (h : t.own[k]? = some u) : ∃ v, os[k]? = some v ∧ Rep K H (py u) v :=
  r.get (by rw [List.getElem?_map, h]; rfl)
theorem cutV_init {xs : List V} (h : xs ≠ []) : cutV xs none (some (-1)) = xs.dropLast := by
  unfold cutV
  have hl : 0 < xs.length := List.length_pos_iff.mpr h
  have e1 : HT.sIx xs.length 0 none = 0 := rfl
  have e2 : HT.sIx xs.length xs.length (some (-1)) = xs.length - 1 := by
    show (if (-1 : Int) < 0 then ((-1 : Int) + (xs.length : Int)).toNat else min (-1 : Int).toNat xs.length) = _
    rw [if_pos (by decide)]; omega
  rw [e1, e2, List.drop_zero, Nat.sub_zero, List.dropLast_eq_take]
theorem cut_not_init {xs : List V} (h : xs ≠ []) : ¬ (HT.sIx xs.length 0 none = 0 ∧ HT.sIx xs.length xs.length (some (-1)) = xs.length) := by
  have hl : 0 < xs.length := List.length_pos_iff.mpr h
  have e2 : HT.sIx xs.length xs.length (some (-1)) = xs.length - 1 := by
    show (if (-1 : Int) < 0 then ((-1 : Int) + (xs.length : Int)).toNat else min (-1 : Int).toNat xs.length) = _
    rw [if_pos (by decide)]; omega
  rw [e2]; omega
theorem cutV_take (xs : List V) (n : Nat) : cutV xs none (some (n : Int)) = xs.take n := by
  unfold cutV
  rw [HT.sIx_none, HT.sIx_nat, List.drop_zero, Nat.sub_zero]
  by_cases h : n ≤ xs.length
  · rw [Nat.min_eq_left h]
  · rw [Nat.min_eq_right (by omega), List.take_of_length_le (Nat.le_refl _), List.take_of_length_le (by omega)]
theorem plD_can (p : List Nat) : (plD p).canLay0 = true := by
  show PyData.canLayAll0 _ = true
  induction p with
  | nil => rfl
  | cons k p ih => rw [List.map_cons, PyData.canLayAll0, PyData.canLay0, ih]; rfl
theorem plD_depth (p : List Nat) : (plD p).depth ≤ 1 := by
  show PyData.depthAll _ + 1 ≤ 1
  have : PyData.depthAll (p.map fun (k : Nat) => PyData.int (k : Int)) = 0 := by
    induction p with
    | nil => rfl
    | cons k p ih => rw [List.map_cons, PyData.depthAll, ih, PyData.depth]; rfl
  rw [this]; exact Nat.le_refl _
theorem eqv_pl (p q : List Nat) : PyData.eqv (plD p) (plD q) = decide (p = q) := by
  show PyData.eqvAll _ _ = _
  induction p generalizing q with
  | nil => cases q with
    | nil => rfl
    | cons k q => rw [List.map_nil, List.map_cons, PyData.eqvAll]; simp
  | cons k p ih => cases q with
    | nil => rw [List.map_nil, List.map_cons, PyData.eqvAll]; simp
    | cons j q =>
      rw [List.map_cons, List.map_cons, PyData.eqvAll, ih, PyData.eqv]
      rw [Bool.eq_iff_iff]
      simp
      intro _
      omega
end Wk
set_option Elab.async false
set_option linter.all false
set_option maxRecDepth 100000
set_option maxHeartbeats 4000000
namespace L2
open PySem PySem.Spec PyProof.Rows
abbrev Cx.within (X : Cx) (A' : Around) : Cx := { X with A := A' }
section
variable {X : Cx} {pins : List (Addr × Obj)} {σ : St} {H : Hp} {s : Shared} {A' : Around}
theorem Inv.within (I : Inv X pins σ H s) (h1 : A'.handled = X.A.handled) (h2 : A'.frames = X.A.frames) : Inv (X.within A') pins σ H s :=
  ⟨⟨I.ok.mod, I.ok.kind, I.ok.glob, I.ok.blt, I.ok.above, I.ok.inj, I.ok.has, I.ok.cab, fun c => h1.trans (I.ok.hd c), h2.trans I.ok.frames, I.ok.stk, I.ok.exf, I.ok.bs, I.ok.bsz, I.ok.noex, I.ok.exfs, I.ok.funs, I.ok.frf⟩,
    I.os, I.bare, I.base, I.loc, I.cell, I.free, I.freeC, I.pin, I.hok, I.len⟩
theorem Inv.outof (I : Inv (X.within A') pins σ H s) (h1 : A'.handled = X.A.handled) (h2 : A'.frames = X.A.frames) : Inv X pins σ H s :=
  ⟨⟨I.ok.mod, I.ok.kind, I.ok.glob, I.ok.blt, I.ok.above, I.ok.inj, I.ok.has, I.ok.cab, fun c => h1.symm.trans (I.ok.hd c), h2.symm.trans I.ok.frames, I.ok.stk, I.ok.exf, I.ok.bs, I.ok.bsz, I.ok.noex, I.ok.exfs, I.ok.funs, I.ok.frf⟩,
    I.os, I.bare, I.base, I.loc, I.cell, I.free, I.freeC, I.pin, I.hok, I.len⟩
end
theorem extend_loop_go {prog : Program} {w : World} {A : Around} {R : Result → Shared → Prop} {S I : Addr} {res : Value} (J : Nat → Shared → Prop)
    (turn : ∀ n s, J n s → wpAny (model prog w) A.in1 (pyNext (.ref I)) (fun r s1 => match r with
      | none => R (.ok (.ret res)) s1
      | some v => wpAny (model prog w) A.in1 (updateSeq S (·.push v)) (fun _ s2 => ∃ m, m < n ∧ J m s2) (fun _ _ => False) s1) (fun _ _ => False) s) :
    ∀ (n : Nat) (s : Shared), J n s → codeAny (model prog w) A (.builtin "list.extend.loop" ⟨[.ref S, .ref I, res], []⟩) R s := by
  intro n
  induction n using Nat.strongRecOn with
  | ind n ih =>
    intro s h
    refine codeAny_builtin F.entry_extend_loop ?_
    rw [Around.under_plainId F.plain_extend_loop _]
    show wpAny _ A.in1 (pyNext (.ref I) >>= _) _ _ s
    refine wpAny_bind (wpAny_mono (turn n s h) (fun r s1 h1 => ?_) fun _ _ z => z.elim)
    cases r with
    | none => exact wpAny_pure h1
    | some v =>
      show wpAny _ A.in1 (updateSeq S (·.push v) >>= _) _ _ _
      exact wpAny_bind (wpAny_mono h1 (fun _ s2 ⟨m, hm, h2⟩ => wpAny_pure ⟨plainId_quiet F.plain_extend_loop _, ih m hm s2 h2⟩) fun _ _ z => z.elim)
abbrev nmT : Expr := .Name Str.empty ⟨0, 0, 0, 0⟩
structure Asked (prog : Program) (w : World) (T : String) : Prop where
  nl : (Value.type T == Value.type "list") = false
  nt : (Value.type T == Value.type "tuple") = false
  hint : ∀ (A : Around) (E : Value → Shared → Prop) (a : Addr) (s : Shared) (Q : Bool → Shared → Prop), s.TypeIs (.ref a) T → (∀ b, Q b s) → wpAny (model prog w) A (Builtin.List.listLengthHint (.ref a)) Q E s
def PIL (X : Cx) (inner : Expr) (wi : TI) : Prop :=
  ∀ (pins : List (Addr × Obj)) (s : Shared) (σ : St) (H : Hp) (R : It → Hp → Prop), Inv X pins σ H s → wi σ H R →
    wpAny (model X.prog X.w) X.A (eval inner X.env) (fun v s1 => ∃ (H1 : Hp) (T : String) (a : Addr), v = .ref a ∧ Inv X pins σ H1 s1 ∧ s1.TypeIs v T ∧ Asked X.prog X.w T ∧
      ∀ (A' : Around) (pm : List (Addr × Obj)) (s2 : Shared) (E : Value → Shared → Prop), A'.handled = X.A.handled → A'.frames = X.A.frames → (∀ b o, s1.heap.get? b = some o → s2.heap.get? b = some o) → (∀ p ∈ pm, s1.heap.objs.size ≤ p.1) →
        Inv (X.within A') (pins ++ pm) σ H1 s2 → wpAny (model X.prog X.w) A' (pyIter v) (fun itv s3 => PIE (X.within A') (pins ++ pm) σ nmT R itv s3 ∧ s3.TypeIs v T) E s2) X.xe s
def ListW (J : It) (H1 : Hp) (Fin : List V → Hp → Prop) : Prop :=
  ∃ W : Nat → Nat → List V → Hp → Prop, (∃ m, W 0 m [] H1) ∧ ∀ i m ys H, W i m ys H →
    (J.stop i H ∧ ys.length ≤ sizeLine ∧ Fin ys H) ∨ (J.go i H ∧ ys.length < sizeLine ∧ ∀ v H', J.yld i H v H' → ∃ m', m' < m ∧ W (i + 1) m' (ys ++ [v]) H')
def tListIt (wi : TI) : TE := fun σ H Q => wi σ H fun J H1 => ListW J H1 fun ys H2 => ∀ q, H2 q = none → Q (.ref q) (upd H2 q (.lst ys))
section
variable {X : Cx} {inner : Expr} {wi : TI} {p pos : Pos}
theorem pe_listIt (hc : X.calm = true) (hgL : Gl X "list") (hmL : X.mg "list" = none) (hi : PIL X inner wi) (hs : starEach [inner] X.env = [(false, eval inner X.env)] := by rfl) :
    PE X (.Call (.Name "list" p) [inner] [] pos) (tListIt wi) := by
  intro pins s σ H Q I h
  refine Call_ (ld_blt I hgL hmL boot_list (PyProof.Rows.callWith_type1 ?_ hs rfl))
  rw [hs]
  show wpAny _ _ (spliced ((false, eval inner X.env) :: [])) _ _ s
  refine Calls.spliced_cons (thn (hi pins s σ H _ I h) fun v s1 ⟨H1, T, a, ev, I1, ty, ask, walk⟩ => Calls.spliced_nil ?_)
  subst ev
  have hal : a < s1.heap.objs.size := let ⟨o, e, _⟩ := ty; Heap.lt_size e
  refine callType_codes (Q₁ := fun obj s' => obj = .ref s1.heap.objs.size ∧ s' = { s1 with heap := s1.heap.push { cls := .type "list", data := .seq #[] } }) F.called_list (F.typeCall_list_1 _) F.entry_list_init (code_list_new _ ⟨rfl, rfl⟩) fun obj s' h' => ?_
  obtain ⟨rfl, rfl⟩ := h'
  have hS : (s1.heap.push { cls := .type "list", data := .seq #[] }).get? s1.heap.objs.size = some { cls := .type "list", data := .seq #[] } := Heap.get?_push_size _ rfl
  refine ⟨⟨_, hS, rfl⟩, F.args_list_init_2 _ _, ?_⟩
  show wpAny _ _ (do let old ← Builtin.List.listItems (.ref s1.heap.objs.size); Builtin.List.listUpdate (.ref s1.heap.objs.size) (fun _ => #[]); letGo old.toList.reverse; Builtin.List.listExtendWith (.ref s1.heap.objs.size) (.ref a) .none) _ _ _
  refine wpAny_bind ?_
  unfold Builtin.List.listItems
  refine wpAny_bind (wpAny_seqItems hS rfl (wpAny_pure ?_))
  show wpAny _ _ (updateSeq s1.heap.objs.size (fun _ => #[]) >>= fun _ => letGo (#[] : Array Value).toList.reverse >>= fun _ => Builtin.List.listExtendWith (.ref s1.heap.objs.size) (.ref a) .none) _ _ _
  refine wpAny_bind (wpAny_updateSeq hS rfl ?_)
  have hS2 := Heap.get?_update_self (Obj.mapSeq (fun _ => (#[] : Array Value))) hS rfl
  generalize hG : (s1.heap.push { cls := .type "list", data := .seq #[] }).update s1.heap.objs.size (Obj.mapSeq (fun _ => (#[] : Array Value))) = G at hS2 ⊢
  obtain ⟨nG, hSG⟩ : ∃ n, G.get? s1.heap.objs.size = some { cls := .type "list", data := .seq ([] : List Value).toArray n } := ⟨_, hS2⟩
  have kp : ∀ b o, s1.heap.get? b = some o → G.get? b = some o := fun b o e => by
    rw [← hG]; exact (Heap.get?_update_other _ _ (Nat.ne_of_gt (Heap.lt_size e))).trans (Heap.get?_push_of_some _ e)
  have IG : Inv X pins σ H1 { s1 with heap := G } := I1.kept (t' := s1.toks) kp
  have hz1 : X.A.in1.in1.handled = X.A.handled := rfl
  have hz2 : X.A.in1.in1.frames = X.A.frames := rfl
  have IW : Inv (X.within X.A.in1.in1) pins σ H1 { s1 with heap := G } := IG.within hz1 hz2
  have fS : ∀ {H' : Hp}, H' s1.heap.objs.size = none → FpOk (X.within X.A.in1.in1) pins H' s1.heap.objs.size := fun {H'} hn => by
    have f := I1.fpOk (H' := H') (Nat.le_refl _) hn
    exact ⟨f.1, f.2.1, f.2.2.1, f.2.2.2.1, f.2.2.2.2.1, f.2.2.2.2.2⟩
  have pinS : ∀ {τ : St} {H' : Hp} {s' : Shared} {ob : Obj}, Inv (X.within X.A.in1.in1) pins τ H' s' → H' s1.heap.objs.size = none → s'.heap.get? s1.heap.objs.size = some ob → (∀ v, ob.data ≠ .cell v) → Inv (X.within X.A.in1.in1) (pins ++ [(s1.heap.objs.size, ob)]) τ H' s' := fun {τ H' s' ob} J0 hn ho hd =>
    J0.pins_of fun q hq => by
      rcases List.mem_append.mp hq with z | z
      · exact J0.pin q (List.mem_append_right _ z)
      · have e : q = (s1.heap.objs.size, ob) := List.mem_singleton.mp z
        subst e
        exact ⟨ho, hn, (fS hn).2.1, (fS hn).2.2.1, hd⟩
  have unpin : ∀ {τ : St} {H' : Hp} {s' : Shared} {pl : List (Addr × Obj)}, Inv (X.within X.A.in1.in1) (pins ++ pl) τ H' s' → Inv (X.within X.A.in1.in1) pins τ H' s' := fun J0 => J0.unpinned
  refine wpAny_bind (wpAny_letGo ?_)
  unfold Builtin.List.listExtendWith
  have tyG : Shared.TypeIs { s1 with heap := G } (.ref a) T := let ⟨o, e, c⟩ := ty; ⟨o, kp a o e, c⟩
  refine wpAny_bind (wpAny_typeOf tyG ?_)
  have g1 : Builtin.List.listSameRef (.ref s1.heap.objs.size) (.ref a) = false := by simp [Builtin.List.listSameRef, Nat.ne_of_gt hal]
  simp only [g1, ask.nl, ask.nt, Bool.or_false, Bool.false_eq_true, if_false]
  have nS1 : H1 s1.heap.objs.size = none := I1.hok.fresh (Nat.le_refl _)
  refine wpAny_bind (wpAny_mono (walk X.A.in1.in1 [(s1.heap.objs.size, { cls := .type "list", data := .seq ([] : List Value).toArray nG })] { s1 with heap := G } (fun _ _ => False) hz1 hz2 kp (fun q hq => by rw [List.mem_singleton.mp hq]; exact Nat.le_refl _) (pinS IW nS1 hSG (fun v z => by cases z)))
    (fun itv s3 ⟨⟨it, fp, tn, J, H3, ei, I3, T3, st3, f3, W, ⟨m0, w0⟩, turn⟩, ty3⟩ => ?_) fun _ _ z => z.elim)
  subst ei
  have oS3 := (I3.pin (s1.heap.objs.size, _) (List.mem_append_right _ (List.mem_append_right _ List.mem_cons_self))).1
  have nS3 := (I3.pin (s1.heap.objs.size, _) (List.mem_append_right _ (List.mem_append_right _ List.mem_cons_self))).2.1
  have I3u := unpin I3
  have hfS : ∀ b ∈ fp, b ≠ s1.heap.objs.size := fun b hb => (Ne.symm ((f3 b hb).2.2.2.2.2 (s1.heap.objs.size, _) (List.mem_append_right _ (List.mem_append_right _ List.mem_cons_self))))
  have stat : ∀ {H' : Hp} {ob : Obj}, (∀ b ∈ fp, H' b = none) → ∀ b ∈ fp, FpOk (X.within X.A.in1.in1) (pins ++ [(s1.heap.objs.size, ob)]) H' b := fun {H' ob} hn b hb => by
    obtain ⟨f0, f1, f2, f4, f5, f6⟩ := f3 b hb
    refine ⟨hn b hb, f1, f2, f4, f5, fun q hq => ?_⟩
    rcases List.mem_append.mp hq with z | z
    · exact f6 q (List.mem_append_left _ z)
    · rcases List.mem_append.mp z with z | z
      · exact f6 q (List.mem_append_right _ (List.mem_append_left _ z))
      · rw [List.mem_singleton.mp z]; exact Ne.symm (hfS b hb)
  have loop : ∀ (s4 : Shared) (n4 : Nat), Inv (X.within X.A.in1.in1) pins σ H3 s4 → tn 0 s4.heap → s4.heap.get? s1.heap.objs.size = some { cls := .type "list", data := .seq ([] : List Value).toArray n4 } →
      codeAny (model X.prog X.w) X.A.in1 (.builtin "list.extend.loop" ⟨[.ref s1.heap.objs.size, .ref it, .none], []⟩) (wants (fun r s₂ => r = .none ∧ EP X pins σ Q (.ref s1.heap.objs.size) s₂) X.xe) s4 := by
    intro s4 n4 I4 st4 o4
    refine extend_loop_go (fun k s' => ∃ i ys H' its n, Inv (X.within X.A.in1.in1) pins σ H' s' ∧ tn i s'.heap ∧ (∀ b ∈ fp, H' b = none) ∧ H' s1.heap.objs.size = none ∧ Vals ys its ∧ s'.heap.get? s1.heap.objs.size = some { cls := .type "list", data := .seq its.toArray n } ∧ W i k ys H') ?_ m0 s4
      ⟨0, [], H3, [], n4, I4, st4, fun b hb => (f3 b hb).1, nS3, .nil, o4, w0⟩
    rintro k s' ⟨i, ys, H', its, n, I5, st5, fr5, nS5, rv5, oS5, w5⟩
    have I5' := pinS I5 nS5 oS5 (fun v z => by cases z)
    rcases turn i k ys H' w5 with ⟨stop, hz, qf⟩ | ⟨go, hz, step⟩
    · refine wpAny_mono (T3.done (X.within X.A.in1.in1) rfl rfl rfl hc i _ s' σ H' (fun _ _ => False) I5' (stat fr5) st5 stop) (fun r s6 ⟨hr, I6⟩ => ?_) fun _ _ z => z
      subst hr
      have oS6 := (I6.pin (s1.heap.objs.size, _) (List.mem_append_right _ (List.mem_append_right _ List.mem_cons_self))).1
      have nS6 := (I6.pin (s1.heap.objs.size, _) (List.mem_append_right _ (List.mem_append_right _ List.mem_cons_self))).2.1
      have I7 : Inv X pins σ H' s6 := (unpin I6).outof hz1 hz2
      exact ⟨rfl, .ref s1.heap.objs.size, _, I7.adopt (o := .lst ys) (I1.fpOk (Nat.le_refl _) nS6) ⟨hz, its, n, rv5, oS6⟩, rfl, qf _ nS6⟩
    · refine wpAny_mono (T3.item (X.within X.A.in1.in1) rfl rfl rfl hc i _ s' σ H' (fun _ _ => False) I5' (stat fr5) st5 go) (fun r s6 ⟨u, hr, h6⟩ => ?_) fun _ _ z => z
      subst hr
      show wpAny _ _ ((pure () : Sem Unit) >>= fun _ => updateSeq s1.heap.objs.size (·.push u)) _ _ s6
      refine wpAny_bind (wpAny_mono (show wpAny (model X.prog X.w) X.A.in1.in1 (pure () : Sem Unit) _ _ s6 from h6) (fun _ s7 ⟨v, H7, I7, r7, y7, st7, fr7⟩ => ?_) fun _ _ z => z)
      have oS7 := (I7.pin (s1.heap.objs.size, _) (List.mem_append_right _ (List.mem_append_right _ List.mem_cons_self))).1
      have nS7 := (I7.pin (s1.heap.objs.size, _) (List.mem_append_right _ (List.mem_append_right _ List.mem_cons_self))).2.1
      obtain ⟨m', hm, w7⟩ := step v H7 y7
      have hlen := rv5.length
      refine wpAny_updateSeq (hz := by rw [List.size_toArray]; omega) (_hz' := by show (its.toArray.push u).size ≤ sizeLine + 1; rw [Array.size_push, List.size_toArray]; omega) oS7 rfl ?_
      obtain ⟨n8, q8⟩ : ∃ n8, (s7.heap.update s1.heap.objs.size (Obj.mapSeq fun a => a.push u)).get? s1.heap.objs.size = some { cls := .type "list", data := .seq (its.toArray.push u) n8 } := ⟨_, Heap.get?_update_self _ oS7 rfl⟩
      obtain ⟨e0, e1, e2, e3, e4, e5⟩ := fS nS7
      have I8 : Inv (X.within X.A.in1.in1) pins σ H7 { s7 with heap := s7.heap.update s1.heap.objs.size (Obj.mapSeq fun a => a.push u) } :=
        (unpin I7).turned (t' := s7.toks) (fun b o hb e => (Heap.get?_update_other s7.heap _ (Ne.symm hb)).trans e) e0 e1 e3 e4 e5
      refine ⟨m', hm, i + 1, ys ++ [v], H7, its ++ [u], n8, I8, T3.keep _ _ _ st7 fun b hb o e => (Heap.get?_update_other s7.heap _ (Ne.symm (hfS b hb))).trans e, fr7, nS7, rv5.append (.cons r7 .nil), ?_, w7⟩
      rw [show (its ++ [u]).toArray = its.toArray.push u by simp]
      exact q8
  refine wpAny_bind (wpAny_holding (ask.hint _ _ _ _ _ ty3 fun room => ?_))
  refine wpAny_ite_split (fun _ => ?_) (fun _ => wpAny_pure ⟨plainId_quiet F.plain_extend_loop _, loop s3 nG I3u st3 oS3⟩)
  refine wpAny_bind (wpAny_rule (wpAny_bind ?_))
  show wpAny _ _ (updateSeq s1.heap.objs.size (·.push .none) >>= fun _ => updateSeq s1.heap.objs.size (·.pop)) _ _ _
  refine wpAny_bind (wpAny_updateSeq oS3 rfl ?_)
  have hS4 := Heap.get?_update_self (Obj.mapSeq (·.push Value.none)) oS3 rfl
  refine wpAny_updateSeq (hz := by seq_fits) hS4 rfl ?_
  have hS5 := Heap.get?_update_self (Obj.mapSeq (·.pop)) hS4 rfl
  obtain ⟨e0, e1, e2, e3, e4, e5⟩ := fS nS3
  have oth : ∀ b o, b ≠ s1.heap.objs.size → s3.heap.get? b = some o → ((s3.heap.update s1.heap.objs.size (Obj.mapSeq (·.push Value.none))).update s1.heap.objs.size (Obj.mapSeq (·.pop))).get? b = some o :=
    fun b o hb e => (Heap.get?_update_other _ _ (Ne.symm hb)).trans ((Heap.get?_update_other _ _ (Ne.symm hb)).trans e)
  exact wpAny_pure ⟨plainId_quiet F.plain_extend_loop _, loop _ _ (I3u.turned (t' := s3.toks) (fun b o hb e => oth b o hb e) e0 e1 e3 e4 e5) (T3.keep _ _ _ st3 fun b hb o e => oth b o (hfS b hb) e) hS5⟩
end
end L2
set_option Elab.async false
set_option linter.all false
set_option maxRecDepth 100000
set_option maxHeartbeats 4000000
namespace L2
open PySem PySem.Spec PyProof.Rows
theorem ObjOk.there {P : Program} {w : World} {H : Hp} {h : Heap} {a : Addr} {o : HO} (x : ObjOk P w H h a o) : ∃ u, h.get? a = some u := by
  cases o with
  | lst xs => obtain ⟨_, _, _, _, e⟩ := x; exact ⟨_, e⟩
  | tup xs => obtain ⟨_, _, _, o, e, _⟩ := x; exact ⟨_, e⟩
  | dK kvs => obtain ⟨_, _, _, _, o, _, _, e, _⟩ := x; exact ⟨_, e⟩
  | dT kvs => obtain ⟨_, _, _, _, o, _, _, e, _⟩ := x; exact ⟨_, e⟩
  | set S n => obtain ⟨o, _, _, _, e, _⟩ := x; exact ⟨_, e⟩
  | ins C dx fs => obtain ⟨_, _, _, e, _⟩ := x; exact ⟨_, e⟩
  | own y => exact x
  | xd fs => obtain ⟨_, ⟨_, _, _, e, _⟩, _⟩ := x; exact ⟨_, e⟩
  | rng lo hi => obtain ⟨_, _, _, e⟩ := x; exact ⟨_, e⟩
  | frz ob u => obtain ⟨e, _⟩ := x; exact ⟨_, e⟩
  | tbl ps => exact ⟨_, (show h.get? a = some _ from x)⟩
  | met f y => exact ⟨_, (show h.get? a = some _ from x)⟩
  | ext φ => obtain ⟨_, e, _⟩ := x; exact e
structure Fl (P : Program) (w : World) (base : Heap) (outer : List Env) (H : Hp) (s : Shared) (ea : Addr) (cls : Value) (H' : Hp) (B : Heap) (s' : Shared) : Prop where
  os : s'.os = s.os
  bare : AllBare s'.gens
  un : Un (frs outer) [] H H' s.heap s'.heap
  hok : HOk P w H' s'.heap
  fly : ∃ a0, Heap.FlyingW B outer ea cls a0 s'.heap
  bs : base.StaysIn B
  trk : ∀ b u, H' b = some u → ∃ o, B.get? b = some o
  old : ∀ b o, s.heap.get? b = some o → H b = none → b ∉ frs outer → B.get? b = some o
  all : ∀ b o, s.heap.get? b = some o → b ∉ frs outer → ∃ o', B.get? b = some o'
def CX1 (P : Program) (w : World) (base : Heap) : CXT := fun outer H s E e s' => ∃ ea cls H' B, e = .ref ea ∧ Fl P w base outer H s ea cls H' B s' ∧ E cls none H'
section
variable {P : Program} {w : World} {base B : Heap} {outer : List Env} {H H' : Hp} {s s' : Shared} {ea : Addr} {cls : Value} {h' : Heap}
theorem Un.dropF {L : Addr} {fs ex : List Addr} {h h1 : Heap} (u : Un (L :: fs) ex H H' h h1) (hL : h.objs.size ≤ L) : Un fs ex H H' h h1 :=
  ⟨fun b o e n hb hx => u.keep b o e n (fun z => (List.mem_cons.mp z).elim (fun q => by subst q; exact absurd (Heap.lt_size e) (Nat.not_lt.mpr hL)) hb) hx, fun b o e n hb hx => u.slot b o e n (List.mem_cons_of_mem _ hb) hx, u.free, u.there, u.tups, u.frzs, u.tbls⟩
theorem Fl.hok_at (F : Fl P w base outer H s ea cls H' B s') (st : B.StaysIn h') : HOk P w H' h' := fun b ob e => by
  obtain ⟨a0, f1, _⟩ := F.fly
  refine (F.hok b ob e).stay (fun c u hc q => ?_) (fun _ z => z) fun _ _ z => z
  have ht : ∃ o, B.get? c = some o := by
    rcases hc with rfl | hc
    · exact F.trk _ _ e
    · exact F.trk _ _ hc
  obtain ⟨o, ho⟩ := ht
  have h2 := f1 c o ho
  rw [q] at h2
  cases h2
  exact st c _ ho
theorem Fl.un_at (F : Fl P w base outer H s ea cls H' B s') (st : B.StaysIn h') (sl : s'.heap.UpToSlots h') : Un (frs outer) [] H H' s.heap h' := by
  obtain ⟨a0, f1, f2, f3, f4⟩ := F.fly
  have slot : ∀ b o, s.heap.get? b = some o → H b = none → b ∈ frs outer → ∃ z, h'.get? b = some { o with slots := z } := fun b o e n hb => by
    obtain ⟨z, e1⟩ := F.un.slot b o e n hb (by simp)
    obtain ⟨_, o', e2, hd⟩ := f3.mem hb
    rw [e1] at e2
    cases e2
    obtain ⟨z2, e3⟩ := sl b _ e1 hd
    exact ⟨z2, e3⟩
  refine ⟨fun b o e n hb _ => st b o (F.old b o e n hb), fun b o e n hb _ => slot b o e n hb, F.un.free, fun b o e hx => ?_, F.un.tups, F.un.frzs, F.un.tbls⟩
  by_cases hb : b ∈ frs outer
  · obtain ⟨_, o', e2, hd⟩ := f3.mem hb
    obtain ⟨z, e3⟩ := sl b o' e2 hd
    exact ⟨_, e3⟩
  · obtain ⟨o', e1⟩ := F.all b o e hb
    exact ⟨o', st b o' e1⟩
theorem Fl.free (F : Fl P w base outer H s ea cls H' B s') : H' ea = none := by
  obtain ⟨a0, _, f2, _⟩ := F.fly
  cases q : H' ea with
  | none => rfl
  | some u => obtain ⟨o, ho⟩ := F.trk _ _ q; rw [f2] at ho; cases ho
end
section
variable {X : Cx} {pins : List (Addr × Obj)} {σ : St} {H H' : Hp} {s s' : Shared} {ea : Addr} {cls : Value} {B : Heap} {M : Model} {E : Value → Shared → Prop}
structure Cx.Body (X : Cx) : Prop where
  stk : X.stack = X.env :: X.outer
  fr : X.env.frame = some X.env.locals
  ex : X.ex = []
theorem Cx.Body.frs (b : X.Body) : L2.frs X.stack = X.env.locals :: X.fs := by
  rw [b.stk]
  unfold L2.frs
  rw [List.filterMap_cons, b.fr]
  rfl
theorem Inv.fl (I : Inv X pins σ H s) (b : X.Body) (os : s'.os = s.os) (bare : AllBare s'.gens) (u : Un (frs X.stack) [] H H' s.heap s'.heap) (hok : HOk X.prog X.w H' s'.heap) (fly : ∃ a0, Heap.FlyingW B X.outer ea cls a0 s'.heap)
    (bs : X.base.StaysIn B) (trk : ∀ b u, H' b = some u → ∃ o, B.get? b = some o) (old : ∀ b o, s.heap.get? b = some o → H b = none → b ∉ frs X.stack → B.get? b = some o)
    (all : ∀ b o, s.heap.get? b = some o → b ∉ frs X.stack → ∃ o', B.get? b = some o') : Fl X.prog X.w X.base X.outer X.H₀ X.s₀ ea cls H' B s' := by
  have ex0 : X.ex = [] := b.ex
  have base := I.base
  rw [ex0] at base
  have neL : ∀ c o, X.s₀.heap.get? c = some o → c ≠ X.env.locals := fun c o e => Nat.ne_of_lt (Nat.lt_of_lt_of_le (Heap.lt_size e) I.ok.above)
  have nst : ∀ c o, X.s₀.heap.get? c = some o → c ∉ X.fs → c ∉ frs X.stack := fun c o e hc hm => by
    rw [b.frs] at hm
    rcases List.mem_cons.mp hm with z | z
    · exact neL c o e z
    · exact hc z
  have u0 : Un (frs X.stack) [] X.H₀ H X.s₀.heap s.heap := base.mono (fun c hc => by rw [b.frs]; exact List.mem_cons_of_mem _ hc) (fun _ z => z)
  have u1 : Un (X.env.locals :: X.fs) [] X.H₀ H' X.s₀.heap s'.heap := by rw [← b.frs]; exact u0.trans u
  refine ⟨os.trans I.os, bare, u1.dropF I.ok.above, hok, fly, bs, trk, fun c o e n hc => ?_, fun c o e hc => ?_⟩
  · exact old c o (base.keep c o e n hc (by simp)) (base.free c o e n (by simp)) (nst c o e hc)
  · obtain ⟨o', e1⟩ := base.there c o e (by simp)
    exact all c o' e1 (nst c o e hc)
theorem made_leave (I : Inv X pins σ H s) (b : X.Body) {h' : Heap} {vs : List Value} (hx : Heap.MadeExcOf s.heap h' ea cls vs) {Q : Unit → Shared → Prop} (q : ∀ B s'', Fl X.prog X.w X.base X.outer X.H₀ X.s₀ ea cls H B s'' → Q () s'') :
    wpAny M X.A (leaving X.env (.ref ea)) Q E { s with heap := h' } := by
  have hfr := I.ok.frames
  rw [b.stk] at hfr
  have hin : ∀ env ∈ X.stack, ∀ a, env.frame = some a → a ∈ frs X.stack := fun env he a ha => List.mem_filterMap.mpr ⟨env, he, ha⟩
  have hl := PySem.W.funFrames_hide I.stack hin
  have hl' := hl
  rw [b.stk] at hl'
  rw [← b.stk] at hl'
  have hst : (PySem.W.hideAll s.heap (frs X.stack)).StaysIn s.heap := fun c o e => PySem.W.of_hideAll _ e
  refine wpAny_leaves_madeW (base := PySem.W.hideAll s.heap (frs X.stack)) (s := { s with heap := h' }) hfr b.fr hst (by rw [← b.stk]; exact hl) hx fun h2 t f _ _ sl => q (PySem.W.hideAll s.heap (frs X.stack)) _ ?_
  have old : ∀ c o, s.heap.get? c = some o → c ∉ frs X.stack → (PySem.W.hideAll s.heap (frs X.stack)).get? c = some o := fun c o e hc => PySem.W.hideAll_get _ e hc
  have trk : ∀ c u, H c = some u → ∃ o, (PySem.W.hideAll s.heap (frs X.stack)).get? c = some o := fun c u e => by
    have hn : c ∉ frs X.stack := fun z => by have := I.stkFree c z; rw [e] at this; cases this
    have hlt := I.hok.lt e
    obtain ⟨o, ho⟩ : ∃ o, s.heap.get? c = some o := (I.hok c u e).there
    exact ⟨o, old c o ho hn⟩
  have slot : ∀ c o, s.heap.get? c = some o → c ∈ frs X.stack → ∃ z, h2.get? c = some { o with slots := z } := fun c o e hc => by
    obtain ⟨_, o', e2, hd⟩ := I.stack.mem hc
    rw [e] at e2
    cases e2
    exact sl c o (hx.keeps c o e) hd
  refine I.fl (s' := { s with heap := h2 }) b rfl I.bare ⟨fun c o e n hc _ => f.1 c o (old c o e hc), fun c o e n hc _ => slot c o e hc, fun c o e n _ => n, fun c o e _ => ?_, fun _ _ z => z, fun _ _ _ z => z, fun c ps z => ⟨#[], by rw [z]; simp⟩⟩
    (fun c ob e => (I.hok c ob e).stay (fun d u hd z => ?_) (fun _ z => z) fun _ _ z => z) ⟨_, f⟩ (fun c o e => ?_) trk (fun c o e _ hc => old c o e hc) (fun c o e hc => ⟨o, old c o e hc⟩)
  · by_cases hc : c ∈ frs X.stack
    · obtain ⟨z, e2⟩ := slot c o e hc
      exact ⟨_, e2⟩
    · exact ⟨o, f.1 c o (old c o e hc)⟩
  · have ht : ∃ o, (PySem.W.hideAll s.heap (frs X.stack)).get? d = some o := by
      rcases hd with rfl | hd
      · exact trk _ _ e
      · exact trk _ _ hd
    obtain ⟨o, ho⟩ := ht
    have z2 := hst d o ho
    rw [z] at z2
    cases z2
    exact f.1 d _ ho
  · obtain ⟨z1, z2⟩ := I.bs c o e
    exact old c o z1 fun hm => by have := (I.stack.mem hm).1; rw [e] at this; cases this
end
end L2
set_option Elab.async false
set_option linter.all false
set_option maxRecDepth 100000
set_option maxHeartbeats 4000000
namespace L2
open PySem PySem.Spec PyProof.Rows
section
variable {P : Program} {w : World} {K : PySem.W.Frag} {mg : Str → Option Value} {base : Heap}
theorem Fun.okX {x qual : Str} {st : Stmt} {f : Addr} {fd : FuncData} {N ps : List Str} {k : Nat} {sp : Sp} (F : Fun K x qual st f fd) (S : FnScope N ps (defScope st)) (len : ∀ vs H Q E, sp vs H Q E → vs.length = ps.length)
    (hbody : ∀ (cdv : Value) (A : Around) (outer : List Env) (s : Shared) (H : Hp) (vs : List V) (Q : VK) (E : XK), Room k (A.deeper (envOfC qual (defScope st) s.heap.objs.size f cdv)) → sp vs H Q E →
      ∃ t, PSs (cxOf (CX1 P w base) P w K mg base N qual (defScope st) f cdv A outer s H E) (defBody st) t ∧ t { nx := fun _ H' => Q .non H', rt := Q } (start N vs) H) : FnOk P w K mg base (CX1 P w base) (k + 1) f fd ps sp := by
  obtain ⟨oc, od, kV, doc, pm, an, cdv, ct, osl, rfl, lk, hcd⟩ := F.ex
  exact fn_of lk hcd S len fun A outer s H vs Q E hr hsp => hbody cdv A outer s H vs Q E hr hsp
def DefX (P : Program) (w : World) (K : PySem.W.Frag) (mg : Str → Option Value) (base : Heap) (k : Nat) (x : Str) (ps : List Str) (sp : Sp) : Prop :=
  ∃ (f : Addr) (fd : FuncData), FnOk P w K mg base (CX1 P w base) k f fd ps sp ∧ Binds K fd ps [] ∧ PySem.W.keepIn K (.ref f) = true ∧ mg x = some (.ref f)
structure Raising (X : Cx) (E : XK) : Prop where
  body : X.Body
  xe : ∀ (e : Value) (s' : Shared), wpAny (model X.prog X.w) X.A (leaving X.env e) (fun _ s'' => CX1 X.prog X.w X.base X.outer X.H₀ X.s₀ E e s'') (fun e' s'' => CX1 X.prog X.w X.base X.outer X.H₀ X.s₀ E e' s'') s' → X.xe e s'
  own : PassesOwn (model X.prog X.w) X.A X.env X.xe
  hd : X.calm = true
theorem raising {N : List Str} {qual : Str} {scope : Scope} {f : Addr} {cd : Value} {A : Around} {outer : List Env} {s : Shared} {H : Hp} {E : XK} : Raising (cxOf (CX1 P w base) P w K mg base N qual scope f cd A outer s H E) E :=
  ⟨⟨rfl, rfl, rfl⟩, fun _ _ z => z, PassesOwn.leaving, rfl⟩
end
section
variable {X : Cx} {E : XK}
structure ExcC (K : PySem.W.Frag) (mg : Str → Option Value) (x : Str) (C : Addr) : Prop where
  at_ : mg x = some (.ref C)
  exc : PySem.W.excIn K C [.type "ValueError", .type "Exception", .type "BaseException", .type "object"] "ValueError.__new__" = true
theorem ExcC.own {K : PySem.W.Frag} {mg : Str → Option Value} {x : Str} {C : Addr} {h₀ : Heap} (c : ExcC K mg x C) (X : K.In h₀) : OwnCls x C [.type "ValueError", .type "Exception", .type "BaseException", .type "object"] "ValueError.__new__" mg h₀ := by
  obtain ⟨e, q⟩ := c
  refine ⟨e, ?_⟩
  unfold PySem.W.excIn at q
  split at q
  · rename_i dd cd sl ho
    split at q
    · rename_i C' bm k0 k1 k2 k3 n k5 hm hs
      simp only [Bool.and_eq_true, beq_iff_eq, Bool.not_eq_true'] at q
      obtain ⟨⟨⟨⟨⟨rfl, rfl⟩, hdel⟩, ht⟩, hok⟩, hni⟩ := q
      obtain ⟨nm, bs, mro, ns, qn, hd, sn, sub, ab, col, del⟩ := cd
      dsimp only at hm hdel hok hni
      subst hm hdel
      have hsl : sl = #[k0, k1, k2, k3, some (.builtin "ValueError.__new__"), k5] := by
        obtain ⟨l⟩ := sl
        simp only at hs
        rw [hs]
      subst hsl
      exact ⟨bm, ns, nm, qn, bs, hd, sn, sub, ab, col, dd, k0, k1, k2, k3, k5, _, X _ _ ho, .of_isNs (PySem.W.isNs_of_in X hok), PySem.W.nsMap_none_of_in X hok hni, PySem.W.tail_of_in X ht⟩
    · cases q
  · cases q
def tRaise (C : Addr) (E : XK) (t : TA) : TS := fun _ σ H => t σ H fun vs H1 => vs.length ≤ 1000 ∧ E (.ref C) none H1
theorem ps_raise {x : Str} {C : Addr} {e : Expr} {es : List Expr} {t : TA} {np cpos pos : Pos} (R : Raising X E) (c : ExcC X.K X.mg x C) (hg : Gl X x) (ha : PA X (e :: es) t) (hdb : (x == ("__debug__" : Str)) = false := by decide)
    (he : starEach (e :: es) X.env = (false, eval e X.env) :: starEach es X.env := by rfl) (hpl : (backTo cpos (starEach es X.env)).any (·.1) = false := by rfl) :
    PS X (.Raise (some (.Call (.Name x np) (e :: es) [] cpos)) none pos) (tRaise C E t) := by
  intro pins s σ H D I h
  obtain ⟨tl, N, nm, q, bs, hdct, sn, sub, ab, col, dd, k0, k1, k2, k3, k5, mN, hC, hN, hni, T⟩ := (c.own I.ok.mod.kin).obj
  refine wpAny_Raise_call_subU (C := C) (nm := nm) (q := q) (N := N) (bs := bs) (bm := tl) (hdct := hdct) (sn := sn) (sub := sub) (ab := ab) (col := col) (dd := dd) (k0 := k0) (k1 := k1) (k2 := k2) (k3 := k3) (k5 := k5)
    PySem.F.excBase_ValueError (by decide) PySem.F.excBase_ValueError (mN := mN) (T.hasType (by decide)) (I.ok.hd R.hd) (by rw [he]; show (false || (backTo cpos (starEach es X.env)).any (·.1)) = false; rw [hpl]; rfl) hni (ld_glob I hg c.at_ ⟨rfl, ?_⟩ hdb)
  have go := ha cpos pins s σ H _ I h
  rw [he] at go ⊢
  refine Calls.evalArgs_plain (wpAny_mono go (fun us s2 ⟨vs, H2, I2, r, hz, q2⟩ => ⟨rfl, ?_, I2.bk _ _ hC, hN.keeps I2.bk, T.keeps I2.bk, fun h' ea hx => ?_⟩) fun _ _ z => z)
  · rw [← r.length]; exact Nat.le_of_lt (small1000 hz)
  · exact R.xe _ _ (made_leave I2 R.body hx fun B s'' F => ⟨ea, .ref C, H2, B, rfl, F, q2⟩)
end
end L2
set_option Elab.async false
set_option linter.all false
set_option maxRecDepth 100000
set_option maxHeartbeats 4000000
namespace L2
open PySem PySem.Spec PyProof.Rows
abbrev Cx.caught (X : Cx) (ea : Addr) (oe : Obj) : Cx := { X with A := X.A.mark (some (.ref ea)), calm := false, xe := fun _ _ => False, pn := (ea, oe) :: X.pn }
section
variable {X : Cx} {pins : List (Addr × Obj)} {σ : St} {H : Hp} {s : Shared} {ea : Addr} {oe : Obj}
theorem Inv.caught (I : Inv X pins σ H s) (h : s.heap.get? ea = some oe ∧ H ea = none ∧ ea ≠ X.env.locals ∧ ea ∉ X.fs ∧ ∀ v, oe.data ≠ .cell v) : Inv (X.caught ea oe) pins σ H s := by
  obtain ⟨ok, a1, a2, a3, a4, a5, a6, a7, pin, a8, a9⟩ := I
  refine ⟨⟨ok.mod, ok.kind, ok.glob, ok.blt, ok.above, ok.inj, ok.has, ok.cab, (fun z => nomatch z), ok.frames, ok.stk, ok.exf, ok.bs, ok.bsz, ok.noex, ok.exfs, ok.funs, ok.frf⟩, a1, a2, a3, a4, a5, a6, a7, fun p hp => ?_, a8, a9⟩
  rcases List.mem_cons.mp (show p ∈ (ea, oe) :: (X.pn ++ pins) from hp) with rfl | hp
  · exact h
  · exact pin p hp
theorem Inv.uncaught (ok : X.Ok) (I : Inv (X.caught ea oe) pins σ H s) : Inv X pins σ H s :=
  ⟨ok, I.os, I.bare, I.base, I.loc, I.cell, I.free, I.freeC, fun p hp => I.pin p (show p ∈ (ea, oe) :: (X.pn ++ pins) from List.mem_cons_of_mem _ hp), I.hok, I.len⟩
theorem SP.uncaught {D : Ends} {f : Flow} {s' : Shared} (ok : X.Ok) (h : SP (X.caught ea oe) pins D f s') : SP X pins D f s' := by
  cases f with
  | next => obtain ⟨σ', H', I, q⟩ := h; exact ⟨σ', H', I.uncaught ok, q⟩
  | brk => obtain ⟨σ', H', I, q⟩ := h; exact ⟨σ', H', I.uncaught ok, q⟩
  | cont => obtain ⟨σ', H', I, q⟩ := h; exact ⟨σ', H', I.uncaught ok, q⟩
  | ret u => obtain ⟨v, σ', H', I, r, q⟩ := h; exact ⟨v, σ', H', I.uncaught ok, r, q⟩
theorem Fl.pinned {X : Cx} {H0 H' : Hp} {s0 s' : Shared} {cls a0 : Value} {B h' : Heap} (F : Fl X.prog X.w X.base X.stack H0 s0 ea cls H' B s') (I : Inv X pins σ H0 s0) (b : X.Body) (f : Heap.FlyingW B X.stack ea cls a0 h') :
    ∃ oe, oe.cls = cls ∧ h'.get? ea = some oe ∧ H' ea = none ∧ ea ≠ X.env.locals ∧ ea ∉ X.fs ∧ ∀ v, oe.data ≠ .cell v := by
  obtain ⟨oe, vs, e1, e2, e3, e4⟩ := f.first
  have nf : ea ∉ frs X.stack := fun z => by
    obtain ⟨_, o, ho, hd⟩ := f.2.2.1.mem z
    rw [e1] at ho
    cases ho
    exact hd _ e3
  rw [b.frs] at nf
  exact ⟨oe, e2, e1, F.free, fun z => nf (by rw [z]; exact List.mem_cons_self), fun z => nf (List.mem_cons_of_mem _ z), fun v z => by rw [e3] at z; cases z⟩
theorem Fl.inv {X : Cx} {H0 H' : Hp} {s0 s' : Shared} {cls : Value} {B h' : Heap} (F : Fl X.prog X.w X.base X.stack H0 s0 ea cls H' B s') (I : Inv X pins σ H0 s0) (st : B.StaysIn h') (sl : s'.heap.UpToSlots h') : Inv X pins σ H' { s' with heap := h' } :=
  I.call' (s' := { s' with heap := h' }) (ch := []) F.os (F.un_at st sl) (F.hok_at st) F.bare fun b z => absurd z (by simp)
theorem try_call {k : Nat} {x : Str} {ps : List Str} {sp : Sp} {e : Expr} {es : List Expr} {t : TA} {p pos : Pos} {Q : VK} {E : XK} (D : DefX X.prog X.w X.K X.mg X.base k x ps sp) (hr : Room k X.A) (hg : Gl X x) (ha : PA X.nox (e :: es) t)
    (I : Inv X pins σ H s) (h : t σ H fun vs H1 => sp vs H1 Q E) (hdb : (x == ("__debug__" : Str)) = false := by decide)
    (he : starEach (e :: es) X.env = (false, eval e X.env) :: starEach es X.env := by rfl) (hpl : (backTo pos (starEach es X.env)).any (·.1) = false := by rfl) :
    wpAny (model X.prog X.w) X.A (eval (.Call (.Name x p) (e :: es) [] pos) X.env) (EP X pins σ Q) (fun e s' => ∃ H1 s1, Inv X pins σ H1 s1 ∧ CX1 X.prog X.w X.base X.stack H1 s1 E e s') s := by
  obtain ⟨f, fd, F, hb, hk, hm⟩ := D
  refine wpAny_Call_Name_kw (ld_glob I hg hm ?_ hdb)
  refine PySem.W.callWith_K (h₀ := X.base) I.ok.mod.kin hk (wpAny_mono (ha pos pins s σ H _ (I.wish _) h) (fun us s1 ⟨vs, H1, I1, r, q⟩ => ⟨I1.unwish.kIn, ?_⟩) fun _ _ z => z.elim) he hpl
  have I1 := I1.unwish
  have hl : us.length = ps.length := by rw [← r.length]; exact F.len _ _ _ _ q
  have hb1 := hb s1 us I1.kIn (by rw [List.append_nil]; exact hl)
  rw [List.append_nil] at hb1
  refine wpAny_call (codeAny_mono (F.run X.A X.stack s1 H1 ⟨us, []⟩ us vs Q E hr I1.env0 hb1 r q) fun r s' hq => ?_)
  cases r with
  | error e => exact ⟨H1, s1, I1, hq⟩
  | ok fl =>
    cases fl with
    | ret u => exact I1.after hq
    | next => exact False.elim hq
    | brk => exact False.elim hq
    | cont => exact False.elim hq
end
end L2
set_option Elab.async false
set_option linter.all false
set_option maxRecDepth 100000
set_option maxHeartbeats 4000000
namespace L2
open PySem PySem.Spec PyProof.Rows
structure ExcK (K : PySem.W.Frag) (C : Addr) : Prop where
  ga : PySem.W.findIn K (.ref C) "__getattribute__" = some (some (.builtin "BaseException.__getattribute__"))
  cl : PySem.W.findIn K (.ref C) "__class__" = some (some (.builtin "object.__class__"))
  no : PySem.W.findIn K (.ref C) "__getattr__" = some none
  sb : PySem.W.subIn K (.ref C) (.type "BaseException") = some true
  so : PySem.W.subIn K (.ref C) (.type "object") = some true
  is : (PySem.W.clsIn K C).isSome = true
section
variable {K : PySem.W.Frag} {C a : Addr} {o : Obj} {prog : Program} {w : World} {A : Around} {E : Value → Shared → Prop} {h : Heap} {g : Array GenState} {d : Drawn} {t : Nat} {os : OsState}
theorem xc_get {R : Result → Shared → Prop} (c : ExcK K C) (X : K.In h) (hx : h.get? a = some o) (hc : o.cls = .ref C) (hq : R (.ok (.ret (.ref C))) ⟨h, g, d, t, os⟩) :
    codeAny (model prog w) A (.call (.builtin "getset_descriptor.__get__") ⟨[.builtin "object.__class__", .ref a, .ref C], []⟩) R ⟨h, g, d, t, os⟩ := by
  have T5 : (⟨h, g, d, t, os⟩ : Shared).TypeIs (.builtin "object.__class__") "getset_descriptor" := F.typeOf_object_class
  have so := PySem.W.looks_subIn (M := model prog w) X c.so
  rw [← F.owner_object_class] at so
  refine codeAny_call_builtin F.slot_gs_get.plain F.entry_gs_get (F.slot_gs_get.check _ _ _ _ _ _ _ _ T5 (F.args_gs_get _ _ _) ?_)
  repeat (any_goals (first | (with_reducible refine wpAny_loadPart_at hx ?_; rw [hc]) | with_reducible refine so.at ?_ | assumption | wp_step))
  refine ⟨Code.quiet_builtin _ (by decide +kernel), codeAny_builtin F.entry_object_class ?_⟩
  repeat (any_goals (first | (with_reducible refine wpAny_loadPart_at hx ?_; rw [hc]) | assumption | wp_step))
theorem xc_entry {tk : Tok} {Q : Fin → Shared → Prop} (c : ExcK K C) (X : K.In h) (hx : h.get? a = some o) (hc : o.cls = .ref C) (hq : Q (.done (.ret (.ref C))) ⟨h, g, d, t, os⟩) :
    wpAny (model prog w) A (Builtin.«object.__getattribute__» ⟨[.ref a, .str "__class__" tk], []⟩) Q E ⟨h, g, d, t, os⟩ := by
  have T5 : (⟨h, g, d, t, os⟩ : Shared).TypeIs (.builtin "object.__class__") "getset_descriptor" := F.typeOf_object_class
  have y5 := F.typeOf_object_class; have y6 := F.slot_gs_get.lookup; have y7 := F.slot_gs_set.lookup
  have cl := PySem.W.looks_findIn (M := model prog w) X c.cl
  repeat (any_goals (first | (with_reducible refine wpAny_loadPart_at hx ?_; rw [hc]) | with_reducible refine cl.at ?_ | assumption | wp_step))
  refine xc_get c X hx hc ?_
  repeat (any_goals (first | assumption | wp_step))
theorem xc_check {M : Model} {v : Value} {Q : Unit → Shared → Prop} (c : ExcK K C) (X : K.In h) (hx : h.get? a = some o) (hc : o.cls = .ref C) (hq : Q () ⟨h, g, d, t, os⟩) :
    wpAny M A (checkBuiltinCall "BaseException.__getattribute__" ⟨[.ref a, v], []⟩) Q E ⟨h, g, d, t, os⟩ := by
  have k1 : builtinKind "BaseException.__getattribute__" = some .slot := by decide +kernel
  have k2 : splitId "BaseException.__getattribute__" = some ("BaseException", "__getattribute__") := by decide +kernel
  have sb := PySem.W.looks_subIn (M := M) X c.sb
  have ha := F.args_bexc_ga (.ref a) v
  simp only [checkBuiltinCall, k1, k2]
  refine wpAny_bind ?_
  unfold isInstance
  repeat (first | (with_reducible refine wpAny_loadPart_at hx ?_; rw [hc]) | with_reducible refine sb.at ?_ | wp_step)
  exact hq
theorem xc_call {tk : Tok} {R : Result → Shared → Prop} (c : ExcK K C) (X : K.In h) (hx : h.get? a = some o) (hc : o.cls = .ref C) (hq : R (.ok (.ret (.ref C))) ⟨h, g, d, t, os⟩) :
    codeAny (model prog w) A (.call (.builtin "BaseException.__getattribute__") ⟨[.ref a, .str "__class__" tk], []⟩) R ⟨h, g, d, t, os⟩ :=
  codeAny_call_builtin F.excAttr_ValueError.ga.plain F.entry_bexc_ga (xc_check c X hx hc (xc_entry c X hx hc hq))
theorem xc_by {tk : Tok} {Q : Value → Shared → Prop} (c : ExcK K C) (X : K.In h) (hx : h.get? a = some o) (hc : o.cls = .ref C) (hq : Q (.ref C) ⟨h, g, d, t, os⟩) :
    wpAny (model prog w) A (getAttrBy (.ref a) (.str "__class__" tk) false) Q E ⟨h, g, d, t, os⟩ := by
  have y3 := F.excAttr_ValueError.ga.bind (.ref a)
  have e2 : (Value.builtin "BaseException.__getattribute__" == Value.builtin "object.__getattribute__") = false := by decide +kernel
  have e1 : (onTheHeap (Value.ref C) && Value.builtin "BaseException.__getattribute__" == Value.builtin "object.__getattribute__") = false := by rw [e2]; rfl
  have g1 := PySem.W.looks_findIn (M := model prog w) X c.ga
  have g2 := PySem.W.looks_findIn (M := model prog w) X c.no
  repeat (any_goals (first | (with_reducible refine wpAny_loadPart_at hx ?_; rw [hc]) | with_reducible refine g1.at ?_ | with_reducible refine g2.at ?_ | assumption | wp_step))
  refine xc_call c X hx hc ?_
  repeat (any_goals (first | assumption | wp_step))
theorem xc_attr {Q : Option Value → Shared → Prop} (c : ExcK K C) (X : K.In h) (hx : h.get? a = some o) (hc : o.cls = .ref C) (hq : Q (some (.ref C)) ⟨h, g, d, t + 1, os⟩) :
    wpAny (model prog w) A (getAttr? (.ref a) "__class__") Q E ⟨h, g, d, t, os⟩ := by
  unfold getAttr? getAttrBy?
  repeat (any_goals (first | with_reducible apply xc_by c X hx hc | assumption | wp_step))
theorem kitx_exc (c : ExcK K C) : PySem.W.KitX K (.ref a) (.ref C) (fun h => ∃ o, h.get? a = some o ∧ o.cls = .ref C) where
  ty := fun M h _ ⟨o, h1, h2⟩ => by rw [← h2]; exact (PySem.W.Looks.ld h1).andThen .now
  it := fun M h X _ => by
    have z := c.is
    unfold PySem.W.clsIn at z
    split at z
    · rename_i c' d' cd' sl' ho
      intro A' Q' E' s' k q
      unfold isType loadHead
      exact wpAny_bind (wpAny_loadPart (k _ _ (X _ _ ho)) (wpAny_pure q))
    · cases z
  ne := fun h tp dd its n sl X htp => by
    have z := c.is
    refine Bool.eq_false_iff.mpr fun q => ?_
    obtain rfl : C = tp := Value.ref.inj (beq_iff_eq.mp q)
    unfold PySem.W.clsIn at z
    split at z
    · rename_i c' d' cd' sl' ho
      have y := (X _ _ ho).symm.trans htp
      cases y
    · cases z
  ca := fun {_ _ _ _ _ s} X ⟨o, h1, h2⟩ q => by obtain ⟨h, g, d, t, os⟩ := s; exact xc_attr c X h1 h2 q
end
end L2
set_option Elab.async false
set_option linter.all false
set_option maxRecDepth 100000
set_option maxHeartbeats 4000000
namespace L2
open PySem PySem.Spec PyProof.Rows
section
variable {X : Cx} {pins : List (Addr × Obj)} {σ : St} {H : Hp} {s : Shared}
theorem unbind_ok {M : Model} {A : Around} {E : Value → Shared → Prop} {i : Nat} {n : Str} {pos : Pos} {Q : Unit → Shared → Prop} (I : Inv X pins σ H s) (nd : X.N.Nodup) (hi : X.N[i]? = some n) (hl : X.env.scope.names.lookup n = some .local)
    (q : ∀ s', Inv X pins (σ.set i none) H s' → Q () s') : wpAny M A (do bindName X.env n .none; unbindBehindTheSuite X.env n pos) Q E s := by
  obtain ⟨m, hn, hlk⟩ := id I.loc
  obtain ⟨oL, _, _, hoL, _⟩ := id hn
  have lt : ∀ b o, X.s₀.heap.get? b = some o → b ≠ X.env.locals := fun b o e => Nat.ne_of_lt (Nat.lt_of_lt_of_le (Heap.lt_size e) I.ok.above)
  refine wpAny_nameGoes_keeps hl hn (by rw [I.ok.kind]; rfl) fun h' v hn' hs => q _ ?_
  have same : ∀ b, b ≠ X.env.locals → h'.get? b = s.heap.get? b := hs.2
  have hok : HOk X.prog X.w H h' := fun b ob e => (I.hok b ob e).stay (fun c u hc z => (same c (by
    rintro rfl
    have f := I.free
    rcases hc with rfl | hc
    · rw [f] at e; cases e
    · rw [f] at hc; cases hc)).trans z) (fun _ z => z) fun _ _ z => z
  have un : Un X.fs X.ex X.H₀ H X.s₀.heap h' := by
    refine ⟨fun b o e n hb hx => (same b (lt b o e)).trans (I.base.keep b o e n hb hx), fun b o e n hb hx => ?_, I.base.free, fun b o e hx => ?_, I.base.tups, I.base.frzs, I.base.tbls⟩
    · obtain ⟨sl, e1⟩ := I.base.slot b o e n hb hx; exact ⟨sl, (same b (lt b o e)).trans e1⟩
    · obtain ⟨o', e1⟩ := I.base.there b o e hx; exact ⟨o', (same b (lt b o e)).trans e1⟩
  have cells : ∀ y c, X.env.cells.lookup y = some c → ∀ z, s.heap.IsCell c z → h'.IsCell c z := fun y c e z k => k.sameBut hs (I.cne y c e)
  refine ⟨I.ok, I.os, I.bare, un, ⟨_, hn', fun j y v' e1 e2 e3 => ?_⟩, fun y c e => ?_, I.free, I.freeC, fun p hp => ?_, hok, by rw [List.length_set]; exact I.len⟩
  · have hj : j ≠ i := fun z => by
      subst z
      rw [List.getElem?_set] at e2
      simp at e2
    rw [List.getElem?_set_ne (Ne.symm hj)] at e2
    obtain ⟨u', r', k⟩ := hlk j y v' e1 e2 e3
    refine ⟨u', r', ?_⟩
    rcases k with ⟨k, e⟩ | ⟨k, c, e, z⟩
    · have hy : y ≠ n := fun e => hj (nodup_ix nd e1 (e ▸ hi))
      exact .inl ⟨k, by simp [hy, e]⟩
    · exact .inr ⟨k, c, e, cells y c e _ z⟩
  · obtain ⟨z, k⟩ := I.cell y c e
    exact ⟨z, cells y c e z k⟩
  · obtain ⟨e, n, ne, nf, dd⟩ := I.pin p hp
    exact ⟨(same p.1 ne).trans e, n, ne, nf, dd⟩
def tTryAs (K : PySem.W.Frag) (c : Value) (sp : Sp) (t : TA) (i : Nat) (ts : Addr → Obj → TS) : TS := fun D σ H => t σ H fun vs H1 => sp vs H1 (fun _ H2 => D.nx σ H2) fun cls _ H2 => PySem.W.exmOne K cls c = some true ∧
  ∀ ea oe, oe.cls = cls → ts ea oe { nx := fun σ' H' => D.nx (σ'.set i none) H', rt := D.rt, bk := fun σ' H' => D.bk (σ'.set i none) H', ct := fun σ' H' => D.ct (σ'.set i none) H' } (σ.set i (some (.ref ea))) H2
theorem ps_tryAs {k : Nat} {x y n : Str} {i : Nat} {c : Value} {ps : List Str} {sp : Sp} {e : Expr} {es : List Expr} {t : TA} {ts : Addr → Obj → TS} {b₀ : Stmt} {suite : List Stmt} {p pos pos2 np hpos tpos : Pos} (b : X.Body) (D : DefX X.prog X.w X.K X.mg X.base k x ps sp) (hr : Room k X.A) (hg : Gl X x) (ha : PA X.nox (e :: es) t)
    (hgy : Gl X y) (hy : X.mg y = some c) (nd : X.N.Nodup) (hi : X.N[i]? = some n) (hl : X.env.scope.names.lookup n = some .local) (hs : ∀ ea oe, PSs (X.caught ea oe) (b₀ :: suite) (ts ea oe)) (hdb : (x == ("__debug__" : Str)) = false := by decide) (hdy : (y == ("__debug__" : Str)) = false := by decide)
    (he : starEach (e :: es) X.env = (false, eval e X.env) :: starEach es X.env := by rfl) (hpl : (backTo pos (starEach es X.env)).any (·.1) = false := by rfl)
    (hsw : swapsWith (.Call (.Name x p) (e :: es) [] pos) none pos2.line X.env = pure false := by rfl) :
    PS X (.Try [.Expr (.Call (.Name x p) (e :: es) [] pos) pos2] [.ExceptHandler (some (.Name y np)) (some n) (b₀ :: suite) hpos] [] [] tpos) (tTryAs X.K c sp t i ts) := by
  intro pins s σ H D' I h
  refine wpAny_Try_except (wpAny_execs_cons (wpAny_Expr_any (wpAny_mono (try_call D hr hg ha I h hdb he hpl) (fun v s1 ⟨x1, H1, I1, r1, q1⟩ => wpAny_execs_nil (wpAny_execs_nil ⟨σ, H1, I1, q1⟩)) ?_) I.quiet hsw))
  rintro e1 s1 ⟨H1, s0, I0, ea, cls, H2, B, rfl, F, hm, q⟩
  obtain ⟨a0, hfl⟩ := F.fly
  have hfl' := hfl
  rw [b.stk] at hfl'
  have hfr := I.ok.frames
  rw [b.stk] at hfr
  refine wpAny_looks_onW hfr b.fr hfl' fun h4 f4 sm4 => wpAny_landsW f4 fun h5 f5 sm5 => ?_
  rw [← b.stk] at f5
  have I5 : Inv X pins σ H2 { s1 with heap := h5 } := F.inv I0 f5.1 (sm4.trans sm5)
  obtain ⟨o5, c5, p5⟩ := F.pinned I0 b f5
  have LT : PySem.W.Looks (model X.prog X.w) h5 (typeOf (.ref ea)) cls := by
    rw [← c5]; exact (PySem.W.Looks.ld p5.1).andThen .now
  refine wpAny_handleBy_cons (codeAny_handlers_test (ld_glob (X := X.caught ea o5) (I5.caught p5) hgy hy ((PySem.W.exm_one I5.kIn LT hm).here ?_) hdy)) (by intro z; cases z)
  show codeAny _ _ _ _ _
  refine codeAny_handlers_suite_as (lands_againW f5 fun h6 f6 sm6 => ?_)
  have I6 : Inv X pins σ H2 { s1 with heap := h6 } := F.inv I0 f6.1 ((sm4.trans sm5).trans sm6)
  obtain ⟨o6, c6, p6⟩ := F.pinned I0 b f6
  refine store_ok (X := X.caught ea o6) (v := .ref ea) (I6.caught p6) nd hi (.inl hl) rfl (fun s7 I7 => ?_) (.inr hl)
  refine wpAny_mono (hs ea o6 pins s7 _ H2 _ I7 (q ea o6 c6)) (fun f s8 z => ?_) fun _ _ z => z.elim
  have z := z.uncaught I.ok
  cases f with
  | next => obtain ⟨σ', H', J, k⟩ := z; exact unbind_ok J nd hi hl fun s9 J9 => ⟨_, _, J9, k⟩
  | brk => obtain ⟨σ', H', J, k⟩ := z; exact unbind_ok J nd hi hl fun s9 J9 => ⟨_, _, J9, k⟩
  | cont => obtain ⟨σ', H', J, k⟩ := z; exact unbind_ok J nd hi hl fun s9 J9 => ⟨_, _, J9, k⟩
  | ret u => obtain ⟨v, σ', H', J, r, k⟩ := z; exact unbind_ok J nd hi hl fun s9 J9 => ⟨v, _, _, J9, r, k⟩
def rIsE (K : PySem.W.Frag) (ea : Addr) (oe : Obj) : List V → Hp → VK → Prop := fun xs H Q => ∃ C cv c b, xs = [.ref ea, cv] ∧ (∀ u, RelV cv u → u = c) ∧ oe.cls = .ref C ∧ ExcK K C ∧ PySem.W.kitOne K (.ref C) c = some b ∧ Q (.bl b) H
theorem call_isE {ea : Addr} {oe : Obj} : CallR (X.caught ea oe) (.builtin "isinstance") (rIsE X.K ea oe) := by
  intro pins s σ H xs us Q I r h
  obtain ⟨C, cv, c, b, rfl, hc, hC, c1, e, q⟩ := h
  obtain ⟨u, w', rfl, rx, rt⟩ := vals2 r
  cases rx
  obtain rfl := hc _ rt
  have p := (I.pin (ea, oe) (show (ea, oe) ∈ (ea, oe) :: (X.pn ++ pins) from List.mem_cons_self)).1
  exact PySem.W.kia_one (kitx_exc c1) I.kIn ⟨oe, p, hC⟩ e (fun z => nomatch z) fun tk => ⟨.bl b, H, I.tok _, rfl, q⟩
theorem pe_isE {ea : Addr} {oe : Obj} {e c : Expr} {te tc : TE} {p pos : Pos} (hg : Gl X "isinstance") (hm : X.mg "isinstance" = none) (he : PE (X.caught ea oe) e te) (hc : PE (X.caught ea oe) c tc)
    (hs : starEach [e, c] X.env = (false, eval e X.env) :: starEach [c] X.env := by rfl) (hs1 : starEach [c] X.env = (false, eval c X.env) :: starEach [] X.env := by rfl) (hpl : (backTo pos (starEach [c] X.env)).any (·.1) = false := by rfl) :
    PE (X.caught ea oe) (.Call (.Name "isinstance" p) [e, c] [] pos) (tCB (rIsE X.K ea oe) (tCons te (tCons tc tNil))) :=
  pe_callB (call_isE (X := X)) hg hm boot_isinstance (pa_cons he (pa_cons hc pa_nil hs1) hs) (by decide) (by decide) hs hpl
end
end L2
set_option Elab.async false
set_option linter.all false
set_option maxRecDepth 100000
set_option maxHeartbeats 4000000
namespace L2
open PySem PySem.Spec PyProof.Rows
def ZipAt (h : Heap) (zp TI TO : Addr) : Prop := ∃ f0 f1, h.get? zp = some { cls := .type "zip", dict := none, data := .fields #[f0, f1, .bool false, .ref TI, .ref TO], slots := #[] } ∧ (f0 = .none ∨ ∃ T : Nat, f0 = rawInt T)
theorem same_ne {a b : Addr} {h h' : Heap} {o : Obj} (x : Heap.SameBut a h h') (n : b ≠ a) (e : h.get? b = some o) : h'.get? b = some o := (x.2 b n).trans e
theorem ne2 {c a b z : Addr} (h : c = a ∨ c = b) (h1 : a ≠ z) (h2 : b ≠ z) : c ≠ z := by
  rcases h with rfl | rfl
  · exact h1
  · exact h2
section
variable {prog : Program} {w : World} {A : Around} {E : Value → Shared → Prop} {s : Shared} {zp TI TO i1 i2 t1 t2 : Addr} {i n1 n2 : Nat} {P1 P2 : Nat → Value → Prop} {S1 S2 : Nat → Heap → Prop}
theorem alive_any {a : Addr} {Q : Option Obj → Shared → Prop} (h : ∀ o, Q o s) : wpAny (model prog w) A (loadIfAlive a) Q E s := by
  first
    | exact fun Γ hΓ p => h _
    | (intro Γ hΓ p; exact h _)
theorem free_any {Q : Bool → Shared → Prop} (hz : ZipAt s.heap zp TI TO) (h : ∀ b h', ZipAt h' zp TI TO → (b = true → ∃ f0 f1, h'.get? zp = some { cls := .type "zip", dict := none, data := .fields #[f0, f1, .bool false, .ref TI, .ref TO], slots := #[] }) → Heap.SameBut zp s.heap h' → Q b { s with heap := h' }) :
    wpAny (model prog w) A (Builtin.SmallTypes.ownedTupleIsFree (.ref zp)) Q E s := by
  obtain ⟨f0, f1, hz, hf⟩ := hz
  have here : ∀ b, Q b s := fun b => h b s.heap ⟨f0, f1, hz, hf⟩ (fun _ => ⟨f0, f1, hz⟩) ⟨rfl, fun _ _ => rfl⟩
  unfold Builtin.SmallTypes.ownedTupleIsFree
  refine wpAny_bind (wpAny_field hz rfl (x := f0) rfl ?_)
  rcases hf with rfl | ⟨T, rfl⟩
  · exact wpAny_pure (here true)
  · show wpAny _ _ (loadIfAlive _ >>= _) _ _ _
    refine wpAny_bind (alive_any fun o => ?_)
    cases o with
    | none => exact wpAny_pure (here true)
    | some ob =>
      refine wpAny_bind (wpAny_field hz rfl (x := f1) rfl ?_)
      refine wpAny_ite_split (fun _ => ?_) (fun _ => wpAny_pure (here false))
      refine wpAny_bind (wpAny_setField_rec hz (by simp) fun h1 e1 s1 => wpAny_pure (h false h1 ⟨_, _, e1, .inr ⟨T, rfl⟩⟩ (fun z => nomatch z) s1))
theorem zip_item {Q : Value → Shared → Prop} (D1 : Draws prog w A i1 [i1, t1] n1 P1 S1) (D2 : Draws prog w A i2 [i2, t2] n2 P2 S2) (ap : ZipApart zp TI TO i1 i2 t1 t2) (hz : ZipAt s.heap zp TI TO) (hI : IsPair s.heap TI (.ref i1) (.ref i2)) (hO : ∃ a b, IsPair s.heap TO a b)
    (h1 : S1 i s.heap) (h2 : S2 i s.heap) (l1 : i < n1) (l2 : i < n2)
    (hQ : ∀ p h' tk x y, P1 i x → P2 i y → s.heap.objs.size ≤ p → IsPair h' p x y → ZipAt h' zp TI TO → IsPair h' TI (.ref i1) (.ref i2) → (∃ a b, IsPair h' TO a b) → S1 (i + 1) h' → S2 (i + 1) h' →
      (∀ c o, c ≠ zp → c ≠ TO → c ≠ i1 → c ≠ i2 → s.heap.get? c = some o → h'.get? c = some o) → Q (.ref p) { s with heap := h', toks := tk }) :
    wpAny (model prog w) A (Builtin.«zip.__next__» ⟨[.ref zp], []⟩) (fun fin s' => ∃ v, fin = .done (.ret v) ∧ Q v s') E s := by
  obtain ⟨f0, f1, hz0, hf0⟩ := id hz
  show wpAny _ _ (field (.ref zp) 2 >>= _) _ _ _
  refine wpAny_bind (wpAny_field hz0 rfl (x := .bool false) rfl ?_)
  show wpAny _ _ (field (.ref zp) 3 >>= _) _ _ _
  refine wpAny_bind (wpAny_field hz0 rfl (x := .ref TI) rfl (wpAny_bind (wpAny_seqItems hI rfl ?_)))
  show wpAny _ _ (Builtin.SmallTypes.ownedTupleIsFree (.ref zp) >>= _) _ _ _
  refine wpAny_bind (free_any hz fun b g0 z0 zf s0 => ?_)
  have fr1 : ∀ {j : Nat} {h h' : Heap}, S1 j h → (∀ c o, c = i1 ∨ c = t1 → h.get? c = some o → h'.get? c = some o) → S1 j h' := fun {j h h'} st k => D1.frame j h h' st fun c hc o e => k c o (by simpa using hc) e
  have fr2 : ∀ {j : Nat} {h h' : Heap}, S2 j h → (∀ c o, c = i2 ∨ c = t2 → h.get? c = some o → h'.get? c = some o) → S2 j h' := fun {j h h'} st k => D2.frame j h h' st fun c hc o e => k c o (by simpa using hc) e
  cases b with
  | true =>
    obtain ⟨g0f, g1f, zz⟩ := zf rfl
    obtain ⟨a, b, hO⟩ := hO
    simp only [if_true]
    refine wpAny_bind (wpAny_rule (wpAny_bind (wpAny_field zz rfl (x := .ref TO) rfl ?_)))
    refine wpAny_bind (wpAny_setField_rec zz (by simp) fun k1 z1 s1 => wpAny_bind ?_)
    simp only [List.zipIdx_cons, List.zipIdx_nil, List.forIn_cons, List.forIn_nil]
    refine wpAny_bind (wpAny_bind (wpAny_onRaise ?_))
    show wpAny _ _ (Builtin.SmallTypes.nextOf (.ref i1) >>= _) _ _ _
    refine wpAny_bind (D1.item i { s with heap := k1 } _ _ l1 (fr1 h1 fun c o hc e => same_ne s1 (ne2 hc ap.i1z ap.l1z) (same_ne s0 (ne2 hc ap.i1z ap.l1z) e)) fun x k2 tk2 p1 st1 s2 => wpAny_pure ?_)
    have O2 : IsPair k2 TO a b := same_ne s2 ap.TOi1 (same_ne s1 ap.TOz (same_ne s0 ap.TOz hO))
    refine wpAny_bind (wpAny_seqItems O2 rfl (wpAny_bind (wpAny_updateSeq_pair O2 fun k3 O3 s3 => wpAny_bind (wpAny_letGo (wpAny_pure ?_)))))
    refine wpAny_bind (wpAny_bind (wpAny_onRaise ?_))
    show wpAny _ _ (Builtin.SmallTypes.nextOf (.ref i2) >>= _) _ _ _
    refine wpAny_bind (D2.item i { s with heap := k3, toks := tk2 } _ _ l2 (fr2 h2 fun c o hc e => same_ne s3 (ne2 hc ap.TOi2.symm ap.l2TO) (same_ne s2 (ne2 hc ap.i12.symm ap.l2i1)
      (same_ne s1 (ne2 hc ap.i2z ap.l2z) (same_ne s0 (ne2 hc ap.i2z ap.l2z) e)))) fun y k4 tk4 p2 st2 s4 => wpAny_pure ?_)
    have O4 : IsPair k4 TO x b := same_ne s4 ap.TOi2 O3
    refine wpAny_bind (wpAny_seqItems O4 rfl (wpAny_bind (wpAny_updateSeq_pair O4 fun k5 O5 s5 => wpAny_bind (wpAny_letGo (wpAny_pure (wpAny_pure ?_))))))
    have O5 : IsPair k5 TO x y := O5
    refine wpAny_bind (wpAny_seqItems O5 rfl (wpAny_bind (wpAny_newTuple ?_)))
    have z5 := same_ne s5 ap.TOz.symm (same_ne s4 ap.i2z.symm (same_ne s3 ap.TOz.symm (same_ne s2 ap.i1z.symm z1)))
    have sz : k5.objs.size = s.heap.objs.size := by rw [s5.1, s4.1, s3.1, s2.1, s1.1, s0.1]
    show wpAny _ _ (Builtin.SmallTypes.ownedTupleHandOut (.ref zp) (.ref k5.objs.size) >>= _) _ _ _
    refine wpAny_bind ?_
    unfold Builtin.SmallTypes.ownedTupleHandOut
    refine wpAny_bind (wpAny_setField_rec (Heap.get?_push_of_some _ z5) (by simp) fun k7 z7 s7 => ?_)
    refine wpAny_setField_rec z7 (by simp) fun k8 z8 s8 => wpAny_pure ⟨_, rfl, ?_⟩
    have nz : k5.objs.size ≠ zp := Nat.ne_of_gt (Heap.lt_size z5)
    have up : ∀ c o, c ≠ zp → k5.get? c = some o → k8.get? c = some o := fun c o n e => same_ne s8 n (same_ne s7 n (Heap.get?_push_of_some _ e))
    have all : ∀ c o, c ≠ zp → c ≠ TO → c ≠ i1 → c ≠ i2 → s.heap.get? c = some o → k8.get? c = some o := fun c o c1 c2 c3 c4 e =>
      up c o c1 (same_ne s5 c2 (same_ne s4 c4 (same_ne s3 c2 (same_ne s2 c3 (same_ne s1 c1 (same_ne s0 c1 e))))))
    refine hQ k5.objs.size k8 _ x y p1 p2 (by rw [sz]; exact Nat.le_refl _) (same_ne s8 nz (same_ne s7 nz (Heap.get?_push_size _ rfl))) ⟨_, _, z8, .inr ⟨k5.objs.size, rfl⟩⟩ (all _ _ ap.TIz ap.TITO ap.TIi1 ap.TIi2 hI) ⟨x, y, up _ _ ap.TOz O5⟩ ?_ ?_ all
    · exact fr1 st1 fun c o hc e => up c o (ne2 hc ap.i1z ap.l1z) (same_ne s5 (ne2 hc ap.TOi1.symm ap.l1TO) (same_ne s4 (ne2 hc ap.i12 ap.l1i2) (same_ne s3 (ne2 hc ap.TOi1.symm ap.l1TO) e)))
    · exact fr2 st2 fun c o hc e => up c o (ne2 hc ap.i2z ap.l2z) (same_ne s5 (ne2 hc ap.TOi2.symm ap.l2TO) e)
  | false =>
    simp only [Bool.false_eq_true, if_false]
    refine wpAny_bind (wpAny_arrayLoop ?_)
    simp only [List.forIn_cons, List.forIn_nil]
    refine wpAny_bind (wpAny_bind (wpAny_holding ?_))
    show wpAny _ _ (Builtin.SmallTypes.nextOf (.ref i1) >>= _) _ _ _
    refine wpAny_bind (D1.item i { s with heap := g0 } _ _ l1 (fr1 h1 fun c o hc e => same_ne s0 (ne2 hc ap.i1z ap.l1z) e) fun x k2 tk2 p1 st1 s2 => wpAny_pure (wpAny_pure ?_))
    refine wpAny_bind (wpAny_bind (wpAny_holding ?_))
    show wpAny _ _ (Builtin.SmallTypes.nextOf (.ref i2) >>= _) _ _ _
    refine wpAny_bind (D2.item i { s with heap := k2, toks := tk2 } _ _ l2 (fr2 h2 fun c o hc e => same_ne s2 (ne2 hc ap.i12.symm ap.l2i1) (same_ne s0 (ne2 hc ap.i2z ap.l2z) e)) fun y k4 tk4 p2 st2 s4 => wpAny_pure (wpAny_pure (wpAny_pure ?_)))
    refine wpAny_bind (wpAny_newTuple (hsz := by show 2 ≤ sizeLine; decide) (wpAny_pure ⟨_, rfl, ?_⟩))
    have sz : k4.objs.size = s.heap.objs.size := by rw [s4.1, s2.1, s0.1]
    have all : ∀ c o, c ≠ zp → c ≠ i1 → c ≠ i2 → s.heap.get? c = some o → k4.get? c = some o := fun c o c1 c3 c4 e => same_ne s4 c4 (same_ne s2 c3 (same_ne s0 c1 e))
    obtain ⟨f0', f1', z4, hf4⟩ := z0
    obtain ⟨a, b, hO⟩ := hO
    refine hQ k4.objs.size _ _ x y p1 p2 (by rw [sz]; exact Nat.le_refl _) (Heap.get?_push_size _ rfl) ⟨f0', f1', Heap.get?_push_of_some _ (same_ne s4 ap.i2z.symm (same_ne s2 ap.i1z.symm z4)), hf4⟩ (Heap.get?_push_of_some _ (all _ _ ap.TIz ap.TIi1 ap.TIi2 hI))
      ⟨a, b, Heap.get?_push_of_some _ (all _ _ ap.TOz ap.TOi1 ap.TOi2 hO)⟩ (fr1 st1 fun c o hc e => Heap.get?_push_of_some _ (same_ne s4 (ne2 hc ap.i12 ap.l1i2) e)) (fr2 st2 fun c o hc e => Heap.get?_push_of_some _ e)
      (fun c o c1 _ c3 c4 e => Heap.get?_push_of_some _ (all c o c1 c3 c4 e))
theorem zip_end {Q : Fin → Shared → Prop} (D1 : Draws prog w A i1 [i1, t1] n1 P1 S1) (ap : ZipApart zp TI TO i1 i2 t1 t2) (hz : ZipAt s.heap zp TI TO) (hI : IsPair s.heap TI (.ref i1) (.ref i2)) (hO : ∃ a b, IsPair s.heap TO a b) (h1 : S1 n1 s.heap)
    (hE : ∀ h' e, (∀ c o, c ≠ zp → c ≠ i1 → s.heap.get? c = some o → h'.get? c = some o) → (∃ o, h'.get? e = some o ∧ o.cls = .type "StopIteration") → E (.ref e) { s with heap := h' }) :
    wpAny (model prog w) A (Builtin.«zip.__next__» ⟨[.ref zp], []⟩) Q E s := by
  obtain ⟨f0, f1, hz0, hf0⟩ := id hz
  show wpAny _ _ (field (.ref zp) 2 >>= _) _ _ _
  refine wpAny_bind (wpAny_field hz0 rfl (x := .bool false) rfl ?_)
  show wpAny _ _ (field (.ref zp) 3 >>= _) _ _ _
  refine wpAny_bind (wpAny_field hz0 rfl (x := .ref TI) rfl (wpAny_bind (wpAny_seqItems hI rfl ?_)))
  show wpAny _ _ (Builtin.SmallTypes.ownedTupleIsFree (.ref zp) >>= _) _ _ _
  refine wpAny_bind (free_any hz fun b g0 z0 zf s0 => ?_)
  have fr1 : ∀ {j : Nat} {h h' : Heap}, S1 j h → (∀ c o, c = i1 ∨ c = t1 → h.get? c = some o → h'.get? c = some o) → S1 j h' := fun {j h h'} st k => D1.frame j h h' st fun c hc o e => k c o (by simpa using hc) e
  cases b with
  | true =>
    obtain ⟨g0f, g1f, zz⟩ := zf rfl
    simp only [if_true]
    refine wpAny_bind (wpAny_rule (wpAny_bind (wpAny_field zz rfl (x := .ref TO) rfl ?_)))
    refine wpAny_bind (wpAny_setField_rec zz (by simp) fun k1 z1 s1 => wpAny_bind ?_)
    simp only [List.zipIdx_cons, List.zipIdx_nil, List.forIn_cons, List.forIn_nil]
    refine wpAny_bind (wpAny_bind (wpAny_onRaise ?_))
    show wpAny _ _ (Builtin.SmallTypes.nextOf (.ref i1) >>= _) _ _ _
    refine wpAny_bind (D1.done { s with heap := k1 } _ _ (fr1 h1 fun c o hc e => same_ne s1 (ne2 hc ap.i1z ap.l1z) (same_ne s0 (ne2 hc ap.i1z ap.l1z) e)) fun k2 e s2 he => ?_)
    obtain ⟨oe, hoe, hce⟩ := he
    have z2 := s2 _ _ ap.i1z.symm z1
    have ne : e ≠ zp := fun x => by subst x; rw [z2] at hoe; cases hoe; simp at hce
    exact wpAny_setField_rec z2 (by simp) fun k3 _ s3 => hE k3 e (fun c o c1 c3 x => same_ne s3 c1 (s2 _ _ c3 (same_ne s1 c1 (same_ne s0 c1 x)))) ⟨oe, same_ne s3 ne hoe, hce⟩
  | false =>
    simp only [Bool.false_eq_true, if_false]
    refine wpAny_bind (wpAny_arrayLoop ?_)
    simp only [List.forIn_cons, List.forIn_nil]
    refine wpAny_bind (wpAny_bind (wpAny_holding ?_))
    show wpAny _ _ (Builtin.SmallTypes.nextOf (.ref i1) >>= _) _ _ _
    exact wpAny_bind (D1.done { s with heap := g0 } _ _ (fr1 h1 fun c o hc e => same_ne s0 (ne2 hc ap.i1z ap.l1z) e) fun k2 e s2 he => hE k2 e (fun c o c1 c3 x => s2 _ _ c3 (same_ne s0 c1 x)) he)
end
end L2
set_option Elab.async false
set_option linter.all false
set_option maxRecDepth 100000
set_option maxHeartbeats 4000000
namespace L2
open PySem PySem.Spec PyProof.Rows
section
variable {X : Cx} {pins : List (Addr × Obj)} {σ : St} {H : Hp} {s : Shared}
theorem Inv.turnedL {h' : Heap} {t' : Nat} (ch : List Addr) (I : Inv X pins σ H s) (hf : ∀ b ∈ ch, FpOk X pins H b) (kp : ∀ b o, b ∉ ch → s.heap.get? b = some o → h'.get? b = some o) : Inv X pins σ H { s with heap := h', toks := t' } := by
  have nch : ∀ b u, H b = some u → b ∉ ch := fun b u e z => by rw [(hf b z).1] at e; cases e
  refine I.step (g' := s.gens) (d' := s.drawn) (ch := ch) (fun b hb => ?_) (fun b o _ _ hc e _ => kp b o hc e) (fun b o _ _ hc e _ => ⟨o.slots, kp b o hc e⟩) (fun _ _ _ _ n => n)
    (fun b o hc e => ⟨o, kp b o hc e⟩) (fun _ _ e => e) (fun _ _ _ e => e) (fun b ps e => ⟨#[], by rw [e]; simp⟩) (fun m hm => ?_) (fun b u e => ?_) I.bare
  · obtain ⟨_, f1, _, f3, f4, f5⟩ := hf b hb
    exact ⟨f3, f1, f4, f5⟩
  · obtain ⟨o, es, ep, ho, r⟩ := hm
    exact ⟨o, es, ep, kp _ o (fun z => (hf _ z).2.1 rfl) ho, r⟩
  · refine (I.hok b u e).stay (fun c v hc q => kp c v ?_ q) (fun _ q => q) fun _ _ q => q
    rcases hc with z | z
    · rw [z]; exact nch b u e
    · exact nch c _ z
end
structure Src (P : Program) (w : World) (K : PySem.W.Frag) (it t : Addr) (src : Hp → List V → Prop) (si : Nat → Heap → Prop) (ct : Array Value → Heap → Prop) : Prop where
  obj : ∀ i h, si i h → ∃ o, h.get? it = some o ∧ ∀ v, o.data ≠ .cell v
  keep : ∀ i h h', si i h → (∀ o, h.get? it = some o → h'.get? it = some o) → si i h'
  draws : ∀ (A : Around), A.handled = none → ∀ items, Draws P w A it [it, t] items.size (fun i v => items[i]? = some v) (fun i h => si i h ∧ ct items h)
  items : ∀ (X : Cx), X.prog = P → X.w = w → X.K = K → ∀ (pins : List (Addr × Obj)) (s : Shared) (σ : St) (H : Hp) xs, Inv X pins σ H s → src H xs → ∃ its : List Value, Vals xs its ∧ ct its.toArray s.heap ∧ xs.length ≤ sizeLine
  inj : ∀ (X : Cx), X.prog = P → X.w = w → X.K = K → ∀ (pins : List (Addr × Obj)) (s : Shared) (σ : St) (H : Hp) xs ys, Inv X pins σ H s → src H xs → src H ys → xs = ys
theorem nlt {x y : Nat} (h : x < y) : x ≠ y := Nat.ne_of_lt h
theorem ngt {x y : Nat} (h : y < x) : x ≠ y := Nat.ne_of_gt h
theorem apart_new (n a b : Nat) (ha : a < n) (hb : b < n) : ZipApart (n + 4) (n + 2) (n + 3) n (n + 1) a b :=
  ⟨nlt (x := n + 2) (y := n + 4) (by omega), nlt (x := n + 3) (y := n + 4) (by omega), nlt (x := n) (y := n + 4) (by omega), nlt (x := n + 1) (y := n + 4) (by omega), nlt (x := n + 2) (y := n + 3) (by omega), ngt (x := n + 2) (y := n) (by omega), ngt (x := n + 2) (y := n + 1) (by omega), ngt (x := n + 3) (y := n) (by omega), ngt (x := n + 3) (y := n + 1) (by omega), nlt (x := n) (y := n + 1) (by omega), nlt (x := a) (y := n + 4) (by omega), nlt (x := a) (y := n + 3) (by omega), nlt (x := a) (y := n) (by omega), nlt (x := a) (y := n + 1) (by omega), nlt (x := b) (y := n + 4) (by omega), nlt (x := b) (y := n + 3) (by omega), nlt (x := b) (y := n) (by omega), nlt (x := b) (y := n + 1) (by omega)⟩
def ItZ (s1 s2 : Hp → List V → Prop) : It :=
  ⟨fun i H => ∃ xs ys, s1 H xs ∧ s2 H ys ∧ xs.length = ys.length ∧ i < xs.length, fun i H v H' => ∃ p x y, v = .ref p ∧ H p = none ∧ H' = upd H p (.tup [x, y]) ∧ ∀ xs ys, s1 H xs → s2 H ys → xs[i]? = some x ∧ ys[i]? = some y,
    fun i H => ∃ xs ys, s1 H xs ∧ s2 H ys ∧ xs.length = ys.length ∧ i = xs.length⟩
theorem turn_zip {P : Program} {w : World} {K : PySem.W.Frag} {zp TI TO i1 i2 t1 t2 : Addr} {sr1 sr2 : Hp → List V → Prop} {si1 si2 : Nat → Heap → Prop} {ct1 ct2 : Array Value → Heap → Prop} (ap : ZipApart zp TI TO i1 i2 t1 t2)
    (S1 : Src P w K i1 t1 sr1 si1 ct1) (S2 : Src P w K i2 t2 sr2 si2 ct2) :
    Turn P w K nmT (ItZ sr1 sr2) [zp, TI, TO, i1, i2] zp (fun i h => ZipAt h zp TI TO ∧ IsPair h TI (.ref i1) (.ref i2) ∧ (∃ a b, IsPair h TO a b) ∧ si1 i h ∧ si2 i h) where
  mem := by simp
  obj := fun i h ⟨⟨f0, f1, z, _⟩, h1, ⟨a, b, h2⟩, h3, h4⟩ c hc => by
    simp only [List.mem_cons, List.not_mem_nil, or_false] at hc
    rcases hc with rfl | rfl | rfl | rfl | rfl
    · exact ⟨_, z, fun v q => by cases q⟩
    · exact ⟨_, h1, fun v q => by cases q⟩
    · exact ⟨_, h2, fun v q => by cases q⟩
    · exact S1.obj i h h3
    · exact S2.obj i h h4
  keep := fun i h h' ⟨⟨f0, f1, z, zz⟩, h1, ⟨a, b, h2⟩, h3, h4⟩ k =>
    ⟨⟨f0, f1, k zp (by simp) _ z, zz⟩, k TI (by simp) _ h1, ⟨a, b, k TO (by simp) _ h2⟩, S1.keep i h h' h3 fun o e => k i1 (by simp) o e, S2.keep i h h' h4 fun o e => k i2 (by simp) o e⟩
  item := by
    intro X hP hw hK hc i pins s σ H E I hf st hg
    subst hP hw hK
    obtain ⟨xs, ys, q1, q2, hl, hi⟩ := hg
    obtain ⟨its1, r1, c1, z1⟩ := S1.items X rfl rfl rfl pins s σ H xs I q1
    obtain ⟨its2, r2, c2, z2⟩ := S2.items X rfl rfl rfl pins s σ H ys I q2
    obtain ⟨hz, hI, hO, h1, h2⟩ := st
    obtain ⟨f0, f1, hz0, _⟩ := id hz
    have hT : s.TypeIs (.ref zp) "zip" := ⟨_, hz0, rfl⟩
    have e1 := r1.length
    have e2 := r2.length
    unfold pyNext
    refine wpAny_bind (wpAny_attempt (wpAny_callSpecial?_slot (name := Str.ofString "__next__") hT F.slot_zip_next (wpAny_call_entry F.slot_zip_next hT F.entry_zip_next
      (zip_item (i := i) (S1.draws X.A.in1 (I.ok.hd hc) its1.toArray) (S2.draws X.A.in1 (I.ok.hd hc) its2.toArray) ap hz hI hO ⟨h1, c1⟩ ⟨h2, c2⟩ (by rw [List.size_toArray]; omega) (by rw [List.size_toArray]; omega) fun p h' tk x y p1 p2 hp hp' z' I' O' st1 st2 kp => wpAny_pure ?_) (F.args_zip_next_1 _))))
    refine ⟨.ref p, rfl, ?_⟩
    show wpAny _ _ (pure () : Sem Unit) _ _ _
    have fp : ∀ b ∈ [zp, TO, i1, i2], FpOk X pins H b := fun b hb => hf b (by simp only [List.mem_cons, List.not_mem_nil, or_false] at hb ⊢; rcases hb with h | h | h | h <;> simp [h])
    have J : Inv X pins σ H { s with heap := h', toks := tk } := I.turnedL [zp, TO, i1, i2] fp fun b o hb e => by
      simp only [List.mem_cons, List.not_mem_nil, or_false, not_or] at hb
      exact kp b o hb.1 hb.2.1 hb.2.2.1 hb.2.2.2 e
    have g1 : xs[i]? = some (xs[i]'hi) := List.getElem?_eq_getElem hi
    have g2 : ys[i]? = some (ys[i]'(hl ▸ hi)) := List.getElem?_eq_getElem (hl ▸ hi)
    obtain ⟨u1, k1, v1⟩ := r1.get g1
    obtain ⟨u2, k2, v2⟩ := r2.get g2
    have ex : u1 = x := by have q : its1[i]? = some x := by simpa using p1
                           rw [k1] at q; exact Option.some.inj q
    have ey : u2 = y := by have q : its2[i]? = some y := by simpa using p2
                           rw [k2] at q; exact Option.some.inj q
    subst ex ey
    have hpn : H p = none := I.hok.fresh hp
    have J2 := J.adopt (D := p) (o := .tup [xs[i]'hi, ys[i]'(hl ▸ hi)]) (I.fpOk hp hpn) ⟨by show 2 ≤ sizeLine; decide, [u1, u2], .cons v1 (.cons v2 .nil), ⟨_, hp', rfl, _, rfl⟩⟩
    refine wpAny_pure ⟨.ref p, _, J2, rfl, ⟨p, _, _, rfl, hpn, rfl, fun xs' ys' a b => ?_⟩, ⟨z', I', O', st1.1, st2.1⟩, fun b hb => ?_⟩
    · rw [S1.inj X rfl rfl rfl pins s σ H xs' xs I a q1, S2.inj X rfl rfl rfl pins s σ H ys' ys I b q2]; exact ⟨g1, g2⟩
    · have hbl : b < s.heap.objs.size := by
        simp only [List.mem_cons, List.not_mem_nil, or_false] at hb
        obtain ⟨a', b', hO'⟩ := hO
        obtain ⟨o1, w1, _⟩ := S1.obj _ _ h1
        obtain ⟨o2, w2, _⟩ := S2.obj _ _ h2
        rcases hb with rfl | rfl | rfl | rfl | rfl
        · exact Heap.lt_size hz0
        · exact Heap.lt_size hI
        · exact Heap.lt_size hO'
        · exact Heap.lt_size w1
        · exact Heap.lt_size w2
      rw [upd_ne (Nat.ne_of_lt (Nat.lt_of_lt_of_le hbl hp))]
      exact (hf b hb).1
  done := by
    intro X hP hw hK hc i pins s σ H E I hf st hg
    subst hP hw hK
    obtain ⟨xs, ys, q1, q2, hl, hi⟩ := hg
    obtain ⟨its1, r1, c1, z1⟩ := S1.items X rfl rfl rfl pins s σ H xs I q1
    obtain ⟨hz, hI, hO, h1, h2⟩ := st
    obtain ⟨f0, f1, hz0, _⟩ := id hz
    have hT : s.TypeIs (.ref zp) "zip" := ⟨_, hz0, rfl⟩
    have e1 := r1.length
    have hin : i = its1.toArray.size := by rw [List.size_toArray]; omega
    subst hin
    unfold pyNext
    refine wpAny_bind (wpAny_attempt (wpAny_callSpecial?_slot (name := Str.ofString "__next__") hT F.slot_zip_next (wpAny_call_entry F.slot_zip_next hT F.entry_zip_next
      (zip_end (S1.draws X.A.in1 (I.ok.hd hc) its1.toArray) ap hz hI hO ⟨h1, c1⟩ fun h' e kp he => ?_) (F.args_zip_next_1 _))))
    obtain ⟨o, ho, hcl⟩ := he
    refine wpAny_bind (wpAny_isInstance (T := "StopIteration") (b := true) ⟨o, ho, hcl⟩ isSubtype_stop (wpAny_pure ⟨rfl, ?_⟩))
    exact I.turnedL (t' := s.toks) [zp, i1] (fun b hb => hf b (by simp only [List.mem_cons, List.not_mem_nil, or_false] at hb ⊢; rcases hb with h | h <;> simp [h])) fun b o hb e => by
      simp only [List.mem_cons, List.not_mem_nil, or_false, not_or] at hb
      exact kp b o hb.1 hb.2 e
  self := fun A i s Q E ⟨⟨f0, f1, z, _⟩, _⟩ h => by
    have hT : s.TypeIs (.ref zp) "zip" := ⟨_, z, rfl⟩
    exact wpAny_pyIter_slot hT F.slot_zip_iter (wpAny_call_entry F.slot_zip_iter hT F.entry_zip_iter (wpAny_pure ⟨_, rfl, "zip", _, hT, F.slot_zip_next.lookup, h⟩) (F.args_zip_iter_1 _))
theorem src_tup {P : Program} {w : World} {K : PySem.W.Frag} {it a : Addr} (ne : a ≠ it) : Src P w K it a (fun H ys => SqT K H a ys) (fun i h => h.IsTupleIter it a i) (fun items h => h.IsTuple a items) :=
  ⟨fun i h ⟨o, e1, _, e2⟩ => ⟨o, e1, fun v z => by rw [e2] at z; cases z⟩, fun i h h' ⟨o, e1, r⟩ k => ⟨o, k o e1, r⟩, fun A hh items => draws_tup hh it a ne items,
    fun X' hP hw hK pins' s' σ' H' ys I' hy => by
      rw [← hK] at hy
      obtain ⟨its', rv', pt', hz''⟩ := I'.tuple hy
      exact ⟨its', rv', pt', hz''⟩,
    fun X' hP hw hK pins' s' σ' H' ys zs I' hy hzs => by rw [← hK] at hy hzs; exact I'.tuple_inj hy hzs⟩
section
variable {prog : Program} {w : World} {A : Around} {E : Value → Shared → Prop} {s : Shared}
theorem zip_no_len : typeLookup (.type "zip") "__len__" = pure none := by rw [typeLookup_type, builtinLookup_eq_fast]; kernel_rfl
theorem zip_no_hint : typeLookup (.type "zip") "__length_hint__" = pure none := by rw [typeLookup_type, builtinLookup_eq_fast]; kernel_rfl
theorem asked_zip : Asked prog w "zip" where
  nl := by decide
  nt := by decide
  hint := fun A E a s Q hT h => by
    unfold Builtin.List.listLengthHint
    refine wpAny_bind (wpAny_specialOf hT zip_no_len ?_)
    show wpAny _ _ (specialOf (Value.ref a) (Str.ofString "__length_hint__") >>= _) _ _ _
    exact wpAny_bind (wpAny_specialOf hT zip_no_hint (wpAny_pure (h true)))
end
abbrev zT1 (h : Heap) (l1 : Addr) : Heap := h.push { cls := .type "tuple_iterator", data := .fields #[.ref l1, .int 0 0] }
abbrev zT2 (h : Heap) (l1 l2 : Addr) : Heap := (zT1 h l1).push { cls := .type "tuple_iterator", data := .fields #[.ref l2, .int 0 0] }
abbrev zT3 (h : Heap) (l1 l2 : Addr) : Heap := (zT2 h l1 l2).push { cls := .type "tuple", data := .seq #[.ref h.objs.size, .ref (zT1 h l1).objs.size] }
abbrev zT4 (h : Heap) (l1 l2 : Addr) : Heap := (zT3 h l1 l2).push { cls := .type "tuple", data := .seq #[.none, .none] }
abbrev zT5 (h : Heap) (l1 l2 : Addr) : Heap := (zT4 h l1 l2).push { cls := .type "zip", data := .fields #[.none, .bool false, .bool false, .ref (zT2 h l1 l2).objs.size, .ref (zT3 h l1 l2).objs.size] }
theorem new_zipT (l1 l2 : Addr) (xs ys : Array Value) :
    Meets (Builtin.«zip.__new__» ⟨[.type "zip", .ref l1, .ref l2], []⟩) (fun _ R s => s.heap.IsTuple l1 xs ∧ s.heap.IsTuple l2 ys ∧ R (.ok (.ret (.ref (zT4 s.heap l1 l2).objs.size))) { s with heap := zT5 s.heap l1 l2 }) :=
  .of_wp fun prog w A R s h => by
    obtain ⟨hp, g, d, tk, os⟩ := s; obtain ⟨hl1, hl2, h⟩ := h
    have hsub := sub_zip
    have e1 : Heap.IsTuple (Shared.heap ⟨hp, g, d, tk, os⟩) l1 xs := hl1
    have e2 : Heap.IsTuple (Shared.heap ⟨hp.push { cls := .type "tuple_iterator", data := .fields #[.ref l1, .int 0 0] }, g, d, tk, os⟩) l2 ys := let ⟨o, q, r⟩ := hl2; ⟨o, Heap.get?_push_of_some _ q, r⟩
    wp_walk using wpAny_pyIter_tuple e1, wpAny_pyIter_tuple e2
    exact ⟨_, rfl, h⟩
theorem call_zipT {prog : Program} {w : World} {A : Around} {E : Value → Shared → Prop} {s : Shared} {l1 l2 : Addr} {xs ys : Array Value} {Q : Value → Shared → Prop} (e1 : s.heap.IsTuple l1 xs) (e2 : s.heap.IsTuple l2 ys)
    (h : ∀ h', ZipAt h' (s.heap.objs.size + 4) (s.heap.objs.size + 2) (s.heap.objs.size + 3) → IsPair h' (s.heap.objs.size + 2) (.ref s.heap.objs.size) (.ref (s.heap.objs.size + 1)) → IsPair h' (s.heap.objs.size + 3) .none .none →
      h'.IsTupleIter s.heap.objs.size l1 0 → h'.IsTupleIter (s.heap.objs.size + 1) l2 0 → (∀ c o, s.heap.get? c = some o → h'.get? c = some o) → Q (.ref (s.heap.objs.size + 4)) { s with heap := h' }) :
    wpAny (model prog w) A (call (.type "zip") [.ref l1, .ref l2]) Q E s := by
  refine callType_new F.called_zip (by decide) (F.typeCall_zip_2 _ _) (F.newCall_zip_2 _ _) (fun obj => F.args_object_init_3 obj _ _) F.entry_zip_new (new_zipT l1 l2 xs ys) ⟨e1, e2, ?_⟩
  have n1 : (zT1 s.heap l1).objs.size = s.heap.objs.size + 1 := Heap.size_push ..
  have n2 : (zT2 s.heap l1 l2).objs.size = s.heap.objs.size + 2 := by rw [Heap.size_push, n1]
  have n3 : (zT3 s.heap l1 l2).objs.size = s.heap.objs.size + 3 := by rw [Heap.size_push, n2]
  have n4 : (zT4 s.heap l1 l2).objs.size = s.heap.objs.size + 4 := by rw [Heap.size_push, n3]
  have k5 : (zT5 s.heap l1 l2).get? (zT4 s.heap l1 l2).objs.size = some _ := Heap.get?_push_size _ rfl
  have k4 : (zT5 s.heap l1 l2).get? (zT3 s.heap l1 l2).objs.size = some _ := Heap.get?_push_of_some _ (Heap.get?_push_size _ rfl)
  have k3 : (zT5 s.heap l1 l2).get? (zT2 s.heap l1 l2).objs.size = some _ := Heap.get?_push_of_some _ (Heap.get?_push_of_some _ (Heap.get?_push_size _ rfl))
  have k2 : (zT5 s.heap l1 l2).get? (zT1 s.heap l1).objs.size = some _ := Heap.get?_push_of_some _ (Heap.get?_push_of_some _ (Heap.get?_push_of_some _ (Heap.get?_push_size _ rfl)))
  have k1 : (zT5 s.heap l1 l2).get? s.heap.objs.size = some _ := Heap.get?_push_of_some _ (Heap.get?_push_of_some _ (Heap.get?_push_of_some _ (Heap.get?_push_of_some _ (Heap.get?_push_size _ rfl))))
  show _ ∧ _
  rw [n2, n3, n4] at k5; rw [n1, n2] at k3; rw [n3] at k4; rw [n1] at k2; rw [n4]
  exact ⟨⟨_, k5, rfl⟩, h _ ⟨_, _, k5, .inl rfl⟩ k3 k4 ⟨_, k1, rfl, rfl⟩ ⟨_, k2, rfl, rfl⟩ fun c o x => Heap.get?_push_of_some _ (Heap.get?_push_of_some _ (Heap.get?_push_of_some _ (Heap.get?_push_of_some _ (Heap.get?_push_of_some _ x))))⟩
section
variable {X : Cx} {e1 e2 : Expr} {ta : TA} {p pos : Pos}
def iZT (K : PySem.W.Frag) (ta : TA) : TI := fun σ H R => ta σ H fun vs H1 => ∃ a b xs ys, vs = [.ref a, .ref b] ∧ SqT K H1 a xs ∧ SqT K H1 b ys ∧ R (ItZ (fun H zs => SqT K H a zs) fun H zs => SqT K H b zs) H1
theorem pil_zipT (hg : Gl X "zip") (hm : X.mg "zip" = none) (ha : PA X [e1, e2] ta) (hs : starEach [e1, e2] X.env = (false, eval e1 X.env) :: starEach [e2] X.env := by rfl) (hpl : (backTo pos (starEach [e2] X.env)).any (·.1) = false := by rfl) :
    PIL X (.Call (.Name "zip" p) [e1, e2] [] pos) (iZT X.K ta) := by
  intro pins s σ H R I h
  refine Call_ (ld_blt I hg hm boot_zip (PyProof.Rows.callWith_type1 (thn (ha pos pins s σ H _ I h) fun us s1 ⟨vs, H1, I1, r1, q1⟩ => ?_) hs hpl))
  obtain ⟨a, b, xs, ys, e, hq1, hq2, q⟩ := q1
  subst e
  obtain ⟨u, v, rfl, ru, rv⟩ := vals2 r1
  cases ru
  cases rv
  obtain ⟨its1, rv1, pt1, hz1⟩ := I1.tuple hq1
  obtain ⟨its2, rv2, pt2, hz2⟩ := I1.tuple hq2
  have la : a < s1.heap.objs.size := pt1.lt
  have lb : b < s1.heap.objs.size := pt2.lt
  refine call_zipT (xs := its1.toArray) (ys := its2.toArray) (show s1.heap.IsTuple a its1.toArray from pt1) (show s1.heap.IsTuple b its2.toArray from pt2) fun h' zz p1 p2 t1 t2 kp => ?_
  have ap : ZipApart (s1.heap.objs.size + 4) (s1.heap.objs.size + 2) (s1.heap.objs.size + 3) s1.heap.objs.size (s1.heap.objs.size + 1) a b := apart_new _ a b la lb
  have ty : Shared.TypeIs { s1 with heap := h' } (.ref (s1.heap.objs.size + 4)) "zip" := let ⟨_, _, z, _⟩ := zz; ⟨_, z, rfl⟩
  have ls : ∀ c, c = s1.heap.objs.size + 4 ∨ c = s1.heap.objs.size + 2 ∨ c = s1.heap.objs.size + 3 ∨ c = s1.heap.objs.size ∨ c = s1.heap.objs.size + 1 → s1.heap.objs.size ≤ c := fun c hc => by rcases hc with rfl | rfl | rfl | rfl | rfl <;> first | exact Nat.le_refl _ | exact Nat.le_add_right _ _
  refine ⟨H1, "zip", s1.heap.objs.size + 4, rfl, I1.kept (t' := s1.toks) kp, ty, asked_zip, ?_⟩
  intro A' pm s2 E h1 h2 k2 hpm I2
  have T := turn_zip (P := X.prog) (w := X.w) (K := X.K) ap (src_tup (Nat.ne_of_lt la)) (src_tup (Nat.ne_of_lt (Nat.lt_succ_of_lt lb)))
  have tn0 : ZipAt s2.heap (s1.heap.objs.size + 4) (s1.heap.objs.size + 2) (s1.heap.objs.size + 3) ∧ IsPair s2.heap (s1.heap.objs.size + 2) (.ref s1.heap.objs.size) (.ref (s1.heap.objs.size + 1)) ∧ (∃ a b, IsPair s2.heap (s1.heap.objs.size + 3) a b) ∧ s2.heap.IsTupleIter s1.heap.objs.size a 0 ∧ s2.heap.IsTupleIter (s1.heap.objs.size + 1) b 0 :=
    T.keep 0 h' s2.heap ⟨zz, p1, ⟨_, _, p2⟩, t1, t2⟩ fun c _ o e => k2 c o e
  refine T.self A' 0 s2 _ E tn0 ⟨⟨s1.heap.objs.size + 4, _, _, _, H1, rfl, I2, T, tn0, fun c hc => ?_, q⟩, let ⟨_, _, z, _⟩ := tn0.1; ⟨_, z, rfl⟩⟩
  have hc' : c = s1.heap.objs.size + 4 ∨ c = s1.heap.objs.size + 2 ∨ c = s1.heap.objs.size + 3 ∨ c = s1.heap.objs.size ∨ c = s1.heap.objs.size + 1 := by simpa using hc
  have f := I1.fpOk (H' := H1) (ls c hc') (I1.hok.fresh (ls c hc'))
  refine ⟨f.1, f.2.1, f.2.2.1, f.2.2.2.1, f.2.2.2.2.1, fun pr hp => ?_⟩
  rcases List.mem_append.mp hp with z | z
  · exact f.2.2.2.2.2 pr (List.mem_append_left _ z)
  · rcases List.mem_append.mp z with z | z
    · exact f.2.2.2.2.2 pr (List.mem_append_right _ z)
    · have := hpm pr z
      obtain ⟨o, ho, _⟩ := T.obj 0 h' ⟨zz, p1, ⟨_, _, p2⟩, t1, t2⟩ c hc
      have hlt := Heap.lt_size ho
      exact Nat.ne_of_gt (Nat.lt_of_lt_of_le hlt this)
end
section
variable {X : Cx} {e1 e2 : Expr} {ta : TA} {p pos : Pos}
end
theorem list_zip {s1 s2 : Hp → List V → Prop} {xs ys : List V} {H : Hp} {Fin : List V → Hp → Prop} (Pv : Nat → List V → Hp → Prop) (hl : xs.length = ys.length) (hz : xs.length < sizeLine) (h0 : Pv 0 [] H) (hs : ∀ i zs H, Pv i zs H → s1 H xs ∧ s2 H ys ∧ zs.length = i)
    (step : ∀ i zs H p x y, Pv i zs H → xs[i]? = some x → ys[i]? = some y → H p = none → Pv (i + 1) (zs ++ [.ref p]) (upd H p (.tup [x, y]))) (fin : ∀ zs H, Pv xs.length zs H → Fin zs H) : ListW (ItZ s1 s2) H Fin := by
  refine ⟨fun i m zs H => m = xs.length - i ∧ i ≤ xs.length ∧ Pv i zs H, ⟨_, rfl, Nat.zero_le _, h0⟩, ?_⟩
  rintro i m zs H ⟨rfl, hi, p⟩
  obtain ⟨a, b, c⟩ := hs i zs H p
  by_cases hlt : i < xs.length
  · refine .inr ⟨⟨xs, ys, a, b, hl, hlt⟩, by omega, fun v H' ⟨q, x, y, e1, e2, e3, e4⟩ => ?_⟩
    subst e1 e3
    obtain ⟨g1, g2⟩ := e4 xs ys a b
    exact ⟨xs.length - (i + 1), by omega, rfl, hlt, step i zs H q x y p g1 g2 e2⟩
  · have e : i = xs.length := by omega
    subst e
    exact .inl ⟨⟨xs, ys, a, b, hl, rfl⟩, by omega, fin zs H p⟩
end L2
set_option Elab.async false
set_option linter.all false
set_option maxRecDepth 100000
set_option maxHeartbeats 4000000
namespace Wk
open PySem L2
structure Plain2 (mg : Str → Option Value) : Prop where
  zip : mg "zip" = none
  str : mg "str" = none
  ve : mg "ValueError" = none
section
variable {K : PySem.W.Frag} {H : Hp}
end
section
variable (K : PySem.W.Frag) (C : Addr)
end
end Wk
set_option Elab.async false
set_option linter.all false
set_option maxRecDepth 100000
set_option maxHeartbeats 4000000
namespace L2
open PySem PySem.Spec PyProof.Rows
section
variable {X : Cx}
theorem call_dictD : CallR X (.type "dict") (fun xs H Q => ∃ a kvs, xs = [V.ref a] ∧ H a = some (.dK kvs) ∧ ∀ p, H p = none → Q (.ref p) (upd H p (.dK kvs))) := by
  intro pins s σ H xs us Q I r h
  obtain ⟨a, kvs, rfl, ha, q⟩ := h
  obtain ⟨u, rfl, ru⟩ := vals1 r
  cases ru
  obtain ⟨z, hd, vs, rel, dd⟩ := dk_of I.hok ha
  have big := I.big
  refine kt_call_dict hd dd (by rw [← rel.length]; exact z) fun h' d' hs => ?_
  have kp : ∀ b o, s.heap.get? b = some o → h'.get? b = some o := fun b o e => (hs.2 b (Nat.ne_of_lt (Heap.lt_size e))).trans (Heap.get?_push_of_some _ e)
  exact ⟨.ref s.heap.objs.size, _, I.laid (a := s.heap.objs.size) (o := .dK kvs) (t' := s.toks) kp (Nat.le_refl _) (dk_new z (by simpa using Nat.ne_of_gt big) rel d'), rfl, q _ (I.hok.fresh (Nat.le_refl _))⟩
end
end L2
set_option Elab.async false
set_option linter.all false
set_option maxRecDepth 100000
set_option maxHeartbeats 4000000
namespace L2
open PySem PySem.Spec PyProof.Rows
theorem list_no_keys : typeLookup (.type "list") "keys" = pure none := by rw [typeLookup_type, builtinLookup_eq_fast]; kernel_rfl
theorem keys_name : (["__module__", "__name__", "__qualname__", "__doc__", "__annotations__"] : List Str).contains ("keys" : Str) = false := by decide
section
variable {prog : Program} {w : World} {A : Around} {E : Value → Shared → Prop} {s : Shared}
theorem stored_len {K : Type} [DecidableEq K] (kvs : List (K × Value)) (k : K) (v : Value) : (stored kvs k v).length ≤ kvs.length + 1 := by
  unfold stored
  by_cases h : (kvs.any fun kv => decide (kv.1 = k)) = true
  · rw [if_pos h, List.length_map]; omega
  · rw [if_neg h, List.length_append]; simp
theorem merged_len {K : Type} [DecidableEq K] : ∀ (more kvs : List (K × Value)), (merged kvs more).length ≤ kvs.length + more.length
  | [], kvs => Nat.le_refl _
  | (k, v) :: r, kvs => by
    have h1 := merged_len r (stored kvs k v)
    have h2 := stored_len kvs k v
    show (merged (stored kvs k v) r).length ≤ _
    rw [List.length_cons]
    omega
theorem keys_miss {a : Addr} {o : Obj} {xs : Array Value} {k : Nat} {Q : Option Value → Shared → Prop} (hx : s.heap.get? a = some o) (hc : o.cls = .type "list") (hdat : o.data = .seq xs k) (hd : o.dict = none) (hA : A.handled = none)
    (h : ∀ h' tk, (∀ b o, s.heap.get? b = some o → h'.get? b = some o) → Q none { s with heap := h', toks := tk }) : wpAny (model prog w) A (getAttr? (.ref a) "keys") Q E s := by
  obtain ⟨c, dct, dat, sl⟩ := o
  simp only at hc hdat hd
  subst hc hdat hd
  obtain ⟨hp, g, d, tk, os⟩ := s
  have hT : ∀ tk', (⟨hp, g, d, tk', os⟩ : Shared).TypeIs (.ref a) "list" := fun _ => ⟨_, hx, rfl⟩
  have y1 := sub_AttributeError; have y3 := F.slot_list_getattribute.lookup
  have y4 := F.slot_list_getattribute.bind (.ref a); have y5 := am_list_getattr_none
  unfold getAttr? getAttrBy? getAttrBy
  repeat (any_goals (first | assumption | exact hT _ | ((with_reducible show wpAny _ _ (call (Value.builtin "list.__getattribute__") _ _) _ _ _); refine call_meets F.slot_list_getattribute (hT _) am_entry_list_getattribute (F.args_list_getattribute_2 _ _) (meets_getattribute_miss_list a xs k sl "keys" _ list_no_keys keys_name) ⟨hx, hA, fun h' tk' e hx' => ?_⟩) | wp_step))
  obtain ⟨t', u', he⟩ := hx'.there
  show wpAny _ _ (getattributeRaised _ _ _ _ _ _ _) _ _ _
  unfold getattributeRaised
  repeat (any_goals (first | assumption | wp_step))
  exact h _ _ hx'.keeps
theorem entry_upd_loop : entryFor table "dict.update.loop" = some Builtin.«dict.update.loop» := entryFor_of_fast (by kernel_rfl)
theorem plain_upd_loop : plainId "dict.update.loop" = true := by decide +kernel
theorem upd_loop {R : Result → Shared → Prop} {d it l : Addr} {items : List Value} {rs : List (Key × Value)} {G : Heap} (hA : A.handled = none) (ndi : d ≠ it) (nld : l ≠ d) (nli : l ≠ it) (hlen : items.length = rs.length) (hsz : rs.length ≤ 1000)
    (hl : G.IsList l items.toArray) (pr : ∀ (j : Nat) u, items[j]? = some u → ∃ p k key v, u = .ref p ∧ rs[j]? = some (k, v) ∧ (mixKind prog w).is k key = true ∧ G.IsTuple p #[key, v] ∧ p ≠ d ∧ p ≠ it)
    (fin : ∀ h' tk, h'.DictOf (mixKind prog w) d (merged [] rs) → (∀ b o, b ≠ d → b ≠ it → G.get? b = some o → h'.get? b = some o) → R (.ok (.ret .none)) { s with heap := h', toks := tk }) :
    ∀ (n i : Nat) (h' : Heap) (tk : Nat), n = items.length - i → i ≤ items.length → h'.IsListIter it l i → h'.DictOf (mixKind prog w) d (merged [] (rs.take i)) → (∀ b o, b ≠ d → b ≠ it → G.get? b = some o → h'.get? b = some o) →
      codeAny (model prog w) A (.builtin "dict.update.loop" ⟨[.ref d, .ref it, rawInt (i : Nat), .none], []⟩) R { s with heap := h', toks := tk } := by
  intro n
  induction n with
  | zero =>
    intro i h' tk hn hi hit hd kp
    have e0 : i = items.length := by omega
    subst e0
    refine codeAny_builtin entry_upd_loop ?_
    rw [Around.under_plainId plain_upd_loop _]
    show wpAny _ A.in1 (pyNext (.ref it) >>= _) _ _ _
    have hl' : h'.IsList l items.toArray := let ⟨o, q, r⟩ := hl; ⟨o, kp l o nld nli q, r⟩
    refine wpAny_bind (wpAny_pyNext_list_end hA hit hl' (by simp) fun h2 ex => ?_)
    show wpAny _ _ (Builtin.Dict.addKeywords d [] >>= _) _ _ _
    refine wpAny_bind (wpAny_pure (wpAny_pure ?_))
    rw [hlen, List.take_length] at hd
    refine fin h2 _ (let ⟨o, es, ep, q, r⟩ := hd; ⟨o, es, ep, ex d o ndi q, r⟩) fun b o h1 h2 e => ex b o h2 (kp b o h1 h2 e)
  | succ n ih =>
    intro i h' tk hn hi hit hd kp
    have hlt : i < items.length := by omega
    have hx : items[i]? = some items[i] := List.getElem?_eq_getElem hlt
    obtain ⟨p, k, key, v, eu, hr, hk, hp, npd, npi⟩ := pr i _ hx
    refine codeAny_builtin entry_upd_loop ?_
    rw [Around.under_plainId plain_upd_loop _]
    show wpAny _ A.in1 (pyNext (.ref it) >>= _) _ _ _
    have hl' : h'.IsList l items.toArray := let ⟨o, q, r⟩ := hl; ⟨o, kp l o nld nli q, r⟩
    refine wpAny_bind (wpAny_pyNext_list_item (x := .ref p) hit hl' (by rw [← eu]; simpa using hx) fun h2 hit2 s2 => ?_)
    obtain ⟨po, hpo, hpc, pn, hpd⟩ := hp
    have hpo2 : h2.get? p = some po := (s2.2 p npi).trans (kp p po npd npi hpo)
    refine wpAny_bind (wpAny_holding (wpAny_bind (wpAny_tryCatch ?_)))
    unfold Builtin.Dict.pairItems
    refine wpAny_bind (wpAny_typeOf (show Shared.TypeIs _ (.ref p) "tuple" from ⟨po, hpo2, hpc⟩) ?_)
    rw [if_pos (by decide)]
    refine wpAny_bind (wpAny_seqItems hpo2 hpd (wpAny_pure ?_))
    show wpAny _ _ (holding [key, v] (dictSet d key v)) _ _ _
    have hd2 : h2.DictOf (mixKind prog w) d (merged [] (rs.take i)) := let ⟨o, es, ep, q, r⟩ := hd; ⟨o, es, ep, (s2.2 d ndi).trans q, r⟩
    have hz : (merged [] (rs.take i)).length ≤ sizeLine := by
      have h1 := merged_len (rs.take i) []
      rw [List.length_take, List.length_nil, Nat.zero_add] at h1
      exact Nat.le_trans h1 (Nat.le_of_lt (small1000 (by omega)))
    refine wpAny_holding (wpAny_dictSet_pairs (hsz := hz) hk hd2 fun h3 hd3 s3 => ?_)
    refine wpAny_pure ⟨plainId_quiet plain_upd_loop _, ?_⟩
    have e1 : merged [] (rs.take (i + 1)) = stored (merged [] (rs.take i)) k v := by
      rw [List.take_add_one, hr]
      show merged [] (rs.take i ++ [(k, v)]) = _
      unfold merged
      rw [List.foldl_append]
      rfl
    refine ih (i + 1) h3 _ (by omega) hlt (let ⟨o, q, r⟩ := hit2; ⟨o, (s3.2 it (Ne.symm ndi)).trans q, r⟩) (by rw [e1]; exact hd3) fun b o h1 h2' e => (s3.2 b h1).trans ((s2.2 b h2').trans (kp b o h1 h2' e))
end
end L2
set_option Elab.async false
set_option linter.all false
set_option maxRecDepth 100000
set_option maxHeartbeats 4000000
namespace L2
open PySem PySem.Spec PyProof.Rows
theorem kv_merge0 {kvs : List (Key × V)} {rs : List (Key × Value)} (r : KV kvs rs) : KV (mergeK [] kvs) (merged [] rs) := KV.merge r .nil
structure PairsL (K : PySem.W.Frag) (H : Hp) (ps : List V) (kvs : List (Key × V)) : Prop where
  len : ps.length = kvs.length
  at_ : ∀ (i : Nat) v, ps[i]? = some v → ∃ p k y, v = V.ref p ∧ SqT K H p [kV k, y] ∧ kvs[i]? = some (k, y)
section
variable {X : Cx}
theorem rs_of {pins : List (Addr × Obj)} {σ : St} {H : Hp} {s : Shared} (I : Inv X pins σ H s) : ∀ {ps : List V} {kvs : List (Key × V)} {its : List Value}, PairsL X.K H ps kvs → Vals ps its →
    ∃ rs : List (Key × Value), KV kvs rs ∧ its.length = rs.length ∧ ∀ (j : Nat) u, its[j]? = some u → ∃ p k key v, u = .ref p ∧ rs[j]? = some (k, v) ∧ (mixKind X.prog X.w).is k key = true ∧ s.heap.IsTuple p #[key, v]
  | [], [], its, P, r => by cases r; exact ⟨[], .nil, rfl, fun j u h => by simp at h⟩
  | [], _ :: _, _, P, _ => by have := P.len; simp at this
  | _ :: _, [], _, P, _ => by have := P.len; simp at this
  | x :: ps, (k0, y0) :: kvs, its, P, r => by
    cases r with
    | @cons _ u _ us r1 r2 =>
      obtain ⟨p, k, y, rfl, hq, e⟩ := P.at_ 0 x rfl
      have e' : (k0, y0) = (k, y) := by simpa using e
      cases e'
      cases r1
      obtain ⟨its2, rv, pt, _⟩ := I.tuple hq
      obtain ⟨a, b, rfl, ra, rb⟩ := vals2 rv
      have P2 : PairsL X.K H ps kvs := ⟨by have := P.len; simpa using this, fun i v h => P.at_ (i + 1) v (by simpa using h)⟩
      obtain ⟨rs, h1, h2, h3⟩ := rs_of I P2 r2
      refine ⟨(k0, b) :: rs, .cons ⟨rfl, rb⟩ h1, by simp [h2], fun j u hj => ?_⟩
      cases j with
      | zero =>
        have eu : u = .ref p := by simpa using hj.symm
        exact ⟨p, k0, a, b, eu, rfl, kV_is ra, pt⟩
      | succ j => exact h3 j u (by simpa using hj)
theorem call_dictL (hc : X.calm = true) : CallR X (.type "dict") (fun xs H Q => ∃ a ps kvs, xs = [V.ref a] ∧ SqL X.K H a ps ∧ PairsL X.K H ps kvs ∧ kvs.length ≤ 1000 ∧ ∀ p, H p = none → Q (.ref p) (upd H p (.dK (mergeK [] kvs)))) := by
  intro pins s σ H xs us Q I r h
  obtain ⟨a, ps, kvs, rfl, ha, P, hz, q⟩ := h
  obtain ⟨u, rfl, ru⟩ := vals1 r
  cases ru
  obtain ⟨its, rv, pl, hzl⟩ := I.list ha
  obtain ⟨rs, hkv, hlen, hpr⟩ := rs_of I P rv
  have hlr : rs.length = kvs.length := hkv.length.symm
  have big := I.big
  have hA : X.A.handled = none := I.ok.hd hc
  refine callType_codes (Q₁ := fun obj s₁ => obj = .ref s.heap.objs.size ∧ s₁ = { s with heap := s.heap.push { cls := .type "dict", data := .dict #[] } }) F.kt_called_dict (F.kt_typeCall_dict_1 _) F.entry_dict_init (kt_code_dict_new _ ⟨rfl, rfl⟩) fun obj s₁ e => ?_
  obtain ⟨rfl, rfl⟩ := e
  have hnew : (s.heap.push { cls := .type "dict", data := .dict #[] }).DictOf (mixKind X.prog X.w) s.heap.objs.size [] := Heap.DictOf.new s.heap
  refine ⟨hnew.typeIs, F.args_dict_init_2 _ _, ?_⟩
  unfold Builtin.«dict.__init__»
  refine wpAny_bind ?_
  unfold Builtin.Dict.selfAndRest
  refine wpAny_bind (wpAny_notOrdered_dict hnew.typeIs ?_)
  show wpAny _ _ (pure (s.heap.objs.size, [Value.ref a])) _ _ _
  refine wpAny_pure ?_
  show wpAny _ _ (Builtin.Dict.updateFrom "dict.__init__" s.heap.objs.size (.ref a) [] .none) _ _ _
  unfold Builtin.Dict.updateFrom
  obtain ⟨lo, ln, lh, lc, ld, lq⟩ := pl
  have lh1 : (s.heap.push { cls := .type "dict", data := .dict #[] }).get? a = some lo := Heap.get?_push_of_some _ lh
  refine wpAny_bind (wpAny_typeOf (show Shared.TypeIs _ (.ref a) "list" from ⟨lo, lh1, lc⟩) ?_)
  rw [if_pos (by decide)]
  refine wpAny_bind (keys_miss lh1 lc lq ld hA fun h2 tk2 k2 => ?_)
  simp only [Option.isNone_none, if_true]
  refine wpAny_bind (wpAny_rule ?_)
  have lh2 : h2.get? a = some lo := k2 _ _ lh1
  have lal : a < s.heap.objs.size := Heap.lt_size lh
  have d2 : h2.DictOf (mixKind X.prog X.w) s.heap.objs.size [] := let ⟨o, es, ep, e, r⟩ := hnew; ⟨o, es, ep, k2 _ _ e, r⟩
  have ld2 : s.heap.objs.size < h2.objs.size := let ⟨_, _, _, e, _⟩ := d2; Heap.lt_size e
  refine wpAny_bind (wpAny_pyIter_list (items := its.toArray) ⟨lo, lh2, lc, ln, lq⟩ ?_)
  have up : ∀ b o, s.heap.get? b = some o → (h2.push { cls := .type "list_iterator", data := .fields #[.ref a, .int 0 0] }).get? b = some o := fun b o e => Heap.get?_push_of_some _ (k2 _ _ (Heap.get?_push_of_some _ e))
  refine wpAny_pure ⟨plainId_quiet plain_upd_loop _, ?_⟩
  refine upd_loop (A := X.A.in1) (s := s) (G := h2.push { cls := .type "list_iterator", data := .fields #[.ref a, .int 0 0] }) (d := s.heap.objs.size) (it := h2.objs.size) (l := a) (items := its) (rs := rs) hA (Nat.ne_of_lt ld2) (Nat.ne_of_lt lal) (Nat.ne_of_lt (Nat.lt_trans lal ld2)) hlen (by omega)
    ⟨lo, up _ _ lh, lc, ln, lq⟩ (fun j u hj => ?_) (fun h4 tk4 d4 k4 => ?_) its.length 0 _ _ rfl (Nat.zero_le _) ⟨_, Heap.get?_push_size _ rfl, rfl, rfl⟩ (let ⟨o, es, ep, e, r⟩ := d2; ⟨o, es, ep, Heap.get?_push_of_some _ e, r⟩) fun b o _ _ e => e
  · obtain ⟨p, k, key, v, e1, e2, e3, o, e4, e5⟩ := hpr j u hj
    have lp : p < s.heap.objs.size := Heap.lt_size e4
    exact ⟨p, k, key, v, e1, e2, e3, ⟨o, up _ _ e4, e5⟩, Nat.ne_of_lt lp, Nat.ne_of_lt (Nat.lt_trans lp ld2)⟩
  · have kp : ∀ b o, s.heap.get? b = some o → h4.get? b = some o := fun b o e => k4 b o (Nat.ne_of_lt (Heap.lt_size e)) (Nat.ne_of_lt (Nat.lt_trans (Heap.lt_size e) ld2)) (up b o e)
    have hzl : (mergeK [] kvs).length ≤ sizeLine := by
      have h1 := length_mergeK kvs []
      rw [List.length_nil, Nat.zero_add] at h1
      exact Nat.le_trans h1 (Nat.le_of_lt (small1000 hz))
    exact ⟨rfl, .ref s.heap.objs.size, _, I.laid (a := s.heap.objs.size) (o := .dK (mergeK [] kvs)) (t' := tk4) kp (Nat.le_refl _) (dk_new hzl (by simpa using Nat.ne_of_gt big) (kv_merge0 hkv) d4), rfl, q _ (I.hok.fresh (Nat.le_refl _))⟩
end
end L2
set_option Elab.async false
set_option linter.all false
set_option maxRecDepth 100000
set_option maxHeartbeats 4000000
namespace L2
open PySem PySem.Spec PyProof.Rows
def ItmAt (h : Heap) (it d : Addr) (i n ep : Nat) : Prop := ∃ f0 f1 ok ov, h.get? it = some { cls := .type "dict_itemiterator", dict := none, data := .fields #[f0, f1, .ref d, .int i 0, .int n 0, .int ep 0, ok, ov], slots := #[] } ∧ (f0 = .none ∨ ∃ T : Nat, f0 = rawInt T)
def EntAt (h : Heap) (d : Addr) (es : Array DictEntry) (ep : Nat) : Prop := ∃ o, h.get? d = some o ∧ o.cls = .type "dict" ∧ o.data = .dict es ep
section
variable {prog : Program} {w : World} {A : Around} {E : Value → Shared → Prop} {s : Shared} {it d : Addr} {i n ep : Nat} {es : Array DictEntry}
theorem freeI_any {Q : Bool → Shared → Prop} (hz : ItmAt s.heap it d i n ep) (h : ∀ b h', ItmAt h' it d i n ep → Heap.SameBut it s.heap h' → Q b { s with heap := h' }) :
    wpAny (model prog w) A (Builtin.Dict_items.ownedTupleIsFree (.ref it)) Q E s := by
  obtain ⟨f0, f1, ok, ov, hz, hf⟩ := hz
  have here : ∀ b, Q b s := fun b => h b s.heap ⟨f0, f1, ok, ov, hz, hf⟩ ⟨rfl, fun _ _ => rfl⟩
  unfold Builtin.Dict_items.ownedTupleIsFree
  refine wpAny_bind (wpAny_field hz rfl (x := f0) rfl ?_)
  rcases hf with rfl | ⟨T, rfl⟩
  · exact wpAny_pure (here true)
  · show wpAny _ _ (loadIfAlive _ >>= _) _ _ _
    refine wpAny_bind (alive_any fun o => ?_)
    cases o with
    | none => exact wpAny_pure (here true)
    | some ob =>
      refine wpAny_bind (wpAny_field hz rfl (x := f1) rfl ?_)
      refine wpAny_ite_split (fun _ => ?_) (fun _ => wpAny_pure (here false))
      refine wpAny_bind (wpAny_setField_rec hz (by simp) fun h1 e1 s1 => wpAny_pure (h false h1 ⟨_, _, _, _, e1, .inr ⟨T, rfl⟩⟩ s1))
theorem itm_next {Q : Option Value → Shared → Prop} (hit : ItmAt s.heap it d i es.size ep) (hd : EntAt s.heap d es ep) (nd : d ≠ it) (hi : i < es.size)
    (hQ : ∀ h', ItmAt h' it d (i + 1) es.size ep → h'.get? s.heap.objs.size = some { cls := .type "tuple", data := .seq #[es[i].key, es[i].val] } → (∀ b o, b ≠ it → s.heap.get? b = some o → h'.get? b = some o) → Q (some (.ref s.heap.objs.size)) { s with heap := h' }) :
    wpAny (model prog w) A (pyNext (.ref it)) Q E s := by
  obtain ⟨hp, g, dr, tk, os⟩ := s
  obtain ⟨f0, f1, ok, ov, hz, hf⟩ := hit
  obtain ⟨od, hod, hcd, hdd⟩ := hd
  have hT : Shared.TypeIs ⟨hp, g, dr, tk, os⟩ (.ref it) "dict_itemiterator" := ⟨_, hz, rfl⟩
  unfold pyNext
  refine wpAny_bind (wpAny_attempt (wpAny_callSpecial?_slot (name := Str.ofString "__next__") hT F.slot_dict_itemiterator_next (wpAny_call_entry F.slot_dict_itemiterator_next hT F.entry_dict_itemiterator_next ?_ (F.args_dict_itemiterator_next_1 _))))
  refine wpAny_bind (wpAny_pure (wpAny_bind (wpAny_bind ?_)))
  refine wpAny_bind (wpAny_typeNameOfWhole_itemiter hT (wpAny_pure (wpAny_bind (wpAny_fieldsOf hz rfl ?_))))
  have own : Builtin.Dict_items.ownsTuple "dict_itemiterator" = true := by decide
  simp only [own, if_true]
  show wpAny _ _ (if (Value.ref d == Value.none) = true then _ else _) _ _ ⟨hp, g, dr, tk, os⟩
  rw [if_neg (show ¬ ((Value.ref d == Value.none) = true) from fun z => Bool.false_ne_true z)]
  refine wpAny_bind (wpAny_pure (wpAny_bind (wpAny_dictEntries hod hdd ?_)))
  rw [if_neg (by simp)]
  refine wpAny_bind (wpAny_pure (wpAny_bind (wpAny_dictEpoch hod hdd ?_)))
  rw [if_neg (by simp)]
  refine wpAny_pure ?_
  simp only [show ¬ ((i : Int) < 0) from by omega, if_false, Int.toNat_natCast, Array.getElem?_eq_getElem hi]
  refine wpAny_bind (wpAny_bind (wpAny_typeNameOfWhole_itemiter hT (wpAny_pure ?_)))
  refine wpAny_bind (wpAny_isOneOf_itemiter hT ?_)
  show wpAny _ _ (setField (.ref it) 3 (rawInt ((i : Int) + 1)) >>= _) _ _ ⟨hp, g, dr, tk, os⟩
  refine wpAny_bind (wpAny_setField_rec hz (by simp) fun h1 e1 s1 => ?_)
  have I1 : ItmAt h1 it d (i + 1) es.size ep := ⟨f0, f1, ok, ov, by
    have e : ((i + 1 : Nat) : Int) = (i : Int) + 1 := by omega
    rw [e]; simpa [rawInt] using e1, hf⟩
  have hT1 : Shared.TypeIs ⟨h1, g, dr, tk, os⟩ (.ref it) "dict_itemiterator" := ⟨_, e1, rfl⟩
  refine wpAny_bind (wpAny_holding (wpAny_bind (wpAny_isOneOf_itemiter hT1 (wpAny_bind (wpAny_isOneOf_itemiter hT1 ?_)))))
  show wpAny _ _ (Builtin.Dict_items.pairFromOwner (.ref it) 6 es[i].key es[i].val) _ _ ⟨h1, g, dr, tk, os⟩
  unfold Builtin.Dict_items.pairFromOwner
  refine wpAny_bind (wpAny_newTuple ?_)
  have z1 : h1.objs.size = hp.objs.size := s1.1
  have il : it < hp.objs.size := Heap.lt_size hz
  have I2 : ItmAt (h1.push { cls := .type "tuple", data := .seq #[es[i].key, es[i].val] }) it d (i + 1) es.size ep := let ⟨a, b, c, e, q, r⟩ := I1; ⟨a, b, c, e, Heap.get?_push_of_some _ q, r⟩
  have t2 : (h1.push { cls := .type "tuple", data := .seq #[es[i].key, es[i].val] }).get? hp.objs.size = some { cls := .type "tuple", data := .seq #[es[i].key, es[i].val] } := by rw [← z1]; exact Heap.get?_push_size _ rfl
  have k2 : ∀ b o, b ≠ it → hp.get? b = some o → (h1.push { cls := .type "tuple", data := .seq #[es[i].key, es[i].val] }).get? b = some o := fun b o hb e => Heap.get?_push_of_some _ (same_ne s1 hb e)
  show wpAny _ _ (Builtin.Dict_items.ownedTupleIsFree (.ref it) >>= _) _ _ ⟨h1.push { cls := .type "tuple", data := .seq #[es[i].key, es[i].val] }, g, dr, tk, os⟩
  generalize h1.push { cls := .type "tuple", data := .seq #[es[i].key, es[i].val] } = h2 at I2 t2 k2 ⊢
  rw [z1]
  have nt : hp.objs.size ≠ it := Nat.ne_of_gt il
  refine wpAny_bind (freeI_any (s := ⟨h2, g, dr, tk, os⟩) I2 fun b h3 I3 s3 => ?_)
  cases b with
  | false =>
    simp only [Bool.false_eq_true, if_false]
    exact wpAny_pure (wpAny_pure ⟨_, rfl, wpAny_pure (hQ h3 I3 (same_ne s3 nt t2) fun b o hb e => same_ne s3 hb (k2 b o hb e))⟩)
  | true =>
    obtain ⟨g0, g1, gk, gv, q3, hf3⟩ := I3
    simp only [if_true]
    refine wpAny_bind (wpAny_field q3 rfl (x := gk) rfl (wpAny_bind (wpAny_field q3 rfl (x := gv) rfl ?_)))
    refine wpAny_bind (wpAny_setField_rec q3 (by simp) fun h4 q4 s4 => wpAny_bind (wpAny_setField_rec q4 (by simp) fun h5 q5 s5 => wpAny_bind (wpAny_setField_rec q5 (by simp) fun h6 q6 s6 => wpAny_bind (wpAny_setField_rec q6 (by simp) fun h7 q7 s7 => ?_))))
    have up : ∀ b o, b ≠ it → h2.get? b = some o → h7.get? b = some o := fun b o hb e => same_ne s7 hb (same_ne s6 hb (same_ne s5 hb (same_ne s4 hb (same_ne s3 hb e))))
    exact wpAny_bind (wpAny_letGo (wpAny_pure (wpAny_pure ⟨_, rfl, wpAny_pure (hQ h7 ⟨_, _, _, _, q7, .inr ⟨hp.objs.size, rfl⟩⟩ (up _ _ nt t2) fun b o hb e => up b o hb (k2 b o hb e))⟩)))
end
end L2
set_option Elab.async false
set_option linter.all false
set_option maxRecDepth 100000
set_option maxHeartbeats 4000000
namespace L2
open PySem PySem.Spec PyProof.Rows
section
variable {prog : Program} {w : World} {A : Around} {E : Value → Shared → Prop} {s : Shared} {it d : Addr} {i n ep : Nat} {es : Array DictEntry}
theorem itm_end {Q : Option Value → Shared → Prop} (hh : A.handled = none) (hit : ItmAt s.heap it d es.size es.size ep) (hd : EntAt s.heap d es ep) (hQ : ∀ h', Heap.ExtBut it s.heap h' → Q none { s with heap := h' }) : wpAny (model prog w) A (pyNext (.ref it)) Q E s := by
  obtain ⟨f0, f1, ok, ov, hz, hf⟩ := hit
  obtain ⟨od, hod, hcd, hdd⟩ := hd
  have hT : s.TypeIs (.ref it) "dict_itemiterator" := ⟨_, hz, rfl⟩
  unfold pyNext
  refine wpAny_bind (wpAny_attempt (wpAny_callSpecial?_slot (name := Str.ofString "__next__") hT F.slot_dict_itemiterator_next (wpAny_call_entry F.slot_dict_itemiterator_next hT F.entry_dict_itemiterator_next ?_ (F.args_dict_itemiterator_next_1 _))))
  refine wpAny_bind (wpAny_pure (wpAny_bind (wpAny_bind ?_)))
  refine wpAny_bind (wpAny_typeNameOfWhole_itemiter hT (wpAny_pure (wpAny_bind (wpAny_fieldsOf hz rfl ?_))))
  have own : Builtin.Dict_items.ownsTuple "dict_itemiterator" = true := by decide
  simp only [own, if_true]
  show wpAny _ _ (if (Value.ref d == Value.none) = true then _ else _) _ _ s
  rw [if_neg (show ¬ ((Value.ref d == Value.none) = true) from fun z => Bool.false_ne_true z)]
  refine wpAny_bind (wpAny_pure (wpAny_bind (wpAny_dictEntries hod hdd ?_)))
  rw [if_neg (by simp)]
  refine wpAny_bind (wpAny_pure (wpAny_bind (wpAny_dictEpoch hod hdd ?_)))
  rw [if_neg (by simp)]
  refine wpAny_pure ?_
  simp only [show ¬ ((es.size : Int) < 0) from by omega, if_false, Int.toNat_natCast, Array.getElem?_eq_none (Nat.le_refl es.size)]
  refine wpAny_bind (wpAny_bind (wpAny_typeNameOfWhole_itemiter hT (wpAny_pure ?_)))
  show wpAny _ _ (setField (.ref it) 2 .none >>= _) _ _ s
  refine wpAny_bind (wpAny_setField hz rfl (by simp) ?_)
  show wpAny _ _ (newExc (.type "StopIteration") [] >>= _) _ _ _
  refine wpAny_bind ?_
  simp only [newExc, newTuple]
  refine wpAny_bind (wpAny_newObj_type ?_ (by size_fits))
  refine wpAny_bind (m := firstArgMember _ _) (wpAny_of_eq (a := Value.none) (by first | rfl | (simp only [firstArgMember]; rfl)) ?_)
  refine wpAny_newObj_type ?_ (by size_fits)
  simp only [raiseNew]
  refine wpAny_bind (wpAny_handled ?_)
  rw [show A.in1.handled = none from hh]
  refine wpAny_bind (wpAny_pure (wpAny_throw ?_))
  refine wpAny_bind (wpAny_isInstance (T := "StopIteration") (b := true) ⟨_, Heap.get?_push_size _ rfl, rfl⟩ isSubtype_stop ?_)
  exact wpAny_pure (hQ _ (((Heap.SameBut.update ..).extBut.push _).push _))
theorem itm_iter {v : Addr} {Q : Value → Shared → Prop} (hv : s.heap.IsItemsView v d) (hm : EntAt s.heap d es ep)
    (hQ : Q (.ref s.heap.objs.size) { s with heap := s.heap.push { cls := .type "dict_itemiterator", data := .fields #[.none, .bool false, .ref d, .int 0 0, .int es.size 0, .int ep 0, .none, .none] } }) : wpAny (model prog w) A (pyIter (.ref v)) Q E s := by
  obtain ⟨ov, hov, hcv, hdv⟩ := id hv
  obtain ⟨o, ho, hc, hdat⟩ := id hm
  refine wpAny_pyIter_slot hv.typeIs F.slot_dict_items_iter (wpAny_call_entry F.slot_dict_items_iter hv.typeIs F.entry_dict_items_iter ?_ (F.args_dict_items_iter_1 _))
  unfold Builtin.«dict_items.__iter__»
  refine wpAny_bind (wpAny_pure (wpAny_bind ?_))
  unfold Builtin.Dict_items.dictOf
  refine wpAny_bind (wpAny_field hov hdv (x := .ref d) rfl (wpAny_pure (wpAny_bind ?_)))
  unfold Builtin.Dict_items.newIterator
  refine wpAny_bind (wpAny_dictEntries ho hdat (wpAny_bind (wpAny_dictEpoch ho hdat ?_)))
  have own : Builtin.Dict_items.ownsTuple "dict_itemiterator" = true := by decide
  simp only [own, if_true]
  refine wpAny_newObj_type (wpAny_pure ⟨_, rfl, "dict_itemiterator", _, ⟨_, Heap.get?_push_size _ rfl, rfl⟩, F.slot_dict_itemiterator_next.lookup, ?_⟩)
    (by simp only [sizeOk, Builtin.Dict_items.ownedTupleFields, List.size_toArray, List.length_append, List.length_cons, List.length_nil, sizeLine_eq]; omega)
  simpa [rawInt, Builtin.Dict_items.ownedTupleFields] using hQ
end
theorem paired_at {α β : Type} {F : α → β → Prop} : ∀ {l1 : List α} {l2 : List β}, Paired F l1 l2 → ∀ (i : Nat) (h1 : i < l1.length) (h2 : i < l2.length), F (l1[i]'h1) (l2[i]'h2)
  | _, _, .nil, i, h1, _ => absurd h1 (Nat.not_lt_zero _)
  | _, _, .cons r t, 0, _, _ => r
  | _, _, .cons r t, i + 1, h1, h2 => paired_at t i (Nat.lt_of_succ_lt_succ h1) (Nat.lt_of_succ_lt_succ h2)
theorem entry_itm_iter : entryFor table "dict_itemiterator.__iter__" = some Builtin.«dict_keyiterator.__iter__» :=
  entryFor_alias (id' := "dict_keyiterator.__iter__") (by kernel_rfl) (by first | rfl | decide +kernel) (by decide +kernel) (by kernel_rfl)
def ItI (d : Addr) (o : Obj) (kvs : List (List Key × V)) : It :=
  ⟨fun i H => H d = some (.frz o (.dT kvs)) ∧ i < kvs.length, fun i H v H' => ∃ p b k y, v = .ref p ∧ H p = none ∧ H' = upd H p (.tup [.ref b, y]) ∧ H b = some (.tup (k.map kV)) ∧ kvs[i]? = some (k, y), fun i H => H d = some (.frz o (.dT kvs)) ∧ i = kvs.length⟩
theorem turn_items {P : Program} {w : World} {K : PySem.W.Frag} {d it : Addr} {o : Obj} {kvs : List (List Key × V)} {es : Array DictEntry} {ep : Nat} (nd : d ≠ it) (hoc : o.cls = .type "dict") (hod : o.data = .dict es ep) (hn : es.size = kvs.length) :
    Turn P w K nmT (ItI d o kvs) [it] it (fun i h => ItmAt h it d i es.size ep) where
  mem := by simp
  obj := fun i h ⟨f0, f1, ok, ov, z, _⟩ c hc => by
    have e : c = it := by simpa using hc
    subst e
    exact ⟨_, z, fun v q => by cases q⟩
  keep := fun i h h' ⟨f0, f1, ok, ov, z, zz⟩ k => ⟨f0, f1, ok, ov, k it (by simp) _ z, zz⟩
  item := by
    intro X hP hw hK hc i pins s σ H E I hf st hg
    subst hP hw hK
    obtain ⟨hH, hi⟩ := hg
    obtain ⟨h1, z, hd, xs, rel, o', es', ep', e1, e2, e3, e4, e5⟩ := (show ObjOk X.prog X.w H s.heap d (.frz o (.dT kvs)) from I.hok d _ hH)
    rw [h1] at e1
    cases e1
    rw [hod] at e3
    cases e3
    have hes : i < es.size := by rw [hn]; exact hi
    refine itm_next st ⟨o, h1, hoc, hod⟩ nd hes fun h' st' ht kp => ?_
    refine ⟨.ref s.heap.objs.size, rfl, ?_⟩
    show wpAny _ _ (pure () : Sem Unit) _ _ _
    have J : Inv X pins σ H { s with heap := h', toks := s.toks } := I.turnedL [it] (fun b hb => hf b hb) fun b o hb e => kp b o (by simpa using hb) e
    have lx : i < xs.length := by rw [← Paired.length rel]; exact hi
    obtain ⟨p1, p2, p3⟩ := paired_at rel i hi lx
    have ee : es[i] = entryOfKey (tupleKind (mixKind X.prog X.w)) xs[i] := by
      have q : es.toList[i]? = some (entryOfKey (tupleKind (mixKind X.prog X.w)) xs[i]) := by rw [e4, List.getElem?_map, List.getElem?_eq_getElem lx]; rfl
      rw [Array.getElem?_toList, Array.getElem?_eq_getElem hes] at q
      exact Option.some.inj q
    have hpn : H s.heap.objs.size = none := I.hok.fresh (Nat.le_refl _)
    rw [ee] at ht
    have J2 := J.adopt (D := s.heap.objs.size) (o := .tup [.ref xs[i].2.1, kvs[i].2]) (I.fpOk (Nat.le_refl _) hpn) ⟨by show 2 ≤ sizeLine; decide, [.ref xs[i].2.1, xs[i].2.2], .cons rfl (.cons p3 .nil), ⟨_, ht, rfl, _, rfl⟩⟩
    refine wpAny_pure ⟨.ref s.heap.objs.size, _, J2, rfl, ⟨_, xs[i].2.1, kvs[i].1, kvs[i].2, rfl, hpn, rfl, p2, List.getElem?_eq_getElem hi⟩, st', fun b hb => ?_⟩
    have e : b = it := by simpa using hb
    subst e
    obtain ⟨f0, f1, ok, ov, zz, _⟩ := st
    rw [upd_ne (Nat.ne_of_lt (Heap.lt_size zz))]
    exact (hf b hb).1
  done := by
    intro X hP hw hK hc i pins s σ H E I hf st hg
    subst hP hw hK
    obtain ⟨hH, hi⟩ := hg
    obtain ⟨h1, _⟩ := (show ObjOk X.prog X.w H s.heap d (.frz o (.dT kvs)) from I.hok d _ hH)
    have e0 : i = es.size := by rw [hn]; exact hi
    subst e0
    refine itm_end (I.ok.hd hc) st ⟨o, h1, hoc, hod⟩ fun h' ex => ⟨rfl, ?_⟩
    exact I.turnedL (t' := s.toks) [it] (fun b hb => hf b hb) fun b o hb e => ex b o (by simpa using hb) e
  self := fun A i s Q E ⟨f0, f1, ok, ov, z, _⟩ h => by
    have hT : s.TypeIs (.ref it) "dict_itemiterator" := ⟨_, z, rfl⟩
    exact wpAny_pyIter_slot hT F.slot_dict_itemiterator_iter (wpAny_call_entry F.slot_dict_itemiterator_iter hT entry_itm_iter (wpAny_pure ⟨_, rfl, "dict_itemiterator", _, hT, F.slot_dict_itemiterator_next.lookup, h⟩) (F.args_dict_itemiterator_iter_1 _))
end L2
set_option Elab.async false
set_option linter.all false
set_option maxRecDepth 100000
set_option maxHeartbeats 4000000
namespace L2
open PySem PySem.Spec PyProof.Rows
section
variable {X : Cx} {pins : List (Addr × Obj)} {σ : St} {H : Hp} {s : Shared} {d : Addr} {o : Obj} {kvs : List (List Key × V)}
theorem Inv.freeze (I : Inv X pins σ H s) (e : H d = some (.dT kvs)) (ho : s.heap.get? d = some o) : Inv X pins σ (upd H d (.frz o (.dT kvs))) s := by
  obtain ⟨h, g, dr, t, os⟩ := s
  refine I.write (x := d) (e := d) (o := .frz o (.dT kvs)) (t' := t) (h' := h) (by rw [e]; exact True.intro) (.inl rfl) (fun b u _ q => q) ⟨o, ho⟩ ⟨ho, ?_⟩
  refine (I.hok d _ e).stay (fun b u _ q => q) (fun b q => ?_) fun b ys q => ?_
  · rw [upd_ne (ne_of q e (fun z => nomatch z))]; exact q
  · rw [upd_ne (ne_of q e (fun z => nomatch z))]; exact q
end
theorem meets_itemsD (d : Addr) (hd : (d == sysModules) = false) :
    Meets (Builtin.«dict.items» ⟨[.ref d], []⟩) (fun _ R s => s.TypeIs (.ref d) "dict" ∧ R (.ok (.ret (.ref s.heap.objs.size))) { s with heap := s.heap.push { cls := .type "dict_items", data := .fields #[.ref d] } }) :=
  .of_wp fun prog w A R s ⟨hT, h⟩ => by
    unfold Builtin.«dict.items»
    refine wpAny_bind ?_
    unfold Builtin.Dict.noArgs
    refine wpAny_bind (wpAny_notOrdered_dict hT ?_)
    show wpAny _ _ (pure d) _ _ s
    refine wpAny_pure ?_
    show wpAny _ _ (Builtin.Dict.showsAll d >>= _) _ _ s
    unfold Builtin.Dict.showsAll
    rw [if_neg (by rw [hd]; exact Bool.false_ne_true)]
    exact wpAny_bind (wpAny_pure (wpAny_bind (wpAny_newObj_type (wpAny_pure ⟨_, rfl, h⟩))))
theorem items_len : typeLookup (.type "dict_items") "__len__" = pure (some (.builtin "dict_items.__len__")) := by rw [typeLookup_type, builtinLookup_eq_fast]; kernel_rfl
theorem asked_items {prog : Program} {w : World} : Asked prog w "dict_items" where
  nl := by decide
  nt := by decide
  hint := fun A E a s Q hT h => by
    unfold Builtin.List.listLengthHint
    refine wpAny_bind (wpAny_specialOf hT items_len ?_)
    generalize hid : ("dict_items.__len__" : String) = id0
    wp_delta
    rw [show splitId id0 = some ("dict_items", "__len__") from by subst hid; decide +kernel]
    subst hid
    refine wpAny_bind (wpAny_isInstance (T := "dict_items") (b := true) hT (by rw [isSubtype_type]; kernel_rfl) ?_)
    refine wpAny_ite_split (fun hab => absurd hab (by decide)) (fun _ => ?_)
    refine wpAny_ite_split (fun _ => ?_) (fun hab => absurd (by decide +kernel) hab)
    exact wpAny_bind (wpAny_typeOf hT (wpAny_pure (h false)))
structure M0 (X : Cx) (o : Expr) (m : Str) (apos cpos : Pos) : Prop where
  base : attributeBase o m X.env (eval o X.env) = eval o X.env
  few : ((backTo cpos (starEach [] X.env)).all (fun x => !x.1) && (backToKw cpos (keywordEach [] X.env)).all (fun x => x.1.isSome)
    && decide (([] : List Expr).length + ([] : List Keyword).length + (if ([] : List Keyword).isEmpty then 0 else 1) < 30)) = true
  line : (apos.endLine == cpos.line) = true
  trees : backTo cpos (starEach [] X.env) = []
def iItems (td : TE) : TI := fun σ H R => td σ H fun x H1 => ∃ d kvs, x = .ref d ∧ H1 d = some (.dT kvs) ∧ ∀ ob, R (ItI d ob kvs) (upd H1 d (.frz ob (.dT kvs)))
section
variable {X : Cx} {o : Expr} {apos cpos : Pos} {td : TE}
theorem pil_items (ho : PE X o td) (m : M0 X o "items" apos cpos) : PIL X (.Call (.Attribute o "items" apos) [] [] cpos) (iItems td) := by
  intro pins s σ H R I h
  refine wpAny_Call_method m.base m.few m.line PySem.F.plainAttrs_dict PySem.F.slot_dict_items PySem.F.type_dict_items (thn (ho pins s σ H _ I h) fun u s1 ⟨x, H1, I1, rx, d, kvs, ex, ed, q⟩ => ?_)
  subst ex
  obtain rfl : u = Value.ref d := rx
  obtain ⟨t1, t2, t3⟩ := isD_at I1 (.inr ⟨kvs, .inl ed⟩)
  refine ⟨t1, t2, ?_⟩
  rw [m.trees]
  obtain ⟨z, hd, xs, rel, od, es, ep, e1, e2, e3, e4, e5⟩ := (show ObjOk X.prog X.w H1 s1.heap d (.dT kvs) from I1.hok d _ ed)
  have hn : es.size = kvs.length := by
    have h1 : es.toList.length = xs.length := by rw [e4, List.length_map]
    have h2 := Paired.length rel
    have h3 : es.toList.length = es.size := by simp
    omega
  refine method0_meets PySem.F.slot_dict_items PySem.F.entry_dict_items t1 (PySem.F.args_dict_items_1 _) (meets_itemsD d t3) ⟨t1, ?_⟩
  have kp : ∀ b ob, s1.heap.get? b = some ob → (s1.heap.push { cls := .type "dict_items", data := .fields #[.ref d] }).get? b = some ob := fun b ob e => Heap.get?_push_of_some _ e
  have IV := (I1.kept (h' := s1.heap.push { cls := .type "dict_items", data := .fields #[.ref d] }) (t' := s1.toks) kp).freeze ed (kp _ _ e1)
  have gv : (s1.heap.push { cls := .type "dict_items", data := .fields #[.ref d] }).get? s1.heap.objs.size = some { cls := .type "dict_items", data := .fields #[.ref d] } := Heap.get?_push_size _ rfl
  refine ⟨_, "dict_items", s1.heap.objs.size, rfl, IV, ⟨_, gv, rfl⟩, asked_items, ?_⟩
  intro A' pm s2 E h1 h2 k2 hpm I2
  have gd2 : s2.heap.get? d = some od := k2 _ _ (kp _ _ e1)
  have gv2 := k2 _ _ gv
  refine itm_iter (es := es) (ep := ep) ⟨_, gv2, rfl, rfl⟩ ⟨od, gd2, e2.1, e3⟩ ?_
  have nd : d ≠ s2.heap.objs.size := Nat.ne_of_lt (Heap.lt_size gd2)
  refine ⟨⟨s2.heap.objs.size, [s2.heap.objs.size], _, _, _, rfl, I2.kept (t' := s2.toks) fun b ob e => Heap.get?_push_of_some _ e, turn_items nd e2.1 e3 hn, ⟨_, _, _, _, Heap.get?_push_size _ rfl, .inl rfl⟩, fun b hb => ?_, q od⟩, ⟨_, Heap.get?_push_of_some _ gv2, rfl⟩⟩
  have e0 : b = s2.heap.objs.size := by simpa using hb
  subst e0
  exact I2.fpOk (Nat.le_refl _) (I2.hok.fresh (Nat.le_refl _))
end
theorem list_items {d : Addr} {o : Obj} {kvs : List (List Key × V)} {H : Hp} {Fin : List V → Hp → Prop} (Pv : Nat → List V → Hp → Prop) (hz : kvs.length < sizeLine) (h0 : Pv 0 [] H) (hs : ∀ i zs H, Pv i zs H → H d = some (.frz o (.dT kvs)) ∧ zs.length = i)
    (step : ∀ i zs H p b k y, Pv i zs H → kvs[i]? = some (k, y) → H b = some (.tup (k.map kV)) → H p = none → Pv (i + 1) (zs ++ [.ref p]) (upd H p (.tup [.ref b, y]))) (fin : ∀ zs H, Pv kvs.length zs H → Fin zs H) : ListW (ItI d o kvs) H Fin := by
  refine ⟨fun i m zs H => m = kvs.length - i ∧ i ≤ kvs.length ∧ Pv i zs H, ⟨_, rfl, Nat.zero_le _, h0⟩, ?_⟩
  rintro i m zs H ⟨rfl, hi, p⟩
  obtain ⟨a, c⟩ := hs i zs H p
  by_cases hlt : i < kvs.length
  · refine .inr ⟨⟨a, hlt⟩, by omega, fun v H' ⟨q, b, k, y, e1, e2, e3, e4, e5⟩ => ?_⟩
    subst e1 e3
    exact ⟨kvs.length - (i + 1), by omega, rfl, hlt, step i zs H q b k y p e5 e4 e2⟩
  · have e : i = kvs.length := by omega
    subst e
    exact .inl ⟨⟨a, rfl⟩, by omega, fin zs H p⟩
end L2
set_option Elab.async false
set_option linter.all false
set_option maxRecDepth 100000
set_option maxHeartbeats 4000000
namespace L2
open PySem PySem.Spec PyProof.Rows
def tDispT (tk tv : TE) : TE := fun σ H Q => ∀ p, H p = none → tPairs [(tk, tv)] σ (upd H p (.dT [])) fun ps H2 => H2 p = some (.dT []) ∧ ∃ b ks y, ps = [(.ref b, y)] ∧ H2 b = some (.tup (ks.map kV)) ∧ Q (.ref p) (upd H2 p (.dT (putK [] ks y)))
theorem pe_dispT {X : Cx} {pos : Pos} {k v : Expr} {tk tv : TE} (hu : X.A.units + 1 < cLine) (hk : PE X k tk) (hv : PE X v tv) : PE X (.Dict [some k] [v] pos) (tDispT tk tv) := by
  intro pins s σ H Q I q
  have hn := I.hok.fresh (Nat.le_refl s.heap.objs.size)
  have I1 := I.laid (a := s.heap.objs.size) (o := .dT []) (h' := s.heap.push { cls := .type "dict", data := .dict #[] }) (t' := s.toks) (fun _ _ q => Heap.get?_push_of_some _ q) (Nat.le_refl _) (dt_empty s.heap I.big)
  have P : PPs X pos [some k] [v] [(tk, tv)] := pps_cons hk hv pps_nil
  refine wpAny_Dict_any rfl rfl (by simp) (by show 1 ≤ 15; decide) (thn (P pins _ σ _ _ I1 (q _ hn)) fun ws s2 ⟨ps, H2, I2, rel, e, b, ks, y, eps, eb, q2⟩ => ?_)
  subst eps
  cases rel with
  | @cons _ bb _ bs r t =>
    cases t
    obtain ⟨b1, b2⟩ := bb
    obtain ⟨r1, r2⟩ := r
    obtain rfl : b1 = Value.ref b := r1
    obtain ⟨z, hd, xs, rel, dd⟩ := dt_of I2.hok e
    unfold storeAll
    rw [List.forIn_cons]
    have hz : xs.length ≤ sizeLine := by rw [← Paired.length rel]; exact z
    have hl : (putK ([] : List (List Key × V)) ks y).length ≤ sizeLine := by have := length_putK ([] : List (List Key × V)) ks y; exact Nat.le_trans this (by decide)
    refine wpAny_bind (wpAny_bind (wpAny_dictSet_heap (hsz := hz) (knd := tupleKind (mixKind X.prog X.w)) (Nat.lt_of_le_of_lt (Nat.le_succ _) hu) (key_of I2.hok eb) dd fun h' dd' hs => wpAny_pure ?_))
    show wpAny _ _ (forIn [] PUnit.unit _) _ _ _
    rw [List.forIn_nil]
    refine wpAny_pure ⟨.ref s.heap.objs.size, _, ?_, rfl, q2⟩
    obtain ⟨o, es, ep, ho, h2, h3, h4, _, h5⟩ := dd'
    refine d_write I2 (by rw [e]; exact True.intro) hs ⟨o, ho⟩ ⟨hl, hd, _, (rel.put ks eb r2).keeps fun c ys ec => ?_, o, es, ep, ho, h2, h3, h4, h5⟩
    rw [upd_ne (ne_of ec e (fun z => nomatch z))]
    exact ec
end L2
set_option Elab.async false
set_option linter.all false
set_option maxRecDepth 100000
set_option maxHeartbeats 4000000
namespace Wk
open PySem L2
def kw : Kd → Str
  | .num => "num"
  | .truth => "truth"
  | .list _ => "list"
  | .to _ _ => "to"
def kids' : Kd → List Kd
  | .num => []
  | .truth => []
  | .list k => [k]
  | .to k m => [k, m]
def ksize : Kd → Nat
  | .num => 1
  | .truth => 1
  | .list k => ksize k + 1
  | .to k m => ksize k + ksize m + 1
theorem kdD_eq (k : Kd) : kdD k = .tuple (.str (kw k) :: (kids' k).map kdD) := by cases k <;> rfl
theorem kids_len {k m : Kd} (h : kw k = kw m) : (kids' k).length = (kids' m).length := by
  cases k <;> cases m <;> first | rfl | (simp only [kw] at h; exact absurd h (by decide))
def ksizes : List (Kd × Kd) → Nat
  | [] => 0
  | (k, m) :: r => ksize k + ksize m + ksizes r
theorem ksize_pos (k : Kd) : 0 < ksize k := by cases k <;> simp [ksize]
theorem ksizes_append (a b : List (Kd × Kd)) : ksizes (a ++ b) = ksizes a + ksizes b := by
  induction a with
  | nil => simp [ksizes]
  | cons x r ih => obtain ⟨k, m⟩ := x; simp only [List.cons_append, ksizes, ih]; omega
theorem ksizes_len (a : List (Kd × Kd)) : a.length ≤ ksizes a := by
  induction a with
  | nil => exact Nat.le_refl _
  | cons x r ih => obtain ⟨k, m⟩ := x; have := ksize_pos k; simp only [List.length_cons, ksizes]; omega
theorem ksizes_kids {k m : Kd} (h : kw k = kw m) : ksizes ((kids' k).zip (kids' m)) + 2 = ksize k + ksize m := by
  cases k <;> cases m <;> first | rfl | (simp only [kw] at h; exact absurd h (by decide)) | (simp only [kids', List.zip_cons_cons, List.zip_nil_right, ksizes, ksize]; omega)
def kpair (x : Kd × Kd) : PyData := .tuple [kdD x.1, kdD x.2]
theorem all_zip {k m : Kd} (h : kw k = kw m) : (∀ x ∈ (kids' k).zip (kids' m), x.1 = x.2) ↔ k = m := by
  cases k <;> cases m <;> first | (simp only [kw] at h; exact absurd h (by decide)) | simp [kids']
def spSameKind (K : PySem.W.Frag) : Sp := fun vs H Q _ => ∃ (v u : V) (k m : Kd), vs = [v, u] ∧ Rep K H (kdD k) v ∧ Rep K H (kdD m) u ∧ ksize k + ksize m ≤ 100000 ∧ ∀ H', Same H H' → Q (.bl (decide (k = m))) H'
end Wk
set_option Elab.async false
set_option linter.all false
set_option maxRecDepth 100000
set_option maxHeartbeats 4000000
namespace Wk
open PySem L2
def look : List (Str × Kd) → Str → Option Kd
  | [], _ => none
  | (y, k) :: r, x => match look r x with
    | some m => some m
    | none => if y = x then some k else none
theorem look_snoc (sc : List (Str × Kd)) (y : Str) (k : Kd) (x : Str) : look (sc ++ [(y, k)]) x = if y = x then some k else look sc x := by
  induction sc with
  | nil => simp only [List.nil_append, look]
  | cons p r ih =>
    obtain ⟨z, m⟩ := p
    rw [List.cons_append]
    simp only [look]
    rw [ih]
    by_cases h : y = x
    · simp [h]
    · simp [h]
structure ScD (K : PySem.W.Frag) (H : Hp) (a : Addr) (sc : List (Str × Kd)) : Prop where
  ex : ∃ kvs : List (Key × V), H a = some (.dK kvs) ∧ kvs.length ≤ sc.length ∧ (∀ x, look sc x = none → valV kvs (.inr x) = none) ∧ ∀ x k, look sc x = some k → ∃ v, valV kvs (.inr x) = some v ∧ Rep K H (kdD k) v
theorem ScD.mono {K : PySem.W.Frag} {H H' : Hp} {a : Addr} {sc : List (Str × Kd)} (h : ScD K H a sc) (s : Same H H') : ScD K H' a sc := by
  obtain ⟨kvs, e, l, n, r⟩ := h.ex
  exact ⟨kvs, s _ _ e, l, n, fun x k q => let ⟨v, h1, h2⟩ := r x k q; ⟨v, h1, Rep.mono (TupLe.of_same s) _ _ h2⟩⟩
theorem ScD.put {K : PySem.W.Frag} {H : Hp} {a : Addr} {sc : List (Str × Kd)} {y : Str} {k : Kd} {v : V} {kvs : List (Key × V)} (e : H a = some (.dK kvs)) (l : kvs.length ≤ sc.length) (n : ∀ x, look sc x = none → valV kvs (.inr x) = none)
    (r : ∀ x m, look sc x = some m → ∃ v, valV kvs (.inr x) = some v ∧ Rep K H (kdD m) v) (hv : Rep K H (kdD k) v) : ScD K (upd H a (.dK (putK kvs (.inr y) v))) a (sc ++ [(y, k)]) := by
  have tl : TupLe K H (upd H a (.dK (putK kvs (.inr y) v))) := .of_keep fun b o h _ n _ => by
    rw [upd_ne (fun z => by rw [z, e] at h; cases h; exact n _ rfl)]; exact h
  refine ⟨_, upd_same, by have := length_putK kvs (.inr y) v; rw [List.length_append]; simp; omega, fun x h => ?_, fun x m h => ?_⟩
  · rw [look_snoc] at h
    by_cases hy : y = x
    · rw [if_pos hy] at h; cases h
    · rw [if_neg hy] at h
      rw [valV_put, if_neg (fun z => hy (Sum.inr.inj z).symm)]
      exact n x h
  · rw [look_snoc] at h
    by_cases hy : y = x
    · rw [if_pos hy] at h
      cases h
      exact ⟨v, by rw [valV_put, if_pos (by rw [hy])], Rep.mono tl _ _ hv⟩
    · rw [if_neg hy] at h
      obtain ⟨u, h1, h2⟩ := r x m h
      exact ⟨u, by rw [valV_put, if_neg (fun z => hy (Sum.inr.inj z).symm)]; exact h1, Rep.mono tl _ _ h2⟩
end Wk
namespace Wk
open PySem L2
structure ScIn (lab : Str × List PyData) (i : Int) (sc sc' : List (Str × Kd)) : Prop where
  fn : lab.1 = "fun" → ∃ x k, lab.2 = [.str x, kdD k] ∧ sc' = sc ++ [(x, k)]
  case : lab.1 = "case" → i = 2 → ∃ k h t, lab.2 = [kdD k, .str h, .str t] ∧ sc' = sc ++ [(h, k)] ++ [(t, .list k)]
  other : lab.1 ≠ "fun" → (lab.1 = "case" → i ≠ 2) → sc' = sc
def spScope (K : PySem.W.Frag) : Sp := fun vs H Q _ => ∃ (v : V) (a : Addr) (t : Ex) (i : Int) (sc sc' : List (Str × Kd)), vs = [v, .int i, .ref a] ∧ Rep K H (py t) v ∧ ScD K H a sc ∧ sc.length ≤ 3000000 ∧ ScIn t.lab i sc sc' ∧ ∀ b H', Same H H' → ScD K H' b sc' → Q (.ref b) H'
end Wk
set_option Elab.async false
set_option linter.all false
set_option maxRecDepth 100000
set_option maxHeartbeats 4000000
namespace L2
open PySem PySem.Spec PyProof.Rows
def Ext (H H' : Hp) : Prop := ∀ b o, H b = some o → (∀ xs, o ≠ .lst xs) → H' b = some o
theorem Ext.of_same {H H' : Hp} (s : Same H H') : Ext H H' := fun b o h _ => s b o h
theorem Ext.write {H : Hp} {a : Addr} {vs : List V} (h : H a = some (.lst vs)) (o : HO) : Ext H (upd H a o) := fun b u q n => by
  by_cases e : b = a
  · subst e; rw [h] at q; cases q; exact absurd rfl (n vs)
  · rw [upd_ne e]; exact q
theorem TupLe.of_ext {K : PySem.W.Frag} {H H' : Hp} (e : Ext H H') : TupLe K H H' := .of_keep fun b o h n _ _ => e b o h n
structure Per where
  p : Hp → V → Prop
  mono : ∀ H H' v, Ext H H' → p H v → p H' v
inductive Sl where
  | un | d (x : PyData) | l (xs : List PyData) | o (xs : List PyData) | h (P : Per)
def Sl.its : Sl → Option (List PyData)
  | .l xs => some xs
  | .o xs => some xs
  | _ => none
def Sl.rd : Sl → Option Sl
  | .un => none
  | .o xs => some (.l xs)
  | r => some r
def Sl.arg : Sl → Sl
  | .o xs => .l xs
  | r => r
def LsR (K : PySem.W.Frag) (H : Hp) (a : Addr) (xs : List PyData) : Prop := ∃ vs, H a = some (.lst vs) ∧ Reps K H xs vs
def RdR (K : PySem.W.Frag) (H : Hp) : Sl → V → Prop
  | .un, _ => True
  | .d x, v => Rep K H x v
  | .l xs, v => ∃ a, v = .ref a ∧ LsR K H a xs
  | .o xs, v => ∃ a, v = .ref a ∧ LsR K H a xs
  | .h P, v => P.p H v
def RsR (K : PySem.W.Frag) (H H' : Hp) : Sl → V → Prop
  | .un, _ => True
  | .d x, v => Rep K H' x v
  | .l xs, v => ∃ a, v = .ref a ∧ LsR K H' a xs
  | .o xs, v => ∃ a, v = .ref a ∧ H a = none ∧ LsR K H' a xs
  | .h P, v => P.p H' v
section
variable {K : PySem.W.Frag} {H H' H'' : Hp} {a p : Addr} {xs ys : List PyData} {r : Sl} {v : V}
theorem LsR.mono (s : Same H H') (h : LsR K H a xs) : LsR K H' a xs := let ⟨vs, e, q⟩ := h; ⟨vs, s _ _ e, Reps.mono (TupLe.of_same s) _ _ q⟩
theorem LsR.other {vs ws : List V} (h : LsR K H a xs) (hp : H p = some (.lst vs)) (n : a ≠ p) : LsR K (upd H p (.lst ws)) a xs := by
  obtain ⟨us, e, q⟩ := h
  exact ⟨us, by rw [upd_ne n]; exact e, Reps.mono ((SameBut.upd _).tup hp) _ _ q⟩
theorem RsR.rd (h : RsR K H H' r v) : RdR K H' r v := by
  cases r with
  | un => trivial
  | d x => exact h
  | l xs => exact h
  | o xs => obtain ⟨a, e, _, q⟩ := h; exact ⟨a, e, q⟩
  | h P => exact h
theorem RsR.since (s : Same H H') (h : RsR K H' H'' r v) : RsR K H H'' r v := by
  cases r with
  | un => trivial
  | d x => exact h
  | l xs => exact h
  | o xs => obtain ⟨a, e, n, q⟩ := h; exact ⟨a, e, s.free n, q⟩
  | h P => exact h
theorem RdR.mono (s : Same H H') (h : RdR K H r v) : RdR K H' r v := by
  cases r with
  | un => trivial
  | d x => exact Rep.mono (TupLe.of_same s) _ _ h
  | l xs => obtain ⟨a, e, q⟩ := h; exact ⟨a, e, q.mono s⟩
  | o xs => obtain ⟨a, e, q⟩ := h; exact ⟨a, e, q.mono s⟩
  | h P => exact P.mono _ _ _ (Ext.of_same s) h
theorem RdR.lst (h : RdR K H r v) (e : r.its = some xs) : ∃ a vs, v = .ref a ∧ H a = some (.lst vs) ∧ Reps K H xs vs := by
  cases r with
  | un => cases e
  | d x => cases e
  | l ys => cases e; obtain ⟨a, e, vs, q1, q2⟩ := h; exact ⟨a, vs, e, q1, q2⟩
  | o ys => cases e; obtain ⟨a, e, vs, q1, q2⟩ := h; exact ⟨a, vs, e, q1, q2⟩
  | h P => cases e
theorem RsR.int {i : Int} : RsR K H H' (.d (.int i)) (.int i) := @Rep.int K H' i
theorem RsR.str {x : Str} : RsR K H H' (.d (.str x)) (.str x) := @Rep.str K H' x
theorem RsR.bool {b : Bool} : RsR K H H' (.d (.bool b)) (.bl b) := @Rep.bool K H' b
theorem RsR.non : RsR K H H' (.d .none) .non := @Rep.non K H'
theorem RdR.is_int {i : Int} (h : RdR K H (.d (.int i)) v) : v = .int i := Rep.is_int (K := K) (H := H) h
theorem RdR.is_str {x : Str} (h : RdR K H (.d (.str x)) v) : v = .str x := Rep.is_str (K := K) (H := H) h
theorem RdR.is_non (h : RdR K H (.d .none) v) : v = .non := Rep.is_non (K := K) (H := H) h
theorem RsR.is_int {i : Int} (h : RsR K H H' (.d (.int i)) v) : v = .int i := Rep.is_int (K := K) (H := H') h
theorem RsR.is_str {x : Str} (h : RsR K H H' (.d (.str x)) v) : v = .str x := Rep.is_str (K := K) (H := H') h
theorem RsR.is_bool {b : Bool} (h : RsR K H H' (.d (.bool b)) v) : v = .bl b := Rep.is_bool (K := K) (H := H') h
theorem RdR.tup {xs : List PyData} (h : RdR K H (.d (.tuple xs)) v) : ∃ a vs, v = .ref a ∧ SqT K H a vs ∧ Reps K H xs vs := Rep.untuple (K := K) (H := H) h
theorem RsR.tup {xs : List PyData} (h : RsR K H H' (.d (.tuple xs)) v) : ∃ a vs, v = .ref a ∧ SqT K H' a vs ∧ Reps K H' xs vs := Rep.untuple (K := K) (H := H') h
theorem RsR.mk {xs : List PyData} {vs : List V} (h : SqT K H' a vs) (r : Reps K H' xs vs) : RsR K H H' (.d (.tuple xs)) (.ref a) := Rep.tuple (K := K) (H := H') h r
theorem RdR.arg (h : RdR K H r v) : RdR K H r.arg v := by cases r <;> exact h
end
inductive RdRs (K : PySem.W.Frag) (H : Hp) : List Sl → List V → Prop where
  | nil : RdRs K H [] []
  | cons {r : Sl} {v : V} {rs : List Sl} {vs : List V} : RdR K H r v → RdRs K H rs vs → RdRs K H (r :: rs) (v :: vs)
theorem RdRs.mono {K : PySem.W.Frag} {H H' : Hp} (s : Same H H') : ∀ {rs : List Sl} {vs : List V}, RdRs K H rs vs → RdRs K H' rs vs
  | _, _, .nil => .nil
  | _, _, .cons h t => .cons (h.mono s) (t.mono s)
theorem RdRs.arg {K : PySem.W.Frag} {H : Hp} : ∀ {rs : List Sl} {vs : List V}, RdRs K H rs vs → RdRs K H (rs.map Sl.arg) vs
  | _, _, .nil => .nil
  | _, _, .cons h t => .cons h.arg t.arg
theorem RdRs.length {K : PySem.W.Frag} {H : Hp} : ∀ {rs : List Sl} {vs : List V}, RdRs K H rs vs → vs.length = rs.length
  | _, _, .nil => rfl
  | _, _, .cons h t => by rw [List.length_cons, List.length_cons, t.length]
theorem RdRs.get {K : PySem.W.Frag} {H : Hp} : ∀ {rs : List Sl} {vs : List V}, RdRs K H rs vs → ∀ {i : Nat} {r : Sl}, rs[i]? = some r → ∃ v, vs[i]? = some v ∧ RdR K H r v
  | _, _, .nil, i, r, e => by simp at e
  | _, _, .cons h t, 0, r, e => by simp at e; subst e; exact ⟨_, rfl, h⟩
  | _, _, .cons h t, i + 1, r, e => by simpa using t.get (i := i) (r := r) (by simpa using e)
structure ER (K : PySem.W.Frag) (H0 : Hp) (hs : List (V × Sl)) (ρ : List Sl) (σ : St) (H : Hp) : Prop where
  same : Same H0 H
  len : ρ.length = σ.length
  dat : ∀ (i : Nat) x, ρ[i]? = some (.d x) → ∃ v, σ[i]? = some (some v) ∧ Rep K H x v
  lst : ∀ (i : Nat) xs, ρ[i]? = some (.l xs) → ∃ a, σ[i]? = some (some (.ref a)) ∧ LsR K H a xs
  per : ∀ (i : Nat) P, ρ[i]? = some (.h P) → ∃ v, σ[i]? = some (some v) ∧ P.p H v
  own : ∀ (i : Nat) xs, ρ[i]? = some (.o xs) → ∃ a, σ[i]? = some (some (.ref a)) ∧ LsR K H a xs ∧ H0 a = none
  sepL : ∀ (i j : Nat) a xs ys, ρ[i]? = some (.o xs) → ρ[j]? = some (.l ys) → σ[i]? = some (some (.ref a)) → σ[j]? ≠ some (some (.ref a))
  sepO : ∀ (i j : Nat) a xs ys, i ≠ j → ρ[i]? = some (.o xs) → ρ[j]? = some (.o ys) → σ[i]? = some (some (.ref a)) → σ[j]? ≠ some (some (.ref a))
  held : ∀ p ∈ hs, RdR K H p.2 p.1
  sepH : ∀ (i : Nat) xs a, ρ[i]? = some (.o xs) → σ[i]? = some (some (.ref a)) → ∀ p ∈ hs, ∀ ys, p.2.its = some ys → p.1 ≠ .ref a
section
variable {K : PySem.W.Frag} {H0 H H' : Hp} {hs : List (V × Sl)} {ρ : List Sl} {σ : St}
theorem ER.grow (e : ER K H0 hs ρ σ H) (s : Same H H') : ER K H0 hs ρ σ H' :=
  ⟨e.same.trans s, e.len, fun i x h => let ⟨v, h1, h2⟩ := e.dat i x h; ⟨v, h1, Rep.mono (TupLe.of_same s) _ _ h2⟩, fun i x h => let ⟨v, h1, h2⟩ := e.lst i x h; ⟨v, h1, h2.mono s⟩,
    fun i P h => let ⟨v, h1, h2⟩ := e.per i P h; ⟨v, h1, P.mono _ _ _ (Ext.of_same s) h2⟩,
    fun i x h => let ⟨v, h1, h2, h3⟩ := e.own i x h; ⟨v, h1, h2.mono s, h3⟩, e.sepL, e.sepO, fun p hp => (e.held p hp).mono s, e.sepH⟩
theorem set_get {α : Type} {l : List α} {i j : Nat} {x y : α} (h : (l.set i x)[j]? = some y) : (i = j ∧ y = x ∧ i < l.length) ∨ (i ≠ j ∧ l[j]? = some y) := by
  rw [List.getElem?_set] at h
  by_cases e : i = j
  · rw [if_pos e] at h
    by_cases l1 : i < l.length
    · rw [if_pos l1] at h; exact .inl ⟨e, (Option.some.inj h).symm, l1⟩
    · rw [if_neg l1] at h; cases h
  · rw [if_neg e] at h; exact .inr ⟨e, h⟩
theorem set_at {α : Type} {l : List α} {i j : Nat} {x y : α} (e : i ≠ j) (h : l[j]? = some y) : (l.set i x)[j]? = some y := by rw [List.getElem?_set, if_neg e]; exact h
theorem set_eq {α : Type} {l : List α} {i : Nat} {x : α} (h : i < l.length) : (l.set i x)[i]? = some x := by rw [List.getElem?_set, if_pos rfl, if_pos h]
theorem set_unat {α : Type} {l : List α} {i j : Nat} {x y : α} (e : i ≠ j) (h : (l.set i x)[j]? = some y) : l[j]? = some y := by rw [List.getElem?_set, if_neg e] at h; exact h
theorem ER.setR {i : Nat} {r : Sl} {v : V} (e : ER K H0 hs ρ σ H) (h : RdR K H r v) (no : ∀ xs, r ≠ .o xs) (sep : ∀ ys, r = .l ys → ∀ (j : Nat) xs, ρ[j]? = some (.o xs) → σ[j]? ≠ some (some v)) : ER K H0 hs (ρ.set i r) (σ.set i (some v)) H := by
  have ls : i < ρ.length → i < σ.length := fun h => by rw [← e.len]; exact h
  refine ⟨e.same, by rw [List.length_set, List.length_set, e.len], fun j x q => ?_, fun j x q => ?_, fun j x q => ?_, fun j x q => ?_, fun j k a xs ys q1 q2 q3 q4 => ?_, fun j k a xs ys n q1 q2 q3 q4 => ?_, e.held, fun j xs a q1 q2 => ?_⟩
  · rcases set_get q with ⟨rfl, rfl, l1⟩ | ⟨n, q⟩
    · exact ⟨v, set_eq (ls l1), h⟩
    · obtain ⟨u, h1, h2⟩ := e.dat j x q
      exact ⟨u, set_at n h1, h2⟩
  · rcases set_get q with ⟨rfl, rfl, l1⟩ | ⟨n, q⟩
    · obtain ⟨a, rfl, h2⟩ := h
      exact ⟨a, set_eq (ls l1), h2⟩
    · obtain ⟨u, h1, h2⟩ := e.lst j x q
      exact ⟨u, set_at n h1, h2⟩
  · rcases set_get q with ⟨rfl, rfl, l1⟩ | ⟨n, q⟩
    · exact ⟨v, set_eq (ls l1), h⟩
    · obtain ⟨u, h1, h2⟩ := e.per j x q
      exact ⟨u, set_at n h1, h2⟩
  · rcases set_get q with ⟨_, z, _⟩ | ⟨n, q⟩
    · exact absurd z.symm (no x)
    · obtain ⟨u, h1, h2⟩ := e.own j x q
      exact ⟨u, set_at n h1, h2⟩
  · rcases set_get q1 with ⟨_, z, _⟩ | ⟨n1, q1⟩
    · exact absurd z.symm (no xs)
    · have q3 := set_unat n1 q3
      rcases set_get q2 with ⟨rfl, z, l1⟩ | ⟨n2, q2⟩
      · rw [set_eq (ls l1)] at q4
        have e4 : v = .ref a := Option.some.inj (Option.some.inj q4)
        exact sep ys z.symm j xs q1 (by rw [e4]; exact q3)
      · exact e.sepL j k a xs ys q1 q2 q3 (set_unat n2 q4)
  · rcases set_get q1 with ⟨_, z, _⟩ | ⟨n1, q1⟩
    · exact absurd z.symm (no xs)
    rcases set_get q2 with ⟨_, z, _⟩ | ⟨n2, q2⟩
    · exact absurd z.symm (no ys)
    exact e.sepO j k a xs ys n q1 q2 (set_unat n1 q3) (set_unat n2 q4)
  · rcases set_get q1 with ⟨_, z, _⟩ | ⟨n1, q1⟩
    · exact absurd z.symm (no xs)
    · exact e.sepH j xs a q1 (set_unat n1 q2)
theorem ER.setD {i : Nat} {x : PyData} {v : V} (e : ER K H0 hs ρ σ H) (h : Rep K H x v) : ER K H0 hs (ρ.set i (.d x)) (σ.set i (some v)) H := e.setR (r := .d x) h (fun _ z => nomatch z) fun _ z => nomatch z
theorem ER.setO {i : Nat} {xs : List PyData} {a : Addr} (e : ER K H0 hs ρ σ H) (s : Same H H') (n : H a = none) (h : LsR K H' a xs) : ER K H0 hs (ρ.set i (.o xs)) (σ.set i (some (.ref a))) H' := by
  have ls : i < ρ.length → i < σ.length := fun h => by rw [← e.len]; exact h
  have ne : ∀ {b : Addr} {ys : List PyData}, LsR K H b ys → b ≠ a := fun ⟨_, q, _⟩ z => by rw [z, n] at q; cases q
  refine ⟨e.same.trans s, by rw [List.length_set, List.length_set, e.len], fun j x q => ?_, fun j x q => ?_, fun j x q => ?_, fun j x q => ?_, fun j k b xs ys q1 q2 q3 q4 => ?_, fun j k b xs ys n q1 q2 q3 q4 => ?_, fun p hp => (e.held p hp).mono s, fun j xs b q1 q2 p hp ws hw => ?_⟩
  · rcases set_get q with ⟨_, z, _⟩ | ⟨n, q⟩
    · cases z
    · obtain ⟨u, h1, h2⟩ := e.dat j x q
      exact ⟨u, set_at n h1, Rep.mono (TupLe.of_same s) _ _ h2⟩
  · rcases set_get q with ⟨_, z, _⟩ | ⟨n, q⟩
    · cases z
    · obtain ⟨u, h1, h2⟩ := e.lst j x q
      exact ⟨u, set_at n h1, h2.mono s⟩
  · rcases set_get q with ⟨_, z, _⟩ | ⟨n, q⟩
    · cases z
    · obtain ⟨u, h1, h2⟩ := e.per j x q
      exact ⟨u, set_at n h1, x.mono _ _ _ (Ext.of_same s) h2⟩
  · rcases set_get q with ⟨rfl, z, l1⟩ | ⟨n, q⟩
    · cases z; exact ⟨a, set_eq (ls l1), h, e.same.free n⟩
    · obtain ⟨u, h1, h2, h3⟩ := e.own j x q
      exact ⟨u, set_at n h1, h2.mono s, h3⟩
  · rcases set_get q2 with ⟨_, z, _⟩ | ⟨n2, q2⟩
    · cases z
    have q4 := set_unat n2 q4
    rcases set_get q1 with ⟨rfl, z, l1⟩ | ⟨n1, q1⟩
    · rw [set_eq (ls l1)] at q3
      have e3 : V.ref a = V.ref b := Option.some.inj (Option.some.inj q3)
      cases e3
      obtain ⟨c, h1, h2⟩ := e.lst k ys q2
      rw [q4] at h1
      cases h1
      exact ne h2 rfl
    · exact e.sepL j k b xs ys q1 q2 (set_unat n1 q3) q4
  · rcases set_get q1 with ⟨rfl, z, l1⟩ | ⟨n1, q1⟩
    · rw [set_eq (ls l1)] at q3
      have e3 : V.ref a = V.ref b := Option.some.inj (Option.some.inj q3)
      cases e3
      rcases set_get q2 with ⟨z2, _, _⟩ | ⟨n2, q2⟩
      · exact n z2
      · obtain ⟨c, h1, h2, _⟩ := e.own k ys q2
        rw [set_unat n2 q4] at h1
        cases h1
        exact ne h2 rfl
    · have q3 := set_unat n1 q3
      rcases set_get q2 with ⟨rfl, z, l2⟩ | ⟨n2, q2⟩
      · rw [set_eq (ls l2)] at q4
        have e4 : V.ref a = V.ref b := Option.some.inj (Option.some.inj q4)
        cases e4
        obtain ⟨c, h1, h2, _⟩ := e.own j xs q1
        rw [q3] at h1
        cases h1
        exact ne h2 rfl
      · exact e.sepO j k b xs ys n q1 q2 q3 (set_unat n2 q4)
  · rcases set_get q1 with ⟨rfl, z, l1⟩ | ⟨n1, q1⟩
    · rw [set_eq (ls l1)] at q2
      have e3 : V.ref a = V.ref b := Option.some.inj (Option.some.inj q2)
      cases e3
      intro z
      obtain ⟨b, vs, h1, h2, _⟩ := (e.held p hp).lst hw
      rw [z] at h1
      cases h1
      rw [n] at h2
      cases h2
    · exact e.sepH j xs b q1 (set_unat n1 q2) p hp ws hw
theorem ER.write {i : Nat} {xs ys : List PyData} {a : Addr} {vs ws : List V} (e : ER K H0 hs ρ σ H) (hi : ρ[i]? = some (.o xs)) (ha : σ[i]? = some (some (.ref a))) (hv : H a = some (.lst vs)) (hw : Reps K H ys ws) : ER K H0 hs (ρ.set i (.o ys)) σ (upd H a (.lst ws)) := by
  have tl : TupLe K H (upd H a (.lst ws)) := (SameBut.upd _).tup hv
  have li : i < ρ.length := (List.getElem?_eq_some_iff.mp hi).1
  have h0 : H0 a = none := by
    obtain ⟨b, h1, _, h3⟩ := e.own i xs hi
    rw [ha] at h1; cases h1; exact h3
  refine ⟨fun b o q => by rw [upd_ne (ne_of_none q h0)]; exact e.same b o q, by rw [List.length_set, e.len], fun j x q => ?_, fun j x q => ?_, fun j x q => ?_, fun j x q => ?_, fun j k b us zs q1 q2 q3 q4 => ?_, fun j k b us zs n q1 q2 q3 q4 => ?_, fun p hp => ?_, fun j us b q1 q2 => ?_⟩
  · rcases set_get q with ⟨_, z, _⟩ | ⟨n, q⟩
    · cases z
    · obtain ⟨u, h1, h2⟩ := e.dat j x q
      exact ⟨u, h1, Rep.mono tl _ _ h2⟩
  · rcases set_get q with ⟨_, z, _⟩ | ⟨n, q⟩
    · cases z
    · obtain ⟨b, h1, h2⟩ := e.lst j x q
      exact ⟨b, h1, h2.other hv fun z => e.sepL i j a xs x hi q ha (by rw [← z]; exact h1)⟩
  · rcases set_get q with ⟨_, z, _⟩ | ⟨n, q⟩
    · cases z
    · obtain ⟨u, h1, h2⟩ := e.per j x q
      exact ⟨u, h1, x.mono _ _ _ (Ext.write hv _) h2⟩
  · rcases set_get q with ⟨rfl, z, _⟩ | ⟨n, q⟩
    · cases z; exact ⟨a, ha, ⟨ws, upd_same, Reps.mono tl _ _ hw⟩, h0⟩
    · obtain ⟨b, h1, h2, h3⟩ := e.own j x q
      exact ⟨b, h1, h2.other hv fun z => e.sepO i j a xs x n hi q ha (by rw [← z]; exact h1), h3⟩
  · rcases set_get q2 with ⟨_, z, _⟩ | ⟨n2, q2⟩
    · cases z
    rcases set_get q1 with ⟨rfl, _, _⟩ | ⟨n1, q1⟩
    · exact e.sepL i k b xs zs hi q2 q3 q4
    · exact e.sepL j k b us zs q1 q2 q3 q4
  · rcases set_get q1 with ⟨rfl, _, _⟩ | ⟨n1, q1⟩
    · rcases set_get q2 with ⟨z, _, _⟩ | ⟨n2, q2⟩
      · exact n z
      · exact e.sepO i k b xs zs n hi q2 q3 q4
    · rcases set_get q2 with ⟨rfl, _, _⟩ | ⟨n2, q2⟩
      · exact e.sepO j i b us xs n q1 hi q3 q4
      · exact e.sepO j k b us zs n q1 q2 q3 q4
  · have hh := e.held p hp
    obtain ⟨pv, ps⟩ := p
    cases ps with
    | un => trivial
    | d x => exact Rep.mono tl _ _ hh
    | l zs => obtain ⟨b, rfl, q⟩ := hh; exact ⟨b, rfl, q.other hv fun z => e.sepH i xs a hi ha (.ref b, .l zs) hp zs rfl (by rw [z])⟩
    | o zs => obtain ⟨b, rfl, q⟩ := hh; exact ⟨b, rfl, q.other hv fun z => e.sepH i xs a hi ha (.ref b, .o zs) hp zs rfl (by rw [z])⟩
    | h P => exact P.mono _ _ _ (Ext.write hv _) hh
  · rcases set_get q1 with ⟨rfl, _, _⟩ | ⟨n1, q1⟩
    · exact e.sepH i xs b hi q2
    · exact e.sepH j us b q1 q2
theorem ER.hold {v : V} {r : Sl} (e : ER K H0 hs ρ σ H) (h : RdR K H r v) (sep : ∀ ys, r.its = some ys → ∀ (i : Nat) xs a, ρ[i]? = some (.o xs) → σ[i]? = some (some (.ref a)) → v ≠ .ref a) : ER K H0 ((v, r) :: hs) ρ σ H :=
  ⟨e.same, e.len, e.dat, e.lst, e.per, e.own, e.sepL, e.sepO, fun p hp => by
    rcases List.mem_cons.mp hp with rfl | hp
    · exact h
    · exact e.held p hp, fun i xs a q1 q2 p hp ys hy => by
    rcases List.mem_cons.mp hp with rfl | hp
    · exact sep ys hy i xs a q1 q2
    · exact e.sepH i xs a q1 q2 p hp ys hy⟩
theorem ER.unhold {p : V × Sl} (e : ER K H0 (p :: hs) ρ σ H) : ER K H0 hs ρ σ H :=
  ⟨e.same, e.len, e.dat, e.lst, e.per, e.own, e.sepL, e.sepO, fun q hq => e.held q (List.mem_cons_of_mem _ hq), fun i xs a q1 q2 q hq => e.sepH i xs a q1 q2 q (List.mem_cons_of_mem _ hq)⟩
theorem ER.down {i : Nat} {xs : List PyData} (e : ER K H0 hs ρ σ H) (hi : ρ[i]? = some (.o xs)) : ER K H0 hs (ρ.set i (.l xs)) σ H := by
  obtain ⟨a, ha, hl, h0⟩ := e.own i xs hi
  refine ⟨e.same, by rw [List.length_set, e.len], fun j x q => ?_, fun j x q => ?_, fun j x q => ?_, fun j x q => ?_, fun j k b us zs q1 q2 q3 q4 => ?_, fun j k b us zs n q1 q2 q3 q4 => ?_, e.held, fun j us b q1 q2 => ?_⟩
  · rcases set_get q with ⟨_, z, _⟩ | ⟨n, q⟩
    · cases z
    · exact e.dat j x q
  · rcases set_get q with ⟨rfl, z, _⟩ | ⟨n, q⟩
    · cases z; exact ⟨a, ha, hl⟩
    · exact e.lst j x q
  · rcases set_get q with ⟨_, z, _⟩ | ⟨n, q⟩
    · cases z
    · exact e.per j x q
  · rcases set_get q with ⟨_, z, _⟩ | ⟨n, q⟩
    · cases z
    · exact e.own j x q
  · rcases set_get q1 with ⟨_, z, _⟩ | ⟨n1, q1⟩
    · cases z
    rcases set_get q2 with ⟨rfl, _, _⟩ | ⟨n2, q2⟩
    · exact e.sepO j i b us xs (Ne.symm n1) q1 hi q3 q4
    · exact e.sepL j k b us zs q1 q2 q3 q4
  · rcases set_get q1 with ⟨_, z, _⟩ | ⟨n1, q1⟩
    · cases z
    rcases set_get q2 with ⟨_, z, _⟩ | ⟨n2, q2⟩
    · cases z
    exact e.sepO j k b us zs n q1 q2 q3 q4
  · rcases set_get q1 with ⟨_, z, _⟩ | ⟨n1, q1⟩
    · cases z
    exact e.sepH j us b q1 q2
end
end L2
set_option Elab.async false
set_option linter.all false
set_option maxRecDepth 100000
set_option maxHeartbeats 4000000
namespace L2
open PySem PySem.Spec PyProof.Rows
def tR (K : PySem.W.Frag) (ρ : List Sl) (r : Sl) : TE := fun σ H Q => (∃ H0 hs, ER K H0 hs ρ σ H) ∧ ∀ v H', Same H H' → RsR K H H' r v → Q v H'
def tRT (K : PySem.W.Frag) (ρ : List Sl) (b : Bool) : TT := fun σ H Q => (∃ H0 hs, ER K H0 hs ρ σ H) ∧ ∀ H', Same H H' → Q b H'
def tRD (K : PySem.W.Frag) (ρ : List Sl) (ds : List PyData) : TA := fun σ H Q => (∃ H0 hs, ER K H0 hs ρ σ H) ∧ ∀ vs H', Same H H' → Reps K H' ds vs → Q vs H'
def tRA (K : PySem.W.Frag) (ρ : List Sl) (rs : List Sl) : TA := fun σ H Q => (∃ H0 hs, ER K H0 hs ρ σ H) ∧ ∀ vs H', Same H H' → RdRs K H' rs vs → Q vs H'
def VE (X : Cx) (ρ : List Sl) (e : Expr) (r : Sl) : Prop := PE X e (tR X.K ρ r)
def VT (X : Cx) (ρ : List Sl) (e : Expr) (b : Bool) : Prop := PT X e (tRT X.K ρ b)
def VW (X : Cx) (ρ : List Sl) (e : Expr) (b : Bool) : Prop := PW X e (tRT X.K ρ b)
def VD (X : Cx) (ρ : List Sl) (es : List Expr) (ds : List PyData) : Prop := PA X es (tRD X.K ρ ds)
def VA (X : Cx) (ρ : List Sl) (es : List Expr) (rs : List Sl) : Prop := PA X es (tRA X.K ρ rs)
section
variable {X : Cx} {ρ : List Sl} {e a b c : Expr} {es : List Expr} {r ra rb : Sl} {pos : Pos} {d : PyData} {ds : List PyData} {rs : List Sl}
theorem PE.weak {t t' : TE} (h : PE X e t) (w : ∀ σ H Q, t' σ H Q → t σ H Q) : PE X e t' := fun pins s σ H Q I q => h pins s σ H Q I (w σ H Q q)
theorem PT.weak {t t' : TT} (h : PT X e t) (w : ∀ σ H Q, t' σ H Q → t σ H Q) : PT X e t' := fun pins s σ H Q I q => h pins s σ H Q I (w σ H Q q)
theorem PW.weak {t t' : TT} (h : PW X e t) (w : ∀ σ H Q, t' σ H Q → t σ H Q) : PW X e t' := fun wh pins s σ H Q I q => h wh pins s σ H Q I (w σ H Q q)
theorem PA.weak {t t' : TA} (h : PA X es t) (w : ∀ σ H Q, t' σ H Q → t σ H Q) : PA X es t' := fun ps pins s σ H Q I q => h ps pins s σ H Q I (w σ H Q q)
theorem er_grow {K : PySem.W.Frag} {σ : St} {H H' : Hp} (h : ∃ H0 hs, ER K H0 hs ρ σ H) (s : Same H H') : ∃ H0 hs, ER K H0 hs ρ σ H' := let ⟨a, b, e⟩ := h; ⟨a, b, e.grow s⟩
def ixA (x : Str) : List Str → Nat → Option Nat
  | [], _ => none
  | y :: r, k => if y = x then some k else ixA x r (k + 1)
theorem ixA_get {x : Str} : ∀ {l : List Str} {k i : Nat}, ixA x l k = some i → k ≤ i ∧ l[i - k]? = some x
  | [], k, i, h => nomatch h
  | y :: r, k, i, h => by
    rw [ixA] at h
    by_cases e : y = x
    · rw [if_pos e] at h; cases h; exact ⟨Nat.le_refl _, by rw [Nat.sub_self, e]; rfl⟩
    · rw [if_neg e] at h
      obtain ⟨h1, h2⟩ := ixA_get h
      refine ⟨by omega, ?_⟩
      rw [show i - k = (i - (k + 1)) + 1 from by omega, List.getElem?_cons_succ]
      exact h2
theorem ixA_N {x : Str} {i : Nat} {N : List Str} (h : ixA x N 0 = some i) : N[i]? = some x := by
  have := (ixA_get h).2
  rwa [Nat.sub_zero] at this
theorem ve_name {i : Nat} {x : Str} (hi : ixA x X.N 0 = some i) (hr : (ρ[i]?).bind Sl.rd = some r) (hv : Vis X.env.scope x := by first | exact Or.inl rfl | exact Or.inr (Or.inl rfl) | exact Or.inr (Or.inr rfl)) (hd : (x == ("__debug__" : Str)) = false := by decide)
    (hcd : (x == ("__classdict__" : Str)) = false := by decide) : VE X ρ (.Name x pos) r := by
  refine (pe_var (ixA_N hi) hv hd hcd).weak fun σ H Q ⟨⟨H0, hs, e⟩, q⟩ => ?_
  cases h : ρ[i]? with
  | none => rw [h] at hr; cases hr
  | some s =>
    rw [h] at hr
    cases s with
    | un => cases hr
    | d x => cases hr; obtain ⟨v, h1, h2⟩ := e.dat i x h; exact ⟨v, h1, q v H (Same.refl H) h2⟩
    | l x => cases hr; obtain ⟨a, h1, h2⟩ := e.lst i x h; exact ⟨_, h1, q _ H (Same.refl H) ⟨a, rfl, h2⟩⟩
    | o x => cases hr; obtain ⟨a, h1, h2, _⟩ := e.own i x h; exact ⟨_, h1, q _ H (Same.refl H) ⟨a, rfl, h2⟩⟩
    | h P => cases hr; obtain ⟨v, h1, h2⟩ := e.per i P h; exact ⟨v, h1, q v H (Same.refl H) h2⟩
theorem ve_int {i : Int} {j : Nat} : VE X ρ (.Constant (.int i) j pos) (.d (.int i)) := pe_int.weak fun σ H Q ⟨_, q⟩ => q _ H (Same.refl H) RsR.int
theorem ve_str {x : Str} {j : Nat} : VE X ρ (.Constant (.str x) j pos) (.d (.str x)) := pe_str.weak fun σ H Q ⟨_, q⟩ => q _ H (Same.refl H) RsR.str
theorem ve_bl {b : Bool} {j : Nat} : VE X ρ (.Constant (.bool b) j pos) (.d (.bool b)) := pe_bl.weak fun σ H Q ⟨_, q⟩ => q _ H (Same.refl H) RsR.bool
theorem ve_non {j : Nat} : VE X ρ (.Constant .none j pos) (.d .none) := pe_non.weak fun σ H Q ⟨_, q⟩ => q _ H (Same.refl H) RsR.non
theorem ve_glob {x : Str} {v : V} {u : Value} (hg : Gl X x) (hm : X.mg x = some u) (rv : RelV v u) (h : ∀ H, Rep X.K H d v) (hd : (x == ("__debug__" : Str)) = false := by decide) : VE X ρ (.Name x pos) (.d d) :=
  (pe_glob hg hm rv hd).weak fun σ H Q ⟨_, q⟩ => q _ H (Same.refl H) (h H)
theorem vd_nil : VD X ρ [] [] := pa_nil.weak fun σ H Q ⟨_, q⟩ => q [] H (Same.refl H) .nil
theorem vd_cons (h : VE X ρ e (.d d)) (t : VD X ρ es ds) (hs : starEach (e :: es) X.env = (false, eval e X.env) :: starEach es X.env := by rfl) : VD X ρ (e :: es) (d :: ds) :=
  PA.weak (pa_cons h t hs) fun σ H Q ⟨er, q⟩ => ⟨er, fun v H1 s1 r1 => ⟨er_grow er s1, fun vs H2 s2 r2 => q (v :: vs) H2 (s1.trans s2) (.cons (Rep.mono (TupLe.of_same s2) _ _ r1) r2)⟩⟩
theorem va_nil : VA X ρ [] [] := pa_nil.weak fun σ H Q ⟨_, q⟩ => q [] H (Same.refl H) .nil
theorem va_cons (h : VE X ρ e r) (t : VA X ρ es rs) (hs : starEach (e :: es) X.env = (false, eval e X.env) :: starEach es X.env := by rfl) : VA X ρ (e :: es) (r :: rs) :=
  PA.weak (pa_cons h t hs) fun σ H Q ⟨er, q⟩ => ⟨er, fun v H1 s1 r1 => ⟨er_grow er s1, fun vs H2 s2 r2 => q (v :: vs) H2 (s1.trans s2) (.cons (r1.rd.mono s2) r2)⟩⟩
theorem ve_tup {k : Nat} (h : VD X ρ es ds) (hz : ds.length ≤ sizeLine := by first | decide | exact Nat.le_of_ble_eq_true rfl) : VE X ρ (.Tuple es k pos) (.d (.tuple ds)) :=
  PE.weak (pe_tup h) fun σ H Q ⟨er, q⟩ => ⟨er, fun vs H1 s1 r1 => ⟨by rw [r1.length]; exact hz, fun p np => q _ _ (s1.trans (same_upd np _)) (RsR.mk (SqT.of upd_same) (Reps.mono (TupLe.of_same (same_upd np _)) _ _ r1))⟩⟩
theorem ve_lst (h : VD X ρ es ds) (hz : ds.length ≤ sizeLine := by first | decide | exact Nat.le_of_ble_eq_true rfl) : VE X ρ (.List es pos) (.o ds) :=
  PE.weak (pe_lst h) fun σ H Q ⟨er, q⟩ => ⟨er, fun vs H1 s1 r1 => ⟨by rw [r1.length]; exact hz, fun p np => q _ _ (s1.trans (same_upd np _)) ⟨p, rfl, s1.free np, vs, upd_same, Reps.mono (TupLe.of_same (same_upd np _)) _ _ r1⟩⟩⟩
theorem ve_op {op : Operator} {r2 : R2} (ho : OpR X (binaryOp op) r2) (ha : VE X ρ a ra) (hb : VE X ρ b rb) (h : ∀ H x y Q, RdR X.K H ra x → RdR X.K H rb y → (∀ z H', Same H H' → RsR X.K H H' r z → Q z H') → r2 x y H Q) : VE X ρ (.BinOp a op b pos) r :=
  PE.weak (pe_op ho ha hb) fun σ H Q ⟨er, q⟩ => ⟨er, fun x H1 s1 r1 => ⟨er_grow er s1, fun y H2 s2 r2 => h H2 x y _ (r1.rd.mono s2) r2.rd fun z H3 s3 r3 => q z H3 ((s1.trans s2).trans s3) (r3.since (s1.trans s2))⟩⟩
theorem ve_cmp {op : CmpOp} {r2 : R2} (ho : OpR X (compareOp op) r2) (ha : VE X ρ a ra) (hb : VE X ρ b rb) (h : ∀ H x y Q, RdR X.K H ra x → RdR X.K H rb y → (∀ z H', Same H H' → RsR X.K H H' r z → Q z H') → r2 x y H Q) (hm : behindInMarks op b = false) : VE X ρ (.Compare a [op] [b] pos) r :=
  PE.weak (pe_cmpR ho ha hb hm) fun σ H Q ⟨er, q⟩ => ⟨er, fun x H1 s1 r1 => ⟨er_grow er s1, fun y H2 s2 r2 => h H2 x y _ (r1.rd.mono s2) r2.rd fun z H3 s3 r3 => q z H3 ((s1.trans s2).trans s3) (r3.since (s1.trans s2))⟩⟩
theorem vt_cmp {op : CmpOp} {r2 : R2} {k : Bool} (ho : OpR X (compareOp op) r2) (ha : VE X ρ a ra) (hb : VE X ρ b rb) (h : ∀ H x y Q, RdR X.K H ra x → RdR X.K H rb y → Q (.bl k) H → r2 x y H Q) (hm : behindInMarks op b = false) : VT X ρ (.Compare a [op] [b] pos) k :=
  PT.weak (pt_cmpR ho ha hb hm) fun σ H Q ⟨er, q⟩ => ⟨er, fun x H1 s1 r1 => ⟨er_grow er s1, fun y H2 s2 r2 => h H2 x y _ (r1.rd.mono s2) r2.rd ⟨k, rfl, q H2 (s1.trans s2)⟩⟩⟩
theorem ve_addS {i j : Str} (ha : VE X ρ a (.d (.str i))) (hb : VE X ρ b (.d (.str j))) (h : i.length + j.length ≤ sizeLine) : VE X ρ (.BinOp a .Add b pos) (.d (.str (i ++ j))) :=
  ve_op op_add_str ha hb fun H x y Q rx ry q => ⟨i, j, RdR.is_str rx, RdR.is_str ry, h, q _ H (Same.refl H) RsR.str⟩
theorem ve_addT {xs ys : List PyData} (ha : VE X ρ a (.d (.tuple xs))) (hb : VE X ρ b (.d (.tuple ys))) (h : xs.length + ys.length ≤ sizeLine) : VE X ρ (.BinOp a .Add b pos) (.d (.tuple (xs ++ ys))) :=
  ve_op op_catT' ha hb fun H x y Q rx ry q => by
    obtain ⟨p, vs, rfl, hq, rp⟩ := RdR.tup rx
    obtain ⟨p2, ws, rfl, hq2, rp2⟩ := RdR.tup ry
    exact cat_reps hq hq2 (by rw [rp.length, rp2.length]; exact h) fun c H3 s3 h3 => q _ _ s3 (RsR.mk h3 ((Reps.mono (TupLe.of_same s3) _ _ rp).append (Reps.mono (TupLe.of_same s3) _ _ rp2)))
theorem ve_addL {xs ys : List PyData} (ha : VE X ρ a ra) (hb : VE X ρ b rb) (ea : ra.its = some xs) (eb : rb.its = some ys) (h : xs.length + ys.length ≤ sizeLine) : VE X ρ (.BinOp a .Add b pos) (.o (xs ++ ys)) :=
  ve_op op_cat ha hb fun H x y Q rx ry q => by
    obtain ⟨p, vs, rfl, hq, rp⟩ := rx.lst ea
    obtain ⟨p2, ws, rfl, hq2, rp2⟩ := ry.lst eb
    refine ⟨p, p2, vs, ws, rfl, rfl, hq, hq2, by rw [rp.length, rp2.length]; exact h, fun c hc => q _ _ (same_upd hc _) ⟨c, rfl, hc, _, upd_same, ?_⟩⟩
    exact (Reps.mono (TupLe.of_same (same_upd hc _)) _ _ rp).append (Reps.mono (TupLe.of_same (same_upd hc _)) _ _ rp2)
theorem ve_ixT {xs : List PyData} {i : Int} (ha : VE X ρ a (.d (.tuple xs))) (hb : VE X ρ b (.d (.int i))) (h : atI xs i = some d) (hs : PlainIx b := by exact fun _ _ => rfl) : VE X ρ (.Subscript a b pos) (.d d) :=
  PE.weak (pe_ix ix_tup ha hb hs) fun σ H Q ⟨er, q⟩ => ⟨er, fun x H1 s1 r1 => ⟨er_grow er s1, fun y H2 s2 r2 => by
    obtain ⟨p, vs, rfl, hq, rp⟩ := RdR.tup (r1.rd.mono s2)
    obtain rfl := RsR.is_int r2
    obtain ⟨j, h1, h2, h3, h4, h5⟩ := atI_get h
    obtain ⟨z, hz, rz⟩ := rp.get h2
    refine ⟨p, vs, i, z, rfl, rfl, hq, ?_, q z H2 (s1.trans s2) rz⟩
    unfold atI at h ⊢
    rw [rp.length]
    cases q : ixN xs.length i with
    | none => rw [q] at h; cases h
    | some k =>
      have hk := (ixN_seq q).1
      rw [h1] at hk
      cases hk
      exact hz⟩⟩
theorem ve_ixL {xs : List PyData} {i : Int} (ha : VE X ρ a ra) (hb : VE X ρ b (.d (.int i))) (ea : ra.its = some xs) (h : atI xs i = some d) (hs : PlainIx b := by exact fun _ _ => rfl) : VE X ρ (.Subscript a b pos) (.d d) :=
  PE.weak (pe_ix ix_list ha hb hs) fun σ H Q ⟨er, q⟩ => ⟨er, fun x H1 s1 r1 => ⟨er_grow er s1, fun y H2 s2 r2 => by
    obtain ⟨p, vs, rfl, hq, rp⟩ := (r1.rd.mono s2).lst ea
    obtain rfl := RsR.is_int r2
    obtain ⟨j, h1, h2, h3, h4, h5⟩ := atI_get h
    obtain ⟨z, hz, rz⟩ := rp.get h2
    refine ⟨p, vs, i, z, rfl, rfl, SqL.of hq, ?_, q z H2 (s1.trans s2) rz⟩
    unfold atI at h ⊢
    rw [rp.length]
    cases q : ixN xs.length i with
    | none => rw [q] at h; cases h
    | some k =>
      have hk := (ixN_seq q).1
      rw [h1] at hk
      cases hk
      exact hz⟩⟩
def Sl.dat : Sl → Option PyData
  | .d x => some x
  | .l xs => some (.list xs)
  | .o xs => some (.list xs)
  | .un => none
  | .h _ => none
theorem RdR.repL {K : PySem.W.Frag} {H : Hp} {v : V} (h : RdR K H r v) (e : r.dat = some d) : RepL K H d v := by
  cases r with
  | un => cases e
  | d x =>
    cases e
    have h' : Rep K H d v := h
    cases d with
    | list xs => rw [Rep] at h'; obtain ⟨a, o, vs, rfl, h1, h2⟩ := h'; exact ⟨a, vs, rfl, .inl (.inr ⟨o, h1⟩), h2⟩
    | _ => exact h'
  | l xs => cases e; obtain ⟨a, rfl, vs, h1, h2⟩ := h; exact ⟨a, vs, rfl, SqL.of h1, h2⟩
  | o xs => cases e; obtain ⟨a, rfl, vs, h1, h2⟩ := h; exact ⟨a, vs, rfl, SqL.of h1, h2⟩
  | h P => cases e
theorem ve_eqD {n : Nat} {d' : PyData} (hu : X.A.units + n < cLine) (ha : VE X ρ a ra) (hb : VE X ρ b rb) (ea : ra.dat = some d) (eb : rb.dat = some d') (ca : d.canLay0 = true) (cb : d'.canLay0 = true) (hn : d.depth ≤ n ∨ d'.depth ≤ n) : VE X ρ (.Compare a [.Eq] [b] pos) (.d (.bool (PyData.eqv d d'))) :=
  ve_cmp (op_eqD hu) ha hb (fun H x y Q rx ry q => ⟨d, d', rx.repL ea, ry.repL eb, ca, cb, hn, q _ H (Same.refl H) RsR.bool⟩) (nomark _)
theorem vt_eqD {n : Nat} {d' : PyData} (hu : X.A.units + n < cLine) (ha : VE X ρ a ra) (hb : VE X ρ b rb) (ea : ra.dat = some d) (eb : rb.dat = some d') (ca : d.canLay0 = true) (cb : d'.canLay0 = true) (hn : d.depth ≤ n ∨ d'.depth ≤ n) : VT X ρ (.Compare a [.Eq] [b] pos) (PyData.eqv d d') :=
  vt_cmp (op_eqD hu) ha hb (fun H x y Q rx ry q => ⟨d, d', rx.repL ea, ry.repL eb, ca, cb, hn, q⟩) (nomark _)
theorem vt_neD {n : Nat} {d' : PyData} (hu : X.A.units + n < cLine) (ha : VE X ρ a ra) (hb : VE X ρ b rb) (ea : ra.dat = some d) (eb : rb.dat = some d') (ca : d.canLay0 = true) (cb : d'.canLay0 = true) (hn : d.depth ≤ n ∨ d'.depth ≤ n) : VT X ρ (.Compare a [.NotEq] [b] pos) (!PyData.eqv d d') :=
  vt_cmp (op_neD hu) ha hb (fun H x y Q rx ry q => ⟨d, d', rx.repL ea, ry.repL eb, ca, cb, hn, q⟩) (nomark _)
theorem vt_eqS {x y : Str} (ha : VE X ρ a (.d (.str x))) (hb : VE X ρ b (.d (.str y))) : VT X ρ (.Compare a [.Eq] [b] pos) (decide (x = y)) :=
  vt_cmp op_eq ha hb (fun H u w Q rx ry q => by
    obtain rfl := RdR.is_str rx
    obtain rfl := RdR.is_str ry
    refine ⟨rfl, ?_⟩
    rw [show decide (V.str x = V.str y) = decide (x = y) from by simp]; exact q) (nomark _)
theorem vt_neS {x y : Str} (ha : VE X ρ a (.d (.str x))) (hb : VE X ρ b (.d (.str y))) : VT X ρ (.Compare a [.NotEq] [b] pos) (!decide (x = y)) :=
  vt_cmp op_ne ha hb (fun H u w Q rx ry q => by
    obtain rfl := RdR.is_str rx
    obtain rfl := RdR.is_str ry
    refine ⟨rfl, ?_⟩
    rw [show decide (V.str x = V.str y) = decide (x = y) from by simp]; exact q) (nomark _)
theorem vt_eqI {x y : Int} (ha : VE X ρ a (.d (.int x))) (hb : VE X ρ b (.d (.int y))) : VT X ρ (.Compare a [.Eq] [b] pos) (decide (x = y)) :=
  vt_cmp op_eq ha hb (fun H u w Q rx ry q => by
    obtain rfl := RdR.is_int rx
    obtain rfl := RdR.is_int ry
    refine ⟨rfl, ?_⟩
    rw [show decide (V.int x = V.int y) = decide (x = y) from by simp]; exact q) (nomark _)
theorem vt_neI {x y : Int} (ha : VE X ρ a (.d (.int x))) (hb : VE X ρ b (.d (.int y))) : VT X ρ (.Compare a [.NotEq] [b] pos) (!decide (x = y)) :=
  vt_cmp op_ne ha hb (fun H u w Q rx ry q => by
    obtain rfl := RdR.is_int rx
    obtain rfl := RdR.is_int ry
    refine ⟨rfl, ?_⟩
    rw [show decide (V.int x = V.int y) = decide (x = y) from by simp]; exact q) (nomark _)
theorem vt_gtI {x y : Int} (ha : VE X ρ a (.d (.int x))) (hb : VE X ρ b (.d (.int y))) : VT X ρ (.Compare a [.Gt] [b] pos) (decide (y < x)) :=
  vt_cmp op_gt ha hb (fun H u w Q rx ry q => ⟨x, y, RdR.is_int rx, RdR.is_int ry, q⟩) (nomark _)
def Sl.isN : Sl → Bool
  | .d .none => true
  | _ => false
theorem nun_d {x : PyData} : Sl.d x ≠ .un ∧ ∀ P, Sl.d x ≠ .h P := ⟨(by intro z; cases z), (by intro _ z; cases z)⟩
theorem rep_non {K : PySem.W.Frag} {H : Hp} {v : V} (h : RdR K H r v) (hu : r ≠ .un ∧ ∀ P, r ≠ .h P) : decide (v = V.non) = r.isN := by
  cases r with
  | un => exact absurd rfl hu.1
  | h P => exact absurd rfl (hu.2 P)
  | d x =>
    have h : Rep K H x v := h
    cases x with
    | none => rw [Rep] at h; subst h; rfl
    | bool b => rw [Rep] at h; subst h; rfl
    | int b => rw [Rep] at h; subst h; rfl
    | str b => rw [Rep] at h; subst h; rfl
    | tuple b => rw [Rep] at h; obtain ⟨a, vs, rfl, _⟩ := h; rfl
    | list b => rw [Rep] at h; obtain ⟨a, o, vs, rfl, _⟩ := h; rfl
    | dict b => rw [Rep] at h; obtain ⟨a, o, dx, vs, rfl, _⟩ := h; rfl
  | l xs => obtain ⟨a, rfl, _⟩ := h; rfl
  | o xs => obtain ⟨a, rfl, _⟩ := h; rfl
theorem vt_isN {j : Nat} {p2 : Pos} (ha : VE X ρ a ra) (hu : ra ≠ .un ∧ ∀ P, ra ≠ .h P := by first | exact nun_d | exact nun_l | exact nun_o) : VT X ρ (.Compare a [.Is] [.Constant .none j p2] pos) ra.isN :=
  vt_cmp op_isN ha (ve_non (j := j) (pos := p2)) (fun H x y Q rx ry q => ⟨RdR.is_non ry, by rw [rep_non rx hu]; exact q⟩) (nomark _)
theorem vt_notN {j : Nat} {p2 : Pos} (ha : VE X ρ a ra) (hu : ra ≠ .un ∧ ∀ P, ra ≠ .h P := by first | exact nun_d | exact nun_l | exact nun_o) : VT X ρ (.Compare a [.IsNot] [.Constant .none j p2] pos) (!ra.isN) :=
  vt_cmp op_notN ha (ve_non (j := j) (pos := p2)) (fun H x y Q rx ry q => ⟨RdR.is_non ry, by rw [rep_non rx hu]; exact q⟩) (nomark _)
theorem vt_not {k : Bool} (h : VT X ρ a k) : VT X ρ (.UnaryOp .Not a pos) (!k) := PT.weak (pt_not h) fun σ H Q ⟨er, q⟩ => ⟨er, fun H1 s1 => q H1 s1⟩
theorem vt_eq {k k' : Bool} (h : VT X ρ a k) (e : k = k') : VT X ρ a k' := by rw [← e]; exact h
theorem vt_w {k : Bool} (h : VW X ρ e k) : VT X ρ e k := PW.pt h
theorem vw_and1 {k : Bool} (h : VT X ρ a k) : VW X ρ (.BoolOp .And [a] pos) k := pw_and1 h
theorem vw_or1 {k : Bool} (h : VT X ρ a k) : VW X ρ (.BoolOp .Or [a] pos) k := pw_or1 h
theorem vw_andT {k : Bool} (h : VT X ρ a true) (t : VW X ρ (.BoolOp .And (b :: es) pos) k) : VW X ρ (.BoolOp .And (a :: b :: es) pos) k :=
  PW.weak (pw_and h t) fun σ H Q ⟨er, q⟩ => ⟨er, fun H1 s1 => iteT ⟨er_grow er s1, fun H2 s2 => q H2 (s1.trans s2)⟩⟩
theorem vw_andF (h : VT X ρ a false) : VW X ρ (.BoolOp .And (a :: b :: es) pos) false :=
  PW.weak (pw_and (tB' := fun _ _ _ => False) h fun _ _ _ _ _ _ _ z => z.elim) fun σ H Q ⟨er, q⟩ => ⟨er, fun H1 s1 => iteF <| q H1 s1⟩
theorem vw_orT (h : VT X ρ a true) : VW X ρ (.BoolOp .Or (a :: b :: es) pos) true :=
  PW.weak (pw_or (tB' := fun _ _ _ => False) h fun _ _ _ _ _ _ _ z => z.elim) fun σ H Q ⟨er, q⟩ => ⟨er, fun H1 s1 => iteT <| q H1 s1⟩
theorem vw_orF {k : Bool} (h : VT X ρ a false) (t : VW X ρ (.BoolOp .Or (b :: es) pos) k) : VW X ρ (.BoolOp .Or (a :: b :: es) pos) k :=
  PW.weak (pw_or h t) fun σ H Q ⟨er, q⟩ => ⟨er, fun H1 s1 => iteF ⟨er_grow er s1, fun H2 s2 => q H2 (s1.trans s2)⟩⟩
theorem vt_bool {k : Bool} (h : VE X ρ e (.d (.bool k))) (he : ∀ whole, isTrue e X.env whole = (do let v ← whole; standAt e.pos; holding [v] (truthy v)) := by intro _; rfl) : VT X ρ e k :=
  PT.weak (pt_val h he) fun σ H Q ⟨er, q⟩ => ⟨er, fun v H1 s1 r1 => ⟨k, RsR.is_bool r1, q H1 s1⟩⟩
theorem ve_one {op : BoolOp} (h : VE X ρ a r) : VE X ρ (.BoolOp op [a] pos) r := pe_one h
theorem ve_and {j k : Bool} (h : VE X ρ a (.d (.bool j))) (t : j = true → VE X ρ (.BoolOp .And (b :: es) pos) (.d (.bool k))) : VE X ρ (.BoolOp .And (a :: b :: es) pos) (.d (.bool (j && k))) := by
  cases j with
  | true => exact PE.weak (pe_and h (t rfl)) fun σ H Q ⟨er, q⟩ => ⟨er, fun v H1 s1 r1 => ⟨true, RsR.is_bool r1, iteT ⟨er_grow er s1, fun u H2 s2 r2 => q u H2 (s1.trans s2) r2⟩⟩⟩
  | false => exact PE.weak (pe_and (tb := fun _ _ _ => False) h fun _ _ _ _ _ _ z => z.elim) fun σ H Q ⟨er, q⟩ => ⟨er, fun v H1 s1 r1 => ⟨false, RsR.is_bool r1, iteF <| q _ H1 s1 RsR.bool⟩⟩
end
end L2
set_option Elab.async false
set_option linter.all false
set_option maxRecDepth 100000
set_option maxHeartbeats 4000000
namespace L2
open PySem PySem.Spec PyProof.Rows
def spV (K : PySem.W.Frag) (R : List Sl → Sl → Prop) : Sp := fun vs H Q _ => ∃ as r, RdRs K H as vs ∧ R as r ∧ ∀ v H', Same H H' → RsR K H H' r v → Q v H'
section
variable {X : Cx} {ρ : List Sl} {e a b c : Expr} {es : List Expr} {r ra rb : Sl} {p p2 pos : Pos} {d : PyData} {ds : List PyData} {rs : List Sl}
theorem ve_call {k : Nat} {x : Str} {ps : List Str} {R : List Sl → Sl → Prop} (D : DefOk X.prog X.w X.K X.mg X.base k x ps (spV X.K R)) (hr : Room k X.A) (ha : VA X ρ (e :: es) rs) (h : R (rs.map Sl.arg) r) (hg : Gl X x := by rfl) (hdb : (x == ("__debug__" : Str)) = false := by decide)
    (he : starEach (e :: es) X.env = (false, eval e X.env) :: starEach es X.env := by rfl) (hpl : (backTo pos (starEach es X.env)).any (·.1) = false := by rfl) : VE X ρ (.Call (.Name x p) (e :: es) [] pos) r :=
  PE.weak (pe_callD D hr hg ha hdb he hpl) fun σ H Q ⟨er, q⟩ => ⟨er, fun vs H1 s1 r1 => by
    show spV X.K R (vs ++ []) H1 Q E0
    rw [List.append_nil]
    exact ⟨rs.map Sl.arg, r, r1.arg, h, fun v H2 s2 r2 => q v H2 (s1.trans s2) (r2.since s1)⟩⟩
theorem ve_call0 {k : Nat} {x : Str} {ps : List Str} {R : List Sl → Sl → Prop} (D : DefOk X.prog X.w X.K X.mg X.base k x ps (spV X.K R)) (hr : Room k X.A) (h : R [] r) (hg : Gl X x := by rfl) (hdb : (x == ("__debug__" : Str)) = false := by decide) : VE X ρ (.Call (.Name x p) [] [] pos) r :=
  PE.weak (pe_callD0 D hr hg hdb) fun σ H Q ⟨er, q⟩ => ⟨[], r, .nil, h, fun v H2 s2 r2 => q v H2 s2 r2⟩
def Sl.tyN : Sl → Option String
  | .d .none => some "NoneType"
  | .d (.bool _) => some "bool"
  | .d (.int _) => some "int"
  | .d (.str _) => some "str"
  | .d (.tuple _) => some "tuple"
  | .l _ => some "list"
  | .o _ => some "list"
  | _ => none
theorem RdR.ty {K : PySem.W.Frag} {H : Hp} {v : V} {T : String} (h : RdR K H r v) (e : r.tyN = some T) : TyV K H v (.type T) := by
  cases r with
  | un => cases e
  | d x =>
    have h : Rep K H x v := h
    cases x with
    | none => rw [Rep] at h; subst h; cases e; exact .of .non
    | bool b => rw [Rep] at h; subst h; cases e; exact .of (.bl b)
    | int b => rw [Rep] at h; subst h; cases e; exact .of (.int b)
    | str b => rw [Rep] at h; subst h; cases e; exact .of (.str b)
    | tuple b => rw [Rep] at h; obtain ⟨a, vs, rfl, hq, _⟩ := h; cases e; exact .sqT hq
    | list b => cases e
    | dict b => cases e
  | l xs => cases e; obtain ⟨a, rfl, vs, h1, _⟩ := h; exact .sqL (SqL.of h1)
  | o xs => cases e; obtain ⟨a, rfl, vs, h1, _⟩ := h; exact .sqL (SqL.of h1)
  | h P => cases e
theorem ve_isinst {x : Str} {T T2 : String} {k : Bool} (hm : X.mg "isinstance" = none) (hmT : X.mg x = none) (hv : bootBuiltins x = some (.type T)) (he : VE X ρ e ra) (ht : ra.tyN = some T2) (hk : PySem.W.kitOne X.K (.type T2) (.type T) = some k) (hg : Gl X "isinstance" := by rfl) (hgT : Gl X x := by rfl)
    (hn : x ≠ "__name__" := by decide) (hd : (x == ("__debug__" : Str)) = false := by decide) (hs : starEach [e, .Name x p2] X.env = (false, eval e X.env) :: starEach [.Name x p2] X.env := by rfl) : VE X ρ (.Call (.Name "isinstance" p) [e, .Name x p2] [] pos) (.d (.bool k)) :=
  PE.weak (pe_isinst hg hm hgT hmT hv he hn hd hs) fun σ H Q ⟨er, q⟩ => ⟨er, fun v H1 s1 r1 => ⟨v, T, .type T2, k, rfl, r1.rd.ty ht, hk, q _ H1 s1 RsR.bool⟩⟩
theorem ve_lenT {xs : List PyData} (hm : X.mg "len" = none) (he : VE X ρ e (.d (.tuple xs))) (hg : Gl X "len" := by rfl) (hs : starEach [e] X.env = [(false, eval e X.env)] := by rfl) : VE X ρ (.Call (.Name "len" p) [e] [] pos) (.d (.int (xs.length : Nat))) :=
  PE.weak (pe_callB call_len_seq hg hm PySem.boot_len (pa_cons he pa_nil hs) (by decide) (by decide) hs) fun σ H Q ⟨er, q⟩ => ⟨er, fun v H1 s1 r1 => by
    obtain ⟨a, vs, rfl, hq, rp⟩ := RsR.tup r1
    exact ⟨a, vs, rfl, .inr hq, by rw [rp.length]; exact q _ H1 s1 RsR.int⟩⟩
theorem ve_lenL {xs : List PyData} (hm : X.mg "len" = none) (he : VE X ρ e ra) (ea : ra.its = some xs) (hg : Gl X "len" := by rfl) (hs : starEach [e] X.env = [(false, eval e X.env)] := by rfl) : VE X ρ (.Call (.Name "len" p) [e] [] pos) (.d (.int (xs.length : Nat))) :=
  PE.weak (pe_callB call_len_seq hg hm PySem.boot_len (pa_cons he pa_nil hs) (by decide) (by decide) hs) fun σ H Q ⟨er, q⟩ => ⟨er, fun v H1 s1 r1 => by
    obtain ⟨a, vs, rfl, hq, rp⟩ := r1.rd.lst ea
    exact ⟨a, vs, rfl, .inl (SqL.of hq), by rw [rp.length]; exact q _ H1 s1 RsR.int⟩⟩
def flatD : PyData → Bool
  | .none => true
  | .bool _ => true
  | .int _ => true
  | .str _ => true
  | _ => false
theorem Reps.flat {K : PySem.W.Frag} {H : Hp} : ∀ {ds : List PyData} {vs : List V}, Reps K H ds vs → ds.all flatD = true → vs.all flatV = true
  | [], vs, h, _ => by rw [Reps] at h; subst h; rfl
  | x :: ds, vs, h, f => by
    obtain ⟨v, w, rfl, h1, h2⟩ := h.split
    rw [List.all_cons, Bool.and_eq_true] at f ⊢
    refine ⟨?_, Reps.flat h2 f.2⟩
    cases x with
    | none => rw [Rep] at h1; subst h1; rfl
    | bool b => rw [Rep] at h1; subst h1; rfl
    | int b => rw [Rep] at h1; subst h1; rfl
    | str b => rw [Rep] at h1; subst h1; rfl
    | _ => exact absurd f.1 (fun z => nomatch z)
theorem Reps.strs {K : PySem.W.Frag} {H : Hp} : ∀ {xs : List Str} {vs : List V}, Reps K H (xs.map .str) vs → vs = xs.map .str
  | [], vs, h => by rw [List.map_nil, Reps] at h; exact h
  | x :: xs, vs, h => by
    rw [List.map_cons] at h
    obtain ⟨v, w, rfl, h1, h2⟩ := h.split
    rw [List.map_cons, Reps.strs h2, h1.is_str]
theorem in_strs (x : Str) (xs : List Str) : inV (.str x) (xs.map .str) = decide (x ∈ xs) := by
  unfold inV
  rw [List.any_map, Bool.eq_iff_iff, List.any_eq_true, decide_eq_true_iff]
  constructor
  · rintro ⟨y, hy, e⟩
    have e' : (y == x) = true := e
    rw [← eq_of_beq e']; exact hy
  · intro h
    exact ⟨x, h, show (x == x) = true from beq_self_eq_true x⟩
theorem vt_inS {x : Str} {xs : List Str} (ha : VE X ρ a (.d (.str x))) (hb : VE X ρ b (.d (.tuple (xs.map .str)))) (hm : behindInMarks .In b = false) : VT X ρ (.Compare a [.In] [b] pos) (decide (x ∈ xs)) :=
  vt_cmp op_in_seq ha hb (fun H u w Q rx ry q => by
    obtain rfl := RdR.is_str rx
    obtain ⟨t, vs, rfl, hq, rp⟩ := RdR.tup ry
    have e := rp.strs
    subst e
    refine ⟨t, _, rfl, .inr hq, rfl, rp.flat (by rw [List.all_map]; exact List.all_eq_true.mpr fun _ _ => rfl), ?_⟩
    show Q (.bl (inV _ _)) H
    rw [in_strs]
    exact q) hm
end
end L2
set_option Elab.async false
set_option linter.all false
set_option maxRecDepth 100000
set_option maxHeartbeats 4000000
namespace L2
open PySem PySem.Spec PyProof.Rows
inductive Out where
  | nx (ρ : List Sl) | rt (r : Sl) | bk (ρ : List Sl) | ct (ρ : List Sl)
def DE (K : PySem.W.Frag) (H0 : Hp) (hs : List (V × Sl)) (Q : Out → Prop) : Ends where
  nx := fun σ H => ∃ ρ, Q (.nx ρ) ∧ ER K H0 hs ρ σ H
  bk := fun σ H => ∃ ρ, Q (.bk ρ) ∧ ER K H0 hs ρ σ H
  ct := fun σ H => ∃ ρ, Q (.ct ρ) ∧ ER K H0 hs ρ σ H
  rt := fun v H => ∃ r, Q (.rt r) ∧ Same H0 H ∧ RsR K H0 H r v
structure Ends.le (D D' : Ends) : Prop where
  nx : ∀ σ H, D.nx σ H → D'.nx σ H
  rt : ∀ v H, D.rt v H → D'.rt v H
  bk : ∀ σ H, D.bk σ H → D'.bk σ H
  ct : ∀ σ H, D.ct σ H → D'.ct σ H
def tRS (K : PySem.W.Frag) (ρ : List Sl) (Q : Out → Prop) : TS := fun D σ H => ∃ H0 hs, ER K H0 hs ρ σ H ∧ (DE K H0 hs Q).le D
def VS (X : Cx) (ss : List Stmt) (ρ : List Sl) (Q : Out → Prop) : Prop := PSs X ss (tRS X.K ρ Q)
section
variable {X : Cx} {ρ : List Sl} {e a b c : Expr} {es : List Expr} {r ra rb : Sl} {pos p2 p3 : Pos} {d : PyData} {ds : List PyData} {rs : List Sl} {Q Q' : Out → Prop} {rest : List Stmt} {st : Stmt}
theorem PSs.weak {ss : List Stmt} {t t' : TS} (h : PSs X ss t) (w : ∀ D σ H, t' D σ H → t D σ H) : PSs X ss t' := fun pins s σ H D I q => h pins s σ H D I (w D σ H q)
theorem VS.mono {ss : List Stmt} (h : VS X ss ρ Q) (w : ∀ o, Q o → Q' o) : VS X ss ρ Q' :=
  PSs.weak h fun D σ H ⟨H0, hs, er, l⟩ => ⟨H0, hs, er, ⟨fun σ H ⟨ρ, q, e⟩ => l.nx _ _ ⟨ρ, w _ q, e⟩, fun v H ⟨r, q, e⟩ => l.rt _ _ ⟨r, w _ q, e⟩, fun σ H ⟨ρ, q, e⟩ => l.bk _ _ ⟨ρ, w _ q, e⟩, fun σ H ⟨ρ, q, e⟩ => l.ct _ _ ⟨ρ, w _ q, e⟩⟩⟩
def thenS (X : Cx) (rest : List Stmt) (Q : Out → Prop) : Out → Prop
  | .nx ρ => VS X rest ρ Q
  | o => Q o
theorem vs_nil (h : Q (.nx ρ)) : VS X [] ρ Q := PSs.weak pss_nil fun D σ H ⟨H0, hs, er, l⟩ => l.nx σ H ⟨ρ, h, er⟩
theorem vs_of {t : TS} (h : PS X st t) (w : ∀ H0 hs D σ H, ER X.K H0 hs ρ σ H → (DE X.K H0 hs (thenS X rest Q)).le D → t D σ H) : VS X (st :: rest) ρ Q := by
  refine PSs.weak (pss_cons (u := fun D σ H => ∃ ρ' H0 hs, ER X.K H0 hs ρ' σ H ∧ (DE X.K H0 hs Q).le D ∧ VS X rest ρ' Q) h ?_) fun D σ H ⟨H0, hs, er, l⟩ => w H0 hs _ σ H er ⟨?_, fun v H q => l.rt v H q, fun σ H q => l.bk σ H q, fun σ H q => l.ct σ H q⟩
  · intro pins s σ H D I ⟨ρ', H0, hs, er, l, v⟩
    exact v pins s σ H D I ⟨H0, hs, er, l⟩
  · rintro σ' H' ⟨ρ', q, e⟩
    exact ⟨ρ', H0, hs, e, l, q⟩
theorem vs_ret (h : VE X ρ e r) (q : Q (.rt r)) : VS X (.Return (some e) pos :: rest) ρ Q :=
  vs_of (ps_ret h) fun H0 hs D σ H er l => ⟨⟨H0, hs, er⟩, fun v H' s rv => l.rt v H' ⟨r, q, er.same.trans s, rv.since er.same⟩⟩
theorem vs_retO {i : Nat} {x : Str} {xs : List PyData} (hi : ixA x X.N 0 = some i) (hr : ρ[i]? = some (.o xs)) (q : Q (.rt (.o xs))) (hv : Vis X.env.scope x := by first | exact Or.inl rfl | exact Or.inr (Or.inl rfl) | exact Or.inr (Or.inr rfl)) (hd : (x == ("__debug__" : Str)) = false := by decide)
    (hcd : (x == ("__classdict__" : Str)) = false := by decide) : VS X (.Return (some (.Name x p2)) pos :: rest) ρ Q :=
  vs_of (ps_ret (pe_var (ixA_N hi) hv hd hcd)) fun H0 hs D σ H er l => by
    obtain ⟨a, h1, h2, h3⟩ := er.own i xs hr
    exact ⟨_, h1, l.rt _ _ ⟨.o xs, q, er.same, a, rfl, h3, h2⟩⟩
theorem vs_if {A B : List Stmt} {k : Bool} (hc : VT X ρ c k) (ha : k = true → VS X A ρ (thenS X rest Q)) (hb : k = false → VS X B ρ (thenS X rest Q)) : VS X (.If c A B pos :: rest) ρ Q := by
  cases k with
  | true => exact vs_of (ps_if (u := tNever) hc (ha rfl) pss_never) fun H0 hs D σ H er l => ⟨⟨H0, hs, er⟩, fun H' s => iteT ⟨H0, hs, er.grow s, l⟩⟩
  | false => exact vs_of (ps_if (t := tNever) hc pss_never (hb rfl)) fun H0 hs D σ H er l => ⟨⟨H0, hs, er⟩, fun H' s => iteF ⟨H0, hs, er.grow s, l⟩⟩
theorem vs_set {i : Nat} {x : Str} (nd : X.N.Nodup) (hi : ixA x X.N 0 = some i) (h : VE X ρ e (.d d)) (k : VS X rest (ρ.set i (.d d)) Q) (hx : Loc X.env.scope x := by exact Or.inl rfl) (hs : swapsWith e (some (.Name x p2)) pos.line X.env = pure false := by rfl)
    (hf : X.fn x = true ∨ X.env.scope.names.lookup x = some .local := by first | exact .inl rfl | exact .inr rfl | assumption) : VS X (.Assign [.Name x p2] e pos :: rest) ρ Q :=
  vs_of (ps_set nd (ixA_N hi) hx h hs hf) fun H0 hs D σ H er l => ⟨⟨H0, hs, er⟩, fun v H' s rv => l.nx _ _ ⟨_, k, (er.grow s).setD rv⟩⟩
theorem vs_setO {i : Nat} {x : Str} {xs : List PyData} (nd : X.N.Nodup) (hi : ixA x X.N 0 = some i) (h : VE X ρ e (.o xs)) (k : VS X rest (ρ.set i (.o xs)) Q) (hx : Loc X.env.scope x := by exact Or.inl rfl) (hs : swapsWith e (some (.Name x p2)) pos.line X.env = pure false := by rfl)
    (hf : X.fn x = true ∨ X.env.scope.names.lookup x = some .local := by first | exact .inl rfl | exact .inr rfl | assumption) : VS X (.Assign [.Name x p2] e pos :: rest) ρ Q :=
  vs_of (ps_set nd (ixA_N hi) hx h hs hf) fun H0 hs D σ H er l => ⟨⟨H0, hs, er⟩, fun v H' s rv => by
    obtain ⟨a, rfl, n, q⟩ := rv
    exact l.nx _ _ ⟨_, k, er.setO s n q⟩⟩
theorem vs_append {i : Nat} {x : Str} {xs : List PyData} {apos cpos : Pos} (hi : ixA x X.N 0 = some i) (hr : ρ[i]? = some (.o xs)) (h : VE X ρ e (.d d)) (hz : xs.length < sizeLine) (k : VS X rest (ρ.set i (.o (xs ++ [d]))) Q)
    (hv : Vis X.env.scope x := by first | exact Or.inl rfl | exact Or.inr (Or.inl rfl) | exact Or.inr (Or.inr rfl)) (hd : (x == ("__debug__" : Str)) = false := by decide) (hcd : (x == ("__classdict__" : Str)) = false := by decide)
    (hbase : attributeBase (.Name x p2) "append" X.env (eval (.Name x p2) X.env) = eval (.Name x p2) X.env := by rfl)
    (hfew : ((backTo cpos (starEach [e] X.env)).all (fun x => !x.1) && (backToKw cpos (keywordEach [] X.env)).all (fun x => x.1.isSome) && decide ([e].length + ([] : List Keyword).length + (if ([] : List Keyword).isEmpty then 0 else 1) < 30)) = true := by rfl)
    (hline : (apos.endLine == cpos.line) = true := by rfl) (hs : starEach [e] X.env = [(false, eval e X.env)] := by rfl) (hplain : (backTo cpos (starEach [] X.env)).any (·.1) = false := by rfl)
    (hsw : swapsWith (.Call (.Attribute (.Name x p2) "append" apos) [e] [] cpos) none pos.line X.env = pure false := by rfl) : VS X (.Expr (.Call (.Attribute (.Name x p2) "append" apos) [e] [] cpos) pos :: rest) ρ Q :=
  vs_of (ps_expr (pe_bm PySem.F.plainAttrs_list PySem.F.slot_list_append PySem.F.type_list_append mt_append (pe_var (ixA_N hi) hv hd hcd) (pa_cons h pa_nil hs) hbase hfew hline hs hplain) hsw) fun H0 hs D σ H er l => by
    obtain ⟨a, h1, ⟨vs, h2, h3⟩, h4⟩ := er.own i xs hr
    refine ⟨_, h1, .inl ⟨rfl, vs, SqL.of h2⟩, ⟨H0, hs, er⟩, fun v H' s rv => ?_⟩
    have e2 := er.grow s
    have h2' := s _ _ h2
    have h3' := Reps.mono (TupLe.of_same (K := X.K) s) _ _ h3
    exact ⟨a, vs, v, rfl, rfl, h2', by rw [h3.length]; exact hz, l.nx _ _ ⟨_, k, e2.write hr h1 h2' (h3'.append (.one rv))⟩⟩
theorem vs_down {i : Nat} {xs : List PyData} {ss : List Stmt} (hr : ρ[i]? = some (.o xs)) (k : VS X ss (ρ.set i (.l xs)) Q) : VS X ss ρ Q :=
  PSs.weak k fun D σ H ⟨H0, hs, er, l⟩ => ⟨H0, hs, er.down hr, l⟩
def loopQ (X : Cx) (rest : List Stmt) (Q : Out → Prop) (J : List Sl → Prop) : Out → Prop
  | .nx ρ => J ρ
  | .ct ρ => J ρ
  | .bk ρ => VS X rest ρ Q
  | .rt r => Q (.rt r)
end
end L2
set_option Elab.async false
set_option linter.all false
set_option maxRecDepth 100000
set_option maxHeartbeats 4000000
namespace L2
open PySem PySem.Spec PyProof.Rows
structure ItOk (K : PySem.W.Frag) (J : It) (h : V × Sl) (xs : List PyData) : Prop where
  go : ∀ (i : Nat) H, RdR K H h.2 h.1 → i < xs.length → J.go i H
  yld : ∀ (i : Nat) H v H', RdR K H h.2 h.1 → i < xs.length → J.yld i H v H' → Same H H' ∧ ∃ d, xs[i]? = some d ∧ Rep K H' d v
  stop : ∀ H, RdR K H h.2 h.1 → J.stop xs.length H
def VI (X : Cx) (ρ : List Sl) (tg iter : Expr) (xs : List PyData) : Prop := ∃ wi, PI X tg iter wi ∧ ∀ H0 hs σ H R, ER X.K H0 hs ρ σ H →
  (∀ J H1 h, Same H H1 → RdR X.K H1 h.2 h.1 → (∀ ys, h.2.its = some ys → ∀ (i : Nat) zs a, ρ[i]? = some (.o zs) → σ[i]? = some (some (.ref a)) → h.1 ≠ .ref a) → ItOk X.K J h xs → R J H1) → wi σ H R
def VG (X : Cx) (tg : Expr) (bind : PyData → List Sl → Option (List Sl)) : Prop := ∃ g, PG X tg g ∧ ∀ H0 hs ρ ρ2 d v σ H Q, ER X.K H0 hs ρ σ H → Rep X.K H d v → bind d ρ = some ρ2 → (∀ σ2, ER X.K H0 hs ρ2 σ2 H → Q σ2 H) → g v σ H Q
section
variable {X : Cx} {ρ : List Sl} {e a b c tg iter : Expr} {es : List Expr} {r ra rb : Sl} {p pos p2 p3 : Pos} {d : PyData} {ds xs : List PyData} {rs : List Sl} {Q Q' : Out → Prop} {rest : List Stmt} {st : Stmt}
theorem itok_list {K : PySem.W.Frag} {a : Addr} : ItOk K (Itl K a) (.ref a, .l xs) xs where
  go := fun i H ⟨b, e, vs, h1, h2⟩ hi => by
    cases e
    have hv : i < vs.length := by rw [h2.length]; exact hi
    exact ⟨vs, vs[i], SqL.of h1, List.getElem?_eq_getElem hv⟩
  yld := fun i H v H' ⟨b, e, vs, h1, h2⟩ hi ⟨e2, y⟩ => by
    cases e
    subst e2
    obtain ⟨u, hu, ru⟩ := h2.get (List.getElem?_eq_getElem hi)
    have := y vs (SqL.of h1)
    rw [hu] at this
    cases this
    exact ⟨Same.refl _, _, List.getElem?_eq_getElem hi, ru⟩
  stop := fun H ⟨b, e, vs, h1, h2⟩ => by cases e; exact ⟨vs, SqL.of h1, by rw [h2.length]; exact Nat.le_refl _⟩
theorem itok_tup {K : PySem.W.Frag} {a : Addr} : ItOk K (Itt K a) (.ref a, .d (.tuple xs)) xs where
  go := fun i H h hi => by
    obtain ⟨b, vs, e, h1, h2⟩ := Rep.untuple h
    cases e
    have hv : i < vs.length := by rw [h2.length]; exact hi
    exact ⟨vs, vs[i], h1, List.getElem?_eq_getElem hv⟩
  yld := fun i H v H' h hi ⟨e2, y⟩ => by
    obtain ⟨b, vs, e, h1, h2⟩ := Rep.untuple h
    cases e
    subst e2
    obtain ⟨u, hu, ru⟩ := h2.get (List.getElem?_eq_getElem hi)
    have := y vs h1
    rw [hu] at this
    cases this
    exact ⟨Same.refl _, _, List.getElem?_eq_getElem hi, ru⟩
  stop := fun H h => by
    obtain ⟨b, vs, e, h1, h2⟩ := Rep.untuple h
    cases e
    exact ⟨vs, h1, by rw [h2.length]; exact Nat.le_refl _⟩
def rngD (lo : Int) (n : Nat) : List PyData := (List.range n).map fun i => .int (lo + (i : Nat))
theorem itok_rng {K : PySem.W.Frag} {lo : Int} {n : Nat} : ItOk K (Itr lo n) (.non, .un) (rngD lo n) where
  go := fun i H _ hi => by
    have hn : i < n := by simpa [rngD] using hi
    exact hn
  yld := fun i H v H' _ hi ⟨e1, e2⟩ => by
    subst e1 e2
    have hn : i < n := by simpa [rngD] using hi
    exact ⟨Same.refl _, _, by simp [rngD, hn], Rep.int _⟩
  stop := fun H _ => by show n ≤ (rngD lo n).length; simp [rngD]
def enumD : Nat → List PyData → List PyData
  | _, [] => []
  | k, x :: r => .tuple [.int (k : Nat), x] :: enumD (k + 1) r
theorem enumD_len : ∀ (k : Nat) (l : List PyData), (enumD k l).length = l.length
  | _, [] => rfl
  | k, x :: r => by rw [enumD, List.length_cons, List.length_cons, enumD_len]
theorem enumD_get : ∀ (k : Nat) (l : List PyData) (i : Nat) (x : PyData), l[i]? = some x → (enumD k l)[i]? = some (.tuple [.int ((k + i : Nat) : Int), x])
  | k, [], i, x, h => by simp at h
  | k, y :: r, 0, x, h => by simp at h; subst h; simp [enumD]
  | k, y :: r, i + 1, x, h => by
    rw [enumD, List.getElem?_cons_succ, enumD_get (k + 1) r i x (by simpa using h)]
    congr 5
    omega
theorem itok_enumL {K : PySem.W.Frag} {a : Addr} : ItOk K (ItEn fun H ys => SqL K H a ys) (.ref a, .l xs) (enumD 0 xs) where
  go := fun i H ⟨b, e, vs, h1, h2⟩ hi => by cases e; exact ⟨vs, SqL.of h1, by rw [h2.length, ← enumD_len 0]; exact hi⟩
  yld := fun i H v H' ⟨b, e, vs, h1, h2⟩ hi ⟨p, x, e1, e2, e3, y⟩ => by
    cases e
    subst e1 e3
    have hi' : i < xs.length := by rw [← enumD_len 0]; exact hi
    obtain ⟨u, hu, ru⟩ := h2.get (List.getElem?_eq_getElem hi')
    have := y vs (SqL.of h1)
    rw [hu] at this
    cases this
    have s := same_upd e2 (.tup [.int i, x])
    refine ⟨s, _, enumD_get 0 xs i _ (List.getElem?_eq_getElem hi'), ?_⟩
    rw [Nat.zero_add]
    exact .tuple (SqT.of upd_same) (.cons (.int _) (.one (Rep.mono (TupLe.of_same s) _ _ ru)))
  stop := fun H ⟨b, e, vs, h1, h2⟩ => by cases e; exact ⟨vs, SqL.of h1, by rw [h2.length, enumD_len]⟩
theorem sep_new {K : PySem.W.Frag} {H0 H : Hp} {hs : List (V × Sl)} {σ : St} {a : Addr} (er : ER K H0 hs ρ σ H) (n : H a = none) : ∀ (i : Nat) zs b, ρ[i]? = some (.o zs) → σ[i]? = some (some (.ref b)) → V.ref a ≠ .ref b := by
  intro i zs b q1 q2 z
  cases z
  obtain ⟨c, h1, ⟨vs, h2, _⟩, _⟩ := er.own i zs q1
  rw [q2] at h1
  cases h1
  rw [n] at h2
  cases h2
theorem vi_new (h : VE X ρ iter (.o xs)) : VI X ρ tg iter xs :=
  ⟨_, pi_list h, fun H0 hs σ H R er k => ⟨⟨H0, hs, er⟩, fun v H1 s1 ⟨a, e, n, q⟩ => by
    subst e
    obtain ⟨vs, q1, q2⟩ := q
    exact ⟨a, rfl, ⟨vs, SqL.of q1⟩, k _ H1 (.ref a, .l xs) s1 ⟨a, rfl, vs, q1, q2⟩ (fun _ _ => sep_new er n) itok_list⟩⟩⟩
theorem vi_tup (h : VE X ρ iter (.d (.tuple xs))) : VI X ρ tg iter xs :=
  ⟨_, pi_tup h, fun H0 hs σ H R er k => ⟨⟨H0, hs, er⟩, fun v H1 s1 q => by
    obtain ⟨a, vs, rfl, q1, q2⟩ := RsR.tup q
    exact ⟨a, rfl, ⟨vs, q1⟩, k _ H1 (.ref a, .d (.tuple xs)) s1 (.tuple q1 q2) (fun _ z => nomatch z) itok_tup⟩⟩⟩
theorem vi_name {i : Nat} {x : Str} (hi : ixA x X.N 0 = some i) (hr : ρ[i]? = some (.l xs)) (hv : Vis X.env.scope x := by first | exact Or.inl rfl | exact Or.inr (Or.inl rfl) | exact Or.inr (Or.inr rfl)) (hd : (x == ("__debug__" : Str)) = false := by decide)
    (hcd : (x == ("__classdict__" : Str)) = false := by decide) : VI X ρ tg (.Name x p) xs :=
  ⟨_, pi_list (pe_var (ixA_N hi) hv hd hcd), fun H0 hs σ H R er k => by
    obtain ⟨a, h1, vs, h2, h3⟩ := er.lst i xs hr
    exact ⟨_, h1, a, rfl, ⟨vs, SqL.of h2⟩, k _ H (.ref a, .l xs) (Same.refl H) ⟨a, rfl, vs, h2, h3⟩ (fun _ _ j zs b q1 q2 z => er.sepL j i b zs xs q1 hr q2 (by rw [← z]; exact h1)) itok_list⟩⟩
theorem vi_range {n : Nat} (hm : X.mg "range" = none) (h : VE X ρ e (.d (.int n))) (hz : n < 2 ^ 62) (hg : Gl X "range" := by rfl) (hs : starEach [e] X.env = [(false, eval e X.env)] := by rfl) : VI X ρ tg (.Call (.Name "range" p) [e] [] pos) (rngD 0 n) :=
  ⟨_, pi_range1 hg hm (pa_cons h pa_nil hs) hs, fun H0 hs σ H R er k => ⟨⟨H0, hs, er⟩, fun v H1 s1 q => by
    obtain rfl := RsR.is_int q
    refine ⟨n, rfl, by omega, by omega, ?_⟩
    rw [Int.toNat_natCast]
    exact k _ H1 (.non, .un) s1 trivial (fun _ z => nomatch z) itok_rng⟩⟩
theorem vi_enumL {elts : List Expr} {kk : Nat} (hm : X.mg "enumerate" = none) (h : VE X ρ e (.o xs)) (hg : Gl X "enumerate" := by rfl) (hs : starEach [e] X.env = [(false, eval e X.env)] := by rfl) : VI X ρ (.Tuple elts kk p2) (.Call (.Name "enumerate" p) [e] [] pos) (enumD 0 xs) :=
  ⟨_, pi_enumL hg hm (pa_cons h pa_nil hs) hs, fun H0 hs σ H R er k => ⟨⟨H0, hs, er⟩, fun v H1 s1 ⟨a, e, n, q⟩ => by
    subst e
    obtain ⟨vs, q1, q2⟩ := q
    exact ⟨a, vs, rfl, SqL.of q1, k _ H1 (.ref a, .l xs) s1 ⟨a, rfl, vs, q1, q2⟩ (fun _ _ => sep_new er n) itok_enumL⟩⟩⟩
theorem vg_name {i : Nat} {x : Str} (nd : X.N.Nodup) (hi : ixA x X.N 0 = some i) (hx : Loc X.env.scope x := by exact Or.inl rfl) (hf : X.fn x = true ∨ X.env.scope.names.lookup x = some .local := by first | exact .inl rfl | exact .inr rfl | assumption) : VG X (.Name x pos) (fun d ρ => some (ρ.set i (.d d))) :=
  ⟨_, pg_name nd (ixA_N hi) hx hf, fun H0 hs ρ ρ2 d v σ H Q er rv hb k => by cases hb; exact k _ (er.setD rv)⟩
def bind2 (i j : Nat) : PyData → List Sl → Option (List Sl)
  | .tuple [x, y], ρ => some ((ρ.set i (.d x)).set j (.d y))
  | _, _ => none
theorem vg_pair {i j : Nat} {x y : Str} {k : Nat} (nd : X.N.Nodup) (hc : X.calm = true) (hi : ixA x X.N 0 = some i) (hj : ixA y X.N 0 = some j) (hx : Loc X.env.scope x := by exact Or.inl rfl) (hy : Loc X.env.scope y := by exact Or.inl rfl)
    (hf : X.fn x = true ∨ X.env.scope.names.lookup x = some .local := by first | exact .inl rfl | exact .inr rfl | assumption) (hf2 : X.fn y = true ∨ X.env.scope.names.lookup y = some .local := by first | exact .inl rfl | exact .inr rfl | assumption) : VG X (.Tuple [.Name x p2, .Name y p3] k pos) (bind2 i j) :=
  ⟨_, pg_tup hc (pgs_cons (pg_name nd (ixA_N hi) hx hf) (pgs_cons (pg_name nd (ixA_N hj) hy hf2) pgs_nil)), fun H0 hs ρ ρ2 d v σ H Q er rv hb k => by
    have hd : ∃ x y, d = .tuple [x, y] ∧ ρ2 = (ρ.set i (.d x)).set j (.d y) := by
      unfold bind2 at hb
      split at hb
      · exact ⟨_, _, rfl, (Option.some.inj hb).symm⟩
      · cases hb
    obtain ⟨dx, dy, rfl, rfl⟩ := hd
    obtain ⟨a, vs, rfl, h1, h2⟩ := Rep.untuple rv
    obtain ⟨v1, r1, rfl, q1, h2⟩ := h2.split
    obtain ⟨v2, r2, rfl, q2, h2⟩ := h2.split
    rw [Reps] at h2
    subst h2
    exact ⟨a, _, rfl, h1, rfl, v1, _, rfl, v2, _, rfl, rfl, k _ ((er.setD q1).setD q2)⟩⟩
theorem vs_for {body : List Stmt} {bind : PyData → List Sl → Option (List Sl)} (hp : PassesOwn (model X.prog X.w) X.A X.env X.xe) (hc : X.calm = true) (hi : VI X ρ tg iter xs) (hg : VG X tg bind) (J : Nat → List Sl → Prop) (h0 : J 0 ρ)
    (step : ∀ (i : Nat) d ρ', xs[i]? = some d → J i ρ' → ∃ ρ2, bind d ρ' = some ρ2 ∧ VS X body ρ2 (loopQ X rest Q (J (i + 1)))) (fin : ∀ ρ', J xs.length ρ' → VS X rest ρ' Q)
    (hs : ∀ x, foldedSetIterable iter X.env x = pure x := by intro _; rfl) : VS X (.For tg iter body [] pos :: rest) ρ Q := by
  obtain ⟨wi, pi, hwi⟩ := hi
  obtain ⟨g, pg, hgg⟩ := hg
  have hb : PSs X body (fun D σ H => ∃ ρ' Q', VS X body ρ' Q' ∧ tRS X.K ρ' Q' D σ H) := by
    rintro pins s σ H D I ⟨ρ', Q', v, q⟩
    exact v pins s σ H D I q
  refine vs_of (ps_for hp hc pi pg hb hs) fun H0 hs D σ H er l => ?_
  refine hwi H0 hs σ H _ er fun It H1 h s1 hh sep ok => ?_
  refine ⟨fun i m σ H => m = xs.length - i ∧ i ≤ xs.length ∧ ∃ ρ', J i ρ' ∧ ER X.K H0 (h :: hs) ρ' σ H, ⟨_, rfl, Nat.zero_le _, ρ, h0, (er.grow s1).hold hh sep⟩, ?_⟩
  rintro i m σ H ⟨rfl, hi, ρ', j, er⟩
  have hh := er.held h List.mem_cons_self
  by_cases hlt : i < xs.length
  · obtain ⟨d, hd⟩ : ∃ d, xs[i]? = some d := ⟨_, List.getElem?_eq_getElem hlt⟩
    obtain ⟨ρ2, hb2, hv⟩ := step i d ρ' hd j
    refine .inr ⟨ok.go i H hh hlt, fun σ' H' => ∃ ρ3, J (i + 1) ρ3 ∧ ER X.K H0 (h :: hs) ρ3 σ' H', fun σ' H' ⟨ρ3, j3, e3⟩ => ⟨xs.length - (i + 1), by omega, rfl, hlt, ρ3, j3, e3⟩, fun v H' y => ?_⟩
    obtain ⟨sy, d', hd', rd⟩ := ok.yld i H v H' hh hlt y
    rw [hd] at hd'
    cases hd'
    refine hgg H0 (h :: hs) ρ' ρ2 d v σ H' _ (er.grow sy) rd hb2 fun σ2 e2 => ⟨ρ2, _, hv, H0, h :: hs, e2, ?_⟩
    exact ⟨fun σ H ⟨ρ3, q, e⟩ => ⟨ρ3, q, e⟩, fun v H ⟨r, q, e⟩ => l.rt v H ⟨r, q, e⟩, fun σ H ⟨ρ3, q, e⟩ => l.nx σ H ⟨ρ3, q, e.unhold⟩, fun σ H ⟨ρ3, q, e⟩ => ⟨ρ3, q, e⟩⟩
  · have e : i = xs.length := by omega
    subst e
    exact .inl ⟨ok.stop H hh, l.nx _ _ ⟨ρ', fin ρ' j, er.unhold⟩⟩
theorem ER.args {K : PySem.W.Frag} {H0 H : Hp} {hs : List (V × Sl)} {σ : St} (e : ER K H0 hs ρ σ H) : ER K H0 hs (ρ.map Sl.arg) σ H := by
  have no : ∀ {i : Nat} {xs : List PyData}, (ρ.map Sl.arg)[i]? ≠ some (.o xs) := by
    intro i xs h
    rw [List.getElem?_map] at h
    cases q : ρ[i]? with
    | none => rw [q] at h; cases h
    | some s => rw [q] at h; cases s <;> cases h
  refine ⟨e.same, by rw [List.length_map, e.len], fun i x h => ?_, fun i x h => ?_, fun i x h => ?_, fun i x h => absurd h no, fun i j a xs ys h => absurd h no, fun i j a xs ys _ h => absurd h no, e.held, fun i xs a h => absurd h no⟩
  · rw [List.getElem?_map] at h
    cases q : ρ[i]? with
    | none => rw [q] at h; cases h
    | some s =>
      rw [q] at h
      cases s with
      | d y => cases h; exact e.dat i _ q
      | _ => cases h
  · rw [List.getElem?_map] at h
    cases q : ρ[i]? with
    | none => rw [q] at h; cases h
    | some s =>
      rw [q] at h
      cases s with
      | l y => cases h; exact e.lst i _ q
      | o y => cases h; obtain ⟨a, h1, h2, _⟩ := e.own i _ q; exact ⟨a, h1, h2⟩
      | _ => cases h
  · rw [List.getElem?_map] at h
    cases q : ρ[i]? with
    | none => rw [q] at h; cases h
    | some s =>
      rw [q] at h
      cases s with
      | h y => cases h; exact e.per i _ q
      | _ => cases h
theorem ER.comp {K : PySem.W.Frag} {H0 H : Hp} {hs : List (V × Sl)} {σ : St} {v : V} {x : PyData} (e : ER K H0 hs (ρ.map Sl.arg) σ H) (rv : Rep K H x v) : ER K H0 hs (.d x :: ρ.map Sl.arg) (some v :: σ) H := by
  have no : ∀ {i : Nat} {xs : List PyData}, (Sl.d x :: ρ.map Sl.arg)[i]? ≠ some (.o xs) := by
    intro i xs h
    cases i with
    | zero => cases h
    | succ i =>
      rw [List.getElem?_cons_succ, List.getElem?_map] at h
      cases q : ρ[i]? with
      | none => rw [q] at h; cases h
      | some s => rw [q] at h; cases s <;> cases h
  refine ⟨e.same, by rw [List.length_cons, List.length_cons, e.len], fun i y h => ?_, fun i y h => ?_, fun i y h => ?_, fun i x h => absurd h no, fun i j a xs ys h => absurd h no, fun i j a xs ys _ h => absurd h no, e.held, fun i xs a h => absurd h no⟩
  · cases i with
    | zero => cases h; exact ⟨v, rfl, rv⟩
    | succ i => exact e.dat i y (by simpa using h)
  · cases i with
    | zero => cases h
    | succ i => exact e.lst i y (by simpa using h)
  · cases i with
    | zero => cases h
    | succ i => exact e.per i y (by simpa using h)
theorem comp_read {x : Str} {px : Pos} {elt : Expr} {scope : Scope} {ys : List PyData} (hc : X.calm = true) (hi : VI X ρ (.Name x px) iter xs) (hl : ys.length = xs.length) (hz : xs.length ≤ sizeLine)
    (he : ∀ (i : Nat) a y, xs[i]? = some a → ys[i]? = some y → ∀ cl C s0 H0 fp pins, VE (X.comp scope cl x C s0 H0 fp pins) (.d a :: ρ.map Sl.arg) elt (.d y)) :
    ∃ wi te, PI X (.Name x px) iter wi ∧ (∀ cl C s0 H0 fp pins, PE (X.comp scope cl x C s0 H0 fp pins) elt te) ∧ ∀ H0 hs σ H (R : V → Hp → Prop), ER X.K H0 hs ρ σ H → (∀ p H', Same H H' → H p = none → LsR X.K H' p ys → R (.ref p) H') → tComp wi te σ H R := by
  obtain ⟨wi, pi, hwi⟩ := hi
  refine ⟨wi, fun σ H Q => ∃ (a y : PyData) (H0 : Hp) (hs : List (V × Sl)), (∀ cl C s0 H0 fp pins, VE (X.comp scope cl x C s0 H0 fp pins) (.d a :: ρ.map Sl.arg) elt (.d y)) ∧ ER X.K H0 hs (.d a :: ρ.map Sl.arg) σ H ∧ ∀ v H', Same H H' → Rep X.K H' y v → Q v H', pi, fun cl C s0 H0 fp pins => ?_, fun H0 hs σ H R er k => ?_⟩
  · rintro pins' s σ H Q I ⟨a, y, H0', hs, ve, er, q⟩
    exact ve cl C s0 H0 fp pins pins' s σ H Q I ⟨⟨H0', hs, er⟩, q⟩
  refine hwi H0 hs σ H _ er fun It H1 h s1 hh sep ok => ?_
  have er1 : ER X.K H0 (h :: hs) (ρ.map Sl.arg) σ H1 := (er.grow s1).args.hold hh fun _ _ i xs a q => by
    exfalso
    rw [List.getElem?_map] at q
    cases q' : ρ[i]? with
    | none => rw [q'] at q; cases q
    | some s => rw [q'] at q; cases s <;> cases q
  refine ⟨fun i m zs H => m = xs.length - i ∧ i ≤ xs.length ∧ Same H1 H ∧ zs.length = i ∧ ER X.K H0 (h :: hs) (ρ.map Sl.arg) σ H ∧ Reps X.K H (ys.take i) zs, ⟨_, rfl, Nat.zero_le _, Same.refl _, rfl, er1, by rw [List.take_zero]; exact .nil⟩, ?_⟩
  rintro i m zs H' ⟨rfl, hi, sm, hzl, er', rp⟩
  have hh := er'.held h List.mem_cons_self
  by_cases hlt : i < xs.length
  · have hy : i < ys.length := by omega
    refine .inr ⟨ok.go i H' hh hlt, by omega, fun v H2 y => ?_⟩
    obtain ⟨sy, d, hd, rd⟩ := ok.yld i H' v H2 hh hlt y
    refine ⟨fun z H3 => Same H2 H3 ∧ Rep X.K H3 ys[i] z, fun z H3 ⟨s3, r3⟩ => ⟨xs.length - (i + 1), by omega, rfl, hlt, sm.trans (sy.trans s3), by simp [hzl], er'.grow (sy.trans s3), ?_⟩, d, ys[i], H0, h :: hs, he i d ys[i] hd (List.getElem?_eq_getElem hy), (er'.grow sy).comp rd, fun z H3 s3 r3 => ⟨s3, r3⟩⟩
    rw [List.take_add_one, List.getElem?_eq_getElem hy]
    exact (Reps.mono (TupLe.of_same (sy.trans s3)) _ _ rp).append (.one r3)
  · have e : i = xs.length := by omega
    subst e
    refine .inl ⟨ok.stop H' hh, by omega, fun p np => ?_⟩
    rw [List.take_of_length_le (by omega)] at rp
    have s2 := same_upd np (.lst zs)
    exact k p _ ((s1.trans sm).trans s2) ((s1.trans sm).free np) ⟨zs, upd_same, Reps.mono (TupLe.of_same s2) _ _ rp⟩
theorem ve_comp {x : Str} {px : Pos} {elt : Expr} {scope : Scope} {ys : List PyData} (hc : X.calm = true) (S : CompSc X.N X.env.scope scope x) (hi : VI X ρ (.Name x px) iter xs) (hl : ys.length = xs.length) (hz : xs.length ≤ sizeLine)
    (he : ∀ (i : Nat) a y, xs[i]? = some a → ys[i]? = some y → ∀ cl C s0 H0 fp pins, VE (X.comp scope cl x C s0 H0 fp pins) (.d a :: ρ.map Sl.arg) elt (.d y))
    (hs : ∀ v, foldedSetIterable iter X.env v = pure v := by intro _; rfl) : VE X ρ (.ListComp elt [⟨.Name x px, iter, [], 0⟩] scope pos) (.o ys) := by
  obtain ⟨wi, te, h1, h2, h3⟩ := comp_read hc hi hl hz he
  exact PE.weak (pe_comp hc S h1 h2 hs) fun σ H Q ⟨⟨H0, hs, er⟩, q⟩ => h3 H0 hs σ H Q er fun p H' s n l => q _ H' s ⟨p, rfl, n, l⟩
end
theorem er_start {K : PySem.W.Frag} {H : Hp} {as : List Sl} {vs : List V} {N : List Str} (h : RdRs K H as vs) (no : ∀ r ∈ as, ∀ xs, r ≠ .o xs) : ER K H [] (as ++ List.replicate (N.length - as.length) .un) (start N vs) H := by
  have hl := h.length
  have no' : ∀ {i : Nat} {xs : List PyData}, (as ++ List.replicate (N.length - as.length) Sl.un)[i]? ≠ some (.o xs) := by
    intro i xs q
    rcases List.mem_append.mp (List.mem_of_getElem? q) with m | m
    · exact no _ m xs rfl
    · cases (List.mem_replicate.mp m).2
  have at' : ∀ {i : Nat} {r : Sl}, (as ++ List.replicate (N.length - as.length) Sl.un)[i]? = some r → r ≠ .un → ∃ v, (start N vs)[i]? = some (some v) ∧ RdR K H r v := by
    intro i r q nu
    by_cases hi : i < as.length
    · rw [List.getElem?_append_left hi] at q
      obtain ⟨v, h1, h2⟩ := h.get q
      refine ⟨v, ?_, h2⟩
      unfold start
      rw [List.getElem?_append_left (by rw [List.length_map, hl]; exact hi), List.getElem?_map, h1]
      rfl
    · rw [List.getElem?_append_right (by omega)] at q
      exact absurd (List.mem_replicate.mp (List.mem_of_getElem? q)).2 nu
  refine ⟨Same.refl H, by unfold start; simp [hl], fun i x q => at' q (fun z => nomatch z), fun i xs q => ?_, fun i P q => at' q (fun z => nomatch z), fun i xs q => absurd q no', fun i j a xs ys q => absurd q no', fun i j a xs ys _ q => absurd q no', fun p hp => (nomatch hp), fun i xs a q => absurd q no'⟩
  obtain ⟨v, h1, a, rfl, h2⟩ := at' q (fun z => nomatch z)
  exact ⟨a, h1, h2⟩
section
variable {P : Program} {w : World} {K : PySem.W.Frag} {mg : Str → Option Value} {base : Heap}
theorem Fun.okV {x qual : Str} {st : Stmt} {f : Addr} {fd : FuncData} {N ps : List Str} {k : Nat} {R : List Sl → Sl → Prop} (F : Fun K x qual st f fd) (S : FnScope N ps (defScope st)) (len : ∀ as r, R as r → as.length = ps.length ∧ ∀ q ∈ as, ∀ xs, q ≠ .o xs)
    (hbody : ∀ (cdv : Value) (A : Around) (outer : List Env) (s : Shared) (H : Hp) (E : XK) (as : List Sl) (r : Sl), Room k (A.deeper (envOfC qual (defScope st) s.heap.objs.size f cdv)) → R as r →
      VS (cxOf CX0 P w K mg base N qual (defScope st) f cdv A outer s H E).nox (defBody st) (as ++ List.replicate (N.length - as.length) .un) fun o => o = .rt r ∨ (r = .d .none ∧ ∃ ρ, o = .nx ρ)) : FnOk P w K mg base CX0 (k + 1) f fd ps (spV K R) := by
  refine F.ok S (fun vs H Q E h => ?_) (fun cdv A outer s H vs Q E hr h => ?_)
  · obtain ⟨as, r, h1, h2, _⟩ := h
    rw [h1.length]; exact (len as r h2).1
  obtain ⟨as, r, h1, h2, q⟩ := h
  refine ⟨_, hbody cdv A outer s H E as r hr h2, H, [], er_start h1 (len as r h2).2, ?_⟩
  refine ⟨fun σ H' ⟨ρ, z, e⟩ => ?_, fun v H' ⟨r', z, e1, e2⟩ => ?_, fun σ H' ⟨ρ, z, e⟩ => ?_, fun σ H' ⟨ρ, z, e⟩ => ?_⟩
  · rcases z with z | ⟨rfl, _⟩
    · cases z
    · exact q _ H' e.same RsR.non
  · rcases z with z | ⟨_, _, z⟩
    · cases z
      exact q v H' e1 e2
    · cases z
  · rcases z with z | ⟨_, _, z⟩ <;> cases z
  · rcases z with z | ⟨_, _, z⟩ <;> cases z
end
end L2
set_option Elab.async false
set_option linter.all false
set_option maxRecDepth 100000
set_option maxHeartbeats 4000000
namespace Wk
open PySem L2
inductive Lb where
  | num (i : Int) | truth (b : Bool) | name (x : Str) | nil (k : Kd) | add | less | front | call | ifx | case (k : Kd) (h t : Str) | fn (x : Str) (k : Kd)
def lbl : Lb → Str × List PyData
  | .num i => ("num", [.int i])
  | .truth b => ("truth", [.bool b])
  | .name x => ("name", [.str x])
  | .nil k => ("nil", [kdD k])
  | .add => ("add", [])
  | .less => ("less", [])
  | .front => ("front", [])
  | .call => ("call", [])
  | .ifx => ("if", [])
  | .case k h t => ("case", [kdD k, .str h, .str t])
  | .fn x k => ("fun", [.str x, kdD k])
def ar : Lb → Nat
  | .num _ => 0
  | .truth _ => 0
  | .name _ => 0
  | .nil _ => 0
  | .add => 2
  | .less => 2
  | .front => 2
  | .call => 2
  | .ifx => 3
  | .case _ _ _ => 3
  | .fn _ _ => 1
def lsz : Lb → Nat
  | .nil k => ksize k
  | .case k _ _ => ksize k
  | .fn _ k => ksize k
  | _ => 0
abbrev Tm := Rose Lb
mutual
def ex : Tm → Ex
  | .node b o => .node (lbl b) (exs o)
def exs : List Tm → List Ex
  | [] => []
  | t :: r => ex t :: exs r
end
theorem exs_map (l : List Tm) : exs l = l.map ex := by
  induction l with
  | nil => rfl
  | cons t r ih => rw [exs, ih]; rfl
theorem ex_lab (t : Tm) : (ex t).lab = lbl t.lab := by cases t; rw [ex]; rfl
theorem ex_own (t : Tm) : (ex t).own = t.own.map ex := by cases t with | node b o => rw [ex, exs_map]; rfl
theorem ex_at (t : Tm) (p : List Nat) : (ex t).at? p = (t.at? p).map ex := by
  induction p generalizing t with
  | nil => rw [at?_nil, at?_nil]; rfl
  | cons k p ih =>
    rw [at?_cons, at?_cons, ex_own, List.getElem?_map]
    cases t.own[k]? with
    | none => rfl
    | some u => exact ih u
theorem ex_post (t : Tm) : (ex t).post = t.post.map fun x => (x.1, ex x.2) := by
  induction t using Rose.ind with
  | h b o ih =>
    have key : ∀ (r : List Tm) (k : Nat), (∀ x ∈ r, x ∈ o) → posts k (exs r) = (posts k r).map fun x => (x.1, ex x.2) := by
      intro r
      induction r with
      | nil => intro k _; rfl
      | cons y r ihr =>
        intro k hs
        rw [exs, posts, posts, List.map_append, ihr (k + 1) (fun x hx => hs x (List.mem_cons_of_mem _ hx)), ih y (hs y List.mem_cons_self), List.map_map, List.map_map]
        rfl
    rw [ex, Rose.post, Rose.post, List.map_append, key o 0 fun x hx => hx]
    simp [ex]
theorem ex_places (t : Tm) : (ex t).places = t.places := by
  unfold Rose.places
  rw [ex_post, List.map_map]
  rfl
theorem ex_low (t : Tm) : (ex t).low = t.low := by
  have h1 := places_head (ex t)
  have h2 := places_head t
  rw [ex_places, h2] at h1
  exact (Option.some.inj h1).symm
theorem ex_size (t : Tm) : (ex t).size = t.size := by rw [← post_length, ex_post, List.length_map, post_length]
theorem ex_next (t : Tm) (p : List Nat) : nextP (ex t) p = nextP t p := by
  unfold nextP
  simp only
  rw [ex_at]
  cases t.at? p.dropLast with
  | none => rfl
  | some u =>
    simp only [Option.map_some, ex_own, List.getElem?_map]
    cases u.own[p.getLastD 0 + 1]? with
    | none => rfl
    | some x => simp only [Option.map_some, ex_low]
inductive TOk : Tm → Prop where
  | mk {b : Lb} {o : List Tm} (h : o.length = ar b) (hk : lsz b ≤ 5) (hs : ∀ t ∈ o, TOk t) : TOk (.node b o)
theorem TOk.len {t : Tm} (h : TOk t) : t.own.length = ar t.lab := by cases h with | mk a b c => exact a
theorem TOk.small {t : Tm} (h : TOk t) : lsz t.lab ≤ 5 := by cases h with | mk a b c => exact b
theorem TOk.own {t : Tm} (h : TOk t) : ∀ u ∈ t.own, TOk u := by cases h with | mk a b c => exact c
theorem TOk.at {t u : Tm} : ∀ {p : List Nat}, TOk t → t.at? p = some u → TOk u := by
  intro p
  induction p generalizing t with
  | nil => intro h e; rw [at?_nil] at e; cases e; exact h
  | cons k p ih =>
    intro h e
    rw [at?_cons] at e
    cases q : t.own[k]? with
    | none => rw [q] at e; cases e
    | some x => rw [q] at e; exact ih (h.own x (List.mem_of_getElem? q)) e
theorem kinds7_small {k : Kd} (h : k ∈ kinds7) : ksize k ≤ 5 := by
  have : ∀ k ∈ kinds7, ksize k ≤ 5 := by decide
  exact this k h
theorem Wf.tm {e : Ex} (h : Wf e) : ∃ t, e = ex t ∧ TOk t := by
  induction h with
  | num i => exact ⟨.node (.num i) [], by rw [ex]; rfl, .mk rfl (Nat.zero_le _) fun _ h => nomatch h⟩
  | truth i => exact ⟨.node (.truth i) [], by rw [ex]; rfl, .mk rfl (Nat.zero_le _) fun _ h => nomatch h⟩
  | name i => exact ⟨.node (.name i) [], by rw [ex]; rfl, .mk rfl (Nat.zero_le _) fun _ h => nomatch h⟩
  | nil i hk => exact ⟨.node (.nil i) [], by rw [ex]; rfl, .mk rfl (kinds7_small hk) fun _ h => nomatch h⟩
  | add _ _ i1 i2 =>
    obtain ⟨t1, rfl, h1⟩ := i1; obtain ⟨t2, rfl, h2⟩ := i2
    exact ⟨.node .add [t1, t2], by rw [ex]; rfl, .mk rfl (by decide) (by simp [h1, h2])⟩
  | less _ _ i1 i2 =>
    obtain ⟨t1, rfl, h1⟩ := i1; obtain ⟨t2, rfl, h2⟩ := i2
    exact ⟨.node .less [t1, t2], by rw [ex]; rfl, .mk rfl (by decide) (by simp [h1, h2])⟩
  | front _ _ i1 i2 =>
    obtain ⟨t1, rfl, h1⟩ := i1; obtain ⟨t2, rfl, h2⟩ := i2
    exact ⟨.node .front [t1, t2], by rw [ex]; rfl, .mk rfl (by decide) (by simp [h1, h2])⟩
  | call _ _ i1 i2 =>
    obtain ⟨t1, rfl, h1⟩ := i1; obtain ⟨t2, rfl, h2⟩ := i2
    exact ⟨.node .call [t1, t2], by rw [ex]; rfl, .mk rfl (by decide) (by simp [h1, h2])⟩
  | ifx _ _ _ i1 i2 i3 =>
    obtain ⟨t1, rfl, h1⟩ := i1; obtain ⟨t2, rfl, h2⟩ := i2; obtain ⟨t3, rfl, h3⟩ := i3
    exact ⟨.node .ifx [t1, t2, t3], by rw [ex]; rfl, .mk rfl (by decide) (by simp [h1, h2, h3])⟩
  | case k h t hk _ _ _ _ _ i1 i2 i3 =>
    obtain ⟨t1, rfl, h1⟩ := i1; obtain ⟨t2, rfl, h2⟩ := i2; obtain ⟨t3, rfl, h3⟩ := i3
    exact ⟨.node (.case k h t) [t1, t2, t3], by rw [ex]; rfl, .mk rfl (kinds7_small hk) (by simp [h1, h2, h3])⟩
  | fn x k _ hk _ i1 =>
    obtain ⟨t1, rfl, h1⟩ := i1
    exact ⟨.node (.fn x k) [t1], by rw [ex]; rfl, .mk rfl (kinds7_small hk) (by simp [h1])⟩
abbrev Sc := List (Str × Kd)
def Kd.arg : Kd → Option Kd
  | .to k _ => some k
  | _ => none
def dues : Lb → List Kd → List (Option Kd)
  | .add, _ => [some .num, some .num]
  | .less, _ => [some .num, some .num]
  | .ifx, o => [some .truth, none, o[1]?]
  | .front, o => [none, (o[0]?).map .list]
  | .case k _ _, o => [some (.list k), none, o[1]?]
  | .call, o => [none, (o[0]?).bind Kd.arg]
  | _, o => o.map fun _ => none
def firstBad : Nat → List (Option Kd) → List Kd → Option (Nat × Kd × Kd)
  | i, some m :: ds, k :: ks => if m = k then firstBad (i + 1) ds ks else some (i, m, k)
  | i, none :: ds, _ :: ks => firstBad (i + 1) ds ks
  | _, _, _ => none
abbrev Br := List Nat × Option Kd × Option Kd
def byDues (b : Lb) (own : List Kd) : Option Br := (firstBad 0 (dues b own) own).map fun x => ([x.1], some x.2.1, some x.2.2)
def breach : Lb → List Kd → Sc → Option Br
  | .name x, _, sc => if (look sc x).isSome then none else some ([], none, none)
  | .call, k :: o, _ => if k.arg.isSome then byDues .call (k :: o) else some ([0], none, some k)
  | b, o, _ => byDues b o
def Kd.res : Kd → Kd
  | .to _ m => m
  | k => k
def kindR : Lb → List Kd → Sc → Kd
  | .num _, _, _ => .num
  | .add, _, _ => .num
  | .truth _, _, _ => .truth
  | .less, _, _ => .truth
  | .name x, _, sc => (look sc x).getD .num
  | .nil k, _, _ => .list k
  | .fn _ k, o, _ => .to k ((o[0]?).getD .num)
  | .call, o, _ => Kd.res ((o[0]?).getD .num)
  | _, o, _ => (o[1]?).getD .num
def scK : Lb → Nat → Sc → Sc
  | .fn x k, _, sc => sc ++ [(x, k)]
  | .case k h t, 2, sc => sc ++ [(h, k)] ++ [(t, .list k)]
  | _, _, sc => sc
def scAt : Tm → List Nat → Sc → Sc
  | _, [], sc => sc
  | t, k :: p, sc => match t.own[k]? with
    | some u => scAt u p (scK t.lab k sc)
    | none => sc
termination_by _ p => p.length
theorem scAt_nil (t : Tm) (sc : Sc) : scAt t [] sc = sc := by unfold scAt; rfl
theorem scAt_cons {t u : Tm} {k : Nat} {p : List Nat} {sc : Sc} (h : t.own[k]? = some u) : scAt t (k :: p) sc = scAt u p (scK t.lab k sc) := by rw [scAt, h]
theorem scAt_snoc {e t u : Tm} {k : Nat} {sc : Sc} : ∀ {p : List Nat}, e.at? p = some t → t.own[k]? = some u → scAt e (p ++ [k]) sc = scK t.lab k (scAt e p sc) := by
  intro p
  induction p generalizing e sc with
  | nil =>
    intro h1 h2
    rw [at?_nil] at h1
    cases h1
    rw [List.nil_append, scAt_cons h2, scAt_nil, scAt_nil]
  | cons j p ih =>
    intro h1 h2
    rw [at?_cons] at h1
    cases q : e.own[j]? with
    | none => rw [q] at h1; cases h1
    | some x =>
      rw [q] at h1
      rw [List.cons_append, scAt_cons q, scAt_cons q]
      exact ih h1 h2
def ownK (acc : List (List Nat × Kd)) (p : List Nat) (n : Nat) : List Kd := (List.range n).filterMap fun i => (acc.find? fun x => decide (x.1 = p ++ [i])).map (·.2)
def goN (e : Tm) (sc : Sc) : List (List Nat × Kd) → List (List Nat × Tm) → List (List Nat × Kd) × Option Br
  | acc, [] => (acc, none)
  | acc, (p, t) :: r =>
    match breach t.lab (ownK acc p t.own.length) (scAt e p sc) with
    | some b => (acc, some (p ++ b.1, b.2))
    | none => goN e sc (acc ++ [(p, kindR t.lab (ownK acc p t.own.length) (scAt e p sc))]) r
def notesN (e : Tm) (sc : Sc) : List (List Nat × Kd) × Option Br := goN e sc [] e.post
end Wk
set_option Elab.async false
set_option linter.all false
set_option maxRecDepth 100000
set_option maxHeartbeats 4000000
namespace L2
open PySem PySem.Spec PyProof.Rows
section
variable {X : Cx} {ρ : List Sl} {e a b c : Expr} {es : List Expr} {r ra rb : Sl} {pos p2 p3 : Pos} {d : PyData} {Q : Out → Prop} {rest : List Stmt}
theorem vs_ifT {A B : List Stmt} {k : Bool} (hc : VT X ρ c k) (hk : k = true) (h : VS X A ρ (thenS X rest Q)) : VS X (.If c A B pos :: rest) ρ Q := vs_if hc (fun _ => h) fun z => by rw [hk] at z; cases z
theorem vs_ifF {A B : List Stmt} {k : Bool} (hc : VT X ρ c k) (hk : k = false) (h : VS X B ρ (thenS X rest Q)) : VS X (.If c A B pos :: rest) ρ Q := vs_if hc (fun z => by rw [hk] at z; cases z) fun _ => h
theorem vs_ifN {A : List Stmt} {k : Bool} (hc : VT X ρ c k) (hk : k = false) (h : VS X rest ρ Q) : VS X (.If c A [] pos :: rest) ρ Q := vs_ifF hc hk (vs_nil h)
theorem vt_inS2 {x y z : Str} (ha : VE X ρ a (.d (.str x))) (hb : VE X ρ b (.d (.tuple [.str y, .str z]))) (hm : behindInMarks .In b = false) : VT X ρ (.Compare a [.In] [b] pos) (decide (x ∈ [y, z])) := vt_inS (xs := [y, z]) ha hb hm
end
end L2
namespace Wk
open PySem L2 PySem.Spec PyProof.Rows
theorem ScD.ext {K : PySem.W.Frag} {H H' : Hp} {a : Addr} {sc : Sc} (e : Ext H H') (h : ScD K H a sc) : ScD K H' a sc := by
  obtain ⟨kvs, h1, l, n, q⟩ := h.ex
  exact ⟨kvs, e _ _ h1 (fun _ z => nomatch z), l, n, fun x k z => let ⟨v, g1, g2⟩ := q x k z; ⟨v, g1, Rep.mono (TupLe.of_ext e) _ _ g2⟩⟩
def scPer (K : PySem.W.Frag) (sc : Sc) : Per := ⟨fun H v => ∃ a, v = .ref a ∧ ScD K H a sc, fun _ _ _ e ⟨a, h1, h2⟩ => ⟨a, h1, h2.ext e⟩⟩
section
variable {X : Cx} {ρ : List Sl} {a b : Expr} {pos p2 : Pos} {sc : Sc} {x : Str} {k : Kd}
theorem ve_scGet (hu : X.A.units + 1 < cLine) (ho : VE X ρ a (.h (scPer X.K sc))) (hi : VE X ρ b (.d (.str x))) (h : look sc x = some k) (hs : NoSl b := by exact fun _ _ => rfl) : VE X ρ (.Subscript a b pos) (.d (kdD k)) :=
  PE.weak (pe_dget hu ho hi hs) fun σ H Q ⟨er, q⟩ => ⟨er, fun v H1 s1 r1 => ⟨er_grow er s1, fun u H2 s2 r2 => by
    obtain ⟨p, rfl, hp⟩ := r1
    obtain ⟨kvs, h1, _, _, g⟩ := (hp.mono s2).ex
    obtain ⟨w, g1, g2⟩ := g x k h
    obtain rfl := RsR.is_str r2
    refine ⟨p, w, rfl, ?_, q w H2 (s1.trans s2) g2⟩
    rw [← g1]
    exact DGet.k (k := .inr x) h1⟩⟩
theorem vt_scNot (hu : X.A.units + 1 < cLine) (hi : VE X ρ b (.d (.str x))) (ho : VE X ρ a (.h (scPer X.K sc))) (hm : behindInMarks .NotIn a = false) : VT X ρ (.Compare b [.NotIn] [a] pos) (!(look sc x).isSome) :=
  PT.weak (pt_cmp (pc_dnotin hu hi ho) hm) fun σ H Q ⟨er, q⟩ => ⟨er, fun v H1 s1 r1 => ⟨er_grow er s1, fun u H2 s2 r2 => by
    obtain ⟨p, rfl, hp⟩ := r2
    obtain ⟨kvs, h1, _, n, g⟩ := hp.ex
    obtain rfl := RsR.is_str r1
    refine ⟨p, _, rfl, DGet.k (k := .inr x) h1, _, rfl, ?_⟩
    have : (valV kvs (.inr x)).isSome = (look sc x).isSome := by
      cases h : look sc x with
      | none => rw [n x h]; rfl
      | some k => obtain ⟨w, g1, _⟩ := g x k h; rw [g1]; rfl
    rw [this]
    exact q H2 (s1.trans s2)⟩⟩
end
structure Consts (K : PySem.W.Frag) (mg : Str → Option Value) : Prop where
  num : ∃ a, mg "NUM" = some (.ref a) ∧ ∀ H, Rep K H (kdD .num) (.ref a)
  truth : ∃ a, mg "TRUTH" = some (.ref a) ∧ ∀ H, Rep K H (kdD .truth) (.ref a)
theorem ve_NUM {X : Cx} {ρ : List Sl} {pos : Pos} (c : Consts X.K X.mg) (hg : Gl X "NUM" := by rfl) : VE X ρ (.Name "NUM" pos) (.d (kdD .num)) := let ⟨a, h1, h2⟩ := c.num; ve_glob (v := .ref a) hg h1 rfl h2
theorem ve_TRUTH {X : Cx} {ρ : List Sl} {pos : Pos} (c : Consts X.K X.mg) (hg : Gl X "TRUTH" := by rfl) : VE X ρ (.Name "TRUTH" pos) (.d (kdD .truth)) := let ⟨a, h1, h2⟩ := c.truth; ve_glob (v := .ref a) hg h1 rfl h2
def optD : Option Kd → PyData
  | none => .none
  | some k => kdD k
def brD : Option Br → PyData
  | none => .none
  | some b => .tuple [plD b.1, optD b.2.1, optD b.2.2]
def RSame : List Sl → Sl → Prop := fun as r => ∃ k m, as = [.d (kdD k), .d (kdD m)] ∧ ksize k + ksize m ≤ 100000 ∧ r = .d (.bool (decide (k = m)))
theorem same_V {K : PySem.W.Frag} {vs : List V} {H : Hp} {Q : VK} {E : XK} (h : spV K RSame vs H Q E) : spSameKind K vs H Q E := by
  obtain ⟨as, r, h1, ⟨k, m, rfl, hz, rfl⟩, q⟩ := h
  cases h1 with
  | cons a1 t =>
    cases t with
    | cons a2 t =>
      cases t
      exact ⟨_, _, k, m, rfl, a1, a2, hz, fun H' s => q _ H' s RsR.bool⟩
def RDue : List Sl → Sl → Prop := fun as r => ∃ (b : Lb) (o : List Tm) (ks : List Kd), as = [.d (py (ex (.node b o))), .l (ks.map kdD)] ∧ ks.length = ar b ∧ (b = .call → ∃ k m r, ks = .to k m :: r) ∧ r = .o ((dues b ks).map optD)
def RKind (K : PySem.W.Frag) : List Sl → Sl → Prop := fun as r => ∃ (b : Lb) (o : List Tm) (ks : List Kd) (sc : Sc), as = [.d (py (ex (.node b o))), .l (ks.map kdD), .h (scPer K sc)] ∧ ks.length = ar b ∧ breach b ks sc = none ∧ r = .d (kdD (kindR b ks sc))
def RBreach (K : PySem.W.Frag) : List Sl → Sl → Prop := fun as r => ∃ (b : Lb) (o : List Tm) (ks : List Kd) (sc : Sc), as = [.d (py (ex (.node b o))), .l (ks.map kdD), .h (scPer K sc)] ∧ ks.length = ar b ∧ (∀ k ∈ ks, ksize k ≤ 10000) ∧ lsz b ≤ 10000 ∧ r = .d (brD (breach b ks sc))
end Wk
namespace Wk
open PySem L2 PySem.Spec PyProof.Rows
def kP (p : List Nat) : List Key := p.map fun (k : Nat) => Sum.inl (k : Int)
theorem kP_V (p : List Nat) : (kP p).map kV = p.map fun (k : Nat) => V.int (k : Int) := by unfold kP; rw [List.map_map]; rfl
def PrT (K : PySem.W.Frag) (H : Hp) (x : List Nat × Ex) (v : V) : Prop := ∃ a u w, v = .ref a ∧ SqT K H a [.ref u, w] ∧ H u = some (.tup ((kP x.1).map kV)) ∧ Rep K H (py x.2) w
def PrTs (K : PySem.W.Frag) (H : Hp) (xs : List (List Nat × Ex)) (vs : List V) : Prop := vs.length = xs.length ∧ ∀ (i : Nat) x v, xs[i]? = some x → vs[i]? = some v → PrT K H x v
section
variable {K : PySem.W.Frag} {H H' : Hp} {xs ys : List (List Nat × Ex)} {vs ws : List V} {x : List Nat × Ex} {v : V}
theorem PrT.ext (e : Ext H H') (h : PrT K H x v) : PrT K H' x v := by
  obtain ⟨a, u, w, h1, h2, h3, h4⟩ := h
  exact ⟨a, u, w, h1, TupLe.of_ext e _ _ h2, e _ _ h3 (fun _ z => nomatch z), Rep.mono (TupLe.of_ext e) _ _ h4⟩
theorem PrTs.ext (e : Ext H H') (h : PrTs K H xs vs) : PrTs K H' xs vs := ⟨h.1, fun i x v h1 h2 => (h.2 i x v h1 h2).ext e⟩
theorem PrTs.nil : PrTs K H [] [] := ⟨rfl, fun i x v h => by simp at h⟩
theorem PrTs.append (h : PrTs K H xs vs) (g : PrTs K H ys ws) : PrTs K H (xs ++ ys) (vs ++ ws) := by
  refine ⟨by rw [List.length_append, List.length_append, h.1, g.1], fun i x v h1 h2 => ?_⟩
  by_cases hi : i < xs.length
  · rw [List.getElem?_append_left hi] at h1
    rw [List.getElem?_append_left (by rw [h.1]; exact hi)] at h2
    exact h.2 i x v h1 h2
  · rw [List.getElem?_append_right (by omega)] at h1
    rw [List.getElem?_append_right (by rw [h.1]; omega), h.1] at h2
    exact g.2 _ x v h1 h2
theorem PrTs.one (h : PrT K H x v) : PrTs K H [x] [v] := ⟨rfl, fun i y w h1 h2 => by
  cases i with
  | zero => simp at h1 h2; rw [← h1, ← h2]; exact h
  | succ i => simp at h1⟩
theorem PrTs.reverse (h : PrTs K H xs vs) : PrTs K H xs.reverse vs.reverse := by
  refine ⟨by rw [List.length_reverse, List.length_reverse, h.1], fun i x v h1 h2 => ?_⟩
  have hi : i < xs.length := by have := (List.getElem?_eq_some_iff.mp h1).1; simpa using this
  rw [List.getElem?_reverse hi] at h1
  rw [List.getElem?_reverse (by rw [h.1]; exact hi), h.1] at h2
  exact h.2 _ x v h1 h2
theorem PrTs.snoc (h : PrTs K H (xs ++ [x]) vs) : ∃ ws v, vs = ws ++ [v] ∧ PrTs K H xs ws ∧ PrT K H x v := by
  have hl := h.1
  rw [List.length_append] at hl
  rcases nil_or_snoc vs with e | ⟨ws, v, rfl⟩
  · subst e; simp at hl
  · have hw : ws.length = xs.length := by simpa using hl
    refine ⟨ws, v, rfl, ⟨hw, fun i y u h1 h2 => ?_⟩, ?_⟩
    · have hi : i < xs.length := (List.getElem?_eq_some_iff.mp h1).1
      exact h.2 i y u (by rw [List.getElem?_append_left hi]; exact h1) (by rw [List.getElem?_append_left (by omega)]; exact h2)
    · exact h.2 xs.length x v (by simp) (by rw [← hw]; simp)
theorem PrTs.get {i : Nat} (h : PrTs K H xs vs) (hi : vs[i]? = some v) : ∃ x, xs[i]? = some x ∧ PrT K H x v := by
  have hl : i < xs.length := by rw [← h.1]; exact (List.getElem?_eq_some_iff.mp hi).1
  exact ⟨_, List.getElem?_eq_getElem hl, h.2 i _ v (List.getElem?_eq_getElem hl) hi⟩
end
theorem cat_trk {K : PySem.W.Frag} {H : Hp} {a b : Addr} {xs ys : List V} {Q : VK} (ha : SqT K H a xs) (hb : H b = some (.tup ys)) (hy : ys ≠ []) (hz : xs.length + ys.length ≤ sizeLine) (q : ∀ c H', Same H H' → H' c = some (.tup (xs ++ ys)) → Q (.ref c) H') : rCatT' K (.ref a) (.ref b) H Q :=
  ⟨a, b, xs, ys, rfl, rfl, ha, SqT.of hb, hz, fun e => q b H (Same.refl H) (by rw [e]; exact hb), fun _ e => absurd e hy, fun _ _ p hp => q p _ (same_upd hp _) upd_same⟩
def spOrderT (K : PySem.W.Frag) : Sp := fun vs H Q _ => ∃ (v : V) (e : Ex), vs = [v] ∧ Rep K H (py e) v ∧ e.size ≤ 1000000 ∧ ∀ r H' ps, Same H H' → H r = none → H' r = some (.lst ps) → PrTs K H' e.post ps → Q (.ref r) H'
end Wk
namespace Wk
open PySem L2
theorem dues_len {b : Lb} {ks : List Kd} (h : ks.length = ar b) : (dues b ks).length = ks.length := by cases b <;> simp_all [dues, ar]
theorem isN_kd (k : Kd) : (Sl.d (kdD k)).isN = false := by cases k <;> rfl
theorem firstBad_none (i : Nat) (ds : List (Option Kd)) (ks : List Kd) (h : ∀ d ∈ ds, d = none) : firstBad i ds ks = none := by
  induction ds generalizing i ks with
  | nil => cases ks <;> rfl
  | cons d ds ih =>
    have := h d List.mem_cons_self
    subst this
    cases ks with
    | nil => rfl
    | cons k ks => rw [firstBad]; exact ih _ _ fun d hd => h d (List.mem_cons_of_mem _ hd)
theorem breach_name {x : Str} {ks : List Kd} {sc : Sc} : breach (.name x) ks sc = if (look sc x).isSome then none else some ([], none, none) := rfl
theorem breach_by {b : Lb} {ks : List Kd} {sc : Sc} (h1 : ∀ x, b = .name x → (look sc x).isSome = true) (h2 : b = .call → ∃ k m r, ks = .to k m :: r) : breach b ks sc = byDues b ks := by
  cases b with
  | name x =>
    rw [breach_name, if_pos (h1 x rfl), byDues, firstBad_none _ _ _ (by simp [dues])]
    rfl
  | call => obtain ⟨k, m, r, rfl⟩ := h2 rfl; rfl
  | _ => rfl
theorem dues_small {b : Lb} {ks : List Kd} {m : Kd} (h : ∀ k ∈ ks, ksize k ≤ 10000) (hb : lsz b ≤ 10000) (hm : some m ∈ dues b ks) : ksize m ≤ 10001 := by
  have at' : ∀ {i : Nat} {k : Kd}, ks[i]? = some k → ksize k ≤ 10000 := fun e => h _ (List.mem_of_getElem? e)
  cases b with
  | ifx =>
    simp [dues] at hm
    rcases hm with rfl | hm
    · decide
    · have := at' hm.symm; omega
  | case k x y =>
    simp [dues] at hm
    rcases hm with rfl | hm
    · simp only [lsz] at hb; simp only [ksize]; omega
    · have := at' hm.symm; omega
  | front =>
    simp [dues] at hm
    cases q : ks[0]? with
    | none => rw [q] at hm; cases hm
    | some k =>
      rw [q] at hm
      cases hm
      have := at' q
      simp only [ksize]; omega
  | call =>
    simp [dues] at hm
    cases q : ks[0]? with
    | none => rw [q] at hm; cases hm
    | some k =>
      rw [q] at hm
      have := at' q
      cases k with
      | to a c => cases hm; simp only [ksize] at this; omega
      | _ => cases hm
  | add => simp [dues] at hm; subst hm; decide
  | less => simp [dues] at hm; subst hm; decide
  | _ => simp [dues] at hm
end Wk
namespace Wk
open PySem L2
def compScopeI (s : Stmt) (i : Nat) : Scope := match (defBody s)[i]? with
  | some (.Return (some (.ListComp _ _ sc _)) _) => sc
  | some (.Assign _ (.ListComp _ _ sc _) _) => sc
  | _ => { kind := .function, names := [], isGenerator := false, isCoroutine := false }
end Wk
namespace Wk
theorem len2 {ks : List Kd} (h : ks.length = 2) : ∃ a b, ks = [a, b] := by
  match ks, h with
  | [a, b], _ => exact ⟨a, b, rfl⟩
theorem len3 {ks : List Kd} (h : ks.length = 3) : ∃ a b c, ks = [a, b, c] := by
  match ks, h with
  | [a, b, c], _ => exact ⟨a, b, c, rfl⟩
theorem len1 {ks : List Kd} (h : ks.length = 1) : ∃ a, ks = [a] := by
  match ks, h with
  | [a], _ => exact ⟨a, rfl⟩
end Wk
set_option Elab.async false
set_option linter.all false
namespace Wk
variable {α : Type}
theorem posts_split {u : Rose α} : ∀ {r : List (Rose α)} {j : Nat} (k : Nat), r[j]? = some u → ∃ A C, posts k r = A ++ u.post.map (fun x => ((k + j) :: x.1, x.2)) ++ C
  | [], j, k, h => by simp at h
  | t :: r, 0, k, h => by
    simp at h; subst h
    exact ⟨[], posts (k + 1) r, by rw [posts]; rfl⟩
  | t :: r, j + 1, k, h => by
    obtain ⟨A, C, e⟩ := posts_split (k + 1) (r := r) (j := j) (by simpa using h)
    refine ⟨t.post.map (fun x => (k :: x.1, x.2)) ++ A, C, ?_⟩
    rw [posts, e, show k + 1 + j = k + (j + 1) from by omega]
    simp
theorem post_split {e t : Rose α} : ∀ {p : List Nat}, e.at? p = some t → ∃ A C, e.post = A ++ t.post.map (fun x => (p ++ x.1, x.2)) ++ C := by
  intro p
  induction p generalizing e with
  | nil =>
    intro h
    rw [at?_nil] at h; cases h
    exact ⟨[], [], by simp⟩
  | cons k p ih =>
    intro h
    rw [at?_cons] at h
    cases q : e.own[k]? with
    | none => rw [q] at h; cases h
    | some u =>
      rw [q] at h
      obtain ⟨A, C, e1⟩ := ih (e := u) h
      obtain ⟨A2, C2, e2⟩ := posts_split 0 q
      refine ⟨A2 ++ A.map (fun x => (k :: x.1, x.2)), C.map (fun x => (k :: x.1, x.2)) ++ C2 ++ [([], e)], ?_⟩
      rw [post_own, e2, e1, Nat.zero_add]
      simp [List.map_map, Function.comp_def]
theorem posts_head {x : List Nat × Rose α} : ∀ {r : List (Rose α)} {k : Nat}, x ∈ posts k r → ∃ j q, x.1 = j :: q ∧ k ≤ j
  | [], k, h => by simp [posts] at h
  | t :: r, k, h => by
    rw [posts] at h
    rcases List.mem_append.mp h with h | h
    · obtain ⟨y, _, rfl⟩ := List.mem_map.mp h
      exact ⟨k, y.1, rfl, Nat.le_refl _⟩
    · obtain ⟨j, q, e, l⟩ := posts_head h
      exact ⟨j, q, e, by omega⟩
theorem nodup_mapK (k : Nat) {l : List (List Nat)} (h : l.Nodup) : (l.map fun p => k :: p).Nodup := by
  induction l with
  | nil => exact List.nodup_nil
  | cons a r ih =>
    rw [List.nodup_cons] at h
    rw [List.map_cons, List.nodup_cons]
    refine ⟨fun m => ?_, ih h.2⟩
    obtain ⟨b, hb, e⟩ := List.mem_map.mp m
    cases e
    exact h.1 hb
theorem places_nodup (t : Rose α) : t.places.Nodup := by
  induction t using Rose.ind with
  | h a o ih =>
    have key : ∀ (r : List (Rose α)) (k : Nat), (∀ x ∈ r, x ∈ o) → ((posts k r).map Prod.fst).Nodup := by
      intro r
      induction r with
      | nil => intro k _; exact List.nodup_nil
      | cons y r ihr =>
        intro k hs
        rw [posts, List.map_append, List.map_map]
        have e : (Prod.fst ∘ fun (x : List Nat × Rose α) => (k :: x.1, x.2)) = (fun p => k :: p) ∘ Prod.fst := rfl
        rw [e, ← List.map_map]
        refine List.nodup_append.mpr ⟨nodup_mapK k (ih y (hs y List.mem_cons_self)), ihr (k + 1) (fun x hx => hs x (List.mem_cons_of_mem _ hx)), ?_⟩
        intro x hx z hz exz
        obtain ⟨q, _, rfl⟩ := List.mem_map.mp hx
        obtain ⟨w, hw, rfl⟩ := List.mem_map.mp hz
        obtain ⟨j, q', e', l⟩ := posts_head hw
        rw [e'] at exz
        cases exz
        omega
    rw [places_eq]
    refine List.nodup_append.mpr ⟨key o 0 (fun x hx => hx), by simp, ?_⟩
    intro x hx z hz exz
    have : z = [] := by simpa using hz
    subst this
    obtain ⟨w, hw, rfl⟩ := List.mem_map.mp hx
    exact posts_ne o 0 w hw exz
theorem nodup_ix {β : Type} {l : List β} (h : l.Nodup) {i j : Nat} {x : β} (h1 : l[i]? = some x) (h2 : l[j]? = some x) : i = j := by
  induction l generalizing i j with
  | nil => simp at h1
  | cons a r ih =>
    rw [List.nodup_cons] at h
    cases i with
    | zero =>
      cases j with
      | zero => rfl
      | succ j =>
        simp at h1 h2
        subst h1
        exact absurd (List.mem_of_getElem? h2) h.1
    | succ i =>
      cases j with
      | zero =>
        simp at h1 h2
        subst h2
        exact absurd (List.mem_of_getElem? h1) h.1
      | succ j =>
        simp at h1 h2
        rw [ih h.2 h1 h2]
theorem post_place {e : Rose α} {i : Nat} {x : List Nat × Rose α} (h : e.post[i]? = some x) : e.places[i]? = some x.1 := by rw [Rose.places, List.getElem?_map, h]; rfl
theorem post_ix {e : Rose α} {i j : Nat} {x y : List Nat × Rose α} (h1 : e.post[i]? = some x) (h2 : e.post[j]? = some y) (h : x.1 = y.1) : i = j :=
  nodup_ix (places_nodup e) (post_place h1) (by rw [h]; exact post_place h2)
theorem post_child {e t u : Rose α} {p : List Nat} {k : Nat} (h : e.at? p = some t) (hk : t.own[k]? = some u) : ∃ i j : Nat, j < i ∧ e.post[i]? = some (p, t) ∧ e.post[j]? = some (p ++ [k], u) := by
  obtain ⟨A, C, e1⟩ := post_split h
  obtain ⟨A2, C2, e2⟩ := posts_split 0 hk
  have e3 : t.post = A2 ++ u.post.map (fun x => ((0 + k) :: x.1, x.2)) ++ C2 ++ [([], t)] := by rw [post_own, e2]
  have e4 : u.post = posts 0 u.own ++ [([], u)] := post_own u
  have e5 : e.post = (A ++ (A2 ++ (posts 0 u.own).map (fun x => ((0 + k) :: x.1, x.2))).map (fun x => (p ++ x.1, x.2))) ++ [(p ++ [k], u)] ++ C2.map (fun x => (p ++ x.1, x.2)) ++ [(p, t)] ++ C := by
    rw [e1, e3, e4]
    simp [List.map_map, Function.comp_def]
  refine ⟨(A ++ (A2 ++ (posts 0 u.own).map (fun x => ((0 + k) :: x.1, x.2))).map (fun x => (p ++ x.1, x.2))).length + 1 + (C2.map (fun x => (p ++ x.1, x.2))).length, (A ++ (A2 ++ (posts 0 u.own).map (fun x => ((0 + k) :: x.1, x.2))).map (fun x => (p ++ x.1, x.2))).length, by omega, ?_, ?_⟩
  · rw [e5]
    generalize A ++ (A2 ++ (posts 0 u.own).map (fun x => ((0 + k) :: x.1, x.2))).map (fun x => (p ++ x.1, x.2)) = L1
    generalize C2.map (fun x => (p ++ x.1, x.2)) = L2
    rw [List.getElem?_append_left (by simp; omega), List.getElem?_append_right (by simp; omega)]
    rw [show L1.length + 1 + L2.length - (L1 ++ [(p ++ [k], u)] ++ L2).length = 0 from by simp; omega]
    rfl
  · rw [e5]
    generalize A ++ (A2 ++ (posts 0 u.own).map (fun x => ((0 + k) :: x.1, x.2))).map (fun x => (p ++ x.1, x.2)) = L1
    generalize C2.map (fun x => (p ++ x.1, x.2)) = L2
    simp
theorem post_has {e t : Rose α} {p : List Nat} (h : e.at? p = some t) : ∃ i : Nat, e.post[i]? = some (p, t) := by
  obtain ⟨A, C, e1⟩ := post_split h
  have e3 : t.post = posts 0 t.own ++ [([], t)] := post_own t
  have : (p, t) ∈ e.post := by rw [e1, e3]; simp
  obtain ⟨i, hi, e⟩ := List.getElem_of_mem this
  exact ⟨i, by rw [List.getElem?_eq_getElem hi, e]⟩
end Wk
set_option Elab.async false
set_option linter.all false
set_option maxRecDepth 100000
set_option maxHeartbeats 4000000
namespace L2
open PySem PySem.Spec PyProof.Rows
theorem DefOk.imp {P : Program} {w : World} {K : PySem.W.Frag} {mg : Str → Option Value} {base : Heap} {k : Nat} {x : Str} {ps : List Str} {sp sp' : Sp} (D : DefOk P w K mg base k x ps sp) (h : ∀ vs H Q E, sp' vs H Q E → sp vs H Q E) : DefOk P w K mg base k x ps sp' :=
  let ⟨f, fd, F, r⟩ := D; ⟨f, fd, F.imp h, r⟩
theorem RdRs.one {K : PySem.W.Frag} {H : Hp} {r : Sl} {vs : List V} (h : RdRs K H [r] vs) : ∃ v, vs = [v] ∧ RdR K H r v := by
  cases h with | cons a t => cases t; exact ⟨_, rfl, a⟩
theorem RdRs.two {K : PySem.W.Frag} {H : Hp} {r q : Sl} {vs : List V} (h : RdRs K H [r, q] vs) : ∃ v u, vs = [v, u] ∧ RdR K H r v ∧ RdR K H q u := by
  cases h with | cons a t => cases t with | cons b t => cases t; exact ⟨_, _, rfl, a, b⟩
section
variable {X : Cx} {ρ : List Sl} {e a b c : Expr} {r ra rb : Sl} {pos p2 p3 : Pos} {d : PyData} {Q : Out → Prop} {rest : List Stmt}
theorem ve_mulS {z : Str} {n : Int} (ha : VE X ρ a (.d (.str z))) (hb : VE X ρ b (.d (.int n))) (h0 : 0 < z.length) (h1 : 1 < n) (h2 : n ≤ 1000) (h3 : z.length ≤ 1000) : VE X ρ (.BinOp a .Mult b pos) (.d (.str (Txt.mul z n))) :=
  ve_op op_mulS ha hb fun H x y Q rx ry q => ⟨z, n, RdR.is_str rx, RdR.is_int ry, h0, h1, h2, h3, q _ H (Same.refl H) RsR.str⟩
theorem ve_eq {r' : Sl} (h : VE X ρ e r) (q : r = r') : VE X ρ e r' := by rw [← q]; exact h
end
end L2
namespace Wk
open PySem L2 PySem.Spec PyProof.Rows
def RThere : List Sl → Sl → Prop := fun as r => ∃ (e t : Ex) (p : List Nat), as = [.d (py e), .d (plD p)] ∧ e.at? p = some t ∧ r = .d (py t)
def RLow : List Sl → Sl → Prop := fun as r => ∃ (e t : Ex) (p : List Nat), as = [.d (py e), .d (plD p)] ∧ e.at? p = some t ∧ p.length + e.size ≤ 100000 ∧ r = .d (plD (p ++ t.low))
def RNext : List Sl → Sl → Prop := fun as r => ∃ (e t : Ex) (p : List Nat), as = [.d (py e), .d (plD p)] ∧ e.at? p = some t ∧ p ≠ [] ∧ p.length + e.size ≤ 100000 ∧ r = .d (plD (nextP e p))
def RIsPlace : List Sl → Sl → Prop := fun as r => ∃ p : List Nat, as = [.d (plD p)] ∧ r = .d (.bool true)
section
variable {K : PySem.W.Frag} {vs : List V} {H : Hp} {Q : VK} {E : XK}
theorem there_V (h : spV K RThere vs H Q E) : spThere K vs H Q E := by
  obtain ⟨as, r, h1, ⟨e, t, p, rfl, ha, rfl⟩, q⟩ := h
  obtain ⟨v, u, rfl, a1, a2⟩ := h1.two
  exact ⟨v, u, e, t, p, rfl, a1, a2, ha, fun w rw' => q w H (Same.refl H) rw'⟩
theorem low_V (h : spV K RLow vs H Q E) : spLow K vs H Q E := by
  obtain ⟨as, r, h1, ⟨e, t, p, rfl, ha, hz, rfl⟩, q⟩ := h
  obtain ⟨v, u, rfl, a1, a2⟩ := h1.two
  exact ⟨v, u, e, t, p, rfl, a1, a2, ha, hz, fun w H' s rw' => q w H' s rw'⟩
theorem next_V (h : spV K RNext vs H Q E) : spNext K vs H Q E := by
  obtain ⟨as, r, h1, ⟨e, t, p, rfl, ha, hn, hz, rfl⟩, q⟩ := h
  obtain ⟨v, u, rfl, a1, a2⟩ := h1.two
  exact ⟨v, u, e, t, p, rfl, a1, a2, ha, hn, hz, fun w H' s rw' => q w H' s rw'⟩
theorem isplace_V (h : spV K RIsPlace vs H Q E) : spIsPlace K vs H Q E := by
  obtain ⟨as, r, h1, ⟨p, rfl, rfl⟩, q⟩ := h
  obtain ⟨v, rfl, a1⟩ := h1.one
  exact ⟨v, p, rfl, a1, q _ H (Same.refl H) RsR.bool⟩
end
def kdep : Kd → Nat
  | .num => 1
  | .truth => 1
  | .list k => kdep k + 1
  | .to k m => max (kdep k) (kdep m) + 1
theorem kd_can (k : Kd) : (kdD k).canLay0 = true := by
  have s1 : PyData.strOk "num" = true := by decide +kernel
  have s2 : PyData.strOk "truth" = true := by decide +kernel
  have s3 : PyData.strOk "list" = true := by decide +kernel
  have s4 : PyData.strOk "to" = true := by decide +kernel
  induction k with
  | num => simp [kdD, PyData.canLay0, PyData.canLayAll0, s1]
  | truth => simp [kdD, PyData.canLay0, PyData.canLayAll0, s2]
  | list k ih => simp [kdD, PyData.canLay0, PyData.canLayAll0, ih, s3]
  | to k m ih1 ih2 => simp [kdD, PyData.canLay0, PyData.canLayAll0, ih1, ih2, s4]
theorem kd_depth (k : Kd) : (kdD k).depth = kdep k := by
  induction k with
  | num => rfl
  | truth => rfl
  | list k ih => simp [kdD, PyData.depth, PyData.depthAll, ih, kdep]
  | to k m ih1 ih2 => simp [kdD, PyData.depth, PyData.depthAll, ih1, ih2, kdep]
theorem kd_eqv (k m : Kd) : PyData.eqv (kdD k) (kdD m) = decide (k = m) := by
  induction k generalizing m with
  | num => cases m <;> simp [kdD, PyData.eqv, PyData.eqvAll] <;> decide
  | truth => cases m <;> simp [kdD, PyData.eqv, PyData.eqvAll] <;> decide
  | list k ih => cases m <;> simp [kdD, PyData.eqv, PyData.eqvAll, ih]
  | to k k2 ih1 ih2 => cases m <;> simp [kdD, PyData.eqv, PyData.eqvAll, ih1, ih2]
def pairK (x : Str × Kd) : PyData := .tuple [.str x.1, kdD x.2]
def noteD (x : List Nat × Kd) : PyData := .tuple [plD x.1, kdD x.2]
def baseSc : Sc := [(nm0, .truth), (nmA, .num), (nm0, .num), (nmA, .list .num), (nmB, .to .num .num)]
def RScAt : List Sl → Sl → Prop := fun as r => ∃ (e t : Tm) (p : List Nat) (sc : Sc), as = [.d (py (ex e)), .d (plD p), .l (sc.map pairK)] ∧ e.at? p = some t ∧ sc.length + 2 * p.length ≤ 100000 ∧ r = .l ((scAt e p sc).map pairK)
def RNamed : List Sl → Sl → Prop := fun as r => ∃ (sc : Sc) (x : Str), as = [.l (sc.map pairK), .d (.str x)] ∧ r = .d (optD (look sc x))
def RBase : List Sl → Sl → Prop := fun as r => as = [] ∧ r = .o (baseSc.map pairK)
def RTold : List Sl → Sl → Prop := fun as r => ∃ (e : Tm) (rows : List (List Nat × Kd)) (n : Nat), as = [.d (py (ex e)), .l (rows.map noteD)] ∧ e.size ≤ 1000 ∧ rows.map (·.1) = e.places.take n ∧ r = .d (.bool true)
def ownF (rows : List (List Nat × Kd)) (p : List Nat) (n : Nat) : List Kd := (List.range n).flatMap fun i => (rows.filter fun x => decide (x.1 = p ++ [i])).map (·.2)
def ROwn : List Sl → Sl → Prop := fun as r => ∃ (rows : List (List Nat × Kd)) (p : List Nat) (n : Nat), as = [.l (rows.map noteD), .d (plD p), .d (.int (n : Nat))] ∧ p.length ≤ 1000 ∧ n ≤ 1000 ∧ rows.length ≤ 1000 ∧ r = .o ((ownF rows p n).map kdD)
theorem ksz_dep (k : Kd) : kdep k ≤ ksize k := by
  induction k with
  | num => exact Nat.le_refl _
  | truth => exact Nat.le_refl _
  | list k ih => simp only [kdep, ksize]; omega
  | to k m i1 i2 => simp only [kdep, ksize]; omega
end Wk
set_option Elab.async false
set_option linter.all false
set_option maxRecDepth 100000
set_option maxHeartbeats 4000000
namespace Wk
open PySem L2 PySem.Spec PyProof.Rows
structure ScK (K : PySem.W.Frag) (H : Hp) (kvs : List (Key × V)) (sc : Sc) : Prop where
  len : kvs.length ≤ sc.length
  no : ∀ x, look sc x = none → valV kvs (.inr x) = none
  yes : ∀ x k, look sc x = some k → ∃ v, valV kvs (.inr x) = some v ∧ Rep K H (kdD k) v
theorem ScK.nil {K : PySem.W.Frag} {H : Hp} : ScK K H [] [] := ⟨Nat.le_refl _, fun _ _ => rfl, fun _ _ h => nomatch h⟩
theorem ScK.put {K : PySem.W.Frag} {H : Hp} {sc : Sc} {y : Str} {k : Kd} {v : V} {kvs : List (Key × V)} (h : ScK K H kvs sc) (hv : Rep K H (kdD k) v) : ScK K H (putK kvs (.inr y) v) (sc ++ [(y, k)]) := by
  refine ⟨by have := length_putK kvs (.inr y) v; have := h.len; rw [List.length_append]; simp; omega, fun x q => ?_, fun x m q => ?_⟩
  · rw [look_snoc] at q
    by_cases hy : y = x
    · rw [if_pos hy] at q; cases q
    · rw [if_neg hy] at q
      rw [valV_put, if_neg (fun z => hy (Sum.inr.inj z).symm)]
      exact h.no x q
  · rw [look_snoc] at q
    by_cases hy : y = x
    · rw [if_pos hy] at q
      cases q
      exact ⟨v, by rw [valV_put, if_pos (by rw [hy])], hv⟩
    · rw [if_neg hy] at q
      obtain ⟨u, h1, h2⟩ := h.yes x m q
      exact ⟨u, by rw [valV_put, if_neg (fun z => hy (Sum.inr.inj z).symm)]; exact h1, h2⟩
theorem ScD.of {K : PySem.W.Frag} {H : Hp} {a : Addr} {kvs : List (Key × V)} {sc : Sc} (e : H a = some (.dK kvs)) (h : ScK K H kvs sc) : ScD K H a sc := ⟨kvs, e, h.len, h.no, h.yes⟩
theorem ScK.mono {K : PySem.W.Frag} {H H' : Hp} {kvs : List (Key × V)} {sc : Sc} (s : Same H H') (h : ScK K H kvs sc) : ScK K H' kvs sc := ⟨h.len, h.no, fun x k q => let ⟨v, a, b⟩ := h.yes x k q; ⟨v, a, Rep.mono (TupLe.of_same s) _ _ b⟩⟩
theorem pairs_scope {K : PySem.W.Frag} {H : Hp} : ∀ {sc : Sc} {qs : List V}, Reps K H (sc.map pairK) qs → ∃ kvs : List (Key × V), PairsL K H qs kvs ∧ kvs.length = sc.length ∧
    ∀ (acc : List (Key × V)) (sc0 : Sc), ScK K H acc sc0 → ScK K H (mergeK acc kvs) (sc0 ++ sc)
  | [], qs, h => by
    rw [List.map_nil, Reps] at h
    subst h
    exact ⟨[], ⟨rfl, fun i v q => by simp at q⟩, rfl, fun acc sc0 h => by rw [List.append_nil]; exact h⟩
  | (x, k) :: sc, qs, h => by
    rw [List.map_cons] at h
    obtain ⟨v, r, rfl, h1, h2⟩ := h.split
    obtain ⟨p, vs, rfl, hq, rp⟩ := Rep.untuple h1
    obtain ⟨v1, r1, rfl, e1, rp⟩ := rp.split
    obtain ⟨v2, r2, rfl, e2, rp⟩ := rp.split
    rw [Reps] at rp
    subst rp
    obtain rfl := e1.is_str
    obtain ⟨kvs, P, hl, g⟩ := pairs_scope h2
    refine ⟨(.inr x, v2) :: kvs, ⟨by simp [P.len], fun i w q => ?_⟩, by simp [hl], fun acc sc0 h => ?_⟩
    · cases i with
      | zero => simp at q; subst q; exact ⟨p, .inr x, v2, rfl, hq, rfl⟩
      | succ i => exact P.at_ i w (by simpa using q)
    · have e : sc0 ++ (x, k) :: sc = (sc0 ++ [(x, k)]) ++ sc := by simp
      rw [e]
      exact g _ _ (h.put e2)
theorem scIn_K (b : Lb) (k : Nat) (sc : Sc) : ScIn (lbl b) (k : Int) sc (scK b k sc) := by
  cases b with
  | fn x m => exact ⟨fun _ => ⟨x, m, rfl, rfl⟩, fun h => absurd h (by show ¬ ("fun" : Str) = "case"; decide), fun h _ => absurd rfl h⟩
  | case m h t =>
    refine ⟨fun h => absurd h (by show ¬ ("case" : Str) = "fun"; decide), fun _ e => ?_, fun _ n => ?_⟩
    · have : k = 2 := by omega
      subst this
      exact ⟨m, h, t, rfl, rfl⟩
    · have : (k : Int) ≠ 2 := n rfl
      unfold scK
      split
      · rename_i z; cases z
      · rename_i z1 z2; exact absurd rfl this
      · rfl
  | num _ => exact ⟨fun h => absurd h (by show ¬ ("num" : Str) = "fun"; decide), fun h => absurd h (by show ¬ ("num" : Str) = "case"; decide), fun _ _ => rfl⟩
  | truth _ => exact ⟨fun h => absurd h (by show ¬ ("truth" : Str) = "fun"; decide), fun h => absurd h (by show ¬ ("truth" : Str) = "case"; decide), fun _ _ => rfl⟩
  | name _ => exact ⟨fun h => absurd h (by show ¬ ("name" : Str) = "fun"; decide), fun h => absurd h (by show ¬ ("name" : Str) = "case"; decide), fun _ _ => rfl⟩
  | nil _ => exact ⟨fun h => absurd h (by show ¬ ("nil" : Str) = "fun"; decide), fun h => absurd h (by show ¬ ("nil" : Str) = "case"; decide), fun _ _ => rfl⟩
  | add => exact ⟨fun h => absurd h (by show ¬ ("add" : Str) = "fun"; decide), fun h => absurd h (by show ¬ ("add" : Str) = "case"; decide), fun _ _ => rfl⟩
  | less => exact ⟨fun h => absurd h (by show ¬ ("less" : Str) = "fun"; decide), fun h => absurd h (by show ¬ ("less" : Str) = "case"; decide), fun _ _ => rfl⟩
  | front => exact ⟨fun h => absurd h (by show ¬ ("front" : Str) = "fun"; decide), fun h => absurd h (by show ¬ ("front" : Str) = "case"; decide), fun _ _ => rfl⟩
  | call => exact ⟨fun h => absurd h (by show ¬ ("call" : Str) = "fun"; decide), fun h => absurd h (by show ¬ ("call" : Str) = "case"; decide), fun _ _ => rfl⟩
  | ifx => exact ⟨fun h => absurd h (by show ¬ ("if" : Str) = "fun"; decide), fun h => absurd h (by show ¬ ("if" : Str) = "case"; decide), fun _ _ => rfl⟩
theorem kP_inj {p q : List Nat} (h : kP p = kP q) : p = q := by
  induction p generalizing q with
  | nil => cases q with
    | nil => rfl
    | cons b q => cases h
  | cons a p ih => cases q with
    | nil => cases h
    | cons b q =>
      simp only [kP, List.map_cons, List.cons.injEq, Sum.inl.injEq] at h
      rw [ih h.2, show a = b from by omega]
theorem scAt_len {sc : Sc} : ∀ {p : List Nat} {e : Tm}, (scAt e p sc).length ≤ sc.length + 2 * p.length := by
  intro p
  induction p generalizing sc with
  | nil => intro e; rw [scAt_nil]; exact Nat.le_refl _
  | cons k p ih =>
    intro e
    cases q : e.own[k]? with
    | none => rw [scAt, q]; simp
    | some u =>
      rw [scAt_cons q]
      have h1 := ih (sc := scK e.lab k sc) (e := u)
      have h2 : (scK e.lab k sc).length ≤ sc.length + 2 := by unfold scK; split <;> simp
      simp only [List.length_cons]
      omega
def Scs (K : PySem.W.Frag) (H : Hp) (kvs : List (List Key × V)) (e : Tm) (sc : Sc) (S : List Nat → Prop) : Prop := ∀ p, S p → ∃ b, valV kvs (kP p) = some (.ref b) ∧ ScD K H b (scAt e p sc)
theorem Scs.put {K : PySem.W.Frag} {H : Hp} {kvs : List (List Key × V)} {e : Tm} {sc : Sc} {S S' : List Nat → Prop} {q : List Nat} {b : Addr} (h : Scs K H kvs e sc S) (hb : ScD K H b (scAt e q sc)) (hs : ∀ p, S' p → p = q ∨ S p) : Scs K H (putK kvs (kP q) (.ref b)) e sc S' := fun p hp => by
  by_cases hq : p = q
  · subst hq; exact ⟨b, by rw [valV_put, if_pos rfl], hb⟩
  · obtain ⟨c, h1, h2⟩ := h p ((hs p hp).resolve_left hq)
    exact ⟨c, by rw [valV_put, if_neg (fun z => hq (kP_inj z))]; exact h1, h2⟩
theorem ScD.putT {K : PySem.W.Frag} {H : Hp} {a s : Addr} {sc : Sc} {kvs kvs' : List (List Key × V)} (h : ScD K H a sc) (hs : H s = some (.dT kvs)) : ScD K (upd H s (.dT kvs')) a sc := by
  obtain ⟨ks, e, l, n, y⟩ := h.ex
  have na : a ≠ s := fun z => by rw [z, hs] at e; cases e
  refine ⟨ks, by rw [upd_ne na]; exact e, l, n, fun x k q => let ⟨v, h1, h2⟩ := y x k q; ⟨v, h1, Rep.mono (.of_keep fun b o h _ _ n => ?_) _ _ h2⟩⟩
  rw [upd_ne (fun z => by rw [z, hs] at h; cases h; exact n _ rfl)]; exact h
theorem tupT {K : PySem.W.Frag} {H : Hp} {s : Addr} {kvs : List (List Key × V)} {o : HO} (hs : H s = some (.dT kvs)) : TupLe K H (upd H s o) := .of_keep fun b o h _ _ n => by
  rw [upd_ne (fun z => by rw [z, hs] at h; cases h; exact n _ rfl)]; exact h
theorem PrTs.putT {K : PySem.W.Frag} {H : Hp} {s : Addr} {kvs : List (List Key × V)} {o : HO} {xs : List (List Nat × Ex)} {vs : List V} (h : PrTs K H xs vs) (hs : H s = some (.dT kvs)) : PrTs K (upd H s o) xs vs := ⟨h.1, fun i x v h1 h2 => by
  obtain ⟨a, u, w, g1, g2, g3, g4⟩ := h.2 i x v h1 h2
  exact ⟨a, u, w, g1, tupT hs _ _ g2, by rw [upd_ne (ne_of g3 hs (by intro z; cases z))]; exact g3, Rep.mono (tupT hs) _ _ g4⟩⟩
inductive AOk : Tm → Prop where
  | mk {b : Lb} {o : List Tm} (h : o.length = ar b) (hs : ∀ t ∈ o, AOk t) : AOk (.node b o)
theorem AOk.len {t : Tm} (h : AOk t) : t.own.length = ar t.lab := by cases h with | mk a b => exact a
theorem AOk.own {t : Tm} (h : AOk t) : ∀ u ∈ t.own, AOk u := by cases h with | mk a b => exact b
theorem TOk.aok {t : Tm} (h : TOk t) : AOk t := by induction h with | mk a b c ih => exact .mk a ih
theorem AOk.at {t u : Tm} : ∀ {p : List Nat}, AOk t → t.at? p = some u → AOk u := by
  intro p
  induction p generalizing t with
  | nil => intro h e; rw [at?_nil] at e; cases e; exact h
  | cons k p ih =>
    intro h e
    rw [at?_cons] at e
    cases q : t.own[k]? with
    | none => rw [q] at e; cases e
    | some x => rw [q] at e; exact ih (h.own x (List.mem_of_getElem? q)) e
def spScopes (K : PySem.W.Frag) : Sp := fun vs H Q _ => ∃ (r q : Addr) (ps qs : List V) (e : Tm) (sc : Sc), vs = [.ref r, .ref q] ∧ AOk e ∧ e.size ≤ 200000 ∧ H r = some (.lst ps) ∧ PrTs K H (ex e).post ps ∧ H q = some (.lst qs) ∧ Reps K H (sc.map pairK) qs ∧ sc.length ≤ 1000 ∧
  ∀ s H' kvs, Same H H' → H s = none → H' s = some (.dT kvs) → Scs K H' kvs e sc (fun p => (e.at? p).isSome = true) → Q (.ref s) H'
theorem ar_le (b : Lb) : ar b ≤ 3 := by cases b <;> exact Nat.le_of_ble_eq_true rfl
end Wk
set_option Elab.async false
set_option linter.all false
set_option maxRecDepth 100000
set_option maxHeartbeats 4000000
namespace Wk
open PySem L2 PySem.Spec PyProof.Rows
abbrev Nts := List (List Nat × Kd)
theorem find_key {κ β : Type} [DecidableEq κ] {l : List (κ × β)} (nd : (l.map (·.1)).Nodup) {j : Nat} {x : κ × β} (h : l[j]? = some x) : (l.find? fun y => decide (y.1 = x.1)) = some x := by
  induction l generalizing j with
  | nil => simp at h
  | cons a r ih =>
    rw [List.map_cons, List.nodup_cons] at nd
    rw [List.find?_cons]
    cases j with
    | zero => simp at h; subst h; simp
    | succ j =>
      have hj : r[j]? = some x := by simpa using h
      have hne : a.1 ≠ x.1 := fun e => nd.1 (by rw [e]; exact List.mem_map.mpr ⟨x, List.mem_of_getElem? hj, rfl⟩)
      rw [decide_eq_false hne]
      exact ih nd.2 hj
theorem filter_key {κ β : Type} [DecidableEq κ] {l : List (κ × β)} (nd : (l.map (·.1)).Nodup) (q : κ) : (l.filter fun y => decide (y.1 = q)) = (l.find? fun y => decide (y.1 = q)).toList := by
  induction l with
  | nil => rfl
  | cons a r ih =>
    rw [List.map_cons, List.nodup_cons] at nd
    rw [List.filter_cons, List.find?_cons]
    by_cases h : a.1 = q
    · rw [if_pos (by simp [h]), decide_eq_true h]
      have : r.filter (fun y => decide (y.1 = q)) = [] := by
        rw [List.filter_eq_nil_iff]
        intro b hb hc
        have hc' : b.1 = q := of_decide_eq_true hc
        exact nd.1 (by rw [h, ← hc']; exact List.mem_map.mpr ⟨b, hb, rfl⟩)
      rw [this]
      rfl
    · rw [if_neg (by simp [h]), decide_eq_false h]
      exact ih nd.2
theorem ownK_succ (acc : Nts) (p : List Nat) (n : Nat) : ownK acc p (n + 1) = ownK acc p n ++ ((acc.find? fun x => decide (x.1 = p ++ [n])).map (·.2)).toList := by
  unfold ownK
  rw [List.range_succ, List.filterMap_append]
  congr 1
theorem ownK_spec {acc : Nts} {p : List Nat} : ∀ {n : Nat}, (∀ k, k < n → ∃ kd, (acc.find? fun x => decide (x.1 = p ++ [k])) = some (p ++ [k], kd)) →
    (ownK acc p n).length = n ∧ ∀ k, k < n → ∃ kd, (ownK acc p n)[k]? = some kd ∧ (acc.find? fun x => decide (x.1 = p ++ [k])) = some (p ++ [k], kd)
  | 0, _ => ⟨rfl, fun k h => absurd h (Nat.not_lt_zero _)⟩
  | n + 1, h => by
    obtain ⟨h1, h2⟩ := ownK_spec (n := n) fun k hk => h k (Nat.lt_succ_of_lt hk)
    obtain ⟨kd, e⟩ := h n (Nat.lt_succ_self n)
    rw [ownK_succ, e]
    refine ⟨by simp [h1], fun k hk => ?_⟩
    rcases Nat.lt_succ_iff_lt_or_eq.mp hk with hk | rfl
    · obtain ⟨kd', e1, e2⟩ := h2 k hk
      exact ⟨kd', by rw [List.getElem?_append_left (by omega)]; exact e1, e2⟩
    · exact ⟨kd, by rw [List.getElem?_append_right (by omega), h1]; simp, e⟩
theorem ownF_K {acc : Nts} (nd : (acc.map (·.1)).Nodup) (p : List Nat) (n : Nat) : ownF acc p n = ownK acc p n := by
  induction n with
  | zero => rfl
  | succ n ih =>
    rw [ownK_succ, ← ih]
    unfold ownF
    rw [List.range_succ, List.flatMap_append, List.flatMap_singleton, filter_key nd]
    cases acc.find? fun x => decide (x.1 = p ++ [n]) <;> rfl
structure KvN (K : PySem.W.Frag) (H : Hp) (acc : Nts) (kvs : List (List Key × V)) : Prop where
  len : kvs.length = acc.length
  at_ : ∀ (j : Nat) x, acc[j]? = some x → ∃ v, kvs[j]? = some (kP x.1, v) ∧ Rep K H (kdD x.2) v
theorem nodup_kP {l : List (List Nat)} (h : l.Nodup) : (l.map kP).Nodup := by
  induction l with
  | nil => exact List.nodup_nil
  | cons a r ih =>
    rw [List.nodup_cons] at h
    rw [List.map_cons, List.nodup_cons]
    refine ⟨fun m => ?_, ih h.2⟩
    obtain ⟨b, hb, e⟩ := List.mem_map.mp m
    rw [← kP_inj e] at h
    exact h.1 hb
section
variable {K : PySem.W.Frag} {H H' : Hp} {acc : Nts} {kvs : List (List Key × V)}
theorem KvN.nil : KvN K H [] [] := ⟨rfl, fun j x h => by simp at h⟩
theorem KvN.ext (x : TupLe K H H') (h : KvN K H acc kvs) : KvN K H' acc kvs := ⟨h.len, fun j y e => let ⟨v, a, b⟩ := h.at_ j y e; ⟨v, a, Rep.mono x _ _ b⟩⟩
theorem KvN.keys (h : KvN K H acc kvs) : kvs.map (·.1) = (acc.map (·.1)).map kP := by
  apply List.ext_getElem?
  intro j
  rw [List.getElem?_map, List.getElem?_map, List.getElem?_map]
  cases e : acc[j]? with
  | none =>
    have : kvs[j]? = none := by
      rw [List.getElem?_eq_none_iff] at e ⊢
      rw [h.len]; exact e
    rw [this]; rfl
  | some x => obtain ⟨v, a, _⟩ := h.at_ j x e; rw [a]; rfl
theorem KvN.get (h : KvN K H acc kvs) (nd : (acc.map (·.1)).Nodup) {j : Nat} {p : List Nat} {k : Kd} (e : acc[j]? = some (p, k)) : ∃ v, valV kvs (kP p) = some v ∧ Rep K H (kdD k) v := by
  obtain ⟨v, a, b⟩ := h.at_ j _ e
  refine ⟨v, ?_, b⟩
  have nk : (kvs.map (·.1)).Nodup := by rw [h.keys]; exact nodup_kP nd
  unfold valV
  rw [find_key nk a]
  rfl
theorem KvN.miss (h : KvN K H acc kvs) {p : List Nat} (n : p ∉ acc.map (·.1)) : valV kvs (kP p) = none := by
  unfold valV
  have : (kvs.find? fun kv => decide (kv.1 = kP p)) = none := by
    rw [List.find?_eq_none]
    intro x hx hc
    have hk : x.1 ∈ kvs.map (·.1) := List.mem_map.mpr ⟨x, hx, rfl⟩
    rw [h.keys] at hk
    obtain ⟨q, hq, e⟩ := List.mem_map.mp hk
    have : q = p := kP_inj (e.trans (of_decide_eq_true hc))
    exact n (by rw [← this]; exact hq)
  rw [this]
  rfl
theorem KvN.snoc (h : KvN K H acc kvs) {p : List Nat} {k : Kd} {v : V} (n : p ∉ acc.map (·.1)) (rv : Rep K H (kdD k) v) : KvN K H (acc ++ [(p, k)]) (putK kvs (kP p) v) := by
  rw [putK_new v (h.miss n)]
  refine ⟨by simp [h.len], fun j x e => ?_⟩
  by_cases hj : j < acc.length
  · rw [List.getElem?_append_left hj] at e
    obtain ⟨u, a, b⟩ := h.at_ j x e
    exact ⟨u, by rw [List.getElem?_append_left (by rw [h.len]; exact hj)]; exact a, b⟩
  · rw [List.getElem?_append_right (by omega)] at e
    cases hz : j - acc.length with
    | zero =>
      rw [hz] at e
      simp at e
      subst e
      exact ⟨v, by rw [List.getElem?_append_right (by rw [h.len]; omega), h.len, hz]; rfl, rv⟩
    | succ m => rw [hz] at e; simp at e
end
def NoteOk (e : Tm) (sc : Sc) (rows : Nts) (k : Nat) (x : List Nat × Kd) : Prop := ∃ t, e.post[k]? = some (x.1, t) ∧ breach t.lab (ownK (rows.take k) x.1 t.own.length) (scAt e x.1 sc) = none ∧ x.2 = kindR t.lab (ownK (rows.take k) x.1 t.own.length) (scAt e x.1 sc)
def Good (e : Tm) (sc : Sc) (rows : Nts) : Prop := ∀ (k : Nat) x, rows[k]? = some x → NoteOk e sc rows k x
theorem Good.nil {e : Tm} {sc : Sc} : Good e sc [] := fun k x h => by simp at h
theorem Good.places {e : Tm} {sc : Sc} {rows : Nts} (h : Good e sc rows) : rows.map (·.1) = e.places.take rows.length := by
  apply List.ext_getElem?
  intro j
  rw [List.getElem?_map, List.getElem?_take]
  by_cases hj : j < rows.length
  · rw [if_pos hj, List.getElem?_eq_getElem hj]
    obtain ⟨t, e1, _⟩ := h j _ (List.getElem?_eq_getElem hj)
    rw [post_place e1]; rfl
  · rw [if_neg hj, List.getElem?_eq_none (by omega)]; rfl
theorem Good.nodup {e : Tm} {sc : Sc} {rows : Nts} (h : Good e sc rows) : (rows.map (·.1)).Nodup := by
  rw [h.places]
  exact (List.take_sublist _ _).nodup (places_nodup e)
theorem Good.le {e : Tm} {sc : Sc} {rows : Nts} (h : Good e sc rows) : rows.length ≤ e.size := by
  rcases Nat.eq_zero_or_pos rows.length with z | z
  · omega
  · have hj : rows.length - 1 < rows.length := by omega
    obtain ⟨t, e1, _⟩ := h _ _ (List.getElem?_eq_getElem hj)
    have := (List.getElem?_eq_some_iff.mp e1).1
    rw [post_length] at this
    omega
theorem Good.take {e : Tm} {sc : Sc} {rows : Nts} (h : Good e sc rows) (n : Nat) : Good e sc (rows.take n) := fun k x q => by
  rw [List.getElem?_take] at q
  by_cases hk : k < n
  · rw [if_pos hk] at q
    obtain ⟨t, a, b, c⟩ := h k x q
    have e1 : (rows.take n).take k = rows.take k := by rw [List.take_take, Nat.min_eq_left (by omega)]
    exact ⟨t, a, by rw [e1]; exact b, by rw [e1]; exact c⟩
  · rw [if_neg hk] at q; cases q
theorem Good.snoc {e : Tm} {sc : Sc} {rows : Nts} (h : Good e sc rows) {p : List Nat} {t : Tm} (hp : e.post[rows.length]? = some (p, t)) (hb : breach t.lab (ownK rows p t.own.length) (scAt e p sc) = none) :
    Good e sc (rows ++ [(p, kindR t.lab (ownK rows p t.own.length) (scAt e p sc))]) := fun k x q => by
  by_cases hk : k < rows.length
  · rw [List.getElem?_append_left hk] at q
    obtain ⟨u, a, b, c⟩ := h k x q
    have e1 : (rows ++ [(p, kindR t.lab (ownK rows p t.own.length) (scAt e p sc))]).take k = rows.take k := List.take_append_of_le_length (by omega)
    exact ⟨u, a, by rw [e1]; exact b, by rw [e1]; exact c⟩
  · rw [List.getElem?_append_right (by omega)] at q
    cases hz : k - rows.length with
    | zero =>
      rw [hz] at q
      simp at q
      subst q
      have ek : k = rows.length := by omega
      subst ek
      have e1 : (rows ++ [(p, kindR t.lab (ownK rows p t.own.length) (scAt e p sc))]).take rows.length = rows := by rw [List.take_append_of_le_length (Nat.le_refl _), List.take_length]
      exact ⟨t, hp, by rw [e1]; exact hb, by rw [e1]⟩
    | succ m => rw [hz] at q; simp at q
theorem Good.own {e : Tm} {sc : Sc} {rows : Nts} (h : Good e sc rows) {p : List Nat} {t : Tm} (hp : e.post[rows.length]? = some (p, t)) :
    (ownK rows p t.own.length).length = t.own.length ∧ ∀ k, k < t.own.length → ∃ (kd : Kd) (j : Nat), rows[j]? = some (p ++ [k], kd) ∧ (ownK rows p t.own.length)[k]? = some kd := by
  have key : ∀ k, k < t.own.length → ∃ (kd : Kd) (j : Nat), rows[j]? = some (p ++ [k], kd) := by
    intro k hk
    have hat := post_at e _ (List.mem_of_getElem? hp)
    simp only at hat
    obtain ⟨i', j', lt, e1, e2⟩ := post_child hat (List.getElem?_eq_getElem hk)
    have ei : i' = rows.length := post_ix e1 hp rfl
    have hj : j' < rows.length := by omega
    obtain ⟨u, a, _⟩ := h j' _ (List.getElem?_eq_getElem hj)
    rw [e2] at a
    have e3 : rows[j'].1 = p ++ [k] := (congrArg Prod.fst (Option.some.inj a)).symm
    exact ⟨rows[j'].2, j', by rw [List.getElem?_eq_getElem hj, ← e3]⟩
  obtain ⟨h1, h2⟩ := ownK_spec (acc := rows) (p := p) (n := t.own.length) fun k hk => by
    obtain ⟨kd, j, e1⟩ := key k hk
    exact ⟨kd, find_key h.nodup e1⟩
  refine ⟨h1, fun k hk => ?_⟩
  obtain ⟨kd, j, e1⟩ := key k hk
  obtain ⟨kd', e2, e3⟩ := h2 k hk
  have e4 := find_key h.nodup e1
  simp only at e4
  rw [e3] at e4
  cases e4
  exact ⟨kd, j, e1, e2⟩
theorem good_go {e : Tm} {sc : Sc} : ∀ (r : List (List Nat × Tm)) (acc : Nts), e.post.drop acc.length = r → Good e sc acc → Good e sc (goN e sc acc r).1
  | [], acc, _, h => h
  | (p, t) :: r, acc, hd, h => by
    have hp : e.post[acc.length]? = some (p, t) := by rw [← List.head?_drop, hd]; rfl
    rw [goN]
    cases hb : breach t.lab (ownK acc p t.own.length) (scAt e p sc) with
    | some b => exact h
    | none =>
      refine good_go r _ ?_ (h.snoc hp hb)
      rw [List.length_append]
      simp only [List.length_cons, List.length_nil]
      rw [← List.tail_drop, hd]; rfl
theorem notes_good (e : Tm) (sc : Sc) : Good e sc (notesN e sc).1 := good_go _ _ (by rw [List.length_nil, List.drop_zero]) Good.nil
theorem look_mem {sc : Sc} {x : Str} {k : Kd} (h : look sc x = some k) : ∃ y ∈ sc, y.2 = k := by
  induction sc with
  | nil => cases h
  | cons a r ih =>
    obtain ⟨y, m⟩ := a
    rw [look] at h
    cases q : look r x with
    | some z =>
      rw [q] at h
      obtain ⟨y', hy, e⟩ := ih (by rw [q]; exact h)
      exact ⟨y', List.mem_cons_of_mem _ hy, e⟩
    | none =>
      rw [q] at h
      by_cases hy : y = x
      · simp [hy] at h; exact ⟨_, List.mem_cons_self, h⟩
      · simp [hy] at h
theorem scAt_small {sc : Sc} : ∀ {p : List Nat} {e : Tm}, TOk e → (∀ y ∈ sc, ksize y.2 ≤ 6) → ∀ y ∈ scAt e p sc, ksize y.2 ≤ 6 := by
  intro p
  induction p generalizing sc with
  | nil => intro e _ h; rw [scAt_nil]; exact h
  | cons k p ih =>
    intro e tok h
    cases q : e.own[k]? with
    | none => rw [scAt, q]; exact h
    | some u =>
      rw [scAt_cons q]
      refine ih (tok.own u (List.mem_of_getElem? q)) ?_
      have hs := tok.small
      intro y hy
      generalize e.lab = b at hs hy
      cases b with
      | fn x m =>
        simp only [lsz] at hs
        simp only [scK] at hy
        rcases List.mem_append.mp hy with hy | hy
        · exact h y hy
        · simp at hy; rw [hy]; simp only; omega
      | case m x z =>
        simp only [lsz] at hs
        by_cases hk : k = 2
        · subst hk
          simp only [scK] at hy
          rcases List.mem_append.mp hy with hy | hy
          · rcases List.mem_append.mp hy with hy | hy
            · exact h y hy
            · simp at hy; rw [hy]; simp only; omega
          · simp at hy; rw [hy]; simp only [ksize]; omega
        · have e0 : scK (.case m x z) k sc = sc := by
            unfold scK
            split
            · rename_i z; cases z
            · rename_i z1 z2; exact absurd rfl hk
            · rfl
          rw [e0] at hy
          exact h y hy
      | _ => exact h y hy
theorem res_small (k : Kd) : ksize k.res ≤ ksize k ∧ kdep k.res ≤ kdep k := by
  cases k with
  | to a b => simp only [Kd.res, ksize, kdep]; omega
  | _ => exact ⟨Nat.le_refl _, Nat.le_refl _⟩
theorem kind_small {b : Lb} {o : List Tm} {ks : List Kd} {sc : Sc} (hks : ∀ (j : Nat) k, ks[j]? = some k → ∃ t, o[j]? = some t ∧ ksize k ≤ 10 * t.size ∧ kdep k ≤ t.size + 6) (hb : lsz b ≤ 5) (hsc : ∀ y ∈ sc, ksize y.2 ≤ 6) :
    ksize (kindR b ks sc) ≤ 10 * (Rose.node b o).size ∧ kdep (kindR b ks sc) ≤ (Rose.node b o).size + 6 := by
  have sz : (Rose.node b o).size = sizes o + 1 := rfl
  have at' : ∀ (j : Nat), ksize ((ks[j]?).getD .num) ≤ 10 * sizes o + 1 ∧ kdep ((ks[j]?).getD .num) ≤ sizes o + 6 := by
    intro j
    cases q : ks[j]? with
    | none => simp only [Option.getD_none, ksize, kdep]; omega
    | some k =>
      obtain ⟨t, h1, h2, h3⟩ := hks j k q
      have : t.size ≤ sizes o := by
        clear hks
        have hm := List.mem_of_getElem? h1
        clear h1 h2 h3 sz
        induction o with
        | nil => cases hm
        | cons a r ih =>
          rw [sizes]
          rcases List.mem_cons.mp hm with rfl | hm
          · omega
          · have := ih hm; omega
      simp only [Option.getD_some]; omega
  cases b with
  | num i => simp only [kindR, ksize, kdep]; omega
  | add => simp only [kindR, ksize, kdep]; omega
  | truth i => simp only [kindR, ksize, kdep]; omega
  | less => simp only [kindR, ksize, kdep]; omega
  | name x =>
    simp only [kindR]
    cases q : look sc x with
    | none => simp only [Option.getD_none, ksize, kdep]; omega
    | some k =>
      obtain ⟨y, hy, e⟩ := look_mem q
      have := hsc y hy
      rw [e] at this
      have := ksz_dep k
      simp only [Option.getD_some]; omega
  | nil k =>
    simp only [lsz] at hb
    have := ksz_dep k
    simp only [kindR, ksize, kdep]; omega
  | fn x k =>
    simp only [lsz] at hb
    have := ksz_dep k
    have := at' 0
    simp only [kindR, ksize, kdep]; omega
  | call =>
    have h1 := at' 0
    have h2 := res_small ((ks[0]?).getD .num)
    simp only [kindR]; omega
  | front => have := at' 1; simp only [kindR]; omega
  | ifx => have := at' 1; simp only [kindR]; omega
  | case k x y => have := at' 1; simp only [kindR]; omega
theorem Good.small {e : Tm} {sc : Sc} {rows : Nts} (h : Good e sc rows) (tok : TOk e) (hsc : ∀ y ∈ sc, ksize y.2 ≤ 6) : ∀ (k : Nat) x t, rows[k]? = some x → e.post[k]? = some (x.1, t) → ksize x.2 ≤ 10 * t.size ∧ kdep x.2 ≤ t.size + 6 := by
  intro k
  induction k using Nat.strongRecOn with
  | ind k ih =>
    intro x t hx ht
    obtain ⟨t', e1, hb, hk⟩ := h k x hx
    rw [ht] at e1
    cases e1
    have hkl : k < rows.length := (List.getElem?_eq_some_iff.mp hx).1
    have hlen : (rows.take k).length = k := by rw [List.length_take]; omega
    obtain ⟨o1, o2⟩ := (h.take k).own (p := x.1) (t := t) (by rw [hlen]; exact ht)
    have hat := post_at e _ (List.mem_of_getElem? ht)
    simp only at hat
    have tokt := tok.at hat
    obtain ⟨b, o⟩ := t
    rw [hk]
    refine kind_small (fun j kd hj => ?_) tokt.small (scAt_small tok hsc)
    have hjl : j < o.length := by
      have := (List.getElem?_eq_some_iff.mp hj).1
      rw [o1] at this; exact this
    obtain ⟨kd', j', r1, r2⟩ := o2 j hjl
    have hj' : (ownK (rows.take k) x.1 (Rose.node b o).own.length)[j]? = some kd := hj
    rw [hj'] at r2
    cases r2
    rw [List.getElem?_take] at r1
    by_cases hlt : j' < k
    · rw [if_pos hlt] at r1
      obtain ⟨u, a, _⟩ := h j' _ r1
      simp only at a
      have hau := post_at e _ (List.mem_of_getElem? a)
      simp only at hau
      rw [at?_snoc, hat] at hau
      have hau' : o[j]? = some u := hau
      exact ⟨u, hau', ih j' hlt _ u r1 a⟩
    · rw [if_neg hlt] at r1; cases r1
end Wk
set_option Elab.async false
set_option linter.all false
set_option maxRecDepth 100000
set_option maxHeartbeats 4000000
namespace Wk
open PySem L2 PySem.Spec PyProof.Rows
theorem sb_tupT {K : PySem.W.Frag} {H H' : Hp} {s : Addr} {kvs : List (List Key × V)} (e : SameBut s H H') (hs : H s = some (.dT kvs)) : TupLe K H H' := .of_keep fun b o h _ _ n => e b o (fun z => by rw [z, hs] at h; cases h; exact n _ rfl) h
theorem items_notes {K : PySem.W.Frag} {σ : L2.St} {H : Hp} {kd : Addr} {kvs : List (List Key × V)} {acc : Nts} {Q : VK} (hσ : σ[4]? = some (some (.ref kd))) (hk : H kd = some (.dT kvs)) (kn : KvN K H acc kvs) (hz : acc.length < sizeLine)
    (q : ∀ L ns H', SameBut kd H H' → H L = none → H' L = some (.lst ns) → Reps K H' (acc.map noteD) ns → Q (.ref L) H') : tListIt (iItems (tVar 4)) σ H Q := by
  refine ⟨_, hσ, kd, kvs, rfl, hk, fun ob => ?_⟩
  refine list_items (fun i zs H1 => SameBut kd H H1 ∧ H1 kd = some (.frz ob (.dT kvs)) ∧ zs.length = i ∧ Reps K H1 ((acc.map noteD).take i) zs) (by rw [kn.len]; exact hz) ⟨SameBut.upd _, upd_same, rfl, by rw [List.take_zero]; exact .nil⟩ (fun i zs H1 ⟨_, a, b, _⟩ => ⟨a, b⟩) ?_ ?_
  · rintro i zs H1 p b k y ⟨sb, hf, hl, rp⟩ hky hb np
    have hi : i < acc.length := by rw [← kn.len]; exact (List.getElem?_eq_some_iff.mp hky).1
    obtain ⟨v, h1, h2⟩ := kn.at_ i _ (List.getElem?_eq_getElem hi)
    rw [hky] at h1
    cases h1
    have s2 := same_upd np (.tup [.ref b, y])
    refine ⟨sb.trans (SameBut.of_same s2), s2 _ _ hf, by simp [hl], ?_⟩
    rw [List.take_add_one, List.getElem?_map, List.getElem?_eq_getElem hi]
    refine (Reps.mono (TupLe.of_same s2) _ _ rp).append (.one ?_)
    refine .tuple (SqT.of upd_same) (.cons (pl_mk (SqT.of ?_)) (.one (Rep.mono ((sb_tupT sb hk).trans (TupLe.of_same s2)) _ _ h2)))
    rw [s2 _ _ hb, kP_V]
  · rintro zs H1 ⟨sb, hf, hl, rp⟩ L nL
    rw [kn.len, List.take_of_length_le (by rw [List.length_map]; exact Nat.le_refl _)] at rp
    have s2 := same_upd nL (.lst zs)
    have nH : H L = none := by
      by_cases e : L = kd
      · rw [e, hf] at nL; cases nL
      · cases z : H L with
        | none => rfl
        | some o => rw [sb L o e z] at nL; cases nL
    exact q L zs _ (sb.trans (SameBut.of_same s2)) nH upd_same (Reps.mono (TupLe.of_same s2) _ _ rp)
theorem items_tup {K : PySem.W.Frag} {σ : L2.St} {H : Hp} {kd : Addr} {kvs : List (List Key × V)} {acc : Nts} {Q : VK} {tr : TA} (hσ : σ[4]? = some (some (.ref kd))) (hk : H kd = some (.dT kvs)) (kn : KvN K H acc kvs) (hz : acc.length < sizeLine)
    (q : ∀ L ns H', SameBut kd H H' → H L = none → H' L = some (.lst ns) → Reps K H' (acc.map noteD) ns → tr σ H' fun xs H2 => (V.ref L :: xs).length ≤ sizeLine ∧ ∀ p, H2 p = none → Q (.ref p) (upd H2 p (.tup (.ref L :: xs)))) : tTup (tCons (tListIt (iItems (tVar 4))) tr) σ H Q :=
  items_notes (Q := fun x H1 => tr σ H1 fun xs H2 => (x :: xs).length ≤ sizeLine ∧ ∀ p, H2 p = none → Q (.ref p) (upd H2 p (.tup (x :: xs)))) hσ hk kn hz q
theorem byDues_len {b : Lb} {ks : List Kd} {br : Br} (h : byDues b ks = some br) : br.1.length ≤ 1 := by
  unfold byDues at h
  cases q : firstBad 0 (dues b ks) ks with
  | none => rw [q] at h; cases h
  | some z => rw [q] at h; cases h; exact Nat.le_refl _
theorem breach_len {b : Lb} {ks : List Kd} {sc : Sc} {br : Br} (h : breach b ks sc = some br) : br.1.length ≤ 1 := by
  cases b with
  | name x =>
    rw [breach_name] at h
    split at h
    · cases h
    · cases h; exact Nat.zero_le _
  | call =>
    cases ks with
    | nil => exact byDues_len h
    | cons k o =>
      have h' : (if k.arg.isSome then byDues .call (k :: o) else some ([0], none, some k)) = some br := h
      split at h'
      · exact byDues_len h'
      · cases h'; exact Nat.le_refl _
  | _ => exact byDues_len h
structure ChkOk (e : Tm) (sc : Sc) : Prop where
  ar : AOk e
  size : e.size ≤ 200000
  lab : ∀ p t, e.at? p = some t → lsz t.lab ≤ 10000
  kinds : ∀ rows, Good e sc rows → ∀ (j : Nat) x, rows[j]? = some x → ksize x.2 ≤ 10000
  scl : sc.length ≤ 1000
theorem ChkOk.of_tok {e : Tm} {sc : Sc} (tok : TOk e) (hz : e.size ≤ 1000) (hl : sc.length ≤ 1000) (hs : ∀ y ∈ sc, ksize y.2 ≤ 6) : ChkOk e sc where
  ar := tok.aok
  size := by omega
  lab := fun p t h => Nat.le_trans (tok.at h).small (by decide)
  kinds := fun rows gd j x hx => by
    obtain ⟨t, a, _⟩ := gd j x hx
    have h1 := (gd.small tok hs j x t hx a).1
    have hau := post_at e _ (List.mem_of_getElem? a)
    have h2 := at?_size (e := ex e) (t := ex t) (p := x.1) (by rw [ex_at, hau]; rfl)
    rw [ex_size, ex_size] at h2
    omega
  scl := hl
def spChecked (K : PySem.W.Frag) : Sp := fun vs H Q _ => ∃ (v : V) (q : Addr) (qs : List V) (e : Tm) (sc : Sc), vs = [v, .ref q] ∧ ChkOk e sc ∧ Rep K H (py (ex e)) v ∧ H q = some (.lst qs) ∧ Reps K H (sc.map pairK) qs ∧
  ∀ a L ns fv H', Same H H' → SqT K H' a [.ref L, fv] → H L = none → H' L = some (.lst ns) → Reps K H' ((notesN e sc).1.map noteD) ns → Rep K H' (brD (notesN e sc).2) fv → Q (.ref a) H'
def RNotes : List Sl → Sl → Prop := fun as r => ∃ (e : Tm) (sc : Sc), as = [.d (py (ex e)), .l (sc.map pairK)] ∧ ChkOk e sc ∧ r = .o ((notesN e sc).1.map noteD)
def RFault : List Sl → Sl → Prop := fun as r => ∃ (e : Tm) (sc : Sc), as = [.d (py (ex e)), .l (sc.map pairK)] ∧ ChkOk e sc ∧ r = .d (brD (notesN e sc).2)
def compScopeIn (s : Stmt) (i j : Nat) : Scope := match (defBody s)[i]? with
  | some (.For _ _ body _ _) => match body[j]? with
    | some (.Assign _ (.ListComp _ _ sc _) _) => sc
    | _ => { kind := .function, names := [], isGenerator := false, isCoroutine := false }
  | _ => { kind := .function, names := [], isGenerator := false, isCoroutine := false }
theorem brD_non {o : Option Br} {K : PySem.W.Frag} {H : Hp} {v : V} (h : Rep K H (brD o) v) : decide (v = V.non) = o.isNone := by
  cases o with
  | none => obtain rfl := Rep.is_non h; rfl
  | some b => obtain ⟨a, vs, rfl, _⟩ := Rep.untuple h; rfl
section
variable {X : Cx} {ρ : List Sl} {a b : Expr} {pos : Pos} {ra rb : Sl}
end
end Wk
set_option Elab.async false
set_option linter.all false
set_option maxRecDepth 100000
set_option maxHeartbeats 4000000
namespace L2
open PySem PySem.Spec PyProof.Rows
def SqS (K : PySem.W.Frag) (H : Hp) (a : Addr) (xs : List V) : Prop :=
  (∃ o, H a = some (.frz o (.lst xs))) ∨ ∃ (o : Obj) (its : Array Value) (n : Nat), K.lookup a = some o ∧ o.cls = .type "list" ∧ o.dict = none ∧ o.data = .seq its n ∧ its.size ≤ sizeLine ∧ Vals xs its.toList
theorem SqS.sq {K : PySem.W.Frag} {H : Hp} {a : Addr} {xs : List V} (h : SqS K H a xs) : SqL K H a xs := by
  rcases h with h | h
  · exact .inl (.inr h)
  · exact .inr h
theorem SqS.of {K : PySem.W.Frag} {H : Hp} {a : Addr} {xs : List V} (h : SqL K H a xs) (o : Only H) : SqS K H a xs := by
  rcases h with (h | h) | h
  · rcases o a with z | ⟨ob, ys, z⟩
    · rw [h] at z; cases z
    · rw [h] at z; cases z
  · exact .inl h
  · exact .inr h
def scrPer (K : PySem.W.Frag) (ns : List Int) : Per := ⟨fun H v => ∃ a, v = .ref a ∧ SqS K H a (ns.map V.int), fun _ _ _ e ⟨a, h1, h2⟩ => ⟨a, h1, by
  rcases h2 with ⟨o, h2⟩ | h2
  · exact .inl ⟨o, e _ _ h2 (fun _ z => nomatch z)⟩
  · exact .inr h2⟩⟩
def noO : List Sl → Bool
  | [] => true
  | .o _ :: _ => false
  | _ :: r => noO r
theorem noO_get : ∀ {ρ : List Sl}, noO ρ = true → ∀ (i : Nat) xs, ρ[i]? ≠ some (.o xs)
  | [], _, i, xs, e => by simp at e
  | r :: ρ, h, i, xs, e => by
    cases i with
    | zero => simp at e; subst e; cases h
    | succ i =>
      have : noO ρ = true := by cases r <;> first | exact h | cases h
      exact noO_get this i xs (by simpa using e)
section
variable {X : Cx} {ρ : List Sl} {e : Expr} {pos p2 : Pos} {Q : Out → Prop} {rest : List Stmt}
theorem vs_setL {i : Nat} {x : Str} {xs : List PyData} (nd : X.N.Nodup) (hi : ixA x X.N 0 = some i) (h : VE X ρ e (.l xs)) (k : VS X rest (ρ.set i (.l xs)) Q) (no : noO ρ = true := by rfl) (hx : Loc X.env.scope x := by exact Or.inl rfl) (hs : swapsWith e (some (.Name x p2)) pos.line X.env = pure false := by rfl)
    (hf : X.fn x = true ∨ X.env.scope.names.lookup x = some .local := by first | exact .inl rfl | exact .inr rfl | assumption) : VS X (.Assign [.Name x p2] e pos :: rest) ρ Q :=
  vs_of (ps_set nd (ixA_N hi) hx h hs hf) fun H0 hs D σ H er l => ⟨⟨H0, hs, er⟩, fun v H' s rv => l.nx _ _ ⟨_, k, (er.grow s).setR (RsR.rd rv) (fun _ z => nomatch z) fun _ _ j xs q => absurd q (noO_get no j xs)⟩⟩
theorem vs_setD {i : Nat} {x : Str} {xs : List PyData} (nd : X.N.Nodup) (hi : ixA x X.N 0 = some i) (hl : i < ρ.length) (h : VE X ρ e (.o xs)) (k : VS X rest (ρ.set i (.l xs)) Q) (hx : Loc X.env.scope x := by exact Or.inl rfl) (hs : swapsWith e (some (.Name x p2)) pos.line X.env = pure false := by rfl)
    (hf : X.fn x = true ∨ X.env.scope.names.lookup x = some .local := by first | exact .inl rfl | exact .inr rfl | assumption) : VS X (.Assign [.Name x p2] e pos :: rest) ρ Q :=
  vs_setO nd hi h (vs_down (i := i) (xs := xs) (by rw [List.getElem?_set, if_pos rfl, if_pos hl]) (by rw [List.set_set]; exact k)) hx hs hf
end
end L2
namespace Wk
open PySem L2 PySem.Spec PyProof.Rows
def RLaw (K : PySem.W.Frag) : List Sl → Sl → Prop := fun as r => ∃ ns : List Int, as = [.h (scrPer K ns)] ∧ ns.length ≤ 63 ∧ r = .d (.bool true)
theorem law_of {K : PySem.W.Frag} {H : Hp} {a : Addr} {ns : List Int} {E : XK} (hl : ns.length ≤ 63) (ho : Only H) (hs : SqL K H a (ns.map V.int)) : spV K (RLaw K) [.ref a] H (fun v _ => v = .bl true) E :=
  ⟨[.h (scrPer K ns)], .d (.bool true), .cons (r := .h (scrPer K ns)) ⟨a, rfl, SqS.of hs ho⟩ .nil, ⟨ns, rfl, hl, rfl⟩, fun _ _ _ r => RsR.is_bool r⟩
theorem base_can : (PyData.list (baseSc.map pairK)).canLay0 = true := by decide +kernel
theorem base_depth : (PyData.list (baseSc.map pairK)).depth ≤ 10 := by decide +kernel
theorem base_eqv : PyData.eqv (.list (baseSc.map pairK)) (.list (baseSc.map pairK)) = true := by decide +kernel
theorem base_small : ∀ y ∈ baseSc, ksize y.2 ≤ 6 := by decide +kernel
end Wk
set_option Elab.async false
set_option linter.all false
set_option maxRecDepth 100000
set_option maxHeartbeats 4000000
namespace Wk
open PySem L2
inductive Rz where
  | ok (k : Kd)
  | bad (r : Nat) (pl : List Nat) (d f : Option Kd)
inductive Rs where
  | ok (ks : List Kd)
  | bad (r : Nat) (pl : List Nat) (d f : Option Kd)
mutual
def ck (sc : Sc) : Tm → Rz
  | .node b o => match cks b sc 0 o with
    | .ok ks => match breach b ks sc with
      | none => .ok (kindR b ks sc)
      | some br => .bad 1 br.1 br.2.1 br.2.2
    | .bad r pl d f => .bad (r + 1) pl d f
def cks (b : Lb) (sc : Sc) : Nat → List Tm → Rs
  | _, [] => .ok []
  | i, t :: r => match ck (scK b i sc) t with
    | .ok k => match cks b sc (i + 1) r with
      | .ok ks => .ok (k :: ks)
      | .bad n pl d f => .bad n pl d f
    | .bad n pl d f => .bad (n + sizes r) (i :: pl) d f
end
theorem ck_node (sc : Sc) (b : Lb) (o : List Tm) : ck sc (.node b o) = match cks b sc 0 o with
    | .ok ks => match breach b ks sc with
      | none => .ok (kindR b ks sc)
      | some br => .bad 1 br.1 br.2.1 br.2.2
    | .bad r pl d f => .bad (r + 1) pl d f := by rw [ck]
theorem cks_nil (b : Lb) (sc : Sc) (i : Nat) : cks b sc i [] = .ok [] := by rw [cks]
theorem cks_cons (b : Lb) (sc : Sc) (i : Nat) (t : Tm) (r : List Tm) : cks b sc i (t :: r) = match ck (scK b i sc) t with
    | .ok k => match cks b sc (i + 1) r with
      | .ok ks => .ok (k :: ks)
      | .bad n pl d f => .bad n pl d f
    | .bad n pl d f => .bad (n + sizes r) (i :: pl) d f := by rw [cks]
def Block (e : Tm) (sc : Sc) (p : List Nat) (t : Tm) (acc : Nts) (rest : List (List Nat × Tm)) : Prop :=
  match ck (scAt e p sc) t with
  | .ok k => ∃ acc', goN e sc acc (t.post.map (fun x => (p ++ x.1, x.2)) ++ rest) = goN e sc acc' rest ∧ Good e sc acc' ∧ acc'.length = acc.length + t.size ∧ acc'[acc.length + t.size - 1]? = some (p, k) ∧ ∀ (j : Nat) x, acc[j]? = some x → acc'[j]? = some x
  | .bad r pl d f => ∃ acc', goN e sc acc (t.post.map (fun x => (p ++ x.1, x.2)) ++ rest) = (acc', some (p ++ pl, d, f)) ∧ acc'.length + r = acc.length + t.size
theorem block_own {e : Tm} {sc : Sc} {p : List Nat} {t : Tm} (hat : e.at? p = some t) (ih : ∀ u ∈ t.own, ∀ q acc rest, e.at? q = some u → Good e sc acc → e.post.drop acc.length = u.post.map (fun x => (q ++ x.1, x.2)) ++ rest → Block e sc q u acc rest) :
    ∀ (r : List Tm) (k : Nat) (acc : Nts) (rest : List (List Nat × Tm)), t.own.drop k = r → Good e sc acc → e.post.drop acc.length = (posts k r).map (fun x => (p ++ x.1, x.2)) ++ rest →
      match cks t.lab (scAt e p sc) k r with
      | .ok ks => ∃ acc', goN e sc acc ((posts k r).map (fun x => (p ++ x.1, x.2)) ++ rest) = goN e sc acc' rest ∧ Good e sc acc' ∧ acc'.length = acc.length + sizes r ∧ ks.length = r.length ∧ (∀ (i : Nat) kd, ks[i]? = some kd → ∃ j : Nat, acc'[j]? = some (p ++ [k + i], kd)) ∧ ∀ (j : Nat) x, acc[j]? = some x → acc'[j]? = some x
      | .bad n pl d f => ∃ acc', goN e sc acc ((posts k r).map (fun x => (p ++ x.1, x.2)) ++ rest) = (acc', some (p ++ pl, d, f)) ∧ acc'.length + n = acc.length + sizes r := by
  intro r
  induction r with
  | nil =>
    intro k acc rest _ gd _
    rw [cks_nil]
    exact ⟨acc, by rw [posts]; rfl, gd, by rw [sizes]; rfl, rfl, fun i kd h => by simp at h, fun j x h => h⟩
  | cons u r ihr =>
    intro k acc rest hd gd hp
    have hu : t.own[k]? = some u := by rw [← List.head?_drop, hd]; rfl
    have hq : e.at? (p ++ [k]) = some u := by rw [at?_snoc, hat]; exact hu
    have e1 : (posts k (u :: r)).map (fun x => (p ++ x.1, x.2)) = u.post.map (fun x => ((p ++ [k]) ++ x.1, x.2)) ++ (posts (k + 1) r).map (fun x => (p ++ x.1, x.2)) := by
      rw [posts, List.map_append, List.map_map]
      congr 1
      apply List.map_congr_left
      intro x _
      simp
    rw [e1, List.append_assoc] at hp
    have hB := ih u (List.mem_of_getElem? hu) (p ++ [k]) acc _ hq gd hp
    unfold Block at hB
    rw [scAt_snoc hat hu] at hB
    rw [cks_cons]
    cases hc : ck (scK t.lab k (scAt e p sc)) u with
    | bad n pl d f =>
      rw [hc] at hB
      obtain ⟨acc', g1, g2⟩ := hB
      refine ⟨acc', ?_, by rw [sizes]; omega⟩
      rw [e1, List.append_assoc, g1]
      simp
    | ok kd0 =>
      rw [hc] at hB
      obtain ⟨acc1, g1, gd1, l1, at1, pre1⟩ := hB
      have hp1 : e.post.drop acc1.length = (posts (k + 1) r).map (fun x => (p ++ x.1, x.2)) ++ rest := by
        rw [l1, ← List.drop_drop, hp, List.drop_append_of_le_length (by simp [post_length]), List.drop_of_length_le (by simp [post_length])]
        rfl
      have h2 := ihr (k + 1) acc1 rest (by rw [← List.tail_drop, hd]; rfl) gd1 hp1
      simp only
      cases hc2 : cks t.lab (scAt e p sc) (k + 1) r with
      | bad n pl d f =>
        rw [hc2] at h2
        obtain ⟨acc', g2, g3⟩ := h2
        refine ⟨acc', by rw [e1, List.append_assoc, g1]; exact g2, by rw [sizes]; omega⟩
      | ok ks =>
        rw [hc2] at h2
        obtain ⟨acc', g2, gd2, l2, hl, hk, pre2⟩ := h2
        refine ⟨acc', by rw [e1, List.append_assoc, g1]; exact g2, gd2, by rw [sizes]; omega, by simp [hl], fun i kd hi => ?_, fun j x h => pre2 j x (pre1 j x h)⟩
        cases i with
        | zero =>
          simp at hi
          subst hi
          exact ⟨_, pre2 _ _ at1⟩
        | succ i =>
          obtain ⟨j, hj⟩ := hk i kd (by simpa using hi)
          exact ⟨j, by rw [hj]; congr 4; omega⟩
theorem block (e : Tm) (sc : Sc) : ∀ (t : Tm) (p : List Nat) (acc : Nts) (rest : List (List Nat × Tm)), e.at? p = some t → Good e sc acc → e.post.drop acc.length = t.post.map (fun x => (p ++ x.1, x.2)) ++ rest → Block e sc p t acc rest := by
  intro t
  induction t using Rose.ind with
  | h b o ih =>
    intro p acc rest hat gd hp
    have e1 : (Rose.node b o).post.map (fun x => (p ++ x.1, x.2)) = (posts 0 o).map (fun x => (p ++ x.1, x.2)) ++ [(p, .node b o)] := by
      rw [Rose.post, List.map_append]; simp
    rw [e1, List.append_assoc] at hp
    have h1 := block_own (t := .node b o) hat (fun u hu q acc rest => ih u hu q acc rest) o 0 acc _ rfl gd hp
    simp only [Rose.lab] at h1
    unfold Block
    rw [ck_node]
    cases hc : cks b (scAt e p sc) 0 o with
    | bad n pl d f =>
      rw [hc] at h1
      obtain ⟨acc', g1, g2⟩ := h1
      exact ⟨acc', by rw [e1, List.append_assoc]; exact g1, by rw [Rose.size]; omega⟩
    | ok ks =>
      rw [hc] at h1
      obtain ⟨acc', g1, gd1, l1, hl, hk, pre⟩ := h1
      have hp1 : e.post.drop acc'.length = [(p, .node b o)] ++ rest := by
        have hpl : ((posts 0 o).map (fun x => (p ++ x.1, x.2))).length = sizes o := by
          have := post_length (Rose.node b o)
          rw [Rose.post, List.length_append, Rose.size] at this
          simpa using this
        rw [l1, ← List.drop_drop, hp, List.drop_append_of_le_length (by omega), List.drop_of_length_le (by omega)]
        rfl
      have hpe : e.post[acc'.length]? = some (p, .node b o) := by rw [← List.head?_drop, hp1]; rfl
      obtain ⟨o1, o2⟩ := gd1.own hpe
      have hks : ownK acc' p (Rose.node b o).own.length = ks := by
        apply List.ext_getElem?
        intro j
        by_cases hj : j < o.length
        · obtain ⟨kd, j1, r1, r2⟩ := o2 j hj
          rw [r2]
          have hkj : ks[j]? = some ks[j] := List.getElem?_eq_getElem (by omega)
          obtain ⟨j2, r3⟩ := hk j _ hkj
          rw [Nat.zero_add] at r3
          have f1 := find_key gd1.nodup r1
          have f2 := find_key gd1.nodup r3
          simp only at f1 f2
          rw [f1] at f2
          rw [hkj]
          exact congrArg some (congrArg Prod.snd (Option.some.inj f2))
        · rw [List.getElem?_eq_none (by rw [o1]; exact Nat.le_of_not_lt hj), List.getElem?_eq_none (by omega)]
      have hgo : goN e sc acc' ((p, .node b o) :: rest) = match breach b ks (scAt e p sc) with
        | some br => (acc', some (p ++ br.1, br.2))
        | none => goN e sc (acc' ++ [(p, kindR b ks (scAt e p sc))]) rest := by rw [goN, hks]; rfl
      have g2 : goN e sc acc ((Rose.node b o).post.map (fun x => (p ++ x.1, x.2)) ++ rest) = goN e sc acc' ((p, .node b o) :: rest) := by rw [e1, List.append_assoc]; exact g1
      simp only
      cases hb : breach b ks (scAt e p sc) with
      | some br =>
        rw [hb] at hgo
        exact ⟨acc', by rw [g2, hgo], by rw [Rose.size]; omega⟩
      | none =>
        rw [hb] at hgo
        have gd2 := gd1.snoc hpe (by show breach b _ _ = none; rw [hks]; exact hb)
        rw [hks] at gd2
        refine ⟨acc' ++ [(p, kindR b ks (scAt e p sc))], by rw [g2, hgo], gd2, by simp [l1, Rose.size]; omega, ?_, fun j x h => ?_⟩
        · rw [Rose.size, show acc.length + (sizes o + 1) - 1 = acc'.length from by omega]
          simp
        · have h2 := pre j x h
          rw [List.getElem?_append_left (List.getElem?_eq_some_iff.mp h2).1]
          exact h2
theorem notes_ck (e : Tm) (sc : Sc) : match ck sc e with
    | .ok k => (notesN e sc).2 = none ∧ (notesN e sc).1.length = e.size ∧ (notesN e sc).1[e.size - 1]? = some ([], k)
    | .bad r pl d f => (notesN e sc).2 = some (pl, d, f) ∧ (notesN e sc).1.length + r = e.size := by
  have h := block e sc e [] [] [] (at?_nil e) Good.nil (by simp)
  unfold Block at h
  rw [scAt_nil] at h
  have e1 : notesN e sc = goN e sc [] (e.post.map (fun x => ([] ++ x.1, x.2)) ++ []) := by unfold notesN; simp
  cases hc : ck sc e with
  | ok k =>
    rw [hc] at h
    obtain ⟨acc', g1, _, l1, a1, _⟩ := h
    rw [← e1] at g1
    have g2 : notesN e sc = (acc', none) := g1
    rw [g2]
    exact ⟨rfl, by simpa using l1, by simpa using a1⟩
  | bad r pl d f =>
    rw [hc] at h
    obtain ⟨acc', g1, l1⟩ := h
    rw [← e1] at g1
    rw [g1]
    exact ⟨by simp, by simpa using l1⟩
end Wk
set_option Elab.async false
set_option linter.all false
set_option maxRecDepth 100000
set_option maxHeartbeats 4000000
namespace Wk
open PySem L2
end Wk
set_option Elab.async false
set_option linter.all false
set_option maxRecDepth 100000
set_option maxHeartbeats 4000000
namespace Wk
open PySem L2
end Wk
set_option Elab.async false
set_option linter.all false
set_option maxRecDepth 100000
set_option maxHeartbeats 4000000
namespace Wk
open PySem L2
end Wk
set_option Elab.async false
set_option linter.all false
set_option maxRecDepth 100000
set_option maxHeartbeats 4000000
namespace L2
open PySem PySem.Spec PyProof.Rows PySem.W
section
variable {X : Cx} {tg : Expr}
end
section
variable {X : Cx} {ρ : List Sl} {e a b c tg : Expr} {r ra rb : Sl} {p pos p2 p3 : Pos} {d : PyData} {xs : List PyData} {Q : Out → Prop} {rest : List Stmt}
theorem ve_neg {i : Int} (ha : VE X ρ a (.d (.int i))) : VE X ρ (.UnaryOp .USub a pos) (.d (.int (-i))) := PE.weak (pe_un un_neg ha) fun σ H Q ⟨er, q⟩ => ⟨er, fun v H1 s1 r1 => ⟨i, RsR.is_int r1, q _ H1 s1 RsR.int⟩⟩
end
end L2
set_option Elab.async false
set_option linter.all false
set_option maxRecDepth 100000
set_option maxHeartbeats 4000000
namespace Wk
open PySem L2
theorem opt_can (o : Option Kd) : (optD o).canLay0 = true := by
  cases o with
  | none => rfl
  | some k => exact kd_can k
end Wk
set_option Elab.async false
set_option linter.all false
set_option maxRecDepth 100000
set_option maxHeartbeats 4000000
namespace L2
open PySem PySem.Spec PyProof.Rows
section
variable {prog : Program} {w : World} {A : Around} {E : Value → Shared → Prop} {s : Shared} {a : Addr} {o : Obj} {items : Array Value} {n : Nat} {ts : List Str}
theorem wpOwn_tuple_repr_any {Q : Fin → Shared → Prop} {c : Code} (ha : s.heap.get? a = some o) (hd : o.data = .seq items n) (hT : ReprAll prog w items.toList ts)
    (h : ∀ x u tk, x.length ≤ (tupleText ts).length + 5 → Q (.done (.ret (.str x u))) { s with toks := tk }) (hsz : (tupleText ts).length ≤ sizeLine) :
    wpOwn (model prog w) A c (Builtin.tupleReprAt 0 ⟨[.ref a], []⟩) Q E s := by
  rw [tuple_repr_tree, tupleReprUnderWay_eq]
  refine wpOwn_bind (fun Γ p _ _ => ?_)
  show wpOwn _ _ _ (if Γ.below.any (tupGuardF (.ref a)) = true then _ else _) _ _ _
  cases (Γ.below.any (tupGuardF (.ref a))) with
  | false => exact wpOwn_of_wpAny (wpAny_tupleReprRest (b := 0) ha hd hT (fun u tk => h _ u tk (by omega)) (by omega))
  | true =>
    refine wpOwn_of_wpAny ?_
    show wpAny _ _ (do rule "tuple.repr.in-itself"; retStr "(...)") _ _ _
    refine wpAny_bind (wpAny_rule ?_)
    exact wpAny_bind (wpAny_mkStr (wpAny_pure (h _ _ _ (by show 5 ≤ _; omega))) (by decide))
theorem formatField_tuple {Q : Value → Shared → Prop} (ho : o.cls = .type "tuple") (ha : s.heap.get? a = some o) (hd : o.data = .seq items n) (hT : ReprAll prog w items.toList ts) (hu : A.units + 2 < cLine)
    (h : ∀ x u tk, x.length ≤ (tupleText ts).length + 5 → Q (.str x u) { s with toks := tk }) (hsz : (tupleText ts).length ≤ sizeLine) :
    wpAny (model prog w) A (formatField (.ref a) Str.empty) Q E s := by
  have hTy : ∀ tk, ({ s with toks := tk } : Shared).TypeIs (.ref a) "tuple" := fun tk => ⟨o, ha, ho⟩
  refine wpAny_formatField_slot (fun _ _ => nofun) hu ⟨o, ha, ho⟩ F.slot_tuple_format F.slot_tuple_str F.slot_tuple_repr ?_
  exact wpAny_call (codeAny_call_builtin_own (Code.quiet_builtin _ (by decide +kernel)) F.entry_tuple_repr (F.slot_tuple_repr.check _ _ _ _ _ _ _ _ (hTy _) (F.args_tuple_repr_1 _)
      (wpOwn_tuple_repr_any (s := { s with toks := s.toks + 1 }) ha hd hT (fun x u tk hx => ⟨_, _, rfl, h x u tk hx⟩) hsz)))
end
theorem digit_len : ∀ k : Nat, k < 3 → (Str.ofString (toString (k : Int))).length = 1
  | 0, _ => by decide
  | 1, _ => by decide
  | 2, _ => by decide
  | k + 3, h => by omega
theorem digits_all {prog : Program} {w : World} : ∀ {ks : List Nat} {us : List Value}, (∀ k ∈ ks, k < 3) → Vals (ks.map fun (k : Nat) => V.int (k : Int)) us → ∃ ts : List Str, ReprAll prog w us ts ∧ piled ts = 3 * ks.length
  | [], us, _, r => by cases r; exact ⟨[], .nil, rfl⟩
  | k :: ks, us, h, r => by
    cases r with
    | cons r1 r2 =>
      obtain ⟨tk, rfl⟩ := r1
      obtain ⟨ts, h1, h2⟩ := digits_all (fun j hj => h j (List.mem_cons_of_mem _ hj)) r2
      have hk := h k (List.mem_cons_self)
      refine ⟨_ :: ts, .cons (ReprIs.int tk ?_) h1, ?_⟩
      · match k, hk with
        | 0, _ => decide
        | 1, _ => decide
        | 2, _ => decide
      · rw [piled_cons, h2, digit_len k hk, List.length_cons]; omega
theorem tupleText_le (ts : List Str) : (tupleText ts).length ≤ piled ts + 3 := by
  unfold tupleText
  rw [strLen_append, strLen_append]
  have e1 : ((("(" : String) : Str)).length = 1 := rfl
  have e3 : (((if ts.length == 1 then ",)" else ")" : String) : Str)).length ≤ 2 := by split <;> decide
  rw [e1]
  by_cases h : ts = []
  · subst h; simp [piled]; show 1 + 0 + 1 ≤ 3; omega
  · have := join_length_add ts h
    omega
section
variable {X : Cx}
def tFPlace (K : PySem.W.Frag) (t : TE) : TE := fun σ H Q => t σ H fun v H1 => ∃ (a : Addr) (ks : List Nat), v = .ref a ∧ SqT K H1 a (ks.map fun (k : Nat) => V.int (k : Int)) ∧ (∀ k ∈ ks, k < 3) ∧ ks.length ≤ 1000000 ∧ ∀ y, Q (.str y) H1
theorem pe_fplace {x : Str} {e : Expr} {t : TE} {j : Nat} {p1 p2 pos : Pos} (hu : X.A.units + 2 < cLine) (he : PE X e t) (hx : x.length ≤ 1000 := by decide) :
    PE X (.JoinedStr [.Constant (.str x) j p1, .FormattedValue e (-1) none p2] pos) (tFPlace X.K t) := by
  intro pins s σ H Q I h
  refine JoinedStr_many (joinParts_cons (Calls.Constant_str ?_))
  show (Str.empty ++ x).length ≤ sizeLine ∧ _
  have e0 : (Str.empty ++ x).length ≤ 1000 := by rw [strLen_append]; exact Nat.le_trans (by show 0 + x.length ≤ _; omega) hx
  refine ⟨Nat.le_trans e0 (by decide), joinParts_cons (FormattedValue_plain (wpAny_mono (he pins _ σ H _ (I.tok _) (show t σ H _ from h)) (fun u s1 hq => ?_) fun _ _ z => z))⟩
  obtain ⟨v, H1, I1, r, a, ks, rfl, hs, hk, hz, q⟩ := hq
  cases r
  obtain ⟨us, r, ⟨o, ho, hc, n, hd⟩, _⟩ := I1.tuple hs
  obtain ⟨ts, h1, h2⟩ := digits_all (prog := X.prog) (w := X.w) hk r
  have h3 := tupleText_le ts
  have hS : sizeLine = 16777216 := rfl
  refine formatField_tuple hc ho hd (by simpa using h1) hu (fun y u tk hy => ?_) (by omega)
  show ((Str.empty ++ x) ++ y).length ≤ sizeLine ∧ _
  have h4 : ((Str.empty ++ x) ++ y).length ≤ sizeLine := by rw [strLen_append]; omega
  exact ⟨h4, joinParts_nil ⟨.str _, H1, (I1.tok _).tok _, ⟨_, rfl⟩, q _⟩ h4⟩
end
end L2
set_option Elab.async false
set_option linter.all false
set_option maxRecDepth 100000
set_option maxHeartbeats 4000000
namespace Wk
open PySem L2 PySem.Spec PyProof.Rows
def Stop (e : Tm) (sc : Sc) (x : Nts × Option Br) : Prop := match x.2 with
  | none => x.1.length = e.post.length
  | some f => ∃ p t br, e.post[x.1.length]? = some (p, t) ∧ breach t.lab (ownK x.1 p t.own.length) (scAt e p sc) = some br ∧ f = (p ++ br.1, br.2)
theorem go_stop (e : Tm) (sc : Sc) : ∀ (r : List (List Nat × Tm)) (acc : Nts), r = e.post.drop acc.length → acc.length ≤ e.post.length → Stop e sc (goN e sc acc r) := by
  intro r
  induction r with
  | nil =>
    intro acc h hl
    have := congrArg List.length h
    rw [List.length_drop, List.length_nil] at this
    show acc.length = e.post.length
    omega
  | cons x r ih =>
    intro acc h hl
    obtain ⟨p, t⟩ := x
    have h0 : e.post[acc.length]? = some (p, t) := by
      have := congrArg (fun l => l[0]?) h
      simp only [List.getElem?_drop, Nat.add_zero] at this
      exact this.symm
    have hlt : acc.length < e.post.length := (List.getElem?_eq_some_iff.mp h0).1
    rw [goN]
    cases hb : breach t.lab (ownK acc p t.own.length) (scAt e p sc) with
    | some b => exact ⟨p, t, b, h0, hb, rfl⟩
    | none =>
      refine ih _ ?_ (by rw [List.length_append]; exact hlt)
      rw [List.length_append, ← List.drop_drop, ← h]
      rfl
theorem notes_stop (e : Tm) (sc : Sc) : Stop e sc (notesN e sc) := go_stop e sc _ _ (by rw [List.length_nil, List.drop_zero]) (Nat.zero_le _)
def dueAt (b : Lb) (ks : List Kd) (k : Nat) : Kd := (((dues b ks)[k]?).bind id).getD ((ks[k]?).getD .num)
theorem firstBad_at : ∀ {ds : List (Option Kd)} {ks : List Kd} {i : Nat} {x : Nat × Kd × Kd}, firstBad i ds ks = some x →
    ∃ j, x.1 = i + j ∧ ds[j]? = some (some x.2.1) ∧ ks[j]? = some x.2.2 ∧ x.2.1 ≠ x.2.2 ∧ ∀ k, k < j → ∃ o, ks[k]? = some o ∧ ((ds[k]?).bind id).getD o = o := by
  intro ds
  induction ds with
  | nil => intro ks i x h; cases ks <;> cases h
  | cons a ds ihd =>
    intro ks i x h
    cases ks with
    | nil => cases a <;> cases h
    | cons k ks =>
      have step : ∀ (hh : firstBad (i + 1) ds ks = some x) (ha : (a.getD k) = k), ∃ j, x.1 = i + j ∧ (a :: ds)[j]? = some (some x.2.1) ∧ (k :: ks)[j]? = some x.2.2 ∧ x.2.1 ≠ x.2.2 ∧ ∀ m, m < j → ∃ o, (k :: ks)[m]? = some o ∧ (((a :: ds)[m]?).bind id).getD o = o := by
        intro hh ha
        obtain ⟨j, h1, h2, h3, h4, h5⟩ := ihd hh
        refine ⟨j + 1, by omega, by simpa using h2, by simpa using h3, h4, fun m hm => ?_⟩
        cases m with
        | zero => exact ⟨k, rfl, by simpa using ha⟩
        | succ m => obtain ⟨o, g1, g2⟩ := h5 m (by omega); exact ⟨o, by simpa using g1, by simpa using g2⟩
      cases a with
      | none => rw [firstBad] at h; exact step h rfl
      | some y =>
        rw [firstBad] at h
        by_cases e : y = k
        · rw [if_pos e] at h; exact step h e
        · rw [if_neg e] at h; cases h; exact ⟨0, rfl, rfl, rfl, e, fun m hm => absurd hm (Nat.not_lt_zero _)⟩
theorem byDues_at {b : Lb} {ks : List Kd} {br : Br} (h : byDues b ks = some br) :
    ∃ j k, br = ([j], some (dueAt b ks j), some k) ∧ ks[j]? = some k ∧ dueAt b ks j ≠ k ∧ ∀ i, i < j → ∃ o, ks[i]? = some o ∧ dueAt b ks i = o := by
  unfold byDues at h
  cases q : firstBad 0 (dues b ks) ks with
  | none => rw [q] at h; cases h
  | some x =>
    rw [q] at h
    cases h
    obtain ⟨j, h1, h2, h3, h4, h5⟩ := firstBad_at q
    have e : dueAt b ks j = x.2.1 := by unfold dueAt; rw [h2]; rfl
    refine ⟨j, x.2.2, by show ([x.1], some x.2.1, some x.2.2) = _; rw [e, h1, Nat.zero_add], h3, by rw [e]; exact h4, fun i hi => ?_⟩
    obtain ⟨o, g1, g2⟩ := h5 i hi
    exact ⟨o, g1, by unfold dueAt; rw [g1]; exact g2⟩
theorem opt_eqv (o : Option Kd) : PyData.eqv (optD o) (optD o) = true := by cases o with
  | none => rfl
  | some k => rw [optD, kd_eqv]; simp
theorem br_can {b : Br} : (brD (some b)).canLay0 = true := by
  show PyData.canLayAll0 _ = true
  simp [PyData.canLayAll0, plD_can, opt_can]
theorem br_eqv (b : Br) : PyData.eqv (brD (some b)) (brD (some b)) = true := by
  show PyData.eqvAll _ _ = true
  simp [PyData.eqvAll, eqv_pl, opt_eqv]
theorem br_depth {b : Br} {n : Nat} (h1 : ∀ k, b.2.1 = some k → kdep k ≤ n) (h2 : ∀ k, b.2.2 = some k → kdep k ≤ n) : (brD (some b)).depth ≤ n + 3 := by
  obtain ⟨p, o1, o2⟩ := b
  have f : ∀ o : Option Kd, (∀ k, o = some k → kdep k ≤ n) → (optD o).depth ≤ n + 2 := by
    intro o h
    cases o with
    | none => exact Nat.zero_le _
    | some k => rw [optD, kd_depth]; have := h k rfl; omega
  have g1 := f o1 h1
  have g2 := f o2 h2
  have g3 := plD_depth p
  show PyData.depthAll [plD p, optD o1, optD o2] + 1 ≤ n + 3
  simp only [PyData.depthAll]
  omega
section
variable {X : Cx} {ρ : List Sl} {a b : Expr} {pos : Pos}
theorem ve_br {br br' : Br} (hu : X.A.units + 1100 < cLine) (ha : VE X ρ a (.d (brD (some br)))) (hb : VE X ρ b (.d (brD (some br')))) (h1 : ∀ k, br.2.1 = some k → kdep k ≤ 1090) (h2 : ∀ k, br.2.2 = some k → kdep k ≤ 1090) (e : br = br') : VE X ρ (.Compare a [.Eq] [b] pos) (.d (.bool true)) := by
  subst e
  exact ve_eq (ve_eqD (n := 1100) (d := brD (some br)) (d' := brD (some br)) hu ha hb rfl rfl br_can br_can (.inl (Nat.le_trans (br_depth h1 h2) (by decide)))) (by rw [br_eqv])
end
theorem dueAt_dep {b : Lb} {ks : List Kd} {k n : Nat} (hn : 3 ≤ n) (h : ∀ k ∈ ks, kdep k ≤ n) (hl : lsz b ≤ n) : kdep (dueAt b ks k) ≤ n + 1 := by
  have g : ∀ i : Nat, kdep ((ks[i]?).getD .num) ≤ n + 1 := by
    intro i
    cases q : ks[i]? with
    | none => show kdep .num ≤ _; simp only [kdep]; omega
    | some m => have := h m (List.mem_of_getElem? q); show kdep m ≤ _; omega
  have two : ∀ (o : Option Kd), (∀ m, o = some m → kdep m ≤ n + 1) → kdep (o.getD ((ks[k]?).getD .num)) ≤ n + 1 := by
    intro o ho
    cases o with
    | none => exact g k
    | some m => exact ho m rfl
  unfold dueAt
  refine two _ fun m hm => ?_
  have hk : ∀ (i : Nat) (m : Kd), ks[i]? = some m → kdep m ≤ n := fun i m q => h m (List.mem_of_getElem? q)
  have c0 : ∀ {x : Kd}, some (some x) = some (some m) → x = m := fun z => Option.some.inj (Option.some.inj z)
  cases b with
  | add => match k, hm with
    | 0, hm => cases hm; simp only [kdep]; omega
    | 1, hm => cases hm; simp only [kdep]; omega
    | k + 2, hm => cases hm
  | less => match k, hm with
    | 0, hm => cases hm; simp only [kdep]; omega
    | 1, hm => cases hm; simp only [kdep]; omega
    | k + 2, hm => cases hm
  | ifx => match k, hm with
    | 0, hm => cases hm; simp only [kdep]; omega
    | 1, hm => cases hm
    | 2, hm => exact Nat.le_succ_of_le (hk 1 m hm)
    | k + 3, hm => cases hm
  | front => match k, hm with
    | 0, hm => cases hm
    | 1, hm =>
      have hm' : (ks[0]?).map Kd.list = some m := hm
      cases q : ks[0]? with
      | none => rw [q] at hm'; cases hm'
      | some z => rw [q] at hm'; cases hm'; have := hk 0 z q; simp only [kdep]; omega
    | k + 2, hm => cases hm
  | case c x y => match k, hm with
    | 0, hm =>
      cases hm
      have := ksz_dep c
      simp only [lsz] at hl
      simp only [kdep]; omega
    | 1, hm => cases hm
    | 2, hm => exact Nat.le_succ_of_le (hk 1 m hm)
    | k + 3, hm => cases hm
  | call => match k, hm with
    | 0, hm => cases hm
    | 1, hm =>
      have hm' : (ks[0]?).bind Kd.arg = some m := hm
      cases q : ks[0]? with
      | none => rw [q] at hm'; cases hm'
      | some z =>
        rw [q] at hm'
        have hz := hk 0 z q
        cases z with
        | to a c => cases hm'; simp only [kdep] at hz; omega
        | _ => cases hm'
    | k + 2, hm => cases hm
  | _ =>
    have hm' : ((ks.map fun _ => (none : Option Kd))[k]?).bind id = some m := hm
    rw [List.getElem?_map] at hm'
    cases q : ks[k]? with
    | none => rw [q] at hm'; cases hm'
    | some z => rw [q] at hm'; cases hm'
theorem atI_m1 {α : Type} {l : List α} {x : α} (h : l[l.length - 1]? = some x) : atI l (-1) = some x := by
  have hp := (List.getElem?_eq_some_iff.mp h).1
  unfold atI ixN
  rw [if_neg (by decide), if_pos (by omega)]
  show l[((-1 : Int) + (l.length : Nat)).toNat]? = _
  rw [show ((-1 : Int) + (l.length : Nat)).toNat = l.length - 1 from by omega]
  exact h
section
variable {X : Cx} {ρ : List Sl} {a : Expr} {ra : Sl} {pos : Pos}
theorem ve_isN {j : Nat} {p2 : Pos} (ha : VE X ρ a ra) (hu : ra ≠ .un ∧ ∀ P, ra ≠ .h P := by first | exact nun_d | exact nun_l | exact nun_o) : VE X ρ (.Compare a [.Is] [.Constant .none j p2] pos) (.d (.bool ra.isN)) :=
  ve_cmp op_isN ha (ve_non (j := j) (pos := p2)) (fun H x y Q rx ry q => ⟨RdR.is_non ry, by rw [rep_non rx hu]; exact q _ H (Same.refl H) RsR.bool⟩) (nomark _)
end
theorem vs_ifJ {X : Cx} {ρ ρ' : List Sl} {c : Expr} {A B rest : List Stmt} {pos : Pos} {Q : Out → Prop} (h : VS X rest ρ' Q) (k : VS X rest ρ' Q → VS X (.If c A B pos :: rest) ρ Q) : VS X (.If c A B pos :: rest) ρ Q := k h
def RShown : List Sl → Sl → Prop := fun as r => ∃ (e : Tm) (f : Br), as = [.d (py (ex e)), .l ((notesN e baseSc).1.map noteD), .d (brD (some f))] ∧ TOk e ∧ e.size ≤ 1000 ∧ (notesN e baseSc).2 = some f ∧ r = .d (.bool true)
def spKofX (K : PySem.W.Frag) (C : Addr) : Sp := fun vs H Q E => ∃ (v : V) (q : Addr) (qs : List V) (e : Tm) (sc : Sc), vs = [v, .ref q] ∧ ChkOk e sc ∧ Rep K H (py (ex e)) v ∧ H q = some (.lst qs) ∧ Reps K H (sc.map pairK) qs ∧
  ((∃ k, (notesN e sc).2 = none ∧ (notesN e sc).1.length = e.size ∧ (notesN e sc).1[e.size - 1]? = some ([], k) ∧ ∀ v H', Same H H' → Rep K H' (kdD k) v → Q v H') ∨
    (∃ f, (notesN e sc).2 = some f ∧ (∀ k ∈ f.1, k < 3) ∧ f.1.length ≤ 1000000 ∧ ∀ H', Same H H' → E (.ref C) none H'))
structure ExcsB (K : PySem.W.Frag) (mg : Str → Option Value) (C CK CP CS CT CL : Addr) : Prop where
  c : ExcC K mg "BadKind" C
  mK : mg "KindError" = some (.ref CK)
  mP : mg "NoPart" = some (.ref CP)
  mS : mg "Stuck" = some (.ref CS)
  mT : mg "Tired" = some (.ref CT)
  mL : mg "NoLine" = some (.ref CL)
  x1 : PySem.W.exmOne K (.ref C) (.ref C) = some true
  x2 : PySem.W.exmOne K (.ref C) (.ref CK) = some true
  kP : PySem.W.kitOne K (.ref C) (.ref CP) = some false
  kS : PySem.W.kitOne K (.ref C) (.ref CS) = some false
  kT : PySem.W.kitOne K (.ref C) (.ref CT) = some false
  kL : PySem.W.kitOne K (.ref C) (.ref CL) = some false
  kV : PySem.W.kitOne K (.ref C) (.type "ValueError") = some true
  kB : PySem.W.kitOne K (.ref C) (.ref C) = some true
  xk : ExcK K C
def RUnder : List Sl → Sl → Prop := fun as r => ∃ (e : Tm) (f : Br), as = [.d (py (ex e))] ∧ ChkOk e baseSc ∧ (notesN e baseSc).2 = some f ∧ (∀ k ∈ f.1, k < 3) ∧ f.1.length ≤ 1000000 ∧ r = .d (.bool true)
def RDueK : List Sl → Sl → Prop := fun as r => ∃ (b : Lb) (o : List Tm) (ks : List Kd) (k : Nat), as = [.d (py (ex (.node b o))), .l (ks.map kdD), .d (.int (k : Nat))] ∧ ks.length = ar b ∧ k < ks.length ∧ (b = .call → ∃ m n r, ks = .to m n :: r) ∧ r = .d (kdD (dueAt b ks k))
end Wk
set_option Elab.async false
set_option linter.all false
set_option maxRecDepth 100000
set_option maxHeartbeats 4000000
namespace L2
open PySem PySem.Spec PyProof.Rows
section
variable {X : Cx} {pins : List (Addr × Obj)} {σ : St} {H : Hp} {s : Shared}
def rCountB : V → List V → Hp → VK → Prop := fun x vs H Q => ∃ (l : Addr) (bs : List Bool) (k : Bool), x = .ref l ∧ vs = [.bl k] ∧ H l = some (.lst (bs.map V.bl)) ∧ Q (.int (bs.count k : Nat)) H
theorem vals_bl : ∀ {bs : List Bool} {us : List Value}, Vals (bs.map V.bl) us → us = bs.map Value.bool
  | [], _, .nil => rfl
  | b :: bs, _, .cons r t => by cases r; rw [vals_bl t]; rfl
theorem mt_countB : MtM X "list.count" rCountB := by
  intro pins s σ H x vs v us Q I rx rv h
  obtain ⟨l, bs, k, rfl, rfl, hH, q⟩ := h
  cases rx
  obtain ⟨u, rfl, ru⟩ := rv.one
  cases ru
  obtain ⟨z, its, n, r, hl, e⟩ := I.lstM hH
  obtain rfl := vals_bl r
  refine call_meets PySem.F.slot_list_count ⟨_, e, rfl⟩ PySem.F.entry_list_count (PySem.F.args_list_count_2 _ _) (PySem.SeqAt.list_countAt l (bs.map Value.bool).toArray n none #[] (.bool k) (isBoolOf k)) ⟨e, fun y hy => ?_, ?_⟩
  · obtain ⟨b, _, rfl⟩ := List.mem_map.mp (show y ∈ bs.map Value.bool by simpa using hy)
    exact PySem.SeqAt.EqAt.bool_bool b k
  · refine ⟨.int (bs.count k : Nat), H, I.tok _, ⟨s.toks, ?_⟩, q⟩
    have : (bs.map Value.bool).countP (isBoolOf k) = bs.count k := by rw [List.countP_map]; rfl
    show Value.int (((bs.map Value.bool).toArray.toList.countP (isBoolOf k) : Nat) : Int) s.toks = _
    rw [show (bs.map Value.bool).toArray.toList = bs.map Value.bool from rfl, this]
def tTrySet (K : PySem.W.Frag) (c : Value) (i : Nat) (sp : Sp) (t : TA) (ts : TS) : TS := fun D σ H => t σ H fun vs H1 => sp vs H1 (fun v H2 => D.nx (σ.set i (some v)) H2) fun cls _ H2 => PySem.W.exmOne K cls c = some true ∧ ts D σ H2
theorem ps_trySet {k : Nat} {x y n : Str} {i : Nat} {c : Value} {ps : List Str} {sp : Sp} {e : Expr} {es : List Expr} {t : TA} {ts : TS} {b₀ : Stmt} {suite : List Stmt} {p pos pos2 np hpos tpos p3 : Pos} (b : X.Body) (D : DefX X.prog X.w X.K X.mg X.base k x ps sp) (hr : Room k X.A) (hg : Gl X x) (ha : PA X.nox (e :: es) t)
    (hgy : Gl X y) (hy : X.mg y = some c) (nd : X.N.Nodup) (hi : X.N[i]? = some n) (hx : Loc X.env.scope n) (hs : ∀ ea oe, PSs (X.caught ea oe) (b₀ :: suite) ts) (hdb : (x == ("__debug__" : Str)) = false := by decide) (hdy : (y == ("__debug__" : Str)) = false := by decide)
    (he : starEach (e :: es) X.env = (false, eval e X.env) :: starEach es X.env := by rfl) (hpl : (backTo pos (starEach es X.env)).any (·.1) = false := by rfl)
    (hsw : swapsWith (.Call (.Name x p) (e :: es) [] pos) (some (.Name n p3)) pos2.line X.env = pure false := by rfl) (hf : X.fn n = true ∨ X.env.scope.names.lookup n = some .local := by first | exact .inl rfl | exact .inr rfl | assumption) :
    PS X (.Try [.Assign [.Name n p3] (.Call (.Name x p) (e :: es) [] pos) pos2] [.ExceptHandler (some (.Name y np)) none (b₀ :: suite) hpos] [] [] tpos) (tTrySet X.K c i sp t ts) := by
  intro pins s σ H D' I h
  refine wpAny_Try_except (wpAny_execs_cons (wpAny_Assign_Name (wpAny_mono (try_call D hr hg ha I h hdb he hpl) (fun v s1 ⟨x1, H1, I1, r1, q1⟩ => store_ok I1 nd hi hx r1 (fun s2 I2 => wpAny_execs_nil (wpAny_execs_nil ⟨_, H1, I2, q1⟩)) hf) ?_) hsw))
  rintro e1 s1 ⟨H1, s0, I0, ea, cls, H2, B, rfl, F, hm, q⟩
  obtain ⟨a0, hfl⟩ := F.fly
  have hfl' := hfl
  rw [b.stk] at hfl'
  have hfr := I.ok.frames
  rw [b.stk] at hfr
  refine wpAny_looks_onW hfr b.fr hfl' fun h4 f4 sm4 => wpAny_landsW f4 fun h5 f5 sm5 => ?_
  rw [← b.stk] at f5
  have I5 : Inv X pins σ H2 { s1 with heap := h5 } := F.inv I0 f5.1 (sm4.trans sm5)
  obtain ⟨o5, c5, p5⟩ := F.pinned I0 b f5
  have LT : PySem.W.Looks (model X.prog X.w) h5 (typeOf (.ref ea)) cls := by
    rw [← c5]; exact (PySem.W.Looks.ld p5.1).andThen .now
  refine wpAny_handleBy_cons (codeAny_handlers_test (ld_glob (X := X.caught ea o5) (I5.caught p5) hgy hy ((PySem.W.exm_one I5.kIn LT hm).here ?_) hdy)) (by intro z; cases z)
  show codeAny _ _ _ _ _
  refine codeAny_handlers_suite (lands_againW f5 fun h6 f6 sm6 => ?_)
  have I6 : Inv X pins σ H2 { s1 with heap := h6 } := F.inv I0 f6.1 ((sm4.trans sm5).trans sm6)
  obtain ⟨o6, c6, p6⟩ := F.pinned I0 b f6
  exact wpAny_mono (hs ea o6 pins { s1 with heap := h6 } σ H2 D' (I6.caught p6) q) (fun f s2 z => z.uncaught I.ok) fun _ _ z => z.elim
end
end L2
set_option Elab.async false
set_option linter.all false
set_option maxRecDepth 100000
set_option maxHeartbeats 4000000
namespace L2
open PySem PySem.Spec PyProof.Rows
section
variable {X : Cx}
def rIsiT (K : PySem.W.Frag) : List V → Hp → VK → Prop := fun xs H Q => ∃ (a tp : Addr) (ys : List V) (T U : String) (b : Bool), xs = [.ref a, .ref tp] ∧ SqT K H a ys ∧ SqT K H tp [.ty T, .ty U] ∧ PySem.W.kitAny K (.type "tuple") [.type T, .type U] = some b ∧ Q (.bl b) H
theorem call_isinstT : CallR X (.builtin "isinstance") (rIsiT X.K) := by
  intro pins s σ H xs us Q I r h
  obtain ⟨a, tp, ys, T, U, b, rfl, ha, ht, e, q⟩ := h
  obtain ⟨u, w', rfl, rx, rt⟩ := vals2 r
  cases rx
  cases rt
  obtain ⟨its, _, ⟨o, h1, h2, _⟩, _⟩ := I.tuple ha
  obtain ⟨its2, r2, ⟨⟨cls, dd, data, sl⟩, g1, g2, n, g3⟩, _⟩ := I.tuple ht
  simp only at g2 g3
  subst g2 g3
  obtain ⟨v1, v2, rfl, e1, e2⟩ := r2.two
  cases e1
  cases e2
  exact PySem.W.kia_tup PySem.W.kitx_tuple I.kIn ⟨o, h1, h2⟩ g1 e (fun z => nomatch z) fun tk => ⟨.bl b, H, I.tok _, rfl, q⟩
theorem pe_isinstT {e : Expr} {te : TE} {x y : Str} {T U : String} {p p2 p3 p4 pos : Pos} {j : Nat} (hg : Gl X "isinstance") (hm : X.mg "isinstance" = none) (hgT : Gl X x) (hmT : X.mg x = none) (hv : bootBuiltins x = some (.type T)) (hgU : Gl X y) (hmU : X.mg y = none) (hvU : bootBuiltins y = some (.type U)) (he : PE X e te)
    (hn : x ≠ "__name__" := by decide) (hd : (x == ("__debug__" : Str)) = false := by decide) (hnU : y ≠ "__name__" := by decide) (hdU : (y == ("__debug__" : Str)) = false := by decide)
    (hs2 : starEach [.Name x p2, .Name y p3] X.env = (false, eval (.Name x p2) X.env) :: starEach [.Name y p3] X.env := by rfl)
    (hs : starEach [e, .Tuple [.Name x p2, .Name y p3] j p4] X.env = (false, eval e X.env) :: starEach [.Tuple [.Name x p2, .Name y p3] j p4] X.env := by rfl) :
    PE X (.Call (.Name "isinstance" p) [e, .Tuple [.Name x p2, .Name y p3] j p4] [] pos) (tCB (rIsiT X.K) (tCons te (tCons (tTup (tCons (tC (.ty T)) (tCons (tC (.ty U)) tNil))) tNil))) :=
  pe_callB (call_isinstT (X := X)) hg hm boot_isinstance (pa_cons he (pa_cons (pe_tup (pa_cons (pe_bltn hgT hmT hv rfl hn hd) (pa_cons (pe_bltn hgU hmU hvU rfl hnU hdU) pa_nil) hs2)) pa_nil) hs) (by decide) (by decide) hs
variable {ρ : List Sl}
theorem ve_isinstT {e : Expr} {x y : Str} {T U : String} {p p2 p3 p4 pos : Pos} {j : Nat} {ds : List PyData} {b : Bool} (hm : X.mg "isinstance" = none) (hmT : X.mg x = none) (hv : bootBuiltins x = some (.type T)) (hmU : X.mg y = none) (hvU : bootBuiltins y = some (.type U)) (he : VE X ρ e (.d (.tuple ds)))
    (hk : PySem.W.kitAny X.K (.type "tuple") [.type T, .type U] = some b) (hg : Gl X "isinstance" := by rfl) (hgT : Gl X x := by rfl) (hgU : Gl X y := by rfl)
    (hn : x ≠ "__name__" := by decide) (hd : (x == ("__debug__" : Str)) = false := by decide) (hnU : y ≠ "__name__" := by decide) (hdU : (y == ("__debug__" : Str)) = false := by decide)
    (hs2 : starEach [.Name x p2, .Name y p3] X.env = (false, eval (.Name x p2) X.env) :: starEach [.Name y p3] X.env := by rfl)
    (hs : starEach [e, .Tuple [.Name x p2, .Name y p3] j p4] X.env = (false, eval e X.env) :: starEach [.Tuple [.Name x p2, .Name y p3] j p4] X.env := by rfl) :
    VE X ρ (.Call (.Name "isinstance" p) [e, .Tuple [.Name x p2, .Name y p3] j p4] [] pos) (.d (.bool b)) :=
  PE.weak (pe_isinstT hg hm hgT hmT hv hgU hmU hvU he hn hd hnU hdU hs2 hs) fun σ H Q ⟨er, q⟩ => ⟨er, fun v H1 s1 r1 => by
    obtain ⟨a, vs, rfl, hq, rp⟩ := RsR.tup r1
    refine ⟨by show 2 ≤ sizeLine; decide, fun tp np => ?_⟩
    have s2 := same_upd np (.tup [.ty T, .ty U])
    exact ⟨a, tp, vs, T, U, b, rfl, TupLe.of_same s2 _ _ hq, SqT.of upd_same, hk, q _ _ (s1.trans s2) RsR.bool⟩⟩
theorem ve_eqSb {a b : Expr} {x y : Str} {pos : Pos} (ha : VE X ρ a (.d (.str x))) (hb : VE X ρ b (.d (.str y))) : VE X ρ (.Compare a [.Eq] [b] pos) (.d (.bool (decide (x = y)))) :=
  ve_cmp op_eq ha hb (fun H u w Q rx ry q => by
    obtain rfl := RdR.is_str rx
    obtain rfl := RdR.is_str ry
    refine ⟨rfl, ?_⟩
    rw [show decide (V.str x = V.str y) = decide (x = y) from by simp]; exact q _ H (Same.refl H) RsR.bool) (nomark _)
end
end L2
namespace Wk
open PySem L2 PySem.Spec PyProof.Rows
def soD : Kd ⊕ Str → PyData
  | .inl k => kdD k
  | .inr x => .str x
def soDep : Kd ⊕ Str → Nat
  | .inl k => kdep k
  | .inr _ => 0
def RSo (n : Nat) : List Sl → Sl → Prop := fun as r => ∃ x : Kd ⊕ Str, as = [.d (soD x), .d (soD x)] ∧ soDep x ≤ n ∧ r = .d (.bool true)
def kparts : Kd → List (Kd ⊕ Str)
  | .num => [.inr "num"]
  | .truth => [.inr "truth"]
  | .list k => [.inr "list", .inl k]
  | .to k m => [.inr "to", .inl k, .inl m]
theorem kd_parts (k : Kd) : kdD k = .tuple ((kparts k).map soD) := by cases k <;> rfl
theorem kparts_len (k : Kd) : (kparts k).length ≤ 3 := by cases k <;> simp [kparts]
theorem kdep_pos (k : Kd) : 1 ≤ kdep k := by cases k <;> simp [kdep]
theorem kparts_dep {k : Kd} {x : Kd ⊕ Str} (h : x ∈ kparts k) : soDep x + 1 ≤ kdep k := by
  cases k with
  | num => simp [kparts] at h; subst h; simp [soDep, kdep]
  | truth => simp [kparts] at h; subst h; simp [soDep, kdep]
  | list k => simp [kparts] at h; rcases h with rfl | rfl <;> simp [soDep, kdep]
  | to k m => simp [kparts] at h; rcases h with rfl | rfl | rfl <;> simp [soDep, kdep] <;> omega
end Wk
set_option Elab.async false
set_option linter.all false
set_option maxRecDepth 100000
set_option maxHeartbeats 4000000
namespace Wk
open PySem L2 PySem.Spec PyProof.Rows
theorem tok_digits {e t : Tm} : ∀ {p : List Nat}, TOk e → e.at? p = some t → ∀ k ∈ p, k < 3 := by
  intro p
  induction p generalizing e with
  | nil => intro _ _ k hk; cases hk
  | cons j p ih =>
    intro tok h k hk
    rw [at?_cons] at h
    cases q : e.own[j]? with
    | none => rw [q] at h; cases h
    | some u =>
      rw [q] at h
      have h1 : e.at? [j] = some u := by rw [at?_cons, q]; exact at?_nil u
      rcases List.mem_cons.mp hk with rfl | hk
      · have := (List.getElem?_eq_some_iff.mp q).1
        have h2 := tok.len
        have h3 := ar_le e.lab
        omega
      · exact ih (tok.at h1) h k hk
theorem byDues_digit {b : Lb} {ks : List Kd} {br : Br} (hl : ks.length = ar b) (h : byDues b ks = some br) : ∀ k ∈ br.1, k < 3 := by
  obtain ⟨j, k, rfl, hj, _, _⟩ := byDues_at h
  intro k hk
  simp at hk
  subst hk
  have h1 := (List.getElem?_eq_some_iff.mp hj).1
  have := ar_le b
  omega
theorem breach_digit {b : Lb} {ks : List Kd} {sc : Sc} {br : Br} (hl : ks.length = ar b) (h : breach b ks sc = some br) : ∀ k ∈ br.1, k < 3 := by
  cases b with
  | name x =>
    rw [breach_name] at h
    split at h
    · cases h
    · cases h; intro k hk; cases hk
  | call =>
    cases ks with
    | nil => exact byDues_digit hl h
    | cons k o =>
      have h' : (if k.arg.isSome then byDues .call (k :: o) else some ([0], none, some k)) = some br := h
      split at h'
      · exact byDues_digit hl h'
      · cases h'; intro k hk; simp at hk; omega
  | _ => exact byDues_digit hl h
section
variable {X : Cx} {ρ : List Sl} {a : Expr} {ra : Sl} {pos : Pos}
theorem ve_notN {j : Nat} {p2 : Pos} (ha : VE X ρ a ra) (hu : ra ≠ .un ∧ ∀ P, ra ≠ .h P := by first | exact nun_d | exact nun_l | exact nun_o) : VE X ρ (.Compare a [.IsNot] [.Constant .none j p2] pos) (.d (.bool (!ra.isN))) :=
  ve_cmp op_notN ha (ve_non (j := j) (pos := p2)) (fun H x y Q rx ry q => ⟨RdR.is_non ry, by rw [rep_non rx hu]; exact q _ H (Same.refl H) RsR.bool⟩) (nomark _)
end
end Wk
set_option Elab.async false
set_option linter.all false
set_option maxRecDepth 100000
set_option maxHeartbeats 4000000
namespace Wk
open PySem L2
section
variable (K : PySem.W.Frag)
def spTaken4 : Sp := fun vs H Q _ => ∃ (p : Addr) (c : Int) (es : List Ex), vs = [.ref p, .int c] ∧ Pile K H p es ∧
  ∀ v H' e es', SameBut p H H' → Wf e → Pile K H' p es' → es'.length ≤ es.length → (sizes es' + e.size + es'.length ≤ sizes es + es.length + 1 ∧ (es ≠ [] → sizes es' + e.size + es'.length + 1 ≤ sizes es + es.length)) → Rep K H' (py e) v → Q v H'
def spCombined4 : Sp := fun vs H Q _ => ∃ (p : Addr) (c : Int) (es : List Ex), vs = [.ref p, .int c] ∧ Pile K H p es ∧
  ∀ v H' e es', SameBut p H H' → Wf e → Pile K H' p es' → es'.length ≤ es.length → (sizes es' + e.size + es'.length ≤ sizes es + es.length + 4 ∧ (es ≠ [] → sizes es' + e.size + es'.length ≤ sizes es + es.length + 2)) → Rep K H' (py e) v → Q v H'
def spDrawn4 : Sp := fun vs H Q _ => ∃ (a : Addr) (ns : List Int), vs = [.ref a] ∧ SqL K H a (ns.map V.int) ∧ ns.length ≤ 64 ∧
  ∀ v H' e, Same H H' → Wf e → e.size ≤ 3 * ns.length + 3 → Rep K H' (py e) v → Q v H'
end
end Wk
set_option maxHeartbeats 4000000
namespace Wk
open PySem L2
def top (i : Nat) : Stmt := PySem.Challenge.pw_wellkind_k04_whole_fault_shown.main.body.getD i (.Pass ⟨0, 0, 0, 0⟩)
abbrev st_in_order : Stmt := top 8
abbrev st_notes : Stmt := top 12
abbrev st_fault : Stmt := top 13
abbrev st_kind_of : Stmt := top 14
abbrev st_checked : Stmt := top 15
abbrev st_scopes_by_place : Stmt := top 16
abbrev st_scope_within : Stmt := top 17
abbrev st_breach_of_rule : Stmt := top 18
abbrev st_due_kinds : Stmt := top 19
abbrev st_kind_by_rule : Stmt := top 20
abbrev st_same_kind : Stmt := top 21
abbrev st_law_so : Stmt := top 23
abbrev st_law_whole : Stmt := top 24
abbrev st_law_kinds : Stmt := top 25
abbrev st_law_leaf : Stmt := top 26
abbrev st_law_taken : Stmt := top 27
abbrev st_law_combined : Stmt := top 28
abbrev st_law_drawn : Stmt := top 29
abbrev st_law_part_there : Stmt := top 30
abbrev st_law_low : Stmt := top 31
abbrev st_law_next : Stmt := top 32
abbrev st_law_is_place : Stmt := top 33
abbrev st_law_scope_at : Stmt := top 34
abbrev st_law_named : Stmt := top 35
abbrev st_law_base : Stmt := top 36
abbrev st_law_told : Stmt := top 37
abbrev st_law_own_kinds : Stmt := top 38
abbrev st_law_due_kind : Stmt := top 39
abbrev st_law_shown : Stmt := top 40
abbrev st_law_under_base : Stmt := top 41
abbrev st_law : Stmt := top 42
section
variable {P : Program} {w : World} {K : PySem.W.Frag} {mg : Str → Option Value} {base : Heap}
seal VE VT VW VD VA VS VI VG
local macro_rules
  | `(tactic| decreasing_trivial_pre_omega) => `(tactic| first
    | exact ve_int
    | exact ve_str
    | exact ve_bl
    | exact ve_non
    | exact ve_name rfl rfl
    | exact vd_nil
    | exact va_nil
    | exact vo_none
    | (apply vo_some; decreasing_trivial_pre_omega)
    | (apply vd_cons; decreasing_trivial_pre_omega; decreasing_trivial_pre_omega; rfl)
    | (apply va_cons; decreasing_trivial_pre_omega; decreasing_trivial_pre_omega; rfl)
    | (apply ve_tup; decreasing_trivial_pre_omega; first | decide | exact Nat.le_of_ble_eq_true rfl)
    | (apply ve_lst; decreasing_trivial_pre_omega; first | decide | exact Nat.le_of_ble_eq_true rfl)
    | (apply ve_ixT; decreasing_trivial_pre_omega; decreasing_trivial_pre_omega; exact rfl; exact fun _ _ => rfl)
    | (apply ve_ixL; decreasing_trivial_pre_omega; decreasing_trivial_pre_omega; exact rfl; exact rfl; exact fun _ _ => rfl)
    | (apply vt_eqS; decreasing_trivial_pre_omega; decreasing_trivial_pre_omega)
    | (apply vt_eqI; decreasing_trivial_pre_omega; decreasing_trivial_pre_omega)
    | (apply vt_neS; decreasing_trivial_pre_omega; decreasing_trivial_pre_omega)
    | (apply vt_neI; decreasing_trivial_pre_omega; decreasing_trivial_pre_omega)
    | (apply vt_ltI; decreasing_trivial_pre_omega; decreasing_trivial_pre_omega)
    | (apply vt_gtI; decreasing_trivial_pre_omega; decreasing_trivial_pre_omega)
    | (apply vt_not; decreasing_trivial_pre_omega)
    | (apply vt_isN; decreasing_trivial_pre_omega; first | exact nun_d | exact nun_l | exact nun_o)
    | (apply vt_notN; decreasing_trivial_pre_omega; first | exact nun_d | exact nun_l | exact nun_o)
    | (apply vt_bool; decreasing_trivial_pre_omega; intro _; rfl)
    | (apply vt_lst; decreasing_trivial_pre_omega; exact rfl; intro _; rfl)
    | (apply ve_addI; decreasing_trivial_pre_omega; decreasing_trivial_pre_omega)
    | (apply ve_subI; decreasing_trivial_pre_omega; decreasing_trivial_pre_omega)
    | (apply ve_neg; decreasing_trivial_pre_omega)
    | (apply vt_geI; decreasing_trivial_pre_omega; decreasing_trivial_pre_omega)
    | (apply vt_leI; decreasing_trivial_pre_omega; decreasing_trivial_pre_omega))
theorem sc_whole : FnScope ["_law_found"] ["_law_found"] (defScope st_law_whole) := ⟨rfl, rfl, rfl, by decide +kernel, rfl, by decide +kernel, by decide +kernel⟩
theorem ok_whole {f : Addr} {fd : FuncData} (F : Fun K "_law_whole" "_law_whole" st_law_whole f fd) (B : Plain mg) : FnOk P w K mg base CX0 1 f fd ["_law_found"] spWhole := by
  refine F.ok sc_whole (fun vs H Q E h => ?_) (fun cdv A outer s H vs Q E hr h => ?_)
  · obtain ⟨i, rfl, _⟩ := h; rfl
  obtain ⟨i, rfl, q⟩ := h
  refine ⟨_, pss_one (ps_ret (pe_and (pe_isinst rfl B.isinstance rfl B.int PyProof.Rows.boot_int (pv 0)) (pe_one (pe_not (pe_isinst rfl B.isinstance rfl B.bool PyProof.Rows.boot_bool (pv 0)))))), ?_⟩
  refine ⟨_, rfl, _, _, _, true, rfl, .of (.int i), rfl, true, rfl, ?_⟩
  refine iteT ?_
  exact ⟨_, rfl, _, _, _, false, rfl, .of (.int i), kit_int_bool K, false, rfl, q⟩
theorem sc_kinds : FnScope ["_law_num", "_law_rows"] [] (defScope st_law_kinds) := ⟨rfl, rfl, rfl, by decide +kernel, rfl, by decide +kernel, by decide +kernel⟩
theorem ok_kinds {f : Addr} {fd : FuncData} (F : Fun K "_law_kinds" "_law_kinds" st_law_kinds f fd) : FnOk P w K mg base CX0 1 f fd [] (spKinds K) := by
  refine F.ok sc_kinds (fun vs H Q E h => ?_) (fun cdv A outer s H vs Q E hr h => ?_)
  · obtain ⟨rfl, _⟩ := h; rfl
  obtain ⟨rfl, q⟩ := h
  refine ⟨_, pss_cons (ps_set (i := 0) sc_kinds.nd rfl (Or.inl rfl) pe_dat)
    (pss_cons (ps_set (i := 1) sc_kinds.nd rfl (Or.inl rfl) pe_lstD)
    (pss_cons (ps_expr (pe_bm PySem.F.plainAttrs_list PySem.F.slot_list_append PySem.F.type_list_append mt_append (pv 1) (pa_cons pe_dat pa_nil)))
    (pss_one (ps_ret (pe_op op_cat (pv 1) pe_lstD))))), ?_⟩
  refine ⟨_, de_tup (de_cons de_str de_nil), fun n H1 s1 hn => ?_⟩
  refine ⟨_, de_cons (de_var 0 rfl hn) (de_cons (de_tup (de_cons de_str (de_cons (de_var 0 rfl hn) de_nil))) (de_cons (de_tup (de_cons de_str (de_cons (de_var 0 rfl hn) (de_cons (de_var 0 rfl hn) de_nil)))) (de_cons (de_tup (de_cons de_str de_nil))
    (de_cons (de_tup (de_cons de_str (de_cons (de_tup (de_cons de_str (de_cons (de_var 0 rfl hn) de_nil))) de_nil))) de_nil)))), by decide, fun r H2 vs nr s2 hr2 rp2 => ?_⟩
  refine ⟨_, rfl, .inl ⟨rfl, _, SqL.of hr2⟩, _, de_tup (de_cons de_str (de_cons (de_tup (de_cons de_str (de_cons (de_var 0 rfl (Rep.mono (TupLe.of_same s2) _ _ hn)) (de_cons (de_var 0 rfl (Rep.mono (TupLe.of_same s2) _ _ hn)) de_nil)))) de_nil)), fun v3 H3 s3 rp3 => ?_⟩
  have hr3 := s3 _ _ hr2
  have l2 : vs.length = 5 := by rw [rp2.length]; rfl
  refine ⟨r, vs, v3, rfl, rfl, hr3, by rw [l2]; exact small1000 (by decide), ?_⟩
  have t3 : TupLe K H3 (upd H3 r (.lst (vs ++ [v3]))) := (SameBut.upd _).tup hr3
  have hn4 := Rep.mono t3 _ _ (Rep.mono (TupLe.of_same s3) _ _ (Rep.mono (TupLe.of_same s2) _ _ hn))
  refine ⟨_, rfl, _, de_cons (de_tup (de_cons de_str (de_cons (de_var 0 rfl hn4) (de_cons (de_tup (de_cons de_str (de_cons (de_var 0 rfl hn4) (de_cons (de_var 0 rfl hn4) de_nil)))) de_nil)))) de_nil, by decide, fun r5 H5 vs5 n5 s5 hr5 rp5 => ?_⟩
  have l5 : vs5.length = 1 := by rw [rp5.length]; rfl
  refine ⟨r, r5, vs ++ [v3], vs5, rfl, rfl, s5 _ _ upd_same, hr5, by rw [List.length_append, List.length_singleton, l2, l5]; exact Nat.le_of_lt (small1000 (by decide)), fun p6 n6 => ?_⟩
  have s36 : TupLe K H3 H5 := t3.trans (TupLe.of_same s5)
  have s56 := same_upd n6 (.lst ((vs ++ [v3]) ++ vs5))
  have nr1 : H r = none := s1.free nr
  refine q p6 _ _ (fun b o hb => ?_) ?_ upd_same ?_
  · have h1 := s1 _ _ hb
    have h3 := s3 _ _ (s2 _ _ h1)
    have hne : b ≠ r := ne_of_none hb nr1
    exact s56 _ _ (s5 _ _ (by rw [upd_ne hne]; exact h3))
  · cases hq : H p6 with
    | none => rfl
    | some o =>
      have h1 := s1 _ _ hq
      have h3 := s3 _ _ (s2 _ _ h1)
      have := s5 _ _ (show (upd H3 r (.lst (vs ++ [v3]))) p6 = some o by rw [upd_ne (ne_of_none hq nr1)]; exact h3)
      rw [n6] at this; cases this
  · refine Reps.mono (TupLe.of_same s56) _ _ ?_
    have a1 := Reps.mono s36 _ _ (Reps.mono (TupLe.of_same s3) _ _ rp2)
    have a2 := Rep.mono s36 _ _ rp3
    exact ((a1.append (.one a2)).append rp5)
theorem sc_leaf : FnScope ["_law_cell", "_law_way", "_law_name"] ["_law_cell"] (defScope st_law_leaf) := ⟨rfl, rfl, rfl, by decide +kernel, rfl, by decide +kernel, by decide +kernel⟩
theorem ok_leaf {f : Addr} {fd : FuncData} (F : Fun K "_law_leaf" "_law_leaf" st_law_leaf f fd) (DK : DefOk P w K mg base 1 "_law_kinds" [] (spKinds K)) : FnOk P w K mg base CX0 2 f fd ["_law_cell"] (spLeaf K) := by
  refine F.ok sc_leaf (fun vs H Q E h => ?_) (fun cdv A outer s H vs Q E hr h => ?_)
  · obtain ⟨c, rfl, _⟩ := h; rfl
  obtain ⟨c, rfl, q⟩ := h
  refine ⟨_, pss_cons (ps_set (i := 1) sc_leaf.nd rfl (Or.inl rfl) (pe_hash (pv 0)))
    (pss_cons (ps_if (pt_cmpR op_eq (pv 1) pe_int (nomark _)) (pss_one (ps_ret pe_dat)) pss_nil)
    (pss_cons (ps_if (pt_cmpR op_eq (pv 1) pe_int (nomark _)) (pss_one (ps_ret pe_dat)) pss_nil)
    (pss_cons (ps_if (pt_cmpR op_eq (pv 1) pe_int (nomark _)) (pss_one (ps_ret pe_dat)) pss_nil)
    (pss_cons (ps_set (i := 2) sc_leaf.nd rfl (Or.inl rfl) (pe_ix ix_list pe_lstD (pe_hash (pv 0)) (fun _ _ => rfl)))
    (pss_one (ps_ret pe_dat)))))), ?_⟩
  refine ⟨_, rfl, c, rfl, _, rfl, rfl, _, rfl, ?_⟩
  refine ite2 (fun _ => ?_) (fun _ => ?_)
  · refine ⟨_, de_tup (de_cons de_str (de_cons (de_tup (de_cons (de_pe (pe_op op_sub (pe_hash (pv 0)) pe_int) fun H1 _ => ⟨_, rfl, c, rfl, _, _, rfl, rfl, Same.refl H1, .int _⟩) de_nil)) (de_cons (de_tup de_nil) de_nil))), fun v H1 s1 r1 => ?_⟩
    exact q v H1 _ s1 (Wf.num _) rfl (by rw [py_eq]; exact r1)
  refine ⟨_, rfl, rfl, _, rfl, ?_⟩
  refine ite2 (fun _ => ?_) (fun _ => ?_)
  · refine ⟨_, de_tup (de_cons de_str (de_cons (de_tup (de_cons (de_pe (pe_cmpR op_eq (pe_hash (pv 0)) pe_int (nomark _)) fun H1 _ => ⟨_, rfl, c, rfl, rfl, Same.refl H1, .bool _⟩) de_nil)) (de_cons (de_tup de_nil) de_nil))), fun v H1 s1 r1 => ?_⟩
    exact q v H1 _ s1 (Wf.truth _) rfl (by rw [py_eq]; exact r1)
  refine ⟨_, rfl, rfl, _, rfl, ?_⟩
  refine ite2 (fun _ => ?_) (fun _ => ?_)
  · obtain ⟨kd, hk1, hk2⟩ := atI_of (xs := kinds7) (hash_lo c 1031 7) (hash_hi c 1031 7)
    have hk3 : kd ∈ kinds7 := List.mem_of_getElem? hk2
    refine ⟨_, de_tup (de_cons de_str (de_cons (de_tup (de_cons (de_pe (d := kdD kd) (pe_ix ix_list (pe_callD0 DK hr rfl) (pe_hash (pv 0)) (fun _ _ => rfl)) fun H1 s1 => ?_) de_nil)) (de_cons (de_tup de_nil) de_nil))), fun v H1 s1 r1 => ?_⟩
    · refine ⟨rfl, fun r H2 ks s2 nr hr2 rp2 => ⟨_, rfl, c, rfl, ?_⟩⟩
      obtain ⟨v, hv, rv⟩ := rp2.get (i := (c * 48271 % 1031 % 7).toNat) (d := kdD kd) (by rw [List.getElem?_map, hk2]; rfl)
      have hat : atI ks (c * 48271 % 1031 % 7) = some v := by
        have e : (c * 48271 % 1031 % 7) = (((c * 48271 % 1031 % 7).toNat : Nat) : Int) := (Int.toNat_of_nonneg (hash_lo c 1031 7)).symm
        rw [e]; exact atI_nat hv
      exact ⟨r, ks, _, v, rfl, rfl, SqL.of hr2, hat, s2, rv⟩
    · exact q v H1 _ s1 (Wf.nil kd hk3) rfl (by rw [py_eq]; exact r1)
  obtain ⟨nm, hk1, hk2⟩ := atI_of (xs := names4) (hash_lo c 1013 4) (hash_hi c 1013 4)
  refine ⟨_, de_names, by decide, fun r H2 vs nr s2 hr2 rp2 => ⟨_, rfl, c, rfl, ?_⟩⟩
  obtain ⟨v, hv, rv⟩ := rp2.get (i := (c * 48271 % 1013 % 4).toNat) (d := .str nm) (by rw [List.getElem?_map, hk2]; rfl)
  obtain rfl := rv.is_str
  have hat : atI vs (c * 48271 % 1013 % 4) = some (.str nm) := by
    have e : (c * 48271 % 1013 % 4) = (((c * 48271 % 1013 % 4).toNat : Nat) : Int) := (Int.toNat_of_nonneg (hash_lo c 1013 4)).symm
    rw [e]; exact atI_nat hv
  refine ⟨r, vs, _, _, rfl, rfl, SqL.of hr2, hat, ?_⟩
  refine ⟨_, de_tup (de_cons de_str (de_cons (de_tup (de_cons (de_var 2 rfl (Rep.str nm)) de_nil)) (de_cons (de_tup de_nil) de_nil))), fun v H3 s3 r3 => ?_⟩
  exact q v H3 _ (s2.trans s3) (Wf.name nm (List.mem_of_getElem? hk2)) rfl (by rw [py_eq]; exact r3)
theorem sc_there : FnScope ["_law_expr", "_law_place", "_law_k"] ["_law_expr", "_law_place"] (defScope st_law_part_there) := ⟨rfl, rfl, rfl, by decide +kernel, rfl, by decide +kernel, by decide +kernel⟩
theorem ok_there {f : Addr} {fd : FuncData} (F : Fun K "_law_part_there" "_law_part_there" st_law_part_there f fd) : FnOk P w K mg base CX0 1 f fd ["_law_expr", "_law_place"] (spThere K) := by
  refine F.ok sc_there (fun vs H Q E h => ?_) (fun cdv A outer s H vs Q E hr h => ?_)
  · obtain ⟨v, u, e, t, p, rfl, _⟩ := h; rfl
  obtain ⟨v, u, e, t, p, rfl, re, rp, hat, q⟩ := h
  refine ⟨_, pss_cons (ps_for PassesOwn.never rfl (pi_tup (pv 1)) (pg_name (i := 2) sc_there.nd rfl (Or.inl rfl)) (pss_one (ps_set (i := 0) sc_there.nd rfl (Or.inl rfl) (pe_ix ix_tup (pe_ix ix_tup (pv 0) pe_int (fun _ _ => rfl)) (pv 2) (fun _ _ => rfl)))))
    (pss_one (ps_ret (pv 0))), ?_⟩
  obtain ⟨a, rfl, hq⟩ := pl_open rp
  refine ⟨_, rfl, a, rfl, ⟨_, hq⟩, for_tup (fun i σ H' => H' = H ∧ ∃ v' x2 t', σ = [some v', some (.ref a), x2] ∧ Rep K H (py t') v' ∧ e.at? (p.take i) = some t') ⟨rfl, v, none, e, rfl, re, at?_nil e⟩ (fun i σ H' _ h => by obtain ⟨rfl, _⟩ := h; exact hq) ?_ ?_⟩
  · rintro i x σ H' hi ⟨rfl, v', x2, t', rfl, rt, ht⟩
    rw [List.getElem?_map] at hi
    cases hk : p[i]? with
    | none => rw [hk] at hi; cases hi
    | some k =>
      rw [hk] at hi
      have ex : x = .int (k : Int) := (Option.some.inj hi).symm
      subst ex
      obtain ⟨t2, u2, h1, h2, h3⟩ := at?_take hat hk
      rw [ht] at h1
      cases h1
      obtain ⟨a1, b1, c1, ms, os, rfl, g1, g2, g3, g4, g5⟩ := ex_open rt
      obtain ⟨v2, hv2, rv2⟩ := own_rep g5 h2
      refine ⟨_, rfl, a1, _, _, .ref c1, rfl, rfl, g1, rfl, _, rfl, c1, os, _, v2, rfl, rfl, g4, atI_nat hv2, ?_⟩
      exact ⟨rfl, v2, _, u2, rfl, rv2, h3⟩
  · rintro σ H' ⟨rfl, v', x2, t', rfl, rt, ht⟩
    rw [List.length_map, List.take_of_length_le (Nat.le_refl _), hat] at ht
    cases ht
    exact ⟨_, rfl, q v' rt⟩
theorem sc_taken : FnScope ["_law_pile", "_law_cell"] ["_law_pile", "_law_cell"] (defScope st_law_taken) := ⟨rfl, rfl, rfl, by decide +kernel, rfl, by decide +kernel, by decide +kernel⟩
theorem ok_taken4 {f : Addr} {fd : FuncData} (F : Fun K "_law_taken" "_law_taken" st_law_taken f fd) (B : Plain mg) (DL : DefOk P w K mg base 2 "_law_leaf" ["_law_cell"] (spLeaf K)) : FnOk P w K mg base CX0 3 f fd ["_law_pile", "_law_cell"] (spTaken4 K) := by
  refine F.ok sc_taken (fun vs H Q E h => ?_) (fun cdv A outer s H vs Q E hr h => ?_)
  · obtain ⟨p, c, es, rfl, _⟩ := h; rfl
  obtain ⟨p, c, es, rfl, ⟨⟨vs, hp, rp⟩, wf⟩, q⟩ := h
  refine ⟨_, pss_cons (ps_if (pt_cmpR op_gt (pe_callB call_len_seq rfl B.len PySem.boot_len (pa_cons (pv 0) pa_nil)) pe_int (nomark _)) (pss_one (ps_ret (pe_bm0 PySem.F.plainAttrs_list PySem.F.slot_list_pop PySem.F.type_list_pop mt_pop (pv 0)))) pss_nil)
    (pss_one (ps_ret (pe_callD DL hr rfl (pa_cons (pv 1) pa_nil)))), ?_⟩
  have hl : vs.length = es.length := by rw [rp.length, List.length_map]
  refine ⟨_, rfl, _, _, rfl, .inl (SqL.of hp), _, _, rfl, rfl, _, rfl, ?_⟩
  refine ite2 (fun c1 => ?_) (fun c1 => ?_)
  · have hpos : (0 : Int) < (vs.length : Nat) := of_decide_eq_true c1
    rcases nil_or_snoc es with e0 | ⟨es', e, rfl⟩
    · subst e0
      rw [hl] at hpos
      exact absurd hpos (by decide)
    rw [List.map_append, List.map_singleton] at rp
    obtain ⟨ws, v, rfl, rp1, rv⟩ := rp.snoc
    refine ⟨_, rfl, .inl ⟨rfl, _, SqL.of hp⟩, p, _, v, rfl, rfl, hp, by simp, ?_⟩
    rw [List.dropLast_concat]
    have sb : SameBut p H (upd H p (.lst ws)) := SameBut.upd _
    refine q v _ e es' sb (wf e (by simp)) ⟨⟨ws, upd_same, Reps.mono (sb.tup hp) _ _ rp1⟩, fun x hx => wf x (by simp [hx])⟩ (by simp) ⟨by rw [sizes_append, List.length_append]; simp [sizes]; omega, fun _ => by rw [sizes_append, List.length_append]; simp [sizes]; omega⟩ (Rep.mono (sb.tup hp) _ _ rv)
  · have hz : ¬ (0 : Int) < (vs.length : Nat) := of_decide_eq_false (Bool.eq_false_iff.mpr c1)
    refine ⟨_, rfl, c, rfl, fun v H1 e s1 we se re => ?_⟩
    refine q v H1 e es (SameBut.of_same s1) we ⟨⟨vs, s1 _ _ hp, Reps.mono (TupLe.of_same s1) _ _ rp⟩, wf⟩ (Nat.le_refl _) ⟨by omega, fun hne => absurd (List.length_eq_zero_iff.mp (by omega)) hne⟩ re
theorem sc_combined : FnScope ["_law_pile", "_law_cell", "_law_way", "_law_kind", "_law_some", "_law_name", "_law_one", "_law_two", "_law_three", "_law_marks"] ["_law_pile", "_law_cell"] (defScope st_law_combined) := ⟨rfl, rfl, rfl, by decide +kernel, rfl, by decide +kernel, by decide +kernel⟩
theorem ok_combined4 {f : Addr} {fd : FuncData} (F : Fun K "_law_combined" "_law_combined" st_law_combined f fd) (DK : DefOk P w K mg base 1 "_law_kinds" [] (spKinds K)) (DT : DefOk P w K mg base 3 "_law_taken" ["_law_pile", "_law_cell"] (spTaken4 K)) :
    FnOk P w K mg base CX0 4 f fd ["_law_pile", "_law_cell"] (spCombined4 K) := by
  refine F.ok sc_combined (fun vs H Q E h => ?_) (fun cdv A outer s H vs Q E hr h => ?_)
  · obtain ⟨p, c, es, rfl, _⟩ := h; rfl
  obtain ⟨p, c, es, rfl, PL, q⟩ := h
  refine ⟨_, pss_cons (ps_set (i := 2) sc_combined.nd rfl (Or.inl rfl) (pe_op op_add pe_int (pe_hash (pv 1))))
    (pss_cons (ps_set (i := 3) sc_combined.nd rfl (Or.inl rfl) (pe_ix ix_list (pe_callD0 DK (hr.mono (by decide)) rfl) (pe_hash (pv 1)) (fun _ _ => rfl)))
    (pss_cons (ps_set (i := 4) sc_combined.nd rfl (Or.inl rfl) pe_lstD)
    (pss_cons (ps_set (i := 5) sc_combined.nd rfl (Or.inl rfl) (pe_ix ix_list (pv 4) (pe_hash (pv 1)) (fun _ _ => rfl)))
    (pss_cons (ps_set (i := 6) sc_combined.nd rfl (Or.inl rfl) (pe_callD DT hr rfl (pa_cons (pv 0) (pa_cons (pe_op op_fdiv (pv 1) pe_int) pa_nil))))
    (pss_cons (ps_if (pt_cmpR op_lt (pv 2) pe_int (nomark _)) (pss_one (ps_ret pe_dat)) pss_nil)
    (pss_cons (ps_set (i := 7) sc_combined.nd rfl (Or.inl rfl) (pe_callD DT hr rfl (pa_cons (pv 0) (pa_cons (pe_op op_fdiv (pv 1) pe_int) pa_nil))))
    (pss_cons (ps_if (pt_cmpR op_eq (pv 2) pe_int (nomark _)) (pss_one (ps_ret pe_dat)) pss_nil)
    (pss_cons (ps_if (pt_cmpR op_eq (pv 2) pe_int (nomark _)) (pss_one (ps_ret pe_dat)) pss_nil)
    (pss_cons (ps_if (pt_cmpR op_eq (pv 2) pe_int (nomark _)) (pss_one (ps_ret pe_dat)) pss_nil)
    (pss_cons (ps_if (pt_cmpR op_eq (pv 2) pe_int (nomark _)) (pss_one (ps_ret pe_dat)) pss_nil)
    (pss_cons (ps_set (i := 8) sc_combined.nd rfl (Or.inl rfl) (pe_callD DT hr rfl (pa_cons (pv 0) (pa_cons (pe_op op_fdiv (pv 1) pe_int) pa_nil))))
    (pss_cons (ps_if (pt_cmpR op_eq (pv 2) pe_int (nomark _)) (pss_one (ps_ret pe_dat)) pss_nil)
    (pss_cons (ps_set (i := 9) sc_combined.nd rfl (Or.inl rfl) (pe_tup (pa_cons (pv 3) (pa_cons (pv 5) (pa_cons (pe_ix ix_list (pv 4) (pe_hash (pv 1)) (fun _ _ => rfl)) pa_nil)))))
    (pss_one (ps_ret pe_dat))))))))))))))), ?_⟩
  obtain ⟨⟨vs0, hp0, rp0⟩, wf0⟩ := id PL
  refine ⟨_, rfl, c, rfl, _, _, rfl, rfl, ?_⟩
  generalize hw : (4 + c * 48271 % 1033 % 8 : Int) = way
  obtain ⟨kd, hk1, hk2⟩ := atI_of (xs := kinds7) (hash_lo c 1039 7) (hash_hi c 1039 7)
  have hkm : kd ∈ kinds7 := List.mem_of_getElem? hk2
  refine ⟨rfl, fun r H1 ks s1 nr hr1 rp1 => ⟨_, rfl, c, rfl, ?_⟩⟩
  obtain ⟨kv, hkv, rkv⟩ := rp1.get (i := (c * 48271 % 1039 % 7).toNat) (d := kdD kd) (by rw [List.getElem?_map, hk2]; rfl)
  refine ⟨r, ks, _, kv, rfl, rfl, SqL.of hr1, by rw [← Int.toNat_of_nonneg (hash_lo c 1039 7)]; exact atI_nat hkv, ?_⟩
  obtain ⟨nm, hn1, hn2⟩ := atI_of (xs := names4) (hash_lo c 1049 4) (hash_hi c 1049 4)
  have hnm : nm ∈ names4 := List.mem_of_getElem? hn2
  refine ⟨_, de_names, by decide, fun r2 H2 ns2 nr2 s2 hr2 rp2 => ?_⟩
  obtain ⟨nv, hnv, rnv⟩ := rp2.get (i := (c * 48271 % 1049 % 4).toNat) (d := .str nm) (by rw [List.getElem?_map, hn2]; rfl)
  obtain rfl := rnv.is_str
  refine ⟨_, rfl, _, rfl, c, rfl, r2, ns2, _, _, rfl, rfl, SqL.of hr2, by rw [← Int.toNat_of_nonneg (hash_lo c 1049 4)]; exact atI_nat hnv, ?_⟩
  have s02 : Same H H2 := s1.trans s2
  have PL2 : Pile K H2 p es := ⟨⟨vs0, s02 _ _ hp0, Reps.mono (TupLe.of_same s02) _ _ rp0⟩, wf0⟩
  refine ⟨_, rfl, _, rfl, _, _, rfl, rfl, ⟨by decide, by decide⟩, p, _, es, rfl, PL2, fun v1 H3 e1 es1 b3 w1 P1 l1 z1 rp3 => ?_⟩
  obtain ⟨⟨vs1, hp1, rq1⟩, wf1⟩ := id P1
  have t23 : TupLe K H2 H3 := b3.tup (s02 _ _ hp0)
  have rkd : Rep K H3 (kdD kd) kv := Rep.mono t23 _ _ (Rep.mono (TupLe.of_same s2) _ _ rkv)
  have B03 : SameBut p H H3 := (SameBut.of_same s02).trans b3
  refine ⟨_, rfl, _, _, rfl, rfl, _, rfl, ?_⟩
  refine ite2 (fun _ => ?_) (fun _ => ?_)
  · refine ⟨_, de_tup (de_cons de_str (de_cons (de_tup (de_cons (de_var 5 rfl (Rep.str nm)) (de_cons (de_var 3 rfl rkd) de_nil))) (de_cons (de_tup (de_cons (de_var 6 rfl rp3) de_nil)) de_nil))), fun v H4 s4 r4 => ?_⟩
    refine q v H4 _ es1 (B03.trans (SameBut.of_same s4)) (Wf.fn nm kd hnm hkm w1) ⟨⟨vs1, s4 _ _ hp1, Reps.mono (TupLe.of_same s4) _ _ rq1⟩, wf1⟩ l1 ?_ (by rw [py_eq]; exact r4)
    rw [size_own]; show sizes es1 + (sizes [e1] + 1) + es1.length ≤ _ ∧ (_ → sizes es1 + (sizes [e1] + 1) + es1.length ≤ _); simp only [sizes]; exact ⟨by omega, fun hne => by have := z1.2 hne; omega⟩
  refine ⟨_, rfl, _, rfl, _, _, rfl, rfl, ⟨by decide, by decide⟩, p, _, es1, rfl, P1, fun v2 H4 e2 es2 b4 w2 P2 l2 z2 rp4 => ?_⟩
  obtain ⟨⟨vs2, hp2, rq2⟩, wf2⟩ := id P2
  have t34 : TupLe K H3 H4 := b4.tup hp1
  have rp34 : Rep K H4 (py e1) v1 := Rep.mono t34 _ _ rp3
  have B04 : SameBut p H H4 := B03.trans b4
  have two : ∀ {wd : Str} {v : V} {H5 : Hp}, Same H4 H5 → Wf (nd wd [] [e2, e1]) → Rep K H5 (.tuple [.str wd, .tuple [], .tuple [py e2, py e1]]) v → Q v H5 := fun {wd v H5} s5 wfe r5 => by
    refine q v H5 _ es2 (B04.trans (SameBut.of_same s5)) wfe ⟨⟨vs2, s5 _ _ hp2, Reps.mono (TupLe.of_same s5) _ _ rq2⟩, wf2⟩ (Nat.le_trans l2 l1) ?_ (by rw [py_eq]; exact r5)
    rw [size_own]; show sizes es2 + (sizes [e2, e1] + 1) + es2.length ≤ _ ∧ (_ → sizes es2 + (sizes [e2, e1] + 1) + es2.length ≤ _); simp only [sizes]; exact ⟨by omega, fun hne => by have := z1.2 hne; omega⟩
  refine ⟨_, rfl, rfl, _, rfl, ite2 (fun _ => ?_) (fun _ => ?_)⟩
  · exact ⟨_, de_tup (de_cons de_str (de_cons (de_tup de_nil) (de_cons (de_tup (de_cons (de_var 7 rfl rp4) (de_cons (de_var 6 rfl rp34) de_nil))) de_nil))), fun v H5 s5 r5 => two s5 (Wf.add w2 w1) r5⟩
  refine ⟨_, rfl, rfl, _, rfl, ite2 (fun _ => ?_) (fun _ => ?_)⟩
  · exact ⟨_, de_tup (de_cons de_str (de_cons (de_tup de_nil) (de_cons (de_tup (de_cons (de_var 7 rfl rp4) (de_cons (de_var 6 rfl rp34) de_nil))) de_nil))), fun v H5 s5 r5 => two s5 (Wf.less w2 w1) r5⟩
  refine ⟨_, rfl, rfl, _, rfl, ite2 (fun _ => ?_) (fun _ => ?_)⟩
  · exact ⟨_, de_tup (de_cons de_str (de_cons (de_tup de_nil) (de_cons (de_tup (de_cons (de_var 7 rfl rp4) (de_cons (de_var 6 rfl rp34) de_nil))) de_nil))), fun v H5 s5 r5 => two s5 (Wf.front w2 w1) r5⟩
  refine ⟨_, rfl, rfl, _, rfl, ite2 (fun _ => ?_) (fun _ => ?_)⟩
  · exact ⟨_, de_tup (de_cons de_str (de_cons (de_tup de_nil) (de_cons (de_tup (de_cons (de_var 7 rfl rp4) (de_cons (de_var 6 rfl rp34) de_nil))) de_nil))), fun v H5 s5 r5 => two s5 (Wf.call w2 w1) r5⟩
  refine ⟨_, rfl, _, rfl, _, _, rfl, rfl, ⟨by decide, by decide⟩, p, _, es2, rfl, P2, fun v3 H5 e3 es3 b5 w3 P3 l3 z3 rp5 => ?_⟩
  obtain ⟨⟨vs3, hp3, rq3⟩, wf3⟩ := id P3
  have t45 : TupLe K H4 H5 := b5.tup hp2
  have rp35 : Rep K H5 (py e1) v1 := Rep.mono t45 _ _ rp34
  have rp45 : Rep K H5 (py e2) v2 := Rep.mono t45 _ _ rp4
  have rkd5 : Rep K H5 (kdD kd) kv := Rep.mono t45 _ _ (Rep.mono t34 _ _ rkd)
  have B05 : SameBut p H H5 := B04.trans b5
  have three : ∀ {wd : Str} {ms : List PyData} {v : V} {H6 : Hp}, SameBut p H5 H6 → Same H5 H6 → Wf (nd wd ms [e3, e2, e1]) → Rep K H6 (.tuple [.str wd, .tuple ms, .tuple [py e3, py e2, py e1]]) v → Q v H6 := fun {wd ms v H6} b6 s6 wfe r6 => by
    refine q v H6 _ es3 (B05.trans b6) wfe ⟨⟨vs3, s6 _ _ hp3, Reps.mono (TupLe.of_same s6) _ _ rq3⟩, wf3⟩ (Nat.le_trans l3 (Nat.le_trans l2 l1)) ?_ (by rw [py_eq]; exact r6)
    rw [size_own]; show sizes es3 + (sizes [e3, e2, e1] + 1) + es3.length ≤ _ ∧ (_ → sizes es3 + (sizes [e3, e2, e1] + 1) + es3.length ≤ _); simp only [sizes]; exact ⟨by omega, fun hne => by have := z1.2 hne; omega⟩
  refine ⟨_, rfl, rfl, _, rfl, ite2 (fun _ => ?_) (fun _ => ?_)⟩
  · exact ⟨_, de_tup (de_cons de_str (de_cons (de_tup de_nil) (de_cons (de_tup (de_cons (de_var 8 rfl rp5) (de_cons (de_var 7 rfl rp45) (de_cons (de_var 6 rfl rp35) de_nil)))) de_nil))), fun v H6 s6 r6 => three (SameBut.of_same s6) s6 (Wf.ifx w3 w2 w1) r6⟩
  have hne2 : r2 ≠ p := by
    intro z
    have h1 := s02 _ _ hp0
    have h0 := s1.free (show H1 r2 = none from nr2)
    rw [z, hp0] at h0; cases h0
  have hr5 : H5 r2 = some (.lst ns2) := b5 _ _ hne2 (b4 _ _ hne2 (b3 _ _ hne2 hr2))
  obtain ⟨nm2, hm1, hm2⟩ := atI_of (xs := names4) (hash_lo c 1051 4) (hash_hi c 1051 4)
  obtain ⟨mv, hmv, rmv⟩ := rp2.get (i := (c * 48271 % 1051 % 4).toNat) (d := .str nm2) (by rw [List.getElem?_map, hm2]; rfl)
  obtain rfl := rmv.is_str
  refine ⟨_, rfl, _, rfl, _, rfl, _, rfl, c, rfl, r2, ns2, _, _, rfl, rfl, SqL.of hr5, by rw [← Int.toNat_of_nonneg (hash_lo c 1051 4)]; exact atI_nat hmv, (by show 3 ≤ sizeLine; decide), fun pm nm6 => ?_⟩
  have s6 := same_upd nm6 (.tup [kv, .str nm, .str nm2])
  have rm6 : Rep K (upd H5 pm (.tup [kv, .str nm, .str nm2])) (.tuple [kdD kd, .str nm, .str nm2]) (.ref pm) := .tuple (SqT.of upd_same) (.cons (Rep.mono (TupLe.of_same s6) _ _ rkd5) (.cons (.str _) (.one (.str _))))
  exact ⟨_, de_tup (de_cons de_str (de_cons (de_var 9 rfl rm6) (de_cons (de_tup (de_cons (de_var 8 rfl (Rep.mono (TupLe.of_same s6) _ _ rp5)) (de_cons (de_var 7 rfl (Rep.mono (TupLe.of_same s6) _ _ rp45)) (de_cons (de_var 6 rfl (Rep.mono (TupLe.of_same s6) _ _ rp35)) de_nil)))) de_nil))),
    fun v H7 s7 r7 => three (SameBut.of_same (s6.trans s7)) (s6.trans s7) (Wf.case kd nm nm2 hkm hnm (List.mem_of_getElem? hm2) w3 w2 w1) r7⟩
theorem grown {es es2 : List Ex} {e : Ex} {i : Nat} (hne : i = 0 ∨ es ≠ []) (hle : es.length ≤ i) (hsz : sizes es + es.length ≤ 3 * i + 2) (z : sizes es2 + e.size + es2.length ≤ sizes es + es.length + 4 ∧ (es ≠ [] → sizes es2 + e.size + es2.length ≤ sizes es + es.length + 2)) : sizes es2 + e.size + (es2.length + 1) ≤ 3 * (i + 1) + 2 := by
  rcases hne with h0 | h0
  · have hz0 : es = [] := List.length_eq_zero_iff.mp (by omega)
    subst hz0
    have := z.1
    simp only [sizes, List.length_nil] at this
    omega
  · have := z.2 h0
    omega
theorem sc_drawn : FnScope ["_law_cells", "_law_pile", "_law_k", "_law_cell", "_law_made", "_law_expr"] ["_law_cells"] (defScope st_law_drawn) := ⟨rfl, rfl, rfl, by decide +kernel, rfl, by decide +kernel, by decide +kernel⟩
theorem ok_drawn4 {f : Addr} {fd : FuncData} (F : Fun K "_law_drawn" "_law_drawn" st_law_drawn f fd) (B : Plain mg) (DL : DefOk P w K mg base 2 "_law_leaf" ["_law_cell"] (spLeaf K)) (DT : DefOk P w K mg base 3 "_law_taken" ["_law_pile", "_law_cell"] (spTaken4 K))
    (DC : DefOk P w K mg base 4 "_law_combined" ["_law_pile", "_law_cell"] (spCombined4 K)) : FnOk P w K mg base CX0 5 f fd ["_law_cells"] (spDrawn4 K) := by
  refine F.ok sc_drawn (fun vs H Q E h => ?_) (fun cdv A outer s H vs Q E hr h => ?_)
  · obtain ⟨a, ns, rfl, _⟩ := h; rfl
  obtain ⟨a, ns, rfl, hS, hlen, q⟩ := h
  have hr2 : Room 2 _ := hr.mono (by decide)
  have hr3 : Room 3 _ := hr.mono (by decide)
  refine ⟨_, pss_cons (ps_set (i := 1) sc_drawn.nd rfl (Or.inl rfl) (pe_lst pa_nil))
    (pss_cons (ps_for PassesOwn.never rfl (pi_range1 rfl B.range (pa_cons (pe_callB call_len_seq rfl B.len PySem.boot_len (pa_cons (pv 0) pa_nil)) pa_nil)) (pg_name (i := 2) sc_drawn.nd rfl (Or.inl rfl))
      (pss_cons (ps_set (i := 3) sc_drawn.nd rfl (Or.inl rfl) (pe_op op_add (pe_ix ix_list (pv 0) (pv 2) (fun _ _ => rfl)) (pe_op op_mul pe_int (pv 2))))
      (pss_one (ps_if (pt_cmpR op_lt (pe_hash (pv 3)) pe_int (nomark _))
        (pss_one (ps_expr (pe_bm PySem.F.plainAttrs_list PySem.F.slot_list_append PySem.F.type_list_append mt_append (pv 1) (pa_cons (pe_callD DL hr2 rfl (pa_cons (pe_op op_fdiv (pv 3) pe_int) pa_nil)) pa_nil))))
        (pss_cons (ps_set (i := 4) sc_drawn.nd rfl (Or.inl rfl) (pe_callD DC hr rfl (pa_cons (pv 1) (pa_cons (pv 3) pa_nil))))
        (pss_one (ps_expr (pe_bm PySem.F.plainAttrs_list PySem.F.slot_list_append PySem.F.type_list_append mt_append (pv 1) (pa_cons (pv 4) pa_nil)))))))))
    (pss_cons (ps_set (i := 5) sc_drawn.nd rfl (Or.inl rfl) (pe_callD DT hr3 rfl (pa_cons (pv 1) (pa_cons pe_int pa_nil))))
    (pss_cons (ps_while PassesOwn.never (pt_cmpR op_gt (pe_callB call_len_seq rfl B.len PySem.boot_len (pa_cons (pv 1) pa_nil)) pe_int (nomark _))
      (pss_one (ps_set (i := 5) sc_drawn.nd rfl (Or.inl rfl) (pe_tup (pa_cons pe_str (pa_cons (pe_tup pa_nil) (pa_cons (pe_tup (pa_cons (pe_bm0 PySem.F.plainAttrs_list PySem.F.slot_list_pop PySem.F.type_list_pop mt_pop (pv 1)) (pa_cons (pv 5) pa_nil))) pa_nil)))))))
    (pss_one (ps_ret (pv 5)))))), ?_⟩
  have hl : (ns.map V.int).length = ns.length := List.length_map _
  refine ⟨(by show 0 ≤ sizeLine; decide), fun p hp => ?_⟩
  have s0 : Same H (upd H p (.lst [])) := same_upd hp _
  refine ⟨_, rfl, _, _, rfl, .inl (s0.seq hS), _, rfl, (by rw [hl]; omega), (by rw [hl]; omega), for_range (fun i σ H1 => ∃ es x2 x3 x4, σ = [some (.ref a), some (.ref p), x2, x3, x4, none] ∧ Same H H1 ∧ Pile K H1 p es ∧ es.length ≤ i ∧ sizes es + es.length ≤ 3 * i + 2 ∧ (i = 0 ∨ es ≠ []))
    ⟨[], none, none, none, rfl, s0, ⟨⟨[], upd_same, .nil⟩, fun _ h => nomatch h⟩, Nat.le_refl _, by simp [sizes], .inl rfl⟩ ?_ ?_⟩
  · rintro i σ H1 hi ⟨es, x2, x3, x4, rfl, s1, PL, hle, hsz, hne⟩
    have hi' : i < ns.length := by simpa using hi
    obtain ⟨⟨vs, hpv, rpv⟩, wfs⟩ := id PL
    have hvl : vs.length = es.length := by rw [rpv.length, List.length_map]
    have hvl' : vs.length < sizeLine := by rw [hvl]; exact small1000 (by omega)
    refine ⟨_, rfl, _, rfl, a, _, _, .int (ns[i]), rfl, rfl, s1.seq hS, ?_, _, rfl, _, _, rfl, rfl, .inl ⟨by decide, by decide⟩, _, _, rfl, rfl, ?_⟩
    · show atI (ns.map V.int) (0 + (i : Int)) = _
      rw [Int.zero_add]
      exact atI_nat (by rw [List.getElem?_map, List.getElem?_eq_getElem hi']; rfl)
    refine ⟨_, rfl, _, rfl, _, _, rfl, rfl, _, rfl, ite2 (fun _ => ?_) (fun _ => ?_)⟩
    · refine ⟨_, rfl, .inl ⟨rfl, _, SqL.of hpv⟩, _, rfl, _, _, rfl, rfl, ⟨by decide, by decide⟩, _, rfl, fun v H2 e s2 we se re => ?_⟩
      have hp2 := s2 _ _ hpv
      refine ⟨p, vs, v, rfl, rfl, hp2, hvl', ?_⟩
      have sb : SameBut p H2 (upd H2 p (.lst (vs ++ [v]))) := SameBut.upd _
      refine ⟨es ++ [e], _, _, _, rfl, same_but (s1.trans s2) sb hp, ⟨⟨_, upd_same, ?_⟩, fun x hx => ?_⟩, by rw [List.length_append]; simp; omega, by rw [sizes_append, List.length_append]; simp [sizes]; omega, .inr (by simp)⟩
      · rw [List.map_append]
        exact (Reps.mono (sb.tup hp2) _ _ (Reps.mono (TupLe.of_same s2) _ _ rpv)).append (.one (Rep.mono (sb.tup hp2) _ _ re))
      · rcases List.mem_append.mp hx with h | h
        · exact wfs x h
        · rw [List.mem_singleton.mp h]; exact we
    · refine ⟨_, rfl, _, rfl, p, _, es, rfl, PL, fun v H2 e es2 b2 we P2 l2 z2 re => ?_⟩
      obtain ⟨⟨vs2, hp2, rp2⟩, wf2⟩ := id P2
      have hvl2 : vs2.length = es2.length := by rw [rp2.length, List.length_map]
      refine ⟨_, rfl, .inl ⟨rfl, _, SqL.of hp2⟩, _, rfl, p, vs2, v, rfl, rfl, hp2, by rw [hvl2]; exact small1000 (by omega), ?_⟩
      have sb : SameBut p H2 (upd H2 p (.lst (vs2 ++ [v]))) := SameBut.upd _
      refine ⟨es2 ++ [e], _, _, _, rfl, same_but s1 (b2.trans sb) hp, ⟨⟨_, upd_same, ?_⟩, fun x hx => ?_⟩, by rw [List.length_append]; simp; omega, by rw [sizes_append, List.length_append]; simp [sizes]; exact grown hne hle hsz z2, .inr (by simp)⟩
      · rw [List.map_append]
        exact (Reps.mono (sb.tup hp2) _ _ rp2).append (.one (Rep.mono (sb.tup hp2) _ _ re))
      · rcases List.mem_append.mp hx with h | h
        · exact wf2 x h
        · rw [List.mem_singleton.mp h]; exact we
  · rintro σ H1 ⟨es, x2, x3, x4, rfl, s1, PL, hle, hsz, hne⟩
    have hn : (((ns.map V.int).length : Nat) : Int).toNat = ns.length := by simp
    rw [hn] at hle hsz
    refine ⟨_, rfl, p, 0, es, rfl, PL, fun v H2 e es2 b2 we P2 l2 z2 re => ?_⟩
    have hP := PL.at_
    refine ⟨fun m σ H3 => ∃ es e v, m = es.length ∧ σ = [some (.ref a), some (.ref p), x2, x3, x4, some v] ∧ Same H H3 ∧ Pile K H3 p es ∧ Wf e ∧ Rep K H3 (py e) v ∧ e.size + sizes es + es.length ≤ 3 * ns.length + 3,
      ⟨_, es2, e, v, rfl, rfl, same_but s1 b2 hp, P2, we, re, by omega⟩, ?_⟩
    rintro m σ H3 ⟨es3, e3, v3, rfl, rfl, s3, P3, w3, r3, z3⟩
    obtain ⟨⟨vs3, hp3, rp3⟩, wf3⟩ := id P3
    have hvl3 : vs3.length = es3.length := by rw [rp3.length, List.length_map]
    refine ⟨_, rfl, _, _, rfl, .inl (SqL.of hp3), _, _, rfl, rfl, _, rfl, ite2 (fun c1 => ?_) (fun c1 => ?_)⟩
    · have hpos : (0 : Int) < (vs3.length : Nat) := of_decide_eq_true c1
      rcases nil_or_snoc es3 with e0 | ⟨es4, e4, rfl⟩
      · subst e0
        rw [hvl3] at hpos
        exact absurd hpos (by decide)
      rw [List.map_append, List.map_singleton] at rp3
      obtain ⟨ws, v4, rfl, rp4, rv4⟩ := rp3.snoc
      refine ⟨fun σ' H' => ∃ es e v, es.length < (es4 ++ [e4]).length ∧ σ' = [some (.ref a), some (.ref p), x2, x3, x4, some v] ∧ Same H H' ∧ Pile K H' p es ∧ Wf e ∧ Rep K H' (py e) v ∧ e.size + sizes es + es.length ≤ 3 * ns.length + 3,
        fun σ' H' ⟨es, e, v, g1, g2, g3, g4, g5, g6, g7⟩ => ⟨_, g1, es, e, v, rfl, g2, g3, g4, g5, g6, g7⟩, ?_⟩
      refine ⟨(by show 0 ≤ sizeLine; decide), fun p1 n1 => ?_⟩
      have s4 := same_upd n1 (.tup [])
      refine ⟨_, rfl, .inl ⟨rfl, _, SqL.of (s4 _ _ hp3)⟩, p, _, v4, rfl, rfl, s4 _ _ hp3, by simp, ?_⟩
      rw [List.dropLast_concat]
      have sb : SameBut p (upd H3 p1 (.tup [])) (upd (upd H3 p1 (.tup [])) p (.lst ws)) := SameBut.upd _
      have tl : TupLe K H3 (upd (upd H3 p1 (.tup [])) p (.lst ws)) := (TupLe.of_same s4).trans (sb.tup (s4 _ _ hp3))
      have hp1 : SqT K (upd (upd H3 p1 (.tup [])) p (.lst ws)) p1 [] := (sb.tup (s4 _ _ hp3)) _ _ (SqT.of upd_same)
      refine ⟨_, rfl, (by show 2 ≤ sizeLine; decide), fun p2 n2 => ⟨(by show 3 ≤ sizeLine; decide), fun p3 n3 => ?_⟩⟩
      have s5 := same_upd n2 (.tup [v4, v3])
      have s6 := same_upd n3 (.tup [.str "add", .ref p1, .ref p2])
      have tl6 := TupLe.of_same (K := K) (s5.trans s6)
      refine ⟨es4, nd "add" [] [e4, e3], .ref p3, by simp, rfl, (same_but (s3.trans s4) sb hp).trans (s5.trans s6), ⟨⟨ws, (s5.trans s6) _ _ upd_same, Reps.mono tl6 _ _ (Reps.mono tl _ _ rp4)⟩, fun x hx => wf3 x (by simp [hx])⟩, Wf.add (wf3 e4 (by simp)) w3, ?_, ?_⟩
      · rw [py_eq]
        refine .tuple (SqT.of upd_same) (.cons (.str _) (.cons (.tuple (tl6 _ _ hp1) .nil) (.one (.tuple (TupLe.of_same s6 _ _ (SqT.of upd_same)) (.cons (Rep.mono tl6 _ _ (Rep.mono tl _ _ rv4)) (.one (Rep.mono tl6 _ _ (Rep.mono tl _ _ r3))))))))
      · rw [sizes_append, List.length_append] at z3
        simp only [sizes, List.length_cons, List.length_nil] at z3
        rw [size_own]
        show sizes [e4, e3] + 1 + sizes es4 + es4.length ≤ 3 * ns.length + 3
        simp only [sizes]
        omega
    · refine ⟨_, rfl, ?_⟩
      exact q v3 H3 e3 s3 w3 (by omega) r3
theorem sc_low : FnScope ["_law_expr", "_law_place", "_law_part"] ["_law_expr", "_law_place"] (defScope st_law_low) := ⟨rfl, rfl, rfl, by decide +kernel, rfl, by decide +kernel, by decide +kernel⟩
theorem ok_low {f : Addr} {fd : FuncData} (F : Fun K "_law_low" "_law_low" st_law_low f fd) (B : Plain mg) (DP : DefOk P w K mg base 1 "_law_part_there" ["_law_expr", "_law_place"] (spThere K)) : FnOk P w K mg base CX0 2 f fd ["_law_expr", "_law_place"] (spLow K) := by
  refine F.ok sc_low (fun vs H Q E h => ?_) (fun cdv A outer s H vs Q E hr h => ?_)
  · obtain ⟨v, u, e, t, p, rfl, _⟩ := h; rfl
  obtain ⟨v, u, e, t, p, rfl, re, rp, hat, hb, q⟩ := h
  refine ⟨_, pss_cons (ps_set (i := 2) sc_low.nd rfl (Or.inl rfl) (pe_callD DP hr rfl (pa_cons (pv 0) (pa_cons (pv 1) pa_nil))))
    (pss_cons (ps_while PassesOwn.never (pt_cmpR op_gt (pe_callB call_len_seq rfl B.len PySem.boot_len (pa_cons (pe_ix ix_tup (pv 2) pe_int (fun _ _ => rfl)) pa_nil)) pe_int (nomark _))
      (pss_cons (ps_set (i := 1) sc_low.nd rfl (Or.inl rfl) pe_dat)
      (pss_one (ps_set (i := 2) sc_low.nd rfl (Or.inl rfl) (pe_ix ix_tup (pe_ix ix_tup (pv 2) pe_int (fun _ _ => rfl)) pe_int (fun _ _ => rfl))))))
    (pss_one (ps_ret (pv 1)))), ?_⟩
  refine ⟨_, rfl, _, rfl, v, u, e, t, p, rfl, re, rp, hat, fun w0 rt => ?_⟩
  have ht0 := at?_size hat
  refine ⟨fun m σ H1 => ∃ t' p' v' u', m = t'.size ∧ σ = [some v, some u', some v'] ∧ Same H H1 ∧ Rep K H1 (py t') v' ∧ Rep K H1 (plD p') u' ∧ p' ++ t'.low = p ++ t.low ∧ p'.length + t'.size ≤ 100000,
    ⟨_, t, p, w0, u, rfl, rfl, Same.refl H, rt, rp, rfl, by omega⟩, ?_⟩
  rintro m σ H1 ⟨t1, p1, v1, u1, rfl, rfl, s1, r1, rp1, e1, hb1⟩
  obtain ⟨a1, b1, c1, ms, os, rfl, g1, g2, g3, g4, g5⟩ := ex_open r1
  have hol : os.length = t1.own.length := by rw [g5.length, List.length_map]
  refine ⟨_, rfl, a1, _, _, .ref c1, rfl, rfl, g1, rfl, c1, os, rfl, .inr g4, _, _, rfl, rfl, _, rfl, ite2 (fun c => ?_) (fun c => ?_)⟩
  · have hpos : (0 : Int) < (os.length : Nat) := of_decide_eq_true c
    cases ho : t1.own with
    | nil => rw [hol, ho] at hpos; exact absurd hpos (by decide)
    | cons x r =>
      have hx0 : t1.own[0]? = some x := by rw [ho]; rfl
      obtain ⟨vx, hvx, rvx⟩ := own_rep g5 hx0
      refine ⟨fun σ' H' => ∃ t' p' v' u', t'.size < t1.size ∧ σ' = [some v, some u', some v'] ∧ Same H H' ∧ Rep K H' (py t') v' ∧ Rep K H' (plD p') u' ∧ p' ++ t'.low = p ++ t.low ∧ p'.length + t'.size ≤ 100000,
        fun σ' H' ⟨t', p', v', u', k1, k2, k3, k4, k5, k6, k7⟩ => ⟨_, k1, t', p', v', u', rfl, k2, k3, k4, k5, k6, k7⟩, ?_⟩
      have hsz : t1.size = x.size + sizes r + 1 := by rw [size_own, ho]; simp only [sizes]
      refine ⟨_, de_cat (de_var 1 rfl rp1) (de_tup (de_cons de_int de_nil)) (by rw [List.length_map]; exact Nat.le_trans (by simp; omega) (by decide : (100001 : Nat) ≤ sizeLine)), fun u2 H2 s2 r2 => ?_⟩
      have g1' := TupLe.of_same (K := K) s2 _ _ g1
      have g4' := TupLe.of_same (K := K) s2 _ _ g4
      refine ⟨_, rfl, a1, _, _, .ref c1, rfl, rfl, g1', rfl, c1, os, _, vx, rfl, rfl, g4', atI_nat hvx, ?_⟩
      refine ⟨x, p1 ++ [0], vx, u2, by omega, rfl, s1.trans s2, Rep.mono (TupLe.of_same s2) _ _ rvx, ?_, ?_, by rw [List.length_append]; simp; omega⟩
      · unfold plD; rw [List.map_append]; exact r2
      · rw [← e1, low_own t1, ho, lows_cons, List.append_assoc]; rfl
  · have hz : ¬ (0 : Int) < (os.length : Nat) := of_decide_eq_false (Bool.eq_false_iff.mpr c)
    have ho : t1.own = [] := by
      cases h : t1.own with
      | nil => rfl
      | cons x r => rw [hol, h] at hz; exact absurd (by simp) hz
    refine ⟨_, rfl, q u1 H1 s1 ?_⟩
    rw [← e1, low_own t1, ho]
    show Rep K H1 (plD (p1 ++ [])) u1
    rw [List.append_nil]
    exact rp1
theorem sc_next : FnScope ["_law_expr", "_law_place", "_law_upper", "_law_k"] ["_law_expr", "_law_place"] (defScope st_law_next) := ⟨rfl, rfl, rfl, by decide +kernel, rfl, by decide +kernel, by decide +kernel⟩
theorem ok_next {f : Addr} {fd : FuncData} (F : Fun K "_law_next" "_law_next" st_law_next f fd) (B : Plain mg) (DP : DefOk P w K mg base 1 "_law_part_there" ["_law_expr", "_law_place"] (spThere K)) (DW : DefOk P w K mg base 2 "_law_low" ["_law_expr", "_law_place"] (spLow K)) :
    FnOk P w K mg base CX0 3 f fd ["_law_expr", "_law_place"] (spNext K) := by
  refine F.ok sc_next (fun vs H Q E h => ?_) (fun cdv A outer s H vs Q E hr h => ?_)
  · obtain ⟨v, u, e, t, p, rfl, _⟩ := h; rfl
  obtain ⟨v, u, e, t, p, rfl, re, rp, hat, hne, hb, q⟩ := h
  refine ⟨_, pss_cons (ps_set (i := 2) sc_next.nd rfl (Or.inl rfl) (pe_slice sl_tup (pv 1) po_none (po_some (pe_un un_neg pe_int))))
    (pss_cons (ps_set (i := 3) sc_next.nd rfl (Or.inl rfl) (pe_op op_add (pe_ix ix_tup (pv 1) (pe_un un_neg pe_int) (fun _ _ => rfl)) pe_int))
    (pss_cons (ps_if (pt_cmpR op_lt (pv 3) (pe_callB call_len_seq rfl B.len PySem.boot_len (pa_cons (pe_ix ix_tup (pe_callD DP (hr.mono (by decide)) rfl (pa_cons (pv 0) (pa_cons (pv 2) pa_nil))) pe_int (fun _ _ => rfl)) pa_nil)) (nomark _))
      (pss_one (ps_ret (pe_callD DW hr rfl (pa_cons (pv 0) (pa_cons pe_dat pa_nil))))) pss_nil)
    (pss_one (ps_ret (pv 2))))), ?_⟩
  rcases nil_or_snoc p with e0 | ⟨pu, k, rfl⟩
  · exact absurd e0 hne
  obtain ⟨a, rfl, hq⟩ := pl_open rp
  have hxs : (pu ++ [k]).map (fun (k : Nat) => V.int (k : Int)) ≠ [] := by simp
  rw [at?_snoc] at hat
  cases hu : e.at? pu with
  | none => rw [hu] at hat; cases hat
  | some t1 =>
    rw [hu] at hat
    have hat' : t1.own[k]? = some t := hat
    refine ⟨_, rfl, _, rfl, _, rfl, a, _, rfl, hq, cut_not_init hxs, fun pp np => ?_⟩
    rw [cutV_init hxs, List.map_append, List.map_singleton, List.dropLast_concat]
    have s1 := same_upd np (.tup (pu.map fun (k : Nat) => V.int (k : Int)))
    have ru : Rep K (upd H pp (.tup (pu.map fun (k : Nat) => V.int (k : Int)))) (plD pu) (.ref pp) := pl_mk (SqT.of upd_same)
    have hq1 := TupLe.of_same (K := K) s1 _ _ hq
    refine ⟨_, rfl, _, rfl, a, _, _, .int (k : Int), rfl, rfl, hq1, ?_, _, _, rfl, rfl, ?_⟩
    · rw [List.map_append, List.map_singleton]; exact atI_last _ _
    have re1 := Rep.mono (TupLe.of_same s1) _ _ re
    refine ⟨_, rfl, _, rfl, _, rfl, v, .ref pp, e, t1, pu, rfl, re1, ru, hu, fun w1 rw1 => ?_⟩
    obtain ⟨a1, b1, c1, ms, os, rfl, g1, g2, g3, g4, g5⟩ := ex_open rw1
    have hol : os.length = t1.own.length := by rw [g5.length, List.length_map]
    refine ⟨a1, _, _, .ref c1, rfl, rfl, g1, rfl, c1, os, rfl, .inr g4, _, _, rfl, rfl, _, rfl, ite2 (fun c => ?_) (fun c => ?_)⟩
    · have hlt : (k : Int) + 1 < (os.length : Nat) := of_decide_eq_true c
      have hk1 : k + 1 < t1.own.length := by omega
      have hx : t1.own[k + 1]? = some (t1.own[k + 1]) := List.getElem?_eq_getElem hk1
      have hbl : (pu ++ [k]).length = pu.length + 1 := by simp
      refine ⟨_, rfl, _, de_cat (de_var 2 rfl ru) (de_tup (de_cons (de_var 3 rfl (Rep.int ((k : Int) + 1))) de_nil)) (by rw [List.length_map]; exact Nat.le_trans (by simp; omega) (by decide : (100001 : Nat) ≤ sizeLine)), fun u2 H2 s2 r2 => ?_⟩
      refine ⟨v, u2, e, t1.own[k + 1], pu ++ [k + 1], rfl, Rep.mono (TupLe.of_same s2) _ _ re1, ?_, by rw [at?_snoc, hu]; exact hx, by rw [hbl] at hb; simp; omega, fun w2 H3 s3 r3 => ?_⟩
      · unfold plD; rw [List.map_append]; exact r2
      · refine q w2 H3 (s1.trans (s2.trans s3)) ?_
        rw [nextP_snoc e pu k t1 hu, hx]
        exact r3
    · have hge : ¬ (k : Int) + 1 < (os.length : Nat) := of_decide_eq_false (Bool.eq_false_iff.mpr c)
      refine ⟨_, rfl, q _ _ s1 ?_⟩
      rw [nextP_snoc e pu k t1 hu, List.getElem?_eq_none (by omega)]
      exact ru
theorem sc_isplace : FnScope ["_law_found", "_law_k"] ["_law_found"] (defScope st_law_is_place) := ⟨rfl, rfl, rfl, by decide +kernel, rfl, by decide +kernel, by decide +kernel⟩
theorem ok_isplace {f : Addr} {fd : FuncData} (F : Fun K "_law_is_place" "_law_is_place" st_law_is_place f fd) (B : Plain mg) (DW : DefOk P w K mg base 1 "_law_whole" ["_law_found"] spWhole) : FnOk P w K mg base CX0 2 f fd ["_law_found"] (spIsPlace K) := by
  refine F.ok sc_isplace (fun vs H Q E h => ?_) (fun cdv A outer s H vs Q E hr h => ?_)
  · obtain ⟨u, p, rfl, _⟩ := h; rfl
  obtain ⟨u, p, rfl, rp, q⟩ := h
  refine ⟨_, pss_cons (ps_if (pt_not (pt_val (pe_isinst rfl B.isinstance rfl B.tuple PyProof.Rows.boot_tuple (pv 0)))) (pss_one (ps_ret pe_bl)) pss_nil)
    (pss_cons (ps_for PassesOwn.never rfl (pi_tup (pv 0)) (pg_name (i := 1) sc_isplace.nd rfl (Or.inl rfl)) (pss_one (ps_if (pt_not (pt_val (pe_callD DW hr rfl (pa_cons (pv 1) pa_nil)))) (pss_one (ps_ret pe_bl)) pss_nil)))
    (pss_one (ps_ret pe_bl))), ?_⟩
  obtain ⟨a, rfl, hq⟩ := pl_open rp
  refine ⟨_, rfl, _, _, _, true, rfl, .sqT hq, rfl, true, rfl, iteF ?_⟩
  refine ⟨_, rfl, a, rfl, ⟨_, hq⟩, for_tup (fun i σ H' => H' = H ∧ ∃ x1, σ = [some (.ref a), x1]) ⟨rfl, none, rfl⟩ (fun i σ H' _ h => by obtain ⟨rfl, _⟩ := h; exact hq) ?_ ?_⟩
  · rintro i x σ H' hi ⟨rfl, x1, rfl⟩
    rw [List.getElem?_map] at hi
    cases hk : p[i]? with
    | none => rw [hk] at hi; cases hi
    | some k =>
      rw [hk] at hi
      have ex : x = .int (k : Int) := (Option.some.inj hi).symm
      subst ex
      exact ⟨_, rfl, _, rfl, true, rfl, iteF ⟨rfl, _, rfl⟩⟩
  · rintro σ H' ⟨rfl, x1, rfl⟩
    exact q
theorem sc_order : FnScope ["expr", "waiting", "backwards", "pair", "number", "own"] ["expr"] (defScope st_in_order) := ⟨rfl, rfl, rfl, by decide +kernel, rfl, by decide +kernel, by decide +kernel⟩
theorem ok_orderT {f : Addr} {fd : FuncData} (F : Fun K "in_order" "in_order" st_in_order f fd) (B : Plain mg) : FnOk P w K mg base CX0 1 f fd ["expr"] (spOrderT K) := by
  refine F.ok sc_order (fun vs H Q E h => ?_) (fun cdv A outer s H vs Q E hr h => ?_)
  · obtain ⟨v, e, rfl, _⟩ := h; rfl
  obtain ⟨v, e, rfl, re, hz, q⟩ := h
  refine ⟨_, pss_cons (ps_set (i := 1) sc_order.nd rfl (Or.inl rfl) (pe_lst (pa_cons (pe_tup (pa_cons (@pe_tup _ _ _ _ _ pa_nil) (pa_cons (pv 0) pa_nil))) pa_nil)))
    (pss_cons (ps_set (i := 2) sc_order.nd rfl (Or.inl rfl) (pe_lst pa_nil))
    (pss_cons (ps_while PassesOwn.never (pt_truth (pv 1) (fun _ => rfl))
      (pss_cons (ps_set (i := 3) sc_order.nd rfl (Or.inl rfl) (pe_bm0 PySem.F.plainAttrs_list PySem.F.slot_list_pop PySem.F.type_list_pop mt_pop (pv 1)))
      (pss_cons (ps_expr (pe_bm PySem.F.plainAttrs_list PySem.F.slot_list_append PySem.F.type_list_append mt_append (pv 2) (pa_cons (pv 3) pa_nil)))
      (pss_one (ps_for PassesOwn.never rfl (pi_enumT rfl B.enumerate (pa_cons (pe_ix ix_tup (pe_ix ix_tup (pv 3) pe_int (fun _ _ => rfl)) pe_int (fun _ _ => rfl)) pa_nil))
        (pg_tup rfl (pgs_cons (pg_name (i := 4) sc_order.nd rfl (Or.inl rfl)) (pgs_cons (pg_name (i := 5) sc_order.nd rfl (Or.inl rfl)) pgs_nil)))
        (pss_one (ps_expr (pe_bm PySem.F.plainAttrs_list PySem.F.slot_list_append PySem.F.type_list_append mt_append (pv 1) (pa_cons (pe_tup (pa_cons (pe_op op_catT' (pe_ix ix_tup (pv 3) pe_int (fun _ _ => rfl)) (pe_tup (pa_cons (pv 4) pa_nil))) (pa_cons (pv 5) pa_nil))) pa_nil)))))))))
    (pss_one (ps_ret (pe_listRev rfl rfl B.list rfl B.reversed (pa_cons (pv 2) pa_nil)))))), ?_⟩
  refine ⟨by show 0 ≤ sizeLine; decide, fun pa na => ⟨v, rfl, by show 2 ≤ sizeLine; decide, fun pb nb => ⟨by show 1 ≤ sizeLine; decide, fun wa nw => ?_⟩⟩⟩
  have sA := same_upd na (.tup [])
  have hpa : (upd H pa (.tup [])) pa = some (.tup []) := upd_same
  generalize upd H pa (.tup []) = HA at sA hpa nb nw ⊢
  have sB := same_upd nb (.tup [.ref pa, v])
  have hpb : (upd HA pb (.tup [.ref pa, v])) pb = some (.tup [.ref pa, v]) := upd_same
  generalize upd HA pb (.tup [.ref pa, v]) = HB at sB hpb nw ⊢
  have sC := same_upd nw (.lst [.ref pb])
  have s1 : Same H (upd HB wa (.lst [.ref pb])) := (sA.trans sB).trans sC
  have hw1 : (upd HB wa (.lst [.ref pb])) wa = some (.lst [.ref pb]) := upd_same
  have rp1 : PrTs K (upd HB wa (.lst [.ref pb])) [([], e)] [.ref pb] := .one ⟨pb, pa, v, rfl, SqT.of (sC _ _ hpb), sC _ _ (sB _ _ hpa), Rep.mono (TupLe.of_same s1) _ _ re⟩
  have nwH : H wa = none := (sA.trans sB).free nw
  generalize upd HB wa (.lst [.ref pb]) = H1 at s1 hw1 rp1 ⊢
  refine ⟨(by show 0 ≤ sizeLine; decide), fun b nb => ?_⟩
  have s2 := same_upd nb (.lst [])
  have hwb : wa ≠ b := ne_of_none hw1 nb
  have nbH : H b = none := s1.free nb
  refine ⟨fun m σ H2 => ∃ st bs ws bv x3 x4 x5, m = total st ∧ σ = [some v, some (.ref wa), some (.ref b), x3, x4, x5] ∧ Same H H2 ∧ H2 wa = some (.lst ws) ∧ H2 b = some (.lst bv) ∧ PrTs K H2 st.reverse ws ∧ PrTs K H2 bs bv ∧ bs ++ st.flatMap revP = e.post.reverse,
    ⟨_, [([], e)], [], _, [], none, none, none, rfl, rfl, s1.trans s2, s2 _ _ hw1, upd_same, rp1.ext (Ext.of_same s2), .nil, start_inv e⟩, ?_⟩
  rintro m σ H2 ⟨st, bs, ws, bv, x3, x4, x5, rfl, rfl, sm, hw, hbv, rw0, rb0, inv⟩
  have lenB : bs.length + total st = e.size := by
    have h1 := congrArg List.length inv
    rw [List.length_append, List.length_reverse, post_length] at h1
    have h2 : (st.flatMap revP).length = total st := by
      clear inv h1 rw0
      induction st with
      | nil => rfl
      | cons x r ih => rw [List.flatMap_cons, List.length_append, ih, total_cons]; simp [revP, post_length]
    omega
  have hwl : ws.length = st.length := by rw [rw0.1, List.length_reverse]
  have hbl : bv.length = bs.length := rb0.1
  have hst := length_le_total st
  have big : ∀ {n : Nat}, n ≤ 1000001 → n < sizeLine := fun h => Nat.lt_of_le_of_lt h (by decide)
  refine ⟨_, rfl, _, .inl ⟨ws, SqL.of hw, rfl⟩, ?_⟩
  cases st with
  | nil =>
    have ew : ws = [] := by cases ws with | nil => rfl | cons _ _ => simp at hwl
    subst ew
    refine iteF ?_
    refine ⟨_, rfl, b, bv, rfl, SqL.of hbv, fun r nr => ?_⟩
    have s3 := same_upd nr (.lst bv.reverse)
    refine q r _ _ (sm.trans s3) (sm.free nr) upd_same (PrTs.ext (Ext.of_same s3) ?_)
    have hr := rb0.reverse
    have e1 : bs = e.post.reverse := by simpa using inv
    rw [e1, List.reverse_reverse] at hr
    exact hr
  | cons x st =>
    obtain ⟨p, t⟩ := x
    rw [List.reverse_cons] at rw0
    obtain ⟨ws', xv, rfl, rwp, rx⟩ := rw0.snoc
    have nonempty : (!(ws' ++ [xv]).isEmpty) = true := by simp
    rw [nonempty]
    refine iteT ?_
    refine ⟨fun σ' H' => ∃ st' bs ws bv x3 x4 x5, total st' < total ((p, t) :: st) ∧ σ' = [some v, some (.ref wa), some (.ref b), x3, x4, x5] ∧ Same H H' ∧ H' wa = some (.lst ws) ∧ H' b = some (.lst bv) ∧ PrTs K H' st'.reverse ws ∧ PrTs K H' bs bv ∧ bs ++ st'.flatMap revP = e.post.reverse,
      fun σ' H' ⟨st', bs, ws, bv, y3, y4, y5, k1, k2, k3, k4, k5, k6, k7, k8⟩ => ⟨_, k1, st', bs, ws, bv, y3, y4, y5, rfl, k2, k3, k4, k5, k6, k7, k8⟩, ?_⟩
    refine ⟨_, rfl, .inl ⟨rfl, _, SqL.of hw⟩, wa, _, xv, rfl, rfl, hw, by simp, ?_⟩
    rw [List.dropLast_concat]
    have b3 : SameBut wa H2 (upd H2 wa (.lst ws')) := SameBut.upd _
    have x3' : Ext H2 (upd H2 wa (.lst ws')) := Ext.write hw _
    have hb3 : (upd H2 wa (.lst ws')) b = some (.lst bv) := b3 _ _ (Ne.symm hwb) hbv
    rw [total_cons] at lenB hst
    have htp := t.size_pos
    have hst2 := length_le_total st
    simp only at lenB
    refine ⟨_, rfl, .inl ⟨rfl, _, SqL.of hb3⟩, _, rfl, b, bv, xv, rfl, rfl, hb3, big (by omega), ?_⟩
    have b4 : SameBut b (upd H2 wa (.lst ws')) (upd (upd H2 wa (.lst ws')) b (.lst (bv ++ [xv]))) := SameBut.upd _
    have x4' : Ext (upd H2 wa (.lst ws')) (upd (upd H2 wa (.lst ws')) b (.lst (bv ++ [xv]))) := Ext.write hb3 _
    generalize hH4 : upd (upd H2 wa (.lst ws')) b (.lst (bv ++ [xv])) = H4 at b4 x4' ⊢
    have xe4 : Ext H2 H4 := fun c o h1 h2 => x4' c o (x3' c o h1 h2) h2
    have sm4 : Same H H4 := same_but (same_but sm b3 nwH) b4 nbH
    have hw4 : H4 wa = some (.lst ws') := b4 _ _ hwb upd_same
    have hb4 : H4 b = some (.lst (bv ++ [xv])) := by rw [← hH4]; exact upd_same
    obtain ⟨a, pu, tv, rfl, ga, gu, rtv⟩ := rx.ext xe4
    obtain ⟨a1, b1, c1, ms, os, rfl, g1, g2, g3, g4, g5⟩ := ex_open rtv
    have hol : os.length = t.own.length := by rw [g5.length, List.length_map]
    have htz : t.size = sizes t.own + 1 := size_own t
    have hown := length_le_sizes t.own
    have hpl : p.length ≤ 1000000 := by
      have hm : (p, t) ∈ e.post.reverse := by rw [← inv, List.flatMap_cons, revP_eq]; simp
      have := at?_size (post_at e (p, t) (List.mem_reverse.mp hm))
      simp only at this
      omega
    refine ⟨_, rfl, a, _, _, .ref a1, rfl, rfl, ga, rfl, a1, _, _, .ref c1, rfl, rfl, g1, rfl, c1, os, rfl, g4, for_enum (xs := os) (fun i σ H5 => ∃ ws5 x4 x5, σ = [some v, some (.ref wa), some (.ref b), some (.ref a), x4, x5] ∧ Same H H5 ∧ Ext H4 H5 ∧ H5 wa = some (.lst ws5) ∧ H5 b = some (.lst (bv ++ [.ref a])) ∧
        PrTs K H5 (st.reverse ++ kids p 0 (t.own.take i)) ws5)
      ⟨ws', x4, x5, rfl, sm4, Ext.of_same (Same.refl _), hw4, hb4, by rw [List.take_zero, kids, List.append_nil]; exact rwp.ext xe4⟩ (fun i σ H5 _ ⟨_, _, _, _, _, xe, _⟩ => TupLe.of_ext xe _ _ g4) ?_ ?_⟩
    · rintro i x σ H5 pn hi ⟨ws5, y4, y5, rfl, s5, xe5, hw5, hb5, rw5⟩ hpn
      have hit : i < t.own.length := by rw [← hol]; exact (List.getElem?_eq_some_iff.mp hi).1
      have htk : t.own[i]? = some t.own[i] := List.getElem?_eq_getElem hit
      obtain ⟨xv2, hx2, rx2⟩ := own_rep g5 htk
      rw [hi] at hx2
      cases hx2
      have s6 := same_upd hpn (.tup [.int i, x])
      have xe6 : Ext H4 (upd H5 pn (.tup [.int i, x])) := fun c o h1 h2 => s6 _ _ (xe5 c o h1 h2)
      refine ⟨pn, _, rfl, SqT.of upd_same, rfl, _, _, rfl, _, _, rfl, rfl, ?_⟩
      have hw6 := s6 _ _ hw5
      have hb6 := s6 _ _ hb5
      generalize upd H5 pn (.tup [.int i, x]) = H6 at s6 xe6 hw6 hb6 ⊢
      have ga6 := TupLe.of_ext (K := K) xe6 _ _ ga
      have gu6 := xe6 _ _ gu (fun _ z => nomatch z)
      have rx6 := Rep.mono (TupLe.of_ext xe6) _ _ rx2
      have hlen5 : ws5.length = st.length + i := by
        rw [rw5.1, List.length_append, List.length_reverse]
        have : ∀ (r : List Ex) (k : Nat), (kids p k r).length = r.length := by
          intro r
          induction r with
          | nil => intro k; rfl
          | cons y r ih => intro k; rw [kids, List.length_cons, List.length_cons, ih]
        rw [this, List.length_take]; omega
      have klen : ((kP p).map kV).length = p.length := by simp [kP]
      refine ⟨_, rfl, .inl ⟨rfl, _, SqL.of hw6⟩, _, rfl, a, _, _, _, rfl, rfl, ga6, rfl, _, rfl, by show 1 ≤ sizeLine; decide, fun pc nc => ?_⟩
      have s7 := same_upd nc (.tup [.int i])
      have hpc : (upd H6 pc (.tup [.int i])) pc = some (.tup [.int i]) := upd_same
      generalize upd H6 pc (.tup [.int i]) = H7 at s7 hpc ⊢
      refine cat_trk (SqT.of (s7 _ _ gu6)) hpc (by simp) (by rw [klen]; exact Nat.le_of_lt (big (by simp; omega))) fun pd H8 s8 hpd => ⟨x, rfl, by show 2 ≤ sizeLine; decide, fun pe ne => ?_⟩
      have s9 := same_upd ne (.tup [.ref pd, x])
      have hpe : (upd H8 pe (.tup [.ref pd, x])) pe = some (.tup [.ref pd, x]) := upd_same
      have s69 := (s7.trans s8).trans s9
      have hpd9 := s9 _ _ hpd
      generalize upd H8 pe (.tup [.ref pd, x]) = H9 at s9 hpe s69 hpd9 ⊢
      have hw9 := s69 _ _ hw6
      refine ⟨wa, ws5, .ref pe, rfl, rfl, hw9, big (by omega), ?_⟩
      have bA : SameBut wa H9 (upd H9 wa (.lst (ws5 ++ [.ref pe]))) := SameBut.upd _
      have xA : Ext H9 (upd H9 wa (.lst (ws5 ++ [.ref pe]))) := Ext.write hw9 _
      have x5A : Ext H5 (upd H9 wa (.lst (ws5 ++ [.ref pe]))) := fun c o h1 h2 => xA c o (s69 _ _ (s6 _ _ h1)) h2
      refine ⟨_, _, _, rfl, same_but (s5.trans (s6.trans s69)) bA nwH, fun c o h1 h2 => x5A c o (xe5 c o h1 h2) h2, upd_same, bA _ _ (Ne.symm hwb) (s69 _ _ hb6), ?_⟩
      have ek : kids p 0 (t.own.take (i + 1)) = kids p 0 (t.own.take i) ++ [(p ++ [i], t.own[i])] := by
        rw [List.take_add_one, htk]
        show kids p 0 (t.own.take i ++ [t.own[i]]) = _
        rw [kids_snoc, List.length_take, Nat.min_eq_left (by omega)]
        simp
      rw [ek, ← List.append_assoc]
      refine (rw5.ext x5A).append (.one ⟨pe, pd, x, rfl, SqT.of (xA _ _ hpe (fun _ z => nomatch z)), ?_, Rep.mono ((TupLe.of_same s69).trans (TupLe.of_ext xA)) _ _ rx6⟩)
      refine xA _ _ ?_ (fun _ z => nomatch z)
      show H9 pd = some (.tup ((kP (p ++ [i])).map kV))
      rw [hpd9]
      simp [kP, kV]
    · rintro σ H5 ⟨ws5, y4, y5, rfl, s5, xe5, hw5, hb5, rw5⟩
      rw [List.take_of_length_le (by omega)] at rw5
      refine ⟨(kids p 0 t.own).reverse ++ st, bs ++ [(p, t)], ws5, _, _, _, _, ?_, rfl, s5, hw5, hb5, ?_, ?_, ?_⟩
      · rw [total_append, total_reverse, total_kids, total_cons]; simp only; omega
      · rw [List.reverse_append, List.reverse_reverse]; exact rw5
      · exact (rb0.ext (fun c o h1 h2 => xe5 c o (xe4 c o h1 h2) h2)).append (.one ⟨a, pu, _, rfl, TupLe.of_ext xe5 _ _ ga, xe5 _ _ gu (fun _ z => nomatch z), Rep.mono (TupLe.of_ext xe5) _ _ rtv⟩)
      · rw [List.flatMap_cons, revP_eq] at inv
        rw [List.flatMap_append, List.append_assoc, ← inv]
        simp
theorem sc_samek : FnScope ["first", "second", "waiting", "pair"] ["first", "second"] (defScope st_same_kind) := ⟨rfl, rfl, rfl, by decide +kernel, rfl, by decide +kernel, by decide +kernel⟩
theorem kd_open {H : Hp} {k : Kd} {v : V} (h : Rep K H (kdD k) v) : ∃ a vs, v = .ref a ∧ SqT K H a (.str (kw k) :: vs) ∧ Reps K H ((kids' k).map kdD) vs := by
  rw [kdD_eq] at h
  obtain ⟨a, ws, rfl, hq, rp⟩ := h.untuple
  obtain ⟨v1, r, rfl, e1, e2⟩ := rp.split
  obtain rfl := e1.is_str
  exact ⟨a, r, rfl, hq, e2⟩
theorem kpair_open {H : Hp} {x : Kd × Kd} {v : V} (h : Rep K H (kpair x) v) : ∃ a u w, v = .ref a ∧ SqT K H a [u, w] ∧ Rep K H (kdD x.1) u ∧ Rep K H (kdD x.2) w := by
  obtain ⟨a, vs, rfl, hq, rp⟩ := Rep.untuple h
  obtain ⟨v1, r1, rfl, e1, rp⟩ := rp.split
  obtain ⟨v2, r2, rfl, e2, rp⟩ := rp.split
  rw [Reps] at rp
  subst rp
  exact ⟨a, v1, v2, rfl, hq, e1, e2⟩
theorem ix0 (x : V) (l : List V) : atI (x :: l) 0 = some x := (show atI (x :: l) ((0 : Nat) : Int) = some x from atI_nat rfl)
theorem cut1 (x : V) (vs : List V) : cutV (x :: vs) (some 1) none = vs := by
  unfold cutV
  rw [show (1 : Int) = ((1 : Nat) : Int) from rfl, HT.sIx_nat, HT.sIx_none]
  have e : min 1 (x :: vs).length = 1 := by simp
  rw [e, List.drop_succ_cons, List.drop_zero, List.take_of_length_le (by simp)]
theorem zip_reps {H : Hp} : ∀ {ks ms : List Kd} {xs ys zs : List V}, ks.length = ms.length → Reps K H (ks.map kdD) xs → Reps K H (ms.map kdD) ys → zs.length = ks.length → (∀ (j : Nat) z, zs[j]? = some z → ∃ p x y, z = V.ref p ∧ SqT K H p [x, y] ∧ xs[j]? = some x ∧ ys[j]? = some y) → Reps K H ((ks.zip ms).map kpair) zs
  | [], [], xs, ys, zs, _, _, _, hl, _ => by
    have e : zs = [] := List.length_eq_zero_iff.mp hl
    subst e
    exact .nil
  | [], _ :: _, _, _, _, h, _, _, _, _ => by simp at h
  | _ :: _, [], _, _, _, h, _, _, _, _ => by simp at h
  | k :: ks, m :: ms, xs, ys, [], _, _, _, hl, _ => by simp at hl
  | k :: ks, m :: ms, xs, ys, z :: zs, h, rx, ry, hl, hp => by
    rw [List.map_cons] at rx ry
    obtain ⟨x, xs', rfl, e1, e2⟩ := rx.split
    obtain ⟨y, ys', rfl, f1, f2⟩ := ry.split
    obtain ⟨p, x1, y1, rfl, hq, g1, g2⟩ := hp 0 z rfl
    have ex : x = x1 := by simpa using g1
    have ey : y = y1 := by simpa using g2
    subst ex ey
    rw [List.zip_cons_cons, List.map_cons]
    refine .cons (.tuple hq (.cons e1 (.one f1))) (zip_reps (by simpa using h) e2 f2 (by simpa using hl) fun j z hj => ?_)
    obtain ⟨p', x', y', a1, a2, a3, a4⟩ := hp (j + 1) z (by simpa using hj)
    exact ⟨p', x', y', a1, a2, by simpa using a3, by simpa using a4⟩
theorem ok_samek {f : Addr} {fd : FuncData} (F : Fun K "same_kind" "same_kind" st_same_kind f fd) (B : Plain mg) (B2 : Plain2 mg) : FnOk P w K mg base CX0 1 f fd ["first", "second"] (spSameKind K) := by
  refine F.ok sc_samek (fun vs H Q E h => ?_) (fun cdv A outer s H vs Q E hr h => ?_)
  · obtain ⟨v, u, k, m, rfl, _⟩ := h; rfl
  obtain ⟨v, u, k, m, rfl, rv, ru, hz, fin⟩ := h
  refine ⟨_, pss_cons (ps_set (i := 2) sc_samek.nd rfl (Or.inl rfl) pe_lstD)
    (pss_cons (ps_while PassesOwn.never (pt_truth (pv 2) (fun _ => rfl))
      (pss_cons (ps_set (i := 3) sc_samek.nd rfl (Or.inl rfl) (pe_bm0 PySem.F.plainAttrs_list PySem.F.slot_list_pop PySem.F.type_list_pop mt_pop (pv 2)))
      (pss_cons (ps_if (pt_cmpR op_ne (pe_ix ix_tup (pe_ix ix_tup (pv 3) pe_int (fun _ _ => rfl)) pe_int (fun _ _ => rfl)) (pe_ix ix_tup (pe_ix ix_tup (pv 3) pe_int (fun _ _ => rfl)) pe_int (fun _ _ => rfl)) (nomark _)) (pss_one (ps_ret pe_bl)) pss_nil)
      (pss_one (ps_expr (pe_bm PySem.F.plainAttrs_list PySem.F.slot_list_extend PySem.F.type_list_extend mt_extend (pv 2) (pa_cons (pe_listIt rfl rfl B.list (pil_zipT rfl B2.zip (pa_cons (pe_slice sl_tup (pe_ix ix_tup (pv 3) pe_int (fun _ _ => rfl)) (po_some pe_int) po_none) (pa_cons (pe_slice sl_tup (pe_ix ix_tup (pv 3) pe_int (fun _ _ => rfl)) (po_some pe_int) po_none) pa_nil)))) pa_nil)))))))
    (pss_one (ps_ret pe_bl))), ?_⟩
  refine ⟨_, de_cons (de_tup (de_cons (de_var 0 rfl rv) (de_cons (de_var 1 rfl ru) de_nil))) de_nil, by show 1 ≤ 1000; decide, fun wa H1 ws1 nwa s1 hw1 rp1 => ?_⟩
  have big : ∀ {n : Nat}, n ≤ 100001 → n < sizeLine := fun h => Nat.lt_of_le_of_lt h (by decide)
  refine ⟨fun c σ H2 => ∃ st ws x3, c = ksizes st ∧ σ = [some v, some u, some (.ref wa), x3] ∧ Same H H2 ∧ H2 wa = some (.lst ws) ∧ Reps K H2 (st.map kpair) ws ∧ ksizes st ≤ 100000 ∧ ((∀ x ∈ st, x.1 = x.2) ↔ k = m),
    ⟨_, [(k, m)], ws1, none, rfl, rfl, s1, hw1, rp1, by simp only [ksizes]; omega, by simp⟩, ?_⟩
  rintro c σ H2 ⟨st, ws, x3, rfl, rfl, s2, hw, rw0, hsz, inv⟩
  have hwl : ws.length = st.length := by rw [rw0.length, List.length_map]
  refine ⟨_, rfl, _, .inl ⟨ws, SqL.of hw, rfl⟩, ?_⟩
  rcases nil_or_snoc st with e0 | ⟨st', ⟨k1, m1⟩, rfl⟩
  · subst e0
    have e : ws = [] := List.length_eq_zero_iff.mp (by rw [hwl]; rfl)
    subst e
    refine iteF ?_
    have := fin H2 s2
    rw [decide_eq_true (inv.mp (by simp))] at this
    exact this
  rw [List.map_append, List.map_singleton] at rw0
  obtain ⟨ws', xv, rfl, rw1, rx⟩ := rw0.snoc
  have hs1 : ksizes (st' ++ [(k1, m1)]) = ksizes st' + (ksize k1 + ksize m1) := by rw [ksizes_append]; simp only [ksizes]; omega
  have tr : (!(ws' ++ [xv]).isEmpty) = true := by simp
  rw [tr]
  refine iteT ?_
  refine ⟨fun σ' H' => ∃ st2 ws2 y3, ksizes st2 < ksizes (st' ++ [(k1, m1)]) ∧ σ' = [some v, some u, some (.ref wa), y3] ∧ Same H H' ∧ H' wa = some (.lst ws2) ∧ Reps K H' (st2.map kpair) ws2 ∧ ksizes st2 ≤ 100000 ∧ ((∀ x ∈ st2, x.1 = x.2) ↔ k = m),
    fun σ' H' ⟨st2, ws2, y3, a1, a2, a3, a4, a5, a6, a7⟩ => ⟨_, a1, st2, ws2, y3, rfl, a2, a3, a4, a5, a6, a7⟩, ?_⟩
  refine ⟨_, rfl, .inl ⟨rfl, _, SqL.of hw⟩, wa, _, xv, rfl, rfl, hw, by simp, ?_⟩
  rw [List.dropLast_concat]
  have b3 : SameBut wa H2 (upd H2 wa (.lst ws')) := SameBut.upd _
  have t3 := b3.tup (K := K) hw
  have s3 : Same H (upd H2 wa (.lst ws')) := same_but s2 b3 nwa
  have h3 : (upd H2 wa (.lst ws')) wa = some (.lst ws') := upd_same
  generalize upd H2 wa (.lst ws') = H3 at b3 t3 s3 h3 ⊢
  obtain ⟨a, x, y, rfl, ga, rx1, ry1⟩ := kpair_open (Rep.mono t3 _ _ rx)
  have rw3 := Reps.mono t3 _ _ rw1
  obtain ⟨ka, kvs, rfl, gk, rk⟩ := kd_open rx1
  obtain ⟨ma, mvs, rfl, gm, rm⟩ := kd_open ry1
  refine ⟨_, rfl, a, _, _, _, rfl, rfl, ga, rfl, ka, _, _, .str (kw k1), rfl, rfl, gk, ix0 _ _, _, rfl, a, _, _, _, rfl, rfl, ga, rfl, ma, _, _, .str (kw m1), rfl, rfl, gm, ix0 _ _, rfl, _, rfl, ite2 (fun c1 => ?_) (fun c1 => ?_)⟩
  · have hne : ¬ kw k1 = kw m1 := fun e => by
      rw [decide_eq_true (congrArg V.str e)] at c1
      exact absurd c1 (by decide)
    have hkm : ¬ k = m := fun e => by
      have := inv.mpr e (k1, m1) (by simp)
      exact hne (congrArg kw this)
    have := fin H3 s3
    rw [decide_eq_false hkm] at this
    exact this
  · have hkw : kw k1 = kw m1 := by
      have c2 : (!decide (V.str (kw k1) = V.str (kw m1))) = false := Bool.eq_false_iff.mpr c1
      have c3 : decide (V.str (kw k1) = V.str (kw m1)) = true := by simpa using c2
      exact V.str.inj (of_decide_eq_true c3)
    have hkl := kids_len hkw
    have lk : kvs.length = (kids' k1).length := by rw [rk.length, List.length_map]
    have lm : mvs.length = (kids' m1).length := by rw [rm.length, List.length_map]
    have hks := ksizes_kids hkw
    have hkz := ksizes_len ((kids' k1).zip (kids' m1))
    have hstz := ksizes_len st'
    have zl : ((kids' k1).zip (kids' m1)).length = (kids' k1).length := by rw [List.length_zip, hkl, Nat.min_self]
    refine ⟨_, rfl, .inl ⟨rfl, _, SqL.of h3⟩, _, rfl, a, _, _, _, rfl, rfl, ga, rfl, _, rfl, ka, _, rfl, gk, ?_, fun p4 n4 => ?_⟩
    · rw [show (1 : Int) = ((1 : Nat) : Int) from rfl, HT.sIx_nat]; intro z; have := z.1; simp at this
    have s4 := same_upd n4 (.tup (cutV (.str (kw k1) :: kvs) (some 1) none))
    have h4 : (upd H3 p4 (.tup (cutV (.str (kw k1) :: kvs) (some 1) none))) p4 = some (.tup kvs) := by rw [upd_same, cut1]
    generalize upd H3 p4 (.tup (cutV (.str (kw k1) :: kvs) (some 1) none)) = H4 at s4 h4 ⊢
    have t4 := TupLe.of_same (K := K) s4
    refine ⟨_, rfl, a, _, _, _, rfl, rfl, t4 _ _ ga, rfl, _, rfl, ma, _, rfl, t4 _ _ gm, ?_, fun p5 n5 => ?_⟩
    · rw [show (1 : Int) = ((1 : Nat) : Int) from rfl, HT.sIx_nat]; intro z; have := z.1; simp at this
    have s5 := same_upd n5 (.tup (cutV (.str (kw m1) :: mvs) (some 1) none))
    have h5 : (upd H4 p5 (.tup (cutV (.str (kw m1) :: mvs) (some 1) none))) p5 = some (.tup mvs) := by rw [upd_same, cut1]
    generalize upd H4 p5 (.tup (cutV (.str (kw m1) :: mvs) (some 1) none)) = H5 at s5 h5 ⊢
    have t5 := TupLe.of_same (K := K) s5
    have s35 := s4.trans s5
    refine ⟨p4, p5, kvs, mvs, rfl, SqT.of (s5 _ _ h4), SqT.of h5, ?_⟩
    refine list_zip (fun (i : Nat) (zs : List V) (H6 : Hp) => Same H5 H6 ∧ zs.length = i ∧ ∀ (j : Nat) (z : V), zs[j]? = some z → ∃ (p : Addr) (x y : V), z = V.ref p ∧ SqT K H6 p [x, y] ∧ kvs[j]? = some x ∧ mvs[j]? = some y)
      (by rw [lk, lm, hkl]) (big (by omega)) ⟨Same.refl _, rfl, fun j z hj => by simp at hj⟩ (fun i zs H6 ⟨sm, hl, _⟩ => ⟨SqT.of (sm _ _ (s5 _ _ h4)), SqT.of (sm _ _ h5), hl⟩) ?_ ?_
    · rintro i zs H6 p x y ⟨sm, hl, hp⟩ hx hy np
      have s6 := same_upd np (.tup [x, y])
      refine ⟨sm.trans s6, by rw [List.length_append, hl]; rfl, fun j z hj => ?_⟩
      by_cases hlt : j < zs.length
      · rw [List.getElem?_append_left hlt] at hj
        obtain ⟨p', x', y', e1, e2, e3, e4⟩ := hp j z hj
        exact ⟨p', x', y', e1, TupLe.of_same (K := K) s6 _ _ e2, e3, e4⟩
      · rw [List.getElem?_append_right (by omega)] at hj
        have e0 : j = zs.length := by
          rcases Nat.eq_or_lt_of_le (Nat.le_of_not_lt hlt) with z | z
          · exact z.symm
          · rw [List.getElem?_eq_none (by simp; omega)] at hj; cases hj
        rw [e0, Nat.sub_self] at hj
        cases hj
        rw [e0, hl]
        exact ⟨p, x, y, rfl, SqT.of upd_same, hx, hy⟩
    · rintro zs H6 ⟨sm, hl, hp⟩ qd nqd
      have s7 := same_upd nqd (.lst zs)
      have s37 := (s35.trans sm).trans s7
      have hw7 : (upd H6 qd (.lst zs)) wa = some (.lst ws') := s37 _ _ h3
      have hwl' : ws'.length = st'.length := by rw [rw3.length, List.length_map]
      refine ⟨wa, qd, ws', zs, rfl, rfl, hw7, upd_same, Nat.le_of_lt (big (by omega)), ?_⟩
      have b8 : SameBut wa (upd H6 qd (.lst zs)) (upd (upd H6 qd (.lst zs)) wa (.lst (ws' ++ zs))) := SameBut.upd _
      have t8 := b8.tup (K := K) hw7
      have t38 := (TupLe.of_same (K := K) s37).trans t8
      have t68 := (TupLe.of_same (K := K) s7).trans t8
      refine ⟨st' ++ (kids' k1).zip (kids' m1), _, _, by rw [hs1, ksizes_append]; omega, rfl, same_but (s3.trans s37) b8 nwa, upd_same, ?_, by rw [ksizes_append]; omega, ?_⟩
      · rw [List.map_append]
        refine (Reps.mono t38 _ _ rw3).append (zip_reps hkl (Reps.mono t38 _ _ rk) (Reps.mono t38 _ _ rm) (by rw [hl, lk]) fun j z hj => ?_)
        obtain ⟨p', x', y', e1, e2, e3, e4⟩ := hp j z hj
        exact ⟨p', x', y', e1, t68 _ _ e2, e3, e4⟩
      · rw [← inv]
        constructor
        · intro h x hx
          rcases List.mem_append.mp hx with hx | hx
          · exact h x (List.mem_append_left _ hx)
          · rw [List.mem_singleton.mp hx]
            exact (all_zip hkw).mp fun z hz => h z (List.mem_append_right _ hz)
        · intro h x hx
          rcases List.mem_append.mp hx with hx | hx
          · exact h x (List.mem_append_left _ hx)
          · exact (all_zip hkw).mpr (h (k1, m1) (by simp)) x hx
theorem sc_scw : FnScope ["part", "number", "known", "inner"] ["part", "number", "known"] (defScope st_scope_within) := ⟨rfl, rfl, rfl, by decide +kernel, rfl, by decide +kernel, by decide +kernel⟩
theorem scd_copy {H : Hp} {a p : Addr} {sc : List (Str × Kd)} (h : ScD K H a sc) (np : H p = none) : ∃ kvs, H a = some (.dK kvs) ∧ kvs.length ≤ sc.length ∧ (∀ x, look sc x = none → valV kvs (.inr x) = none) ∧
    ∀ x k, look sc x = some k → ∃ v, valV kvs (.inr x) = some v ∧ Rep K (upd H p (.dK kvs)) (kdD k) v := by
  obtain ⟨kvs, e, l, n, r⟩ := h.ex
  exact ⟨kvs, e, l, n, fun x k q => let ⟨v, h1, h2⟩ := r x k q; ⟨v, h1, Rep.mono (TupLe.of_same (same_upd np _)) _ _ h2⟩⟩
theorem ok_scw {f : Addr} {fd : FuncData} (F : Fun K "scope_within" "scope_within" st_scope_within f fd) (hdict : mg "dict" = none) : FnOk P w K mg base CX0 1 f fd ["part", "number", "known"] (spScope K) := by
  refine F.ok sc_scw (fun vs H Q E h => ?_) (fun cdv A outer s H vs Q E hr h => ?_)
  · obtain ⟨v, a, t, i, sc, sc', rfl, _⟩ := h; rfl
  obtain ⟨v, a, t, i, sc, sc', rfl, rt, hsc, hz, hin, q⟩ := h
  have hu : (A.deeper (PyProof.Rows.envOfC "scope_within" (defScope st_scope_within) s.heap.objs.size f cdv)).units + 1 < cLine := by have := hr.units; omega
  refine ⟨_, pss_cons (ps_if (pt_cmpR op_eq (pe_ix ix_tup (pv 0) pe_int (fun _ _ => rfl)) pe_str (nomark _))
      (pss_cons (ps_set (i := 3) sc_scw.nd rfl (Or.inl rfl) (pe_callTy call_dictD rfl hdict PyProof.Rows.Boot.dict (pa_cons (pv 2) pa_nil)))
      (pss_cons (ps_dput hu (pv 3) (pe_ix ix_tup (pe_ix ix_tup (pv 0) pe_int (fun _ _ => rfl)) pe_int (fun _ _ => rfl)) (pe_ix ix_tup (pe_ix ix_tup (pv 0) pe_int (fun _ _ => rfl)) pe_int (fun _ _ => rfl)) rfl)
      (pss_one (ps_ret (pv 3))))) pss_nil)
    (pss_cons (ps_if (PW.pt (pw_and (pt_cmpR op_eq (pe_ix ix_tup (pv 0) pe_int (fun _ _ => rfl)) pe_str (nomark _)) (pw_and1 (pt_cmpR op_eq (pv 1) pe_int (nomark _)))))
      (pss_cons (ps_set (i := 3) sc_scw.nd rfl (Or.inl rfl) (pe_callTy call_dictD rfl hdict PyProof.Rows.Boot.dict (pa_cons (pv 2) pa_nil)))
      (pss_cons (ps_dput hu (pv 3) (pe_ix ix_tup (pe_ix ix_tup (pv 0) pe_int (fun _ _ => rfl)) pe_int (fun _ _ => rfl)) (pe_ix ix_tup (pe_ix ix_tup (pv 0) pe_int (fun _ _ => rfl)) pe_int (fun _ _ => rfl)) rfl)
      (pss_cons (ps_dput hu (pv 3) (pe_ix ix_tup (pe_ix ix_tup (pv 0) pe_int (fun _ _ => rfl)) pe_int (fun _ _ => rfl)) pe_dat rfl)
      (pss_one (ps_ret (pv 3)))))) pss_nil)
    (pss_one (ps_ret (pv 2)))), ?_⟩
  obtain ⟨a1, b1, c1, ms, os, rfl, g1, g2, g3, g4, g5⟩ := ex_open rt
  refine ⟨_, rfl, a1, _, _, .str t.lab.1, rfl, rfl, g1, rfl, rfl, _, rfl, ite2 (fun c => ?_) (fun c => ?_)⟩
  · have e0 : t.lab.1 = "fun" := V.str.inj (of_decide_eq_true c)
    obtain ⟨x, k, em, rfl⟩ := hin.fn e0
    rw [em] at g3
    obtain ⟨y1, r1, rfl, q1, g3⟩ := g3.split
    obtain ⟨y2, r2, rfl, q2, g3⟩ := g3.split
    rw [Reps] at g3
    subst g3
    obtain rfl := q1.is_str
    obtain ⟨kvs, ea, el, en, er⟩ := hsc.ex
    refine ⟨_, rfl, a, kvs, rfl, ea, fun p np => ?_⟩
    have s1 := same_upd np (.dK kvs)
    have t1 := TupLe.of_same (K := K) s1
    refine ⟨_, rfl, a1, _, _, _, rfl, rfl, t1 _ _ g1, rfl, b1, _, _, y2, rfl, rfl, t1 _ _ g2, rfl, _, rfl, _, rfl, a1, _, _, _, rfl, rfl, t1 _ _ g1, rfl, b1, _, _, .str x, rfl, rfl, t1 _ _ g2, rfl, p, _, rfl, DPut.k (k := .inr x) upd_same (Nat.lt_of_le_of_lt el (Nat.lt_of_le_of_lt hz (by decide))), ?_⟩
    refine ⟨_, rfl, q p _ (fun b o hb => ?_) (ScD.put upd_same el en (fun x k h => let ⟨v, h1, h2⟩ := er x k h; ⟨v, h1, Rep.mono t1 _ _ h2⟩) (Rep.mono t1 _ _ q2))⟩
    rw [upd_ne (ne_of_none hb np), upd_ne (ne_of_none hb np)]; exact hb
  have n0 : t.lab.1 ≠ "fun" := fun e => by rw [e] at c; exact c (decide_eq_true rfl)
  refine ⟨_, rfl, a1, _, _, .str t.lab.1, rfl, rfl, g1, rfl, rfl, _, rfl, ite2 (fun c2 => ?_) (fun c2 => ?_)⟩
  · have e0 : t.lab.1 = "case" := V.str.inj (of_decide_eq_true c2)
    refine ⟨_, rfl, rfl, _, rfl, ite2 (fun c3 => ?_) (fun c3 => ?_)⟩
    · have ei : i = 2 := V.int.inj (of_decide_eq_true c3)
      obtain ⟨k, h, tl, em, rfl⟩ := hin.case e0 ei
      rw [em] at g3
      obtain ⟨y1, r1, rfl, q1, g3⟩ := g3.split
      obtain ⟨y2, r2, rfl, q2, g3⟩ := g3.split
      obtain ⟨y3, r3, rfl, q3, g3⟩ := g3.split
      rw [Reps] at g3
      subst g3
      obtain rfl := q2.is_str
      obtain rfl := q3.is_str
      obtain ⟨kvs, ea, el, en, er⟩ := hsc.ex
      refine ⟨_, rfl, a, kvs, rfl, ea, fun p np => ?_⟩
      have s1 := same_upd np (.dK kvs)
      have t1 := TupLe.of_same (K := K) s1
      have hl1 : kvs.length < sizeLine := Nat.lt_of_le_of_lt el (Nat.lt_of_le_of_lt hz (by decide))
      refine ⟨_, rfl, a1, _, _, _, rfl, rfl, t1 _ _ g1, rfl, b1, _, _, y1, rfl, rfl, t1 _ _ g2, rfl, _, rfl, _, rfl, a1, _, _, _, rfl, rfl, t1 _ _ g1, rfl, b1, _, _, .str h, rfl, rfl, t1 _ _ g2, rfl, p, _, rfl, DPut.k (k := .inr h) upd_same hl1, ?_⟩
      have D1 := ScD.put (K := K) (y := h) (k := k) (v := y1) (a := p) upd_same el en (fun x k h => let ⟨v, h1, h2⟩ := er x k h; ⟨v, h1, Rep.mono t1 _ _ h2⟩) (Rep.mono t1 _ _ q1)
      have s2 : Same H (upd (upd H p (.dK kvs)) p (.dK (putK kvs (.inr h) y1))) := fun b o hb => by rw [upd_ne (ne_of_none hb np), upd_ne (ne_of_none hb np)]; exact hb
      generalize upd (upd H p (.dK kvs)) p (.dK (putK kvs (.inr h) y1)) = H2 at D1 s2 ⊢
      have t2 := TupLe.of_same (K := K) s2
      have rex : Rep K H2 (.tuple [.str t.lab.1, .tuple [kdD k, .str h, .str tl], .tuple (t.own.map py)]) (.ref a1) := by rw [← em, ← py_eq]; exact Rep.mono t2 _ _ rt
      refine ⟨_, de_tup (de_cons de_str (de_cons (de_ix (de_ix (de_var 0 rfl rex) de_int (show atI _ ((1 : Nat) : Int) = some (PyData.tuple [kdD k, .str h, .str tl]) from atI_nat rfl) (fun _ _ => rfl)) de_int (show atI _ ((0 : Nat) : Int) = some (kdD k) from atI_nat rfl) (fun _ _ => rfl)) de_nil)), fun v3 H3 s3 r3 => ?_⟩
      obtain ⟨kv3, e3, l3, n3, er3⟩ := (D1.mono s3).ex
      have t3 := t2.trans (TupLe.of_same s3)
      have np3 : H p = none := np
      have hl3 : kv3.length < sizeLine := by rw [List.length_append] at l3; simp at l3; exact Nat.lt_of_le_of_lt l3 (Nat.lt_of_le_of_lt (Nat.add_le_add_right hz 1) (by decide))
      refine ⟨_, rfl, _, rfl, a1, _, _, _, rfl, rfl, t3 _ _ g1, rfl, b1, _, _, .str tl, rfl, rfl, t3 _ _ g2, rfl, p, _, rfl, DPut.k (k := .inr tl) e3 hl3, ?_⟩
      refine ⟨_, rfl, q p _ (fun b o hb => ?_) (ScD.put e3 l3 n3 er3 (k := .list k) (by show Rep K H3 (.tuple [.str "list", kdD k]) v3; exact r3))⟩
      rw [upd_ne (ne_of_none hb np)]
      exact s3 _ _ (s2 _ _ hb)
    · have ni : i ≠ 2 := fun e => by rw [e] at c3; exact c3 (decide_eq_true rfl)
      obtain rfl := hin.other n0 fun _ => ni
      exact ⟨_, rfl, q a H (Same.refl H) hsc⟩
  · have n1 : t.lab.1 ≠ "case" := fun e => by rw [e] at c2; exact c2 (decide_eq_true rfl)
    obtain rfl := hin.other n0 fun e => absurd e n1
    exact ⟨_, rfl, q a H (Same.refl H) hsc⟩
theorem sc_due : FnScope ["part", "own"] ["part", "own"] (defScope st_due_kinds) := ⟨rfl, rfl, rfl, by decide +kernel, rfl, by decide +kernel, by decide +kernel⟩
theorem cs_due : CompSc ["part", "own"] (defScope st_due_kinds) (compScopeI st_due_kinds 5) "kind" := ⟨rfl, by decide +kernel, by decide +kernel, rfl, by decide +kernel, by decide +kernel, by decide +kernel⟩
theorem ok_due {f : Addr} {fd : FuncData} (F : Fun K "due_kinds" "due_kinds" st_due_kinds f fd) (C : Consts K mg) : FnOk P w K mg base CX0 1 f fd ["part", "own"] (spV K RDue) := by
  refine F.okV sc_due (fun as r h => ?_) (fun cdv A outer s H E as r hr h => ?_)
  · obtain ⟨b, o, ks, rfl, _⟩ := h; exact ⟨rfl, by simp⟩
  obtain ⟨b, o, ks, rfl, hl, hc, rfl⟩ := h
  show VS _ _ [.d _, .l _] _
  cases b with
  | add =>
    refine vs_ifT (vt_inS2 (by decreasing_trivial_pre_omega) (by decreasing_trivial_pre_omega) (by with_unfolding_all rfl)) (by rfl) ?_
    exact vs_ret (ve_lst (vd_cons (ve_NUM C) (vd_cons (ve_NUM C) vd_nil))) (.inl rfl)
  | less =>
    refine vs_ifT (vt_inS2 (by decreasing_trivial_pre_omega) (by decreasing_trivial_pre_omega) (by with_unfolding_all rfl)) (by rfl) ?_
    exact vs_ret (ve_lst (vd_cons (ve_NUM C) (vd_cons (ve_NUM C) vd_nil))) (.inl rfl)
  | ifx =>
    obtain ⟨k1, k2, k3, rfl⟩ := len3 hl
    refine vs_ifN (vt_inS2 (by decreasing_trivial_pre_omega) (by decreasing_trivial_pre_omega) (by with_unfolding_all rfl)) (by rfl) ?_
    refine vs_ifT (by decreasing_trivial_pre_omega) (by rfl) ?_
    exact vs_ret (ve_lst (vd_cons (ve_TRUTH C) (by decreasing_trivial_pre_omega))) (.inl rfl)
  | front =>
    obtain ⟨k1, k2, rfl⟩ := len2 hl
    refine vs_ifN (vt_inS2 (by decreasing_trivial_pre_omega) (by decreasing_trivial_pre_omega) (by with_unfolding_all rfl)) (by rfl) ?_
    refine vs_ifN (by decreasing_trivial_pre_omega) (by rfl) ?_
    refine vs_ifT (by decreasing_trivial_pre_omega) (by rfl) ?_
    exact vs_ret (by decreasing_trivial_pre_omega) (.inl rfl)
  | case k h t =>
    obtain ⟨k1, k2, k3, rfl⟩ := len3 hl
    refine vs_ifN (vt_inS2 (by decreasing_trivial_pre_omega) (by decreasing_trivial_pre_omega) (by with_unfolding_all rfl)) (by rfl) ?_
    refine vs_ifN (by decreasing_trivial_pre_omega) (by rfl) ?_
    refine vs_ifN (by decreasing_trivial_pre_omega) (by rfl) ?_
    refine vs_ifT (by decreasing_trivial_pre_omega) (by rfl) ?_
    exact vs_ret (by decreasing_trivial_pre_omega) (.inl rfl)
  | call =>
    obtain ⟨k1, k2, rfl⟩ := len2 hl
    obtain ⟨k, m, r, e⟩ := hc rfl
    cases e
    refine vs_ifN (vt_inS2 (by decreasing_trivial_pre_omega) (by decreasing_trivial_pre_omega) (by with_unfolding_all rfl)) (by rfl) ?_
    refine vs_ifN (by decreasing_trivial_pre_omega) (by rfl) ?_
    refine vs_ifN (by decreasing_trivial_pre_omega) (by rfl) ?_
    refine vs_ifN (by decreasing_trivial_pre_omega) (by rfl) ?_
    refine vs_ifT (by decreasing_trivial_pre_omega) (by rfl) ?_
    exact vs_ret (by decreasing_trivial_pre_omega) (.inl rfl)
  | _ =>
    refine vs_ifN (vt_inS2 (by decreasing_trivial_pre_omega) (by decreasing_trivial_pre_omega) (by with_unfolding_all rfl)) (by rfl) ?_
    refine vs_ifN (by decreasing_trivial_pre_omega) (by rfl) ?_
    refine vs_ifN (by decreasing_trivial_pre_omega) (by rfl) ?_
    refine vs_ifN (by decreasing_trivial_pre_omega) (by rfl) ?_
    refine vs_ifN (by decreasing_trivial_pre_omega) (by rfl) ?_
    have hz : ks.length ≤ sizeLine := Nat.le_trans (by rw [hl]; exact Nat.le_of_ble_eq_true rfl) (by decide : 3 ≤ sizeLine)
    exact vs_ret (ve_comp (ys := (ks.map fun _ => PyData.none)) rfl cs_due (vi_name rfl rfl) (by simp) (by simpa using hz) fun i a y h1 h2 cl C s0 H0 fp pins => by
      rw [List.getElem?_map] at h2
      cases q : ks[i]? with
      | none => rw [q] at h2; cases h2
      | some z => rw [q] at h2; cases h2; exact ve_non) (.inl (by simp [dues, optD]))
theorem sc_kbr : FnScope ["part", "own", "known"] ["part", "own", "known"] (defScope st_kind_by_rule) := ⟨rfl, rfl, rfl, by decide +kernel, rfl, by decide +kernel, by decide +kernel⟩
theorem ok_kbr {f : Addr} {fd : FuncData} (F : Fun K "kind_by_rule" "kind_by_rule" st_kind_by_rule f fd) (C : Consts K mg) : FnOk P w K mg base CX0 1 f fd ["part", "own", "known"] (spV K (RKind K)) := by
  refine F.okV sc_kbr (fun as r h => ?_) (fun cdv A outer s H E as r hr h => ?_)
  · obtain ⟨b, o, ks, sc, rfl, _⟩ := h; exact ⟨rfl, by simp⟩
  obtain ⟨b, o, ks, sc, rfl, hl, hb, rfl⟩ := h
  show VS _ _ [.d _, .l _, .h _] _
  have hu : (A.deeper (PyProof.Rows.envOfC "kind_by_rule" (defScope st_kind_by_rule) s.heap.objs.size f cdv)).units + 1 < cLine := hu_of hr
  cases b with
  | num i => exact vs_ifT (vt_inS2 (by decreasing_trivial_pre_omega) (by decreasing_trivial_pre_omega) (by with_unfolding_all rfl)) (by rfl) (vs_ret (ve_NUM C) (.inl rfl))
  | add => exact vs_ifT (vt_inS2 (by decreasing_trivial_pre_omega) (by decreasing_trivial_pre_omega) (by with_unfolding_all rfl)) (by rfl) (vs_ret (ve_NUM C) (.inl rfl))
  | truth i =>
    refine vs_ifN (vt_inS2 (by decreasing_trivial_pre_omega) (by decreasing_trivial_pre_omega) (by with_unfolding_all rfl)) (by rfl) ?_
    exact vs_ifT (vt_inS2 (by decreasing_trivial_pre_omega) (by decreasing_trivial_pre_omega) (by with_unfolding_all rfl)) (by rfl) (vs_ret (ve_TRUTH C) (.inl rfl))
  | less =>
    refine vs_ifN (vt_inS2 (by decreasing_trivial_pre_omega) (by decreasing_trivial_pre_omega) (by with_unfolding_all rfl)) (by rfl) ?_
    exact vs_ifT (vt_inS2 (by decreasing_trivial_pre_omega) (by decreasing_trivial_pre_omega) (by with_unfolding_all rfl)) (by rfl) (vs_ret (ve_TRUTH C) (.inl rfl))
  | name x =>
    refine vs_ifN (vt_inS2 (by decreasing_trivial_pre_omega) (by decreasing_trivial_pre_omega) (by with_unfolding_all rfl)) (by rfl) ?_
    refine vs_ifN (vt_inS2 (by decreasing_trivial_pre_omega) (by decreasing_trivial_pre_omega) (by with_unfolding_all rfl)) (by rfl) ?_
    cases q : look sc x with
    | none => simp [breach, q] at hb
    | some k => exact vs_ifT (by decreasing_trivial_pre_omega) (by rfl) (vs_ret (ve_scGet hu (by decreasing_trivial_pre_omega) (by decreasing_trivial_pre_omega) q) (.inl (by simp [kindR, q])))
  | nil k =>
    refine vs_ifN (vt_inS2 (by decreasing_trivial_pre_omega) (by decreasing_trivial_pre_omega) (by with_unfolding_all rfl)) (by rfl) ?_
    refine vs_ifN (vt_inS2 (by decreasing_trivial_pre_omega) (by decreasing_trivial_pre_omega) (by with_unfolding_all rfl)) (by rfl) ?_
    refine vs_ifN (by decreasing_trivial_pre_omega) (by rfl) ?_
    exact vs_ifT (by decreasing_trivial_pre_omega) (by rfl) (vs_ret (by decreasing_trivial_pre_omega) (.inl rfl))
  | fn x k =>
    obtain ⟨k1, rfl⟩ := len1 hl
    refine vs_ifN (vt_inS2 (by decreasing_trivial_pre_omega) (by decreasing_trivial_pre_omega) (by with_unfolding_all rfl)) (by rfl) ?_
    refine vs_ifN (vt_inS2 (by decreasing_trivial_pre_omega) (by decreasing_trivial_pre_omega) (by with_unfolding_all rfl)) (by rfl) ?_
    refine vs_ifN (by decreasing_trivial_pre_omega) (by rfl) ?_
    refine vs_ifN (by decreasing_trivial_pre_omega) (by rfl) ?_
    exact vs_ifT (by decreasing_trivial_pre_omega) (by rfl) (vs_ret (by decreasing_trivial_pre_omega) (.inl rfl))
  | call =>
    obtain ⟨k1, k2, rfl⟩ := len2 hl
    cases k1 with
    | to k m =>
      refine vs_ifN (vt_inS2 (by decreasing_trivial_pre_omega) (by decreasing_trivial_pre_omega) (by with_unfolding_all rfl)) (by rfl) ?_
      refine vs_ifN (vt_inS2 (by decreasing_trivial_pre_omega) (by decreasing_trivial_pre_omega) (by with_unfolding_all rfl)) (by rfl) ?_
      refine vs_ifN (by decreasing_trivial_pre_omega) (by rfl) ?_
      refine vs_ifN (by decreasing_trivial_pre_omega) (by rfl) ?_
      refine vs_ifN (by decreasing_trivial_pre_omega) (by rfl) ?_
      exact vs_ifT (by decreasing_trivial_pre_omega) (by rfl) (vs_ret (by decreasing_trivial_pre_omega) (.inl rfl))
    | _ => simp [breach, Kd.arg] at hb
  | front =>
    obtain ⟨k1, k2, rfl⟩ := len2 hl
    refine vs_ifN (vt_inS2 (by decreasing_trivial_pre_omega) (by decreasing_trivial_pre_omega) (by with_unfolding_all rfl)) (by rfl) ?_
    refine vs_ifN (vt_inS2 (by decreasing_trivial_pre_omega) (by decreasing_trivial_pre_omega) (by with_unfolding_all rfl)) (by rfl) ?_
    refine vs_ifN (by decreasing_trivial_pre_omega) (by rfl) ?_
    refine vs_ifN (by decreasing_trivial_pre_omega) (by rfl) ?_
    refine vs_ifN (by decreasing_trivial_pre_omega) (by rfl) ?_
    refine vs_ifN (by decreasing_trivial_pre_omega) (by rfl) ?_
    exact vs_ret (by decreasing_trivial_pre_omega) (.inl rfl)
  | ifx =>
    obtain ⟨k1, k2, k3, rfl⟩ := len3 hl
    refine vs_ifN (vt_inS2 (by decreasing_trivial_pre_omega) (by decreasing_trivial_pre_omega) (by with_unfolding_all rfl)) (by rfl) ?_
    refine vs_ifN (vt_inS2 (by decreasing_trivial_pre_omega) (by decreasing_trivial_pre_omega) (by with_unfolding_all rfl)) (by rfl) ?_
    refine vs_ifN (by decreasing_trivial_pre_omega) (by rfl) ?_
    refine vs_ifN (by decreasing_trivial_pre_omega) (by rfl) ?_
    refine vs_ifN (by decreasing_trivial_pre_omega) (by rfl) ?_
    refine vs_ifN (by decreasing_trivial_pre_omega) (by rfl) ?_
    exact vs_ret (by decreasing_trivial_pre_omega) (.inl rfl)
  | case k x y =>
    obtain ⟨k1, k2, k3, rfl⟩ := len3 hl
    refine vs_ifN (vt_inS2 (by decreasing_trivial_pre_omega) (by decreasing_trivial_pre_omega) (by with_unfolding_all rfl)) (by rfl) ?_
    refine vs_ifN (vt_inS2 (by decreasing_trivial_pre_omega) (by decreasing_trivial_pre_omega) (by with_unfolding_all rfl)) (by rfl) ?_
    refine vs_ifN (by decreasing_trivial_pre_omega) (by rfl) ?_
    refine vs_ifN (by decreasing_trivial_pre_omega) (by rfl) ?_
    refine vs_ifN (by decreasing_trivial_pre_omega) (by rfl) ?_
    refine vs_ifN (by decreasing_trivial_pre_omega) (by rfl) ?_
    exact vs_ret (by decreasing_trivial_pre_omega) (.inl rfl)
theorem sc_brk : FnScope ["part", "own", "known", "number", "due"] ["part", "own", "known"] (defScope st_breach_of_rule) := ⟨rfl, rfl, rfl, by decide +kernel, rfl, by decide +kernel, by decide +kernel⟩
theorem ok_brk {f : Addr} {fd : FuncData} (F : Fun K "breach_of_rule" "breach_of_rule" st_breach_of_rule f fd) (B : Plain mg) (DS : DefOk P w K mg base 1 "same_kind" ["first", "second"] (spV K RSame)) (DD : DefOk P w K mg base 1 "due_kinds" ["part", "own"] (spV K RDue)) :
    FnOk P w K mg base CX0 2 f fd ["part", "own", "known"] (spV K (RBreach K)) := by
  refine F.okV sc_brk (fun as r h => ?_) (fun cdv A outer s H E as r hr h => ?_)
  · obtain ⟨b, o, ks, sc, rfl, _⟩ := h; exact ⟨rfl, by simp⟩
  obtain ⟨b, o, ks, sc, rfl, hl, hks, hls, rfl⟩ := h
  show VS _ _ [.d _, .l _, .h _, .un, .un] _
  have hu : (A.deeper (PyProof.Rows.envOfC "breach_of_rule" (defScope st_breach_of_rule) s.heap.objs.size f cdv)).units + 1 < cLine := hu_of hr
  have loop : breach b ks sc = byDues b ks → (b = .call → ∃ k m r, ks = .to k m :: r) → VS (cxOf CX0 P w K mg base ["part", "own", "known", "number", "due"] "breach_of_rule" (defScope st_breach_of_rule) f cdv A outer s H E).nox (List.drop 2 (defBody st_breach_of_rule)) [.d (py (ex (.node b o))), .l (ks.map kdD), .h (scPer K sc), .un, .un] fun o => o = .rt (.d (brD (breach b ks sc))) ∨ (Sl.d (brD (breach b ks sc)) = .d .none ∧ ∃ ρ, o = .nx ρ) := by
    intro hb hc
    have hdl := dues_len hl
    refine vs_for PassesOwn.never rfl (vi_enumL B.enumerate (ve_call DD hr (va_cons (by decreasing_trivial_pre_omega) (va_cons (by decreasing_trivial_pre_omega) va_nil)) ⟨b, o, ks, rfl, hl, hc, rfl⟩)) (vg_pair sc_brk.nd rfl rfl rfl)
      (fun i ρ => ∃ x y, ρ = [.d (py (ex (.node b o))), .l (ks.map kdD), .h (scPer K sc), x, y] ∧ firstBad i ((dues b ks).drop i) (ks.drop i) = firstBad 0 (dues b ks) ks) ⟨_, _, rfl, rfl⟩ ?_ ?_
    · rintro i d ρ' hd ⟨x, y, rfl, hf⟩
      have hi : i < (dues b ks).length := by
        have := (List.getElem?_eq_some_iff.mp hd).1
        rw [enumD_len, List.length_map] at this
        exact this
      have hik : i < ks.length := by omega
      have hgd : ((dues b ks).map optD)[i]? = some (optD (dues b ks)[i]) := by rw [List.getElem?_map, List.getElem?_eq_getElem hi]; rfl
      rw [enumD_get 0 _ i _ hgd, Nat.zero_add] at hd
      cases hd
      refine ⟨_, rfl, ?_⟩
      have hmem : (dues b ks)[i] ∈ dues b ks := List.getElem_mem hi
      rw [List.drop_eq_getElem_cons hi, List.drop_eq_getElem_cons hik] at hf
      have hkm := hks _ (List.getElem_mem hik)
      generalize (dues b ks)[i] = od at hf hmem ⊢
      have hown : atI (ks.map kdD) (i : Int) = some (kdD ks[i]) := atI_nat (by rw [List.getElem?_map, List.getElem?_eq_getElem hik]; rfl)
      generalize ks[i] = k at hf hkm hown
      cases od with
      | none =>
        rw [firstBad] at hf
        exact vs_ifN (vt_w (vw_andF (vt_eq (vt_notN (by decreasing_trivial_pre_omega)) (by rfl)))) rfl (vs_nil ⟨_, _, rfl, hf⟩)
      | some m =>
        have hm := dues_small hks hls hmem
        rw [firstBad] at hf
        refine vs_if (vt_w (vw_andT (vt_eq (vt_notN (ra := .d (kdD m)) (by decreasing_trivial_pre_omega)) (by rw [isN_kd]; rfl))
          (vw_and1 (vt_not (vt_bool (ve_call DS hr (va_cons (by decreasing_trivial_pre_omega) (va_cons (ve_ixL (by decreasing_trivial_pre_omega) (by decreasing_trivial_pre_omega) rfl hown) va_nil)) ⟨m, k, rfl, by omega, rfl⟩)))))) (fun h => ?_) (fun h => ?_)
        · have hne : m ≠ k := by simpa using h
          rw [if_neg hne] at hf
          refine vs_ret (ve_tup (vd_cons (by decreasing_trivial_pre_omega) (vd_cons (by decreasing_trivial_pre_omega) (vd_cons (ve_ixL (by decreasing_trivial_pre_omega) (by decreasing_trivial_pre_omega) rfl hown) vd_nil)))) (.inl ?_)
          rw [hb, byDues, ← hf]
          rfl
        · have heq : m = k := by simpa using h
          rw [if_pos heq] at hf
          exact vs_nil (vs_nil ⟨_, _, rfl, hf⟩)
    · rintro ρ' ⟨x, y, rfl, hf⟩
      rw [enumD_len, List.length_map, List.drop_of_length_le (Nat.le_refl _)] at hf
      refine vs_ret (by decreasing_trivial_pre_omega) (.inl ?_)
      rw [hb, byDues, ← hf]
      cases List.drop (dues b ks).length ks <;> rfl
  cases b with
  | name x =>
    refine vs_if (vt_w (vw_andT (vt_eq (by decreasing_trivial_pre_omega) (by rfl)) (vw_and1 (vt_scNot hu (by decreasing_trivial_pre_omega) (by decreasing_trivial_pre_omega) (by with_unfolding_all rfl))))) (fun h => ?_) (fun h => ?_)
    · refine vs_ret (by decreasing_trivial_pre_omega) (.inl ?_)
      have : (look sc x).isSome = false := by simpa using h
      simp only [breach, this]
      rfl
    · have hs : (look sc x).isSome = true := by simpa using h
      refine vs_nil (vs_ifN (vt_w (vw_andF (vt_eq (by decreasing_trivial_pre_omega) (by rfl)))) rfl (loop (breach_by (fun y e => by cases e; exact hs) (fun e => nomatch e)) fun e => nomatch e))
  | call =>
    obtain ⟨k1, k2, rfl⟩ := len2 hl
    refine vs_ifN (vt_w (vw_andF (vt_eq (by decreasing_trivial_pre_omega) (by rfl)))) rfl ?_
    cases k1 with
    | to k m => exact vs_ifN (vt_w (vw_andT (vt_eq (by decreasing_trivial_pre_omega) (by rfl)) (vw_and1 (by decreasing_trivial_pre_omega)))) (by rfl) (loop (breach_by (fun y e => nomatch e) (fun _ => ⟨k, m, _, rfl⟩)) fun _ => ⟨k, m, _, rfl⟩)
    | num => exact vs_ifT (vt_w (vw_andT (vt_eq (by decreasing_trivial_pre_omega) (by rfl)) (vw_and1 (by decreasing_trivial_pre_omega)))) (by rfl) (vs_ret (by decreasing_trivial_pre_omega) (.inl rfl))
    | truth => exact vs_ifT (vt_w (vw_andT (vt_eq (by decreasing_trivial_pre_omega) (by rfl)) (vw_and1 (by decreasing_trivial_pre_omega)))) (by rfl) (vs_ret (by decreasing_trivial_pre_omega) (.inl rfl))
    | list k => exact vs_ifT (vt_w (vw_andT (vt_eq (by decreasing_trivial_pre_omega) (by rfl)) (vw_and1 (by decreasing_trivial_pre_omega)))) (by rfl) (vs_ret (by decreasing_trivial_pre_omega) (.inl rfl))
  | _ => exact vs_ifN (vt_w (vw_andF (vt_eq (by decreasing_trivial_pre_omega) (by rfl)))) rfl (vs_ifN (vt_w (vw_andF (vt_eq (by decreasing_trivial_pre_omega) (by rfl)))) rfl (loop (breach_by (fun y e => nomatch e) (fun e => nomatch e)) fun e => nomatch e))
theorem sc_sbp : FnScope ["pairs", "scope", "scopes", "place", "part", "number"] ["pairs", "scope"] (defScope st_scopes_by_place) := ⟨rfl, rfl, rfl, by decide +kernel, rfl, by decide +kernel, by decide +kernel⟩
theorem ok_sbp {f : Addr} {fd : FuncData} (F : Fun K "scopes_by_place" "scopes_by_place" st_scopes_by_place f fd) (B : Plain mg) (hdict : mg "dict" = none) (DW : DefOk P w K mg base 1 "scope_within" ["part", "number", "known"] (spScope K)) : FnOk P w K mg base CX0 2 f fd ["pairs", "scope"] (spScopes K) := by
  refine F.ok sc_sbp (fun vs H Q E h => ?_) (fun cdv A outer s H vs Q E hr h => ?_)
  · obtain ⟨r, q, ps, qs, e, sc, rfl, _⟩ := h; rfl
  obtain ⟨r, q, ps, qs, e, sc, rfl, tok, hz, hr0, hps, hq0, hqs, hsc, fin⟩ := h
  have hu : (A.deeper (PyProof.Rows.envOfC "scopes_by_place" (defScope st_scopes_by_place) s.heap.objs.size f cdv)).units + 1 < cLine := hu_of hr
  refine ⟨_, pss_cons (ps_set (i := 2) sc_sbp.nd rfl (Or.inl rfl) (pe_dispT hu (@pe_tup _ _ _ _ _ pa_nil) (pe_callTy (call_dictL rfl) rfl hdict PyProof.Rows.Boot.dict (pa_cons (pv 1) pa_nil))))
    (pss_cons (ps_for PassesOwn.never rfl (pi_rev rfl B.reversed (pa_cons (pv 0) pa_nil)) (pg_tup rfl (pgs_cons (pg_name (i := 3) sc_sbp.nd rfl (Or.inl rfl)) (pgs_cons (pg_name (i := 4) sc_sbp.nd rfl (Or.inl rfl)) pgs_nil)))
      (pss_one (ps_for PassesOwn.never rfl (pi_range1 rfl B.range (pa_cons (pe_callB call_len_seq rfl B.len PySem.boot_len (pa_cons (pe_ix ix_tup (pv 4) pe_int (fun _ _ => rfl)) pa_nil)) pa_nil)) (pg_name (i := 5) sc_sbp.nd rfl (Or.inl rfl))
        (pss_one (ps_dput hu (pv 2) (pe_op op_catT' (pv 3) (pe_tup (pa_cons (pv 5) pa_nil))) (pe_callD DW hr rfl (pa_cons (pv 4) (pa_cons (pv 5) (pa_cons (pe_dget hu (pv 2) (pv 3) (fun _ _ => rfl)) pa_nil)))) rfl)))))
    (pss_one (ps_ret (pv 2)))), ?_⟩
  have big : ∀ {n : Nat}, n ≤ 1000001 → n < sizeLine := fun h => Nat.lt_of_le_of_lt h (by decide)
  intro s0 n0
  have s1 := same_upd n0 (.dT [])
  have hs1 : (upd H s0 (.dT [])) s0 = some (.dT []) := upd_same
  generalize upd H s0 (.dT []) = H1 at s1 hs1 ⊢
  refine ⟨by show 0 ≤ sizeLine; decide, fun p2 n2 => ?_⟩
  have s2 := same_upd n2 (.tup [])
  have hp2 : (upd H1 p2 (.tup [])) p2 = some (.tup []) := upd_same
  generalize upd H1 p2 (.tup []) = H2 at s2 hp2 ⊢
  have s02 := s1.trans s2
  obtain ⟨dk, P, hdl, hmg⟩ := pairs_scope (Reps.mono (TupLe.of_same s02) _ _ hqs)
  refine ⟨_, rfl, q, qs, dk, rfl, SqL.of (s02 _ _ hq0), P, by omega, fun p3 n3 => ?_⟩
  have s3 := same_upd n3 (.dK (mergeK [] dk))
  have hd3 : ScD K (upd H2 p3 (.dK (mergeK [] dk))) p3 sc := ScD.of upd_same (by have := (hmg [] [] ScK.nil).mono s3; rwa [List.nil_append] at this)
  generalize upd H2 p3 (.dK (mergeK [] dk)) = H3 at s3 hd3 ⊢
  have s03 := s02.trans s3
  refine ⟨s3 _ _ (s2 _ _ hs1), p2, [], .ref p3, rfl, s3 _ _ hp2, ?_⟩
  have hs3 := s3 _ _ (s2 _ _ hs1)
  have hb4 : ∀ b o, b ≠ s0 → H3 b = some o → (upd H3 s0 (.dT (putK [] [] (.ref p3)))) b = some o := fun b o n h => by rw [upd_ne n]; exact h
  have s4 : Same H (upd H3 s0 (.dT (putK [] [] (.ref p3)))) := fun b o h => hb4 b o (ne_of_none h n0) (s03 b o h)
  have sc4 : Scs K (upd H3 s0 (.dT (putK [] [] (.ref p3)))) (putK [] (kP []) (.ref p3)) e sc (fun p => p = []) := by
    intro p hp
    subst hp
    exact ⟨p3, by rw [valV_put, if_pos rfl], by rw [scAt_nil]; exact hd3.putT hs3⟩
  have pr4 : PrTs K (upd H3 s0 (.dT (putK [] [] (.ref p3)))) (ex e).post ps := (hps.ext (Ext.of_same s03)).putT hs3
  have hs4 : (upd H3 s0 (.dT (putK [] [] (.ref p3)))) s0 = some (.dT (putK [] (kP []) (.ref p3))) := upd_same
  have hl4 : (putK ([] : List (List Key × V)) (kP []) (.ref p3)).length ≤ 1 := length_putK _ _ _
  generalize upd H3 s0 (.dT (putK [] [] (.ref p3))) = H4 at s4 sc4 pr4 hs4 ⊢
  have hpl : ps.length = (ex e).post.length := hps.1
  have hpn : (ex e).post.length = e.size := by rw [post_length, ex_size]
  refine ⟨_, rfl, r, ps, rfl, SqL.of (s4 _ _ hr0), for_rev (xs := ps) (fun i σ H5 => ∃ x3 x4 x5 kvs, σ = [some (.ref r), some (.ref q), some (.ref s0), x3, x4, x5] ∧ Same H H5 ∧ PrTs K H5 (ex e).post ps ∧ H5 s0 = some (.dT kvs) ∧ kvs.length ≤ 1 + 3 * i ∧
      Scs K H5 kvs e sc (fun p => p = [] ∨ ∃ (j : Nat) (q : List Nat) (t : Tm) (k : Nat), j < i ∧ e.post.reverse[j]? = some (q, t) ∧ k < t.own.length ∧ p = q ++ [k]))
    ⟨none, none, none, _, rfl, s4, pr4, hs4, by omega, fun p hp => sc4 p (hp.elim id fun ⟨j, _, _, _, h, _⟩ => absurd h (Nat.not_lt_zero _))⟩ (fun i σ H5 _ ⟨_, _, _, _, _, sm, _⟩ => SqL.of (sm _ _ hr0)) ?_ ?_⟩
  · rintro i x σ H5 hi hx ⟨x3, x4, x5, kvs, rfl, s5, pr5, hs5, hl5, sc5⟩
    obtain ⟨xx, hxx, prx⟩ := pr5.get hx
    rw [ex_post, List.getElem?_map] at hxx
    have hpi : ps.length - 1 - i < e.post.length := by rw [post_length]; omega
    rw [List.getElem?_eq_getElem hpi] at hxx
    have hpe : e.post[ps.length - 1 - i]? = some e.post[ps.length - 1 - i] := List.getElem?_eq_getElem hpi
    generalize e.post[ps.length - 1 - i] = y at hxx hpe
    obtain ⟨q0, t0⟩ := y
    cases hxx
    have hat := post_at e _ (List.mem_of_getElem? hpe)
    simp only at hat
    have htok := tok.at hat
    have hq0s := at?_size (e := ex e) (t := ex t0) (p := q0) (by rw [ex_at, hat]; rfl)
    have hes := ex_size e
    have hrev : e.post.reverse[i]? = some (q0, t0) := by
      rw [List.getElem?_reverse (by rw [post_length]; omega), ← hpe]
      congr 1
      rw [post_length]; omega
    obtain ⟨a, pu, tv, rfl, ga, gu, rtv⟩ := prx
    obtain ⟨a1, b1, c1, ms, os, rfl, g1, g2, g3, g4, g5⟩ := ex_open rtv
    have hol : os.length = t0.own.length := by rw [g5.length, List.length_map, ex_own, List.length_map]
    have h03 : t0.own.length ≤ 3 := by rw [htok.len]; exact ar_le _
    have up : ∃ b, valV kvs (kP q0) = some (.ref b) ∧ ScD K H5 b (scAt e q0 sc) := by
      refine sc5 q0 ?_
      rcases nil_or_snoc q0 with z | ⟨q1, k1, z⟩
      · exact .inl z
      · right
        subst z
        rw [at?_snoc] at hat
        cases hq1 : e.at? q1 with
        | none => rw [hq1] at hat; cases hat
        | some t1 =>
          rw [hq1] at hat
          have hat' : t1.own[k1]? = some t0 := hat
          obtain ⟨i', j', lt, e1, e2⟩ := post_child hq1 hat'
          have ej : j' = ps.length - 1 - i := post_ix e2 hpe rfl
          have hi' : i' < e.post.length := (List.getElem?_eq_some_iff.mp e1).1
          rw [post_length] at hi'
          refine ⟨e.size - 1 - i', q1, t1, k1, by omega, ?_, (List.getElem?_eq_some_iff.mp hat').1, rfl⟩
          rw [List.getElem?_reverse (by rw [post_length]; omega), post_length, ← e1]
          congr 1
          omega
    obtain ⟨b0, hb0, hsd⟩ := up
    refine ⟨a, _, rfl, ga, rfl, _, _, rfl, _, _, rfl, rfl, ?_⟩
    refine ⟨_, rfl, a1, _, _, .ref c1, rfl, rfl, g1, rfl, c1, os, rfl, .inr g4, os.length, rfl, by omega, by omega, ?_⟩
    rw [Int.toNat_natCast]
    refine for_range (fun j σ H6 => ∃ x5 kvs, σ = [some (.ref r), some (.ref q), some (.ref s0), some (.ref pu), some (.ref a1), x5] ∧ Same H H6 ∧ PrTs K H6 (ex e).post ps ∧ H6 s0 = some (.dT kvs) ∧ kvs.length ≤ 1 + 3 * i + j ∧ H6 pu = some (.tup ((kP q0).map kV)) ∧ Rep K H6 (py (ex t0)) (.ref a1) ∧
        (∃ b, valV kvs (kP q0) = some (.ref b) ∧ ScD K H6 b (scAt e q0 sc)) ∧
        Scs K H6 kvs e sc (fun p => (p = [] ∨ ∃ (j : Nat) (q : List Nat) (t : Tm) (k : Nat), j < i ∧ e.post.reverse[j]? = some (q, t) ∧ k < t.own.length ∧ p = q ++ [k]) ∨ ∃ k, k < j ∧ p = q0 ++ [k]))
      ⟨x5, kvs, rfl, s5, pr5, hs5, by omega, gu, rtv, ⟨b0, hb0, hsd⟩, fun p hp => sc5 p (hp.elim id fun ⟨k, h, _⟩ => absurd h (Nat.not_lt_zero _))⟩ ?_ ?_
    · rintro j σ H6 hj ⟨y5, kv6, rfl, s6, pr6, hs6, hl6, gu6, rt6, ⟨b6, hb6, sd6⟩, sc6⟩
      rw [Int.zero_add]
      have hjt : t0.own[j]? = some t0.own[j] := List.getElem?_eq_getElem (by omega)
      have hsl := scAt_len (sc := sc) (p := q0) (e := e)
      refine ⟨_, rfl, _, rfl, _, rfl, _, rfl, s0, .ref b6, rfl, by rw [← hb6]; exact DGet.t hs6 gu6, .ref a1, b6, ex t0, (j : Int), scAt e q0 sc, scK t0.lab j (scAt e q0 sc), rfl, rt6, sd6, by omega, by rw [ex_lab]; exact scIn_K t0.lab j _, fun b7 H7 s7 sd7 => ?_⟩
      refine ⟨_, rfl, _, rfl, _, rfl, by show 1 ≤ sizeLine; decide, fun p8 n8 => ?_⟩
      have s8 := same_upd n8 (.tup [.int j])
      have hp8 : (upd H7 p8 (.tup [.int j])) p8 = some (.tup [.int j]) := upd_same
      generalize upd H7 p8 (.tup [.int j]) = H8 at s8 hp8 ⊢
      have s68 := s7.trans s8
      refine cat_trk (SqT.of (s68 _ _ gu6)) hp8 (by simp) (by simp [kP]; exact Nat.le_of_lt (big (by omega))) fun p9 H9 s9 hp9 => ?_
      have s69 := s68.trans s9
      have hk9 : H9 p9 = some (.tup ((kP (q0 ++ [j])).map kV)) := by rw [hp9]; simp [kP, kV]
      have hs9 := s69 _ _ hs6
      refine ⟨s0, _, rfl, DPut.t hs9 hk9 (big (by omega)), ?_⟩
      have sd9 := sd7.mono (s8.trans s9)
      refine ⟨_, _, rfl, fun b o h => ?_, (pr6.ext (Ext.of_same s69)).putT hs9, upd_same, ?_, ?_, Rep.mono (tupT hs9) _ _ (Rep.mono (TupLe.of_same s69) _ _ rt6), ?_, ?_⟩
      · rw [upd_ne (ne_of_none h n0)]; exact s69 b o (s6 b o h)
      · have := length_putK kv6 (kP (q0 ++ [j])) (.ref b7); omega
      · rw [upd_ne (ne_of (s69 _ _ gu6) hs9 (by intro z; cases z))]; exact s69 _ _ gu6
      · refine ⟨b6, ?_, (sd6.mono s69).putT hs9⟩
        rw [valV_put, if_neg (fun z => by have := congrArg List.length (kP_inj z); simp at this)]
        exact hb6
      · have e1 : scAt e (q0 ++ [j]) sc = scK t0.lab j (scAt e q0 sc) := scAt_snoc hat hjt
        have sc9 : Scs K (upd H9 s0 (.dT (putK kv6 (kP (q0 ++ [j])) (.ref b7)))) kv6 e sc _ := fun p hp => let ⟨b, h1, h2⟩ := sc6 p hp; ⟨b, h1, (h2.mono s69).putT hs9⟩
        refine sc9.put (by rw [e1]; exact sd9.putT hs9) fun p hp => ?_
        rcases hp with hp | ⟨k, hk, rfl⟩
        · exact .inr (.inl hp)
        · rcases Nat.lt_succ_iff_lt_or_eq.mp hk with hk | rfl
          · exact .inr (.inr ⟨k, hk, rfl⟩)
          · exact .inl rfl
    · rintro σ H6 ⟨y5, kv6, rfl, s6, pr6, hs6, hl6, gu6, rt6, _, sc6⟩
      refine ⟨_, _, _, kv6, rfl, s6, pr6, hs6, by omega, fun p hp => sc6 p ?_⟩
      rcases hp with hp | ⟨j, q, t, k, hj, e1, e2, rfl⟩
      · exact .inl (.inl hp)
      · rcases Nat.lt_succ_iff_lt_or_eq.mp hj with hj | rfl
        · exact .inl (.inr ⟨j, q, t, k, hj, e1, e2, rfl⟩)
        · rw [hrev] at e1
          cases e1
          exact .inr ⟨k, by omega, rfl⟩
  · rintro σ H5 ⟨x3, x4, x5, kvs, rfl, s5, pr5, hs5, hl5, sc5⟩
    refine ⟨_, rfl, fin s0 H5 kvs s5 n0 hs5 fun p hp => sc5 p ?_⟩
    rcases nil_or_snoc p with z | ⟨q1, k1, z⟩
    · exact .inl z
    · right
      subst z
      rw [at?_snoc] at hp
      cases hq1 : e.at? q1 with
      | none => rw [hq1] at hp; cases hp
      | some t1 =>
        rw [hq1] at hp
        have hp' : (t1.own[k1]?).isSome = true := hp
        obtain ⟨i', e1⟩ := post_has hq1
        have hi' : i' < e.post.length := (List.getElem?_eq_some_iff.mp e1).1
        rw [post_length] at hi'
        refine ⟨e.size - 1 - i', q1, t1, k1, by omega, ?_, by simpa using hp', rfl⟩
        rw [List.getElem?_reverse (by rw [post_length]; omega), post_length, ← e1]
        congr 1
        omega
theorem sc_chk : FnScope ["expr", "scope", "pairs", "scopes", "kinds", "place", "part", "own", "breach"] ["expr", "scope"] (defScope st_checked) := ⟨rfl, rfl, rfl, by decide +kernel, rfl, by decide +kernel, by decide +kernel⟩
theorem cs_chk : CompSc ["expr", "scope", "pairs", "scopes", "kinds", "place", "part", "own", "breach"] (defScope st_checked) (compScopeIn st_checked 3 0) "number" := ⟨rfl, by decide +kernel, by decide +kernel, rfl, by decide +kernel, by decide +kernel, by decide +kernel⟩
theorem ok_chk {f : Addr} {fd : FuncData} (F : Fun K "checked" "checked" st_checked f fd) (B : Plain mg) (DO : DefOk P w K mg base 1 "in_order" ["expr"] (spOrderT K)) (DS : DefOk P w K mg base 2 "scopes_by_place" ["pairs", "scope"] (spScopes K))
    (DB : DefOk P w K mg base 2 "breach_of_rule" ["part", "own", "known"] (spV K (RBreach K))) (DK : DefOk P w K mg base 1 "kind_by_rule" ["part", "own", "known"] (spV K (RKind K))) : FnOk P w K mg base CX0 3 f fd ["expr", "scope"] (spChecked K) := by
  refine F.ok sc_chk (fun vs H Q E h => ?_) (fun cdv A outer s H vs Q E hr h => ?_)
  · obtain ⟨v, q, qs, e, sc, rfl, _⟩ := h; rfl
  obtain ⟨v, q, qs, e, sc, rfl, cok, re, hq0, hqs, fin⟩ := h
  have tok := cok.ar
  have hz := cok.size
  have hscl := cok.scl
  have hu : (A.deeper (PyProof.Rows.envOfC "checked" (defScope st_checked) s.heap.objs.size f cdv)).units + 1 < cLine := hu_of hr
  refine ⟨_, pss_cons (ps_set (i := 2) sc_chk.nd rfl (Or.inl rfl) (pe_callD DO (hr.mono (by decide)) rfl (pa_cons (pv 0) pa_nil)))
    (pss_cons (ps_set (i := 3) sc_chk.nd rfl (Or.inl rfl) (pe_callD DS hr rfl (pa_cons (pv 2) (pa_cons (pv 1) pa_nil))))
    (pss_cons (ps_set (i := 4) sc_chk.nd rfl (by first | exact Or.inl rfl | exact Or.inr rfl) pe_dnewT)
    (pss_cons (ps_for PassesOwn.never rfl (pi_list (pv 2)) (pg_tup rfl (pgs_cons (pg_name (i := 5) sc_chk.nd rfl (by first | exact Or.inl rfl | exact Or.inr rfl)) (pgs_cons (pg_name (i := 6) sc_chk.nd rfl (Or.inl rfl)) pgs_nil)))
      (pss_cons (ps_setComp (i := 7) (te := tDGet (tVar 5) (tOp (rCatT' K) (tVar 6) (tTup (tCons (tVar 0) tNil)))) rfl cs_chk sc_chk.nd rfl rfl (pi_range1 rfl B.range (pa_cons (pe_callB call_len_seq rfl B.len PySem.boot_len (pa_cons (pe_ix ix_tup (pv 6) pe_int (fun _ _ => rfl)) pa_nil)) pa_nil))
        (fun cl C s0 H0 fp pins => pe_dget hu (pv 5) (pe_op op_catT' (pv 6) (pe_tup (pa_cons (pv 0) pa_nil))) (fun _ _ => rfl)) rfl)
      (pss_cons (ps_set (i := 8) sc_chk.nd rfl (Or.inl rfl) (pe_callD DB hr rfl (pa_cons (pv 6) (pa_cons (pv 7) (pa_cons (pe_dget hu (pv 3) (pv 5) (fun _ _ => rfl)) pa_nil)))))
      (pss_cons (ps_if (pt_cmp (pc_notN (pv 8))) (pss_one (ps_ret (pe_tup (pa_cons (pe_listIt rfl rfl B.list (pil_items (pv 4) ⟨rfl, rfl, rfl, rfl⟩)) (pa_cons (pe_tup (pa_cons (pe_op op_catT' (pv 5) (pe_ix ix_tup (pv 8) pe_int (fun _ _ => rfl))) (pa_cons (pe_ix ix_tup (pv 8) pe_int (fun _ _ => rfl)) (pa_cons (pe_ix ix_tup (pv 8) pe_int (fun _ _ => rfl)) pa_nil)))) pa_nil))))) pss_nil)
      (pss_one (ps_dput hu (pv 4) (pv 5) (pe_callD DK (hr.mono (by decide)) rfl (pa_cons (pv 6) (pa_cons (pv 7) (pa_cons (pe_dget hu (pv 3) (pv 5) (fun _ _ => rfl)) pa_nil)))) rfl))))))
    (pss_one (ps_ret (pe_tup (pa_cons (pe_listIt rfl rfl B.list (pil_items (pv 4) ⟨rfl, rfl, rfl, rfl⟩)) (pa_cons pe_non pa_nil)))))))), ?_⟩
  have big : ∀ {n : Nat}, n ≤ 1000001 → n < sizeLine := fun h => Nat.lt_of_le_of_lt h (by decide)
  have hes := ex_size e
  refine ⟨_, rfl, v, ex e, rfl, re, by omega, fun pr H1 ps s1 n1 hp1 pp1 => ?_⟩
  refine ⟨_, rfl, _, rfl, pr, q, ps, qs, e, sc, rfl, tok, hz, hp1, pp1, s1 _ _ hq0, Reps.mono (TupLe.of_same s1) _ _ hqs, hscl, fun sp H2 skv s2 n2 hs2 scs2 => ?_⟩
  intro kd nk
  have s12 := s1.trans s2
  have hp2 := s2 _ _ hp1
  have pp2 := pp1.ext (Ext.of_same s2)
  have s3 := same_upd nk (.dT [])
  have hk3 : (upd H2 kd (.dT [])) kd = some (.dT []) := upd_same
  generalize upd H2 kd (.dT []) = H3 at s3 hk3 ⊢
  have hpl : ps.length = e.post.length := by rw [pp2.1, ex_post, List.length_map]
  have hpz : e.post.length = e.size := post_length e
  refine ⟨_, rfl, pr, rfl, ⟨ps, SqL.of (s3 _ _ hp2)⟩, for_list (xs := ps) (fun i σ H5 => ∃ x5 x6 x7 x8 acc kvs, σ = [some v, some (.ref q), some (.ref pr), some (.ref sp), some (.ref kd), x5, x6, x7, x8] ∧ Same H2 H5 ∧ H5 kd = some (.dT kvs) ∧ KvN K H5 acc kvs ∧ Good e sc acc ∧ acc.length = i ∧ goN e sc acc (e.post.drop i) = notesN e sc)
    ⟨none, none, none, none, [], [], rfl, s3, hk3, KvN.nil, Good.nil, rfl, rfl⟩ (fun i σ H5 _ ⟨_, _, _, _, _, _, _, sm, _⟩ => SqL.of (sm _ _ hp2)) ?_ ?_⟩
  · rintro i x σ H5 hx ⟨x5, x6, x7, x8, acc, kvs, rfl, s5, hk5, kn5, gd, hai, hgo⟩
    obtain ⟨xx, hxx, prx⟩ := (pp2.ext (Ext.of_same s5)).get hx
    rw [ex_post, List.getElem?_map] at hxx
    have hil : i < e.post.length := by rw [← hpl]; exact (List.getElem?_eq_some_iff.mp hx).1
    rw [List.getElem?_eq_getElem hil] at hxx
    have hpe : e.post[i]? = some e.post[i] := List.getElem?_eq_getElem hil
    have hdr : e.post.drop i = e.post[i] :: e.post.drop (i + 1) := List.drop_eq_getElem_cons hil
    rw [hdr] at hgo
    generalize e.post[i] = y at hxx hpe hgo
    obtain ⟨p, t⟩ := y
    cases hxx
    have hat := post_at e _ (List.mem_of_getElem? hpe)
    simp only at hat
    have htok := tok.at hat
    have hps := at?_size (e := ex e) (t := ex t) (p := p) (by rw [ex_at, hat]; rfl)
    obtain ⟨own1, own2⟩ := gd.own (p := p) (t := t) (by rw [hai]; exact hpe)
    have nin : p ∉ acc.map (·.1) := by
      rw [gd.places, hai]
      intro hm
      obtain ⟨j, hj⟩ := List.getElem?_of_mem hm
      rw [List.getElem?_take] at hj
      by_cases hlt : j < i
      · rw [if_pos hlt] at hj
        have := nodup_ix (places_nodup e) hj (post_place hpe)
        omega
      · rw [if_neg hlt] at hj; cases hj
    obtain ⟨a, pu, tv, rfl, ga, gu, rtv⟩ := prx
    obtain ⟨a1, b1, c1, ms, os, rfl, g1, g2, g3, g4, g5⟩ := ex_open rtv
    have hol : os.length = t.own.length := by rw [g5.length, List.length_map, ex_own, List.length_map]
    have h03 : t.own.length ≤ 3 := by rw [htok.len]; exact ar_le _
    obtain ⟨bs, hbs, sds⟩ := scs2 p (show (e.at? p).isSome = true by rw [hat]; rfl)
    have hss5 := s5 _ _ hs2
    refine ⟨a, _, rfl, ga, rfl, _, _, rfl, _, _, rfl, rfl, ?_⟩
    refine ⟨_, rfl, a1, _, _, .ref c1, rfl, rfl, g1, rfl, c1, os, rfl, .inr g4, os.length, rfl, by omega, by omega, ?_⟩
    rw [Int.toNat_natCast, hol]
    refine comp_range (fun j ys H6 => Same H5 H6 ∧ ys.length = j ∧ Reps K H6 (((ownK acc p t.own.length).map kdD).take j) ys) ⟨Same.refl _, rfl, by rw [List.take_zero]; exact .nil⟩ (fun j ys H6 h => h.2.1) (Nat.le_of_lt (big (by omega))) ?_ ?_
    · rintro j ys H6 hj ⟨s6, hl6, rp6⟩
      rw [Int.zero_add]
      obtain ⟨kj, j', hr1, hr2⟩ := own2 j hj
      obtain ⟨vj, hv1, hv2⟩ := (kn5.ext (TupLe.of_same s6)).get gd.nodup hr1
      refine ⟨_, rfl, _, rfl, _, rfl, by show 1 ≤ sizeLine; decide, fun p8 n8 => ?_⟩
      have s8 := same_upd n8 (.tup [.int j])
      have hp8 : (upd H6 p8 (.tup [.int j])) p8 = some (.tup [.int j]) := upd_same
      generalize upd H6 p8 (.tup [.int j]) = H8 at s8 hp8 ⊢
      refine cat_trk (SqT.of (s8 _ _ (s6 _ _ gu))) hp8 (by simp) (by simp [kP]; exact Nat.le_of_lt (big (by omega))) fun p9 H9 s9 hp9 => ?_
      have s69 := s8.trans s9
      have hk9 : H9 p9 = some (.tup ((kP (p ++ [j])).map kV)) := by rw [hp9]; simp [kP, kV]
      refine ⟨kd, vj, rfl, by rw [← hv1]; exact DGet.t (s69 _ _ (s6 _ _ hk5)) hk9, s6.trans s69, by simp [hl6], ?_⟩
      rw [List.take_add_one, List.getElem?_map, hr2]
      exact (Reps.mono (TupLe.of_same s69) _ _ rp6).append (.one (Rep.mono (TupLe.of_same s69) _ _ hv2))
    · rintro ys H6 ⟨s6, hl6, rp6⟩ ow now
      rw [List.take_of_length_le (by rw [List.length_map, own1]; exact Nat.le_refl _)] at rp6
      have s7 := same_upd now (.lst ys)
      have hw7 : (upd H6 ow (.lst ys)) ow = some (.lst ys) := upd_same
      generalize upd H6 ow (.lst ys) = H7 at s7 hw7 ⊢
      have s57 := s6.trans s7
      have rp7 := Reps.mono (TupLe.of_same s7) _ _ rp6
      have hks : ∀ k ∈ ownK acc p t.own.length, ksize k ≤ 10000 := by
        intro k hk
        obtain ⟨j, hj⟩ := List.getElem?_of_mem hk
        have hjl : j < t.own.length := by rw [← own1]; exact (List.getElem?_eq_some_iff.mp hj).1
        obtain ⟨kj, j', hr1, hr2⟩ := own2 j hjl
        rw [hj] at hr2
        cases hr2
        exact cok.kinds acc gd j' _ hr1
      have hlen : (ownK acc p t.own.length).length = ar t.lab := by rw [own1, htok.len]
      have hls := cok.lab p t hat
      obtain ⟨b, o⟩ := t
      simp only [Rose.lab] at hlen hls
      generalize hks0 : ownK acc p (Rose.node b o).own.length = ks at hks hlen rp7 hgo
      have sds7 := sds.mono (s5.trans s57)
      have hrd : ∀ {H8 : Hp}, Same H7 H8 → RdRs K H8 [.d (py (ex (.node b o))), .l (ks.map kdD), .h (scPer K (scAt e p sc))] [.ref a1, .ref ow, .ref bs] := fun s8 =>
        .cons (r := .d (py (ex (.node b o)))) (Rep.mono (TupLe.of_same (s57.trans s8)) _ _ rtv) (.cons (r := .l (ks.map kdD)) ⟨ow, rfl, ys, s8 _ _ hw7, Reps.mono (TupLe.of_same s8) _ _ rp7⟩ (.cons (r := .h (scPer K (scAt e p sc))) ⟨bs, rfl, sds7.mono s8⟩ .nil))
      have hgo' : goN e sc acc ((p, .node b o) :: e.post.drop (i + 1)) = match breach b ks (scAt e p sc) with
        | some br => (acc, some (p ++ br.1, br.2))
        | none => goN e sc (acc ++ [(p, kindR b ks (scAt e p sc))]) (e.post.drop (i + 1)) := by rw [goN, hks0]; rfl
      rw [hgo'] at hgo
      refine ⟨_, rfl, _, rfl, _, rfl, _, rfl, sp, .ref bs, rfl, by rw [← hbs]; exact DGet.t (s57 _ _ hss5) (s57 _ _ gu), _, _, hrd (Same.refl _), ⟨b, o, ks, scAt e p sc, rfl, hlen, hks, hls, rfl⟩, fun bv H8 s8 rb => ?_⟩
      have rb' : Rep K H8 (brD (breach b ks (scAt e p sc))) bv := rb
      have s58 := s57.trans s8
      refine ⟨_, rfl, _, rfl, ?_⟩
      have hdn := brD_non rb'
      cases hbr : breach b ks (scAt e p sc) with
      | some br =>
        rw [hbr] at hgo rb' hdn
        have hc : (!decide (bv = V.non)) = true := by rw [hdn]; rfl
        rw [hc]
        refine iteT ?_
        have kn8 := kn5.ext (TupLe.of_same (K := K) s58)
        have hk8 := s58 _ _ hk5
        unfold tRet
        refine items_tup (by rfl) hk8 kn8 (big (by have := gd.le; omega)) fun L ns H9 sb9 nL hL rL => ?_
        have t9 := sb_tupT (K := K) sb9 hk8
        obtain ⟨ba, bvs, rfl, hba, rba⟩ := Rep.untuple (Rep.mono t9 _ _ rb')
        obtain ⟨u0, r0, rfl, e0, rba⟩ := rba.split
        obtain ⟨u1, r1, rfl, e1, rba⟩ := rba.split
        obtain ⟨u2, r2, rfl, e2, rba⟩ := rba.split
        rw [Reps] at rba
        subst rba
        obtain ⟨c0, rfl, hc0⟩ := pl_open e0
        have gu9 : SqT K H9 pu ((kP p).map kV) := t9 _ _ (SqT.of (s58 _ _ gu))
        have hbrl : br.1.length ≤ 1 := breach_len hbr
        refine ⟨_, rfl, _, rfl, ba, _, _, .ref c0, rfl, rfl, hba, rfl, cat_reps gu9 hc0 (by simp [kP]; exact Nat.le_of_lt (big (by omega))) fun cc H10 s10 hcc => ?_⟩
        have hba10 := TupLe.of_same (K := K) s10 _ _ hba
        refine ⟨_, rfl, ba, _, _, u1, rfl, rfl, hba10, rfl, _, rfl, ba, _, _, u2, rfl, rfl, hba10, rfl, by show 3 ≤ sizeLine; decide, fun pt nt => ?_⟩
        have s11 := same_upd nt (.tup [.ref cc, u1, u2])
        have hpt : (upd H10 pt (.tup [.ref cc, u1, u2])) pt = some (.tup [.ref cc, u1, u2]) := upd_same
        generalize upd H10 pt (.tup [.ref cc, u1, u2]) = H11 at s11 hpt ⊢
        refine ⟨by show 2 ≤ sizeLine; decide, fun pz nz => ?_⟩
        have s12' := same_upd nz (.tup [.ref L, .ref pt])
        have s9e := (s10.trans s11).trans s12'
        have nH2L : H2 L = none := (s5.trans s58).free nL
        refine fin pz L ns (.ref pt) _ (fun c o hc => ?_) (SqT.of upd_same) (s12.free nH2L) (s9e _ _ hL) ?_ ?_
        · have hc2 := s12 _ _ hc
          exact s9e _ _ (sb9 _ _ (ne_of_none hc2 nk) ((s5.trans s58) _ _ hc2))
        · rw [← hgo]; exact Reps.mono (TupLe.of_same s9e) _ _ rL
        · rw [← hgo]
          refine Rep.tuple (SqT.of (s12' _ _ hpt)) (.cons (Rep.mono (TupLe.of_same (s11.trans s12')) _ _ (pl_mk ?_)) (.cons (Rep.mono (TupLe.of_same s9e) _ _ e1) (.one (Rep.mono (TupLe.of_same s9e) _ _ e2))))
          rw [List.map_append, ← kP_V]
          exact hcc
      | none =>
        rw [hbr] at hgo rb' hdn
        have hc : (!decide (bv = V.non)) = false := by rw [hdn]; rfl
        rw [hc]
        refine iteF ?_
        refine ⟨_, rfl, _, rfl, _, rfl, _, rfl, sp, .ref bs, rfl, by rw [← hbs]; exact DGet.t (s58 _ _ hss5) (s58 _ _ gu), _, _, hrd s8, ⟨b, o, ks, scAt e p sc, rfl, hlen, hbr, rfl⟩, fun kv H9 s9 rk => ?_⟩
        have rk' : Rep K H9 (kdD (kindR b ks (scAt e p sc))) kv := rk
        have s59 := s58.trans s9
        have hk9 := s59 _ _ hk5
        have kn9 := kn5.ext (TupLe.of_same (K := K) s59)
        refine ⟨_, rfl, _, rfl, kd, _, rfl, DPut.t hk9 (s59 _ _ gu) (by rw [kn9.len]; exact big (by have := gd.le; omega)), ?_⟩
        have gd2 := gd.snoc (p := p) (t := .node b o) (by rw [hai]; exact hpe) (by show breach b _ _ = none; rw [hks0]; exact hbr)
        rw [hks0] at gd2
        refine ⟨_, _, _, _, _, _, rfl, fun c o' hc => ?_, upd_same, (kn9.snoc nin rk').ext (tupT hk9), gd2, by simp [hai], hgo⟩
        rw [upd_ne (ne_of_none hc nk)]
        exact s59 _ _ (s5 _ _ hc)
  · rintro σ H5 ⟨x5, x6, x7, x8, acc, kvs, rfl, s5, hk5, kn5, gd, hai, hgo⟩
    rw [hpl, List.drop_of_length_le (Nat.le_refl _)] at hgo
    have hgo' : (acc, (none : Option Br)) = notesN e sc := hgo
    dsimp only
    unfold tRet
    refine items_tup (by rfl) hk5 kn5 (big (by have := gd.le; omega)) fun L ns H9 sb9 nL hL rL => ?_
    refine ⟨by show 2 ≤ sizeLine; decide, fun pz nz => ?_⟩
    have s12' := same_upd nz (.tup [.ref L, .non])
    have nH2L : H2 L = none := s5.free nL
    refine fin pz L ns .non _ (fun c o hc => ?_) (SqT.of upd_same) (s12.free nH2L) (s12' _ _ hL) ?_ ?_
    · have hc2 := s12 _ _ hc
      exact s12' _ _ (sb9 _ _ (ne_of_none hc2 nk) (s5 _ _ hc2))
    · rw [← hgo']; exact Reps.mono (TupLe.of_same s12') _ _ rL
    · rw [← hgo']; exact Rep.non
theorem sc_notes : FnScope ["expr", "scope"] ["expr", "scope"] (defScope st_notes) := ⟨rfl, rfl, rfl, by decide +kernel, rfl, by decide +kernel, by decide +kernel⟩
theorem ok_notes {f : Addr} {fd : FuncData} (F : Fun K "notes" "notes" st_notes f fd) (DC : DefOk P w K mg base 3 "checked" ["expr", "scope"] (spChecked K)) : FnOk P w K mg base CX0 4 f fd ["expr", "scope"] (spV K RNotes) := by
  refine F.ok sc_notes (fun vs H Q E h => ?_) (fun cdv A outer s H vs Q E hr h => ?_)
  · obtain ⟨as, r, h1, ⟨e, sc, rfl, _⟩, _⟩ := h; rw [h1.length]; rfl
  obtain ⟨as, r, h1, ⟨e, sc, rfl, cok, rfl⟩, q⟩ := h
  obtain ⟨v, u, rfl, r1, r2⟩ := h1.two
  obtain ⟨qa, rfl, qs, hq, rq⟩ := r2
  refine ⟨_, pss_one (ps_ret (pe_ix ix_tup (pe_callD DC hr rfl (pa_cons (pv 0) (pa_cons (pv 1) pa_nil))) pe_int (fun _ _ => rfl))), ?_⟩
  refine ⟨_, rfl, _, rfl, v, qa, qs, e, sc, rfl, cok, r1, hq, rq, fun a L ns fv H' s' sq nL hL rL rf => ?_⟩
  exact ⟨a, _, _, .ref L, rfl, rfl, sq, rfl, q _ H' s' ⟨L, rfl, nL, ns, hL, rL⟩⟩
theorem sc_fault : FnScope ["expr", "scope"] ["expr", "scope"] (defScope st_fault) := ⟨rfl, rfl, rfl, by decide +kernel, rfl, by decide +kernel, by decide +kernel⟩
theorem ok_fault {f : Addr} {fd : FuncData} (F : Fun K "fault" "fault" st_fault f fd) (DC : DefOk P w K mg base 3 "checked" ["expr", "scope"] (spChecked K)) : FnOk P w K mg base CX0 4 f fd ["expr", "scope"] (spV K RFault) := by
  refine F.ok sc_fault (fun vs H Q E h => ?_) (fun cdv A outer s H vs Q E hr h => ?_)
  · obtain ⟨as, r, h1, ⟨e, sc, rfl, _⟩, _⟩ := h; rw [h1.length]; rfl
  obtain ⟨as, r, h1, ⟨e, sc, rfl, cok, rfl⟩, q⟩ := h
  obtain ⟨v, u, rfl, r1, r2⟩ := h1.two
  obtain ⟨qa, rfl, qs, hq, rq⟩ := r2
  refine ⟨_, pss_one (ps_ret (pe_ix ix_tup (pe_callD DC hr rfl (pa_cons (pv 0) (pa_cons (pv 1) pa_nil))) pe_int (fun _ _ => rfl))), ?_⟩
  refine ⟨_, rfl, _, rfl, v, qa, qs, e, sc, rfl, cok, r1, hq, rq, fun a L ns fv H' s' sq nL hL rL rf => ?_⟩
  exact ⟨a, _, _, fv, rfl, rfl, sq, rfl, q _ H' s' rf⟩
theorem sc_scat : FnScope ["_law_expr", "_law_place", "_law_scope", "_law_k", "_law_marks"] ["_law_expr", "_law_place", "_law_scope"] (defScope st_law_scope_at) := ⟨rfl, rfl, rfl, by decide +kernel, rfl, by decide +kernel, by decide +kernel⟩
theorem scK_len (b : Lb) (k : Nat) (sc : Sc) : (scK b k sc).length ≤ sc.length + 2 := by
  unfold scK
  split <;> simp
theorem ok_scat {f : Addr} {fd : FuncData} (F : Fun K "_law_scope_at" "_law_scope_at" st_law_scope_at f fd) : FnOk P w K mg base CX0 1 f fd ["_law_expr", "_law_place", "_law_scope"] (spV K RScAt) := by
  refine F.okV sc_scat (fun as r h => ?_) (fun cdv A outer s H E as r hr h => ?_)
  · obtain ⟨e, t, p, sc, rfl, _⟩ := h; exact ⟨rfl, by simp⟩
  obtain ⟨e, t, p, sc, rfl, hat, hz, rfl⟩ := h
  show VS _ _ [.d _, .d _, .l _, .un, .un] _
  refine vs_for PassesOwn.never rfl (vi_tup (xs := p.map fun (k : Nat) => .int (k : Int)) (by decreasing_trivial_pre_omega)) (vg_name sc_scat.nd rfl)
    (fun i ρ => ∃ u sc' x y, ρ = [.d (py (ex u)), .d (plD p), .l (sc'.map pairK), x, y] ∧ e.at? (p.take i) = some u ∧ scAt e p sc = scAt u (p.drop i) sc' ∧ sc'.length ≤ sc.length + 2 * i) ⟨e, sc, _, _, rfl, by rw [List.take_zero]; exact at?_nil e, rfl, Nat.le_refl _⟩ ?_ ?_
  · rintro i d ρ' hd ⟨u, sc', x, y, rfl, hu, hsc, hl⟩
    have hi : i < p.length := by simpa using (List.getElem?_eq_some_iff.mp hd).1
    have hpi : p[i]? = some p[i] := List.getElem?_eq_getElem hi
    rw [List.getElem?_map, hpi] at hd
    cases hd
    generalize hk : p[i] = k at hpi
    obtain ⟨t', u', g1, g2, g3⟩ : ∃ t' u', e.at? (p.take i) = some t' ∧ t'.own[k]? = some u' ∧ e.at? (p.take (i + 1)) = some u' := by
      have e1 : p = p.take (i + 1) ++ p.drop (i + 1) := (List.take_append_drop ..).symm
      have e2 : p.take (i + 1) = p.take i ++ [k] := by rw [List.take_add_one, hpi]; rfl
      have h1 := hat
      rw [e1, at?_append] at h1
      cases q : e.at? (p.take (i + 1)) with
      | none => rw [q] at h1; cases h1
      | some u2 =>
        have q2 := q
        rw [e2, at?_snoc, hu] at q2
        exact ⟨u, u2, hu, q2, rfl⟩
    rw [hu] at g1
    cases g1
    have hsc2 : scAt e p sc = scAt u' (p.drop (i + 1)) (scK u.lab k sc') := by
      rw [hsc, List.drop_eq_getElem_cons hi, hk, scAt_cons g2]
    have hlen := scK_len u.lab k sc'
    have big : ∀ {n : Nat}, n ≤ 100001 → n ≤ sizeLine := fun h => Nat.le_trans h (by decide)
    obtain ⟨b, o⟩ := u
    have ix : atI (pys (exs o)) (k : Int) = some (py (ex u')) := atI_nat (by rw [pys_map, exs_map, List.map_map, List.getElem?_map, show o[k]? = some u' from g2]; rfl)
    refine ⟨_, rfl, vs_set sc_scat.nd rfl (by decreasing_trivial_pre_omega) ?_⟩
    simp only [Rose.lab] at hlen hsc2
    cases b with
    | fn x2 k2 =>
      refine vs_ifT (by decreasing_trivial_pre_omega) (by rfl) (vs_setO sc_scat.nd rfl (ve_eq (r' := .o ((sc' ++ [(x2, k2)]).map pairK)) (ve_addL (by decreasing_trivial_pre_omega) (by decreasing_trivial_pre_omega) (by rfl) (by rfl) (big (by simp; omega))) (by rw [List.map_append]; rfl)) (vs_nil ?_))
      refine vs_down (i := 2) rfl ?_
      refine vs_ifN (vt_w (vw_andF (vt_eq (by decreasing_trivial_pre_omega) (by rfl)))) rfl ?_
      exact vs_set sc_scat.nd rfl (ve_ixT (by decreasing_trivial_pre_omega) (by decreasing_trivial_pre_omega) ix) (vs_nil ⟨u', sc' ++ [(x2, k2)], .d (.int (k : Int)), .d (.tuple [.str x2, kdD k2]), rfl, g3, hsc2, by simp; omega⟩)
    | case k2 h2 t2 =>
      refine vs_ifN (by decreasing_trivial_pre_omega) (by rfl) ?_
      refine vs_if (vt_w (vw_andT (vt_eq (by decreasing_trivial_pre_omega) (by rfl)) (vw_and1 (by decreasing_trivial_pre_omega)))) (fun h => ?_) (fun h => ?_)
      · have ek : k = 2 := by have := of_decide_eq_true h; omega
        subst ek
        refine vs_setO sc_scat.nd rfl (ve_eq (r' := .o ((sc' ++ [(h2, k2)] ++ [(t2, Kd.list k2)]).map pairK)) (ve_addL (by decreasing_trivial_pre_omega) (by decreasing_trivial_pre_omega) (by rfl) (by rfl) (big (by simp; omega))) (by rw [List.append_assoc, List.map_append]; rfl)) (vs_nil ?_)
        refine vs_down (i := 2) rfl ?_
        exact vs_set sc_scat.nd rfl (ve_ixT (by decreasing_trivial_pre_omega) (by decreasing_trivial_pre_omega) ix) (vs_nil ⟨u', sc' ++ [(h2, k2)] ++ [(t2, Kd.list k2)], .d (.int (2 : Nat)), .d (.tuple [kdD k2, .str h2, .str t2]), rfl, g3, hsc2, by simp; omega⟩)
      · have nk : k ≠ 2 := fun e => by have := of_decide_eq_false h; omega
        have e0 : scK (.case k2 h2 t2) k sc' = sc' := by
          unfold scK
          split
          · rename_i z; cases z
          · rename_i z1 z2; exact absurd rfl nk
          · rfl
        rw [e0] at hsc2
        exact vs_nil (vs_set sc_scat.nd rfl (ve_ixT (by decreasing_trivial_pre_omega) (by decreasing_trivial_pre_omega) ix) (vs_nil ⟨u', sc', .d (.int (k : Int)), .d (.tuple [kdD k2, .str h2, .str t2]), rfl, g3, hsc2, by omega⟩))
    | num i2 => exact vs_ifN (by decreasing_trivial_pre_omega) (by rfl) (vs_ifN (vt_w (vw_andF (vt_eq (by decreasing_trivial_pre_omega) (by rfl)))) rfl (vs_set sc_scat.nd rfl (ve_ixT (by decreasing_trivial_pre_omega) (by decreasing_trivial_pre_omega) ix) (vs_nil ⟨u', sc', _, _, rfl, g3, hsc2, by omega⟩)))
    | truth i2 => exact vs_ifN (by decreasing_trivial_pre_omega) (by rfl) (vs_ifN (vt_w (vw_andF (vt_eq (by decreasing_trivial_pre_omega) (by rfl)))) rfl (vs_set sc_scat.nd rfl (ve_ixT (by decreasing_trivial_pre_omega) (by decreasing_trivial_pre_omega) ix) (vs_nil ⟨u', sc', _, _, rfl, g3, hsc2, by omega⟩)))
    | name i2 => exact vs_ifN (by decreasing_trivial_pre_omega) (by rfl) (vs_ifN (vt_w (vw_andF (vt_eq (by decreasing_trivial_pre_omega) (by rfl)))) rfl (vs_set sc_scat.nd rfl (ve_ixT (by decreasing_trivial_pre_omega) (by decreasing_trivial_pre_omega) ix) (vs_nil ⟨u', sc', _, _, rfl, g3, hsc2, by omega⟩)))
    | nil i2 => exact vs_ifN (by decreasing_trivial_pre_omega) (by rfl) (vs_ifN (vt_w (vw_andF (vt_eq (by decreasing_trivial_pre_omega) (by rfl)))) rfl (vs_set sc_scat.nd rfl (ve_ixT (by decreasing_trivial_pre_omega) (by decreasing_trivial_pre_omega) ix) (vs_nil ⟨u', sc', _, _, rfl, g3, hsc2, by omega⟩)))
    | add => exact vs_ifN (by decreasing_trivial_pre_omega) (by rfl) (vs_ifN (vt_w (vw_andF (vt_eq (by decreasing_trivial_pre_omega) (by rfl)))) rfl (vs_set sc_scat.nd rfl (ve_ixT (by decreasing_trivial_pre_omega) (by decreasing_trivial_pre_omega) ix) (vs_nil ⟨u', sc', _, _, rfl, g3, hsc2, by omega⟩)))
    | less => exact vs_ifN (by decreasing_trivial_pre_omega) (by rfl) (vs_ifN (vt_w (vw_andF (vt_eq (by decreasing_trivial_pre_omega) (by rfl)))) rfl (vs_set sc_scat.nd rfl (ve_ixT (by decreasing_trivial_pre_omega) (by decreasing_trivial_pre_omega) ix) (vs_nil ⟨u', sc', _, _, rfl, g3, hsc2, by omega⟩)))
    | front => exact vs_ifN (by decreasing_trivial_pre_omega) (by rfl) (vs_ifN (vt_w (vw_andF (vt_eq (by decreasing_trivial_pre_omega) (by rfl)))) rfl (vs_set sc_scat.nd rfl (ve_ixT (by decreasing_trivial_pre_omega) (by decreasing_trivial_pre_omega) ix) (vs_nil ⟨u', sc', _, _, rfl, g3, hsc2, by omega⟩)))
    | call => exact vs_ifN (by decreasing_trivial_pre_omega) (by rfl) (vs_ifN (vt_w (vw_andF (vt_eq (by decreasing_trivial_pre_omega) (by rfl)))) rfl (vs_set sc_scat.nd rfl (ve_ixT (by decreasing_trivial_pre_omega) (by decreasing_trivial_pre_omega) ix) (vs_nil ⟨u', sc', _, _, rfl, g3, hsc2, by omega⟩)))
    | ifx => exact vs_ifN (by decreasing_trivial_pre_omega) (by rfl) (vs_ifN (vt_w (vw_andF (vt_eq (by decreasing_trivial_pre_omega) (by rfl)))) rfl (vs_set sc_scat.nd rfl (ve_ixT (by decreasing_trivial_pre_omega) (by decreasing_trivial_pre_omega) ix) (vs_nil ⟨u', sc', _, _, rfl, g3, hsc2, by omega⟩)))
  · rintro ρ' ⟨u, sc', x, y, rfl, hu, hsc, hl⟩
    refine vs_ret (by decreasing_trivial_pre_omega) (.inl ?_)
    rw [List.length_map, List.drop_of_length_le (Nat.le_refl _), scAt_nil] at hsc
    rw [hsc]
theorem sc_named : FnScope ["_law_scope", "_law_name", "_law_found", "_law_pair"] ["_law_scope", "_law_name"] (defScope st_law_named) := ⟨rfl, rfl, rfl, by decide +kernel, rfl, by decide +kernel, by decide +kernel⟩
theorem ok_named {f : Addr} {fd : FuncData} (F : Fun K "_law_named" "_law_named" st_law_named f fd) : FnOk P w K mg base CX0 1 f fd ["_law_scope", "_law_name"] (spV K RNamed) := by
  refine F.okV sc_named (fun as r h => ?_) (fun cdv A outer s H E as r hr h => ?_)
  · obtain ⟨sc, x, rfl, _⟩ := h; exact ⟨rfl, by simp⟩
  obtain ⟨sc, x, rfl, rfl⟩ := h
  show VS _ _ [.l _, .d _, .un, .un] _
  refine vs_set sc_named.nd rfl (by decreasing_trivial_pre_omega) ?_
  refine vs_for PassesOwn.never rfl (vi_name rfl rfl) (vg_name sc_named.nd rfl)
    (fun i ρ => ∃ y, ρ = [.l (sc.map pairK), .d (.str x), .d (optD (look (sc.take i) x)), y]) ⟨_, rfl⟩ ?_ ?_
  · rintro i d ρ' hd ⟨y, rfl⟩
    have hi : i < sc.length := by simpa using (List.getElem?_eq_some_iff.mp hd).1
    rw [List.getElem?_map, List.getElem?_eq_getElem hi] at hd
    cases hd
    have et : sc.take (i + 1) = sc.take i ++ [(sc[i].1, sc[i].2)] := by rw [List.take_add_one, List.getElem?_eq_getElem hi]; rfl
    have lk := look_snoc (sc.take i) sc[i].1 sc[i].2 x
    rw [← et] at lk
    generalize sc[i] = z at lk ⊢
    refine ⟨_, rfl, vs_if (vt_eqS (ve_ixT (xs := [.str z.1, kdD z.2]) (by decreasing_trivial_pre_omega) (by decreasing_trivial_pre_omega) (by exact rfl)) (by decreasing_trivial_pre_omega)) (fun h => ?_) (fun h => ?_)⟩
    · refine vs_set sc_named.nd rfl (ve_ixT (xs := [.str z.1, kdD z.2]) (by decreasing_trivial_pre_omega) (by decreasing_trivial_pre_omega) (by exact rfl)) (vs_nil (vs_nil ⟨.d (pairK z), ?_⟩))
      rw [lk, if_pos (of_decide_eq_true h)]
      rfl
    · refine vs_nil (vs_nil ⟨.d (pairK z), ?_⟩)
      rw [lk, if_neg (of_decide_eq_false h)]
      rfl
  · rintro ρ' ⟨y, rfl⟩
    rw [List.length_map, List.take_length]
    exact vs_ret (by decreasing_trivial_pre_omega) (.inl rfl)
theorem sc_base : FnScope ["_law_num", "_law_rows"] [] (defScope st_law_base) := ⟨rfl, rfl, rfl, by decide +kernel, rfl, by decide +kernel, by decide +kernel⟩
theorem ve_nmX {X : Cx} {ρ : List Sl} {j1 j2 : Nat} {p1 p2 p3 : Pos} : VE X ρ (.BinOp (.Constant (.str "x") j1 p1) .Mult (.Constant (.int 30) j2 p2) p3) (.d (.str nmX)) := ve_mulS ve_str ve_int (by decide) (by decide) (by decide) (by decide)
theorem ve_nmA {X : Cx} {ρ : List Sl} {j1 j2 j3 : Nat} {p1 p2 p3 p4 p5 : Pos} : VE X ρ (.BinOp (.BinOp (.Constant (.str "x") j1 p1) .Mult (.Constant (.int 30) j2 p2) p3) .Add (.Constant (.str "a") j3 p4) p5) (.d (.str nmA)) := ve_addS ve_nmX ve_str (by decide)
theorem ve_nmB {X : Cx} {ρ : List Sl} {j1 j2 j3 : Nat} {p1 p2 p3 p4 p5 : Pos} : VE X ρ (.BinOp (.BinOp (.Constant (.str "x") j1 p1) .Mult (.Constant (.int 30) j2 p2) p3) .Add (.Constant (.str "b") j3 p4) p5) (.d (.str nmB)) := ve_addS ve_nmX ve_str (by decide)
theorem ok_base {f : Addr} {fd : FuncData} (F : Fun K "_law_base" "_law_base" st_law_base f fd) : FnOk P w K mg base CX0 1 f fd [] (spV K RBase) := by
  refine F.okV sc_base (fun as r h => ?_) (fun cdv A outer s H E as r hr h => ?_)
  · obtain ⟨rfl, _⟩ := h; exact ⟨rfl, by simp⟩
  obtain ⟨rfl, rfl⟩ := h
  show VS _ _ [.un, .un] _
  refine vs_set sc_base.nd rfl (by decreasing_trivial_pre_omega) ?_
  refine vs_setO sc_base.nd rfl (ve_lst (vd_cons (by decreasing_trivial_pre_omega) (vd_cons (ve_tup (vd_cons ve_nmA (by decreasing_trivial_pre_omega))) (by decreasing_trivial_pre_omega)))) ?_
  exact vs_ret (ve_addL (by decreasing_trivial_pre_omega) (ve_lst (vd_cons (ve_tup (vd_cons ve_nmA (by decreasing_trivial_pre_omega))) (vd_cons (ve_tup (vd_cons ve_nmB (by decreasing_trivial_pre_omega))) vd_nil))) rfl rfl (by decide)) (.inl rfl)
theorem sc_told : FnScope ["_law_expr", "_law_rows", "_law_due", "_law_done", "_law_row"] ["_law_expr", "_law_rows"] (defScope st_law_told) := ⟨rfl, rfl, rfl, by decide +kernel, rfl, by decide +kernel, by decide +kernel⟩
theorem kit_same (K : PySem.W.Frag) : PySem.W.kitOne K (.type "list") (.type "list") = some true ∧ PySem.W.kitOne K (.type "tuple") (.type "tuple") = some true := ⟨by first | rfl | kernel_rfl, by first | rfl | kernel_rfl⟩
theorem ok_told {f : Addr} {fd : FuncData} (F : Fun K "_law_told" "_law_told" st_law_told f fd) (B : Plain mg) (DL : DefOk P w K mg base 2 "_law_low" ["_law_expr", "_law_place"] (spV K RLow)) (DN : DefOk P w K mg base 3 "_law_next" ["_law_expr", "_law_place"] (spV K RNext)) (DI : DefOk P w K mg base 2 "_law_is_place" ["_law_found"] (spV K RIsPlace)) :
    FnOk P w K mg base CX0 4 f fd ["_law_expr", "_law_rows"] (spV K RTold) := by
  refine F.okV sc_told (fun as r h => ?_) (fun cdv A outer s H E as r hr h => ?_)
  · obtain ⟨e, rows, n, rfl, _⟩ := h; exact ⟨rfl, by simp⟩
  obtain ⟨e, rows, n, rfl, hz, hrows, rfl⟩ := h
  show VS _ _ [.d _, .l _, .un, .un, .un] _
  have hu : (A.deeper (PyProof.Rows.envOfC "_law_told" (defScope st_law_told) s.heap.objs.size f cdv)).units + 4 < cLine := by have := hr.un; omega
  refine vs_ifN (vt_eq (vt_not (vt_bool (ve_isinst B.isinstance B.list PyProof.Rows.boot_list (by decreasing_trivial_pre_omega) rfl (kit_same K).1))) (by rfl)) rfl ?_
  have hes : (ex e).size ≤ 1000 := by rw [ex_size]; exact hz
  refine vs_set sc_told.nd rfl (ve_call (r := .d (plD ([] ++ (ex e).low))) DL (hr.mono (by decide)) (va_cons (by decreasing_trivial_pre_omega) (va_cons (by decreasing_trivial_pre_omega) va_nil)) ⟨ex e, ex e, [], rfl, at?_nil _, by simp; omega, rfl⟩) ?_
  refine vs_set sc_told.nd rfl (by decreasing_trivial_pre_omega) ?_
  have hlen : rows.length ≤ e.places.length := by
    have := congrArg List.length hrows
    rw [List.length_map, List.length_take] at this
    omega
  refine vs_for PassesOwn.never rfl (vi_name rfl rfl) (vg_name sc_told.nd rfl)
    (fun i ρ => ∃ due done x, ρ = [.d (py (ex e)), .l (rows.map noteD), .d (plD due), .d (.bool done), x] ∧ (i < e.places.length → e.places[i]? = some due ∧ done = false)) ⟨_, _, _, rfl, fun _ => ⟨by rw [List.nil_append, ex_low]; exact places_head e, rfl⟩⟩ ?_ ?_
  · rintro i d ρ' hd ⟨due, done, x, rfl, hdue⟩
    have hi : i < rows.length := by simpa using (List.getElem?_eq_some_iff.mp hd).1
    obtain ⟨hd1, rfl⟩ := hdue (by omega)
    rw [List.getElem?_map, List.getElem?_eq_getElem hi] at hd
    cases hd
    have hpl : rows[i].1 = due := by
      have h1 : (rows.map (·.1))[i]? = some rows[i].1 := by rw [List.getElem?_map, List.getElem?_eq_getElem hi]; rfl
      rw [hrows] at h1
      rw [List.getElem?_take] at h1
      by_cases h2 : i < n
      · rw [if_pos h2, hd1] at h1
        exact (Option.some.inj h1).symm
      · rw [if_neg h2] at h1; cases h1
    generalize rows[i] = row at hpl
    obtain ⟨q, k⟩ := row
    simp only at hpl
    subst hpl
    have hat : e.at? q = some ((e.at? q).getD e) := by
      rw [Rose.places, List.getElem?_map] at hd1
      cases z : e.post[i]? with
      | none => rw [z] at hd1; cases hd1
      | some y =>
        rw [z] at hd1
        have e1 : y.1 = q := Option.some.inj hd1
        have := post_at e y (List.mem_of_getElem? z)
        rw [e1] at this
        rw [this]; rfl
    generalize (e.at? q).getD e = t at hat
    have hqs := at?_size (e := ex e) (t := ex t) (p := q) (by rw [ex_at, hat]; rfl)
    refine ⟨_, rfl, vs_ifN (k := false) (vt_w (vw_orF (by decreasing_trivial_pre_omega) (vw_orF (vt_eq (vt_not (vt_bool (ve_isinst B.isinstance B.tuple PyProof.Rows.boot_tuple (by decreasing_trivial_pre_omega) rfl (kit_same K).2))) (by rfl)) (vw_or1 (vt_eq (vt_neI (ve_lenT (xs := [plD q, kdD k]) B.len (by decreasing_trivial_pre_omega)) (by decreasing_trivial_pre_omega)) (by rfl)))))) rfl ?_⟩
    refine vs_ifN (k := false) (vt_w (vw_orF (vt_eq (vt_not (vt_bool (ve_call DI (hr.mono (by decide)) (va_cons (ve_ixT (xs := [plD q, kdD k]) (by decreasing_trivial_pre_omega) (by decreasing_trivial_pre_omega) (by exact rfl)) va_nil) ⟨q, rfl, rfl⟩))) (by rfl))
      (vw_orF (vt_eq (vt_neD (n := 4) hu (ve_ixT (xs := [plD q, kdD k]) (by decreasing_trivial_pre_omega) (by decreasing_trivial_pre_omega) (by exact rfl)) (by decreasing_trivial_pre_omega) rfl rfl (plD_can q) (plD_can q) (.inl (Nat.le_trans (plD_depth q) (by decide)))) (by rw [eqv_pl]; simp)) (vw_or1 (vt_eq (vt_not (vt_bool (ve_isinst B.isinstance B.tuple PyProof.Rows.boot_tuple (ve_ixT (xs := [plD q, kdD k]) (by decreasing_trivial_pre_omega) (by decreasing_trivial_pre_omega) (by exact rfl)) (by cases k <;> rfl) (kit_same K).2))) (by rfl)))))) rfl ?_
    refine vs_set sc_told.nd rfl (ve_eqD (n := 4) (d' := plD []) hu (by decreasing_trivial_pre_omega) (by decreasing_trivial_pre_omega) rfl rfl (plD_can q) (plD_can []) (.inl (Nat.le_trans (plD_depth q) (by decide)))) ?_
    rw [eqv_pl]
    by_cases hq : q = []
    · subst hq
      refine vs_ifN (vt_eq (vt_not (by decreasing_trivial_pre_omega)) (by simp)) rfl (vs_nil ⟨_, _, _, rfl, fun hl => ?_⟩)
      have := places_nil e hd1
      omega
    · refine vs_ifT (vt_eq (vt_not (by decreasing_trivial_pre_omega)) (by simp [hq])) rfl (vs_set sc_told.nd rfl (ve_call (r := .d (plD (nextP (ex e) q))) DN hr (va_cons (by decreasing_trivial_pre_omega) (va_cons (by decreasing_trivial_pre_omega) va_nil)) ⟨ex e, ex t, q, rfl, by rw [ex_at, hat]; rfl, hq, by omega, rfl⟩) (vs_nil (vs_nil ⟨_, _, _, rfl, fun hl => ?_⟩)))
      refine ⟨?_, by simp [hq]⟩
      rw [ex_next]
      have hl' : e.places[i + 1]? = some e.places[i + 1] := List.getElem?_eq_getElem hl
      rw [places_next e hd1 hl']
      exact hl'
  · rintro ρ' ⟨due, done, x, rfl, _⟩
    exact vs_ret (by decreasing_trivial_pre_omega) (.inl rfl)
theorem sc_own : FnScope ["_law_rows", "_law_place", "_law_count", "_law_own", "_law_k", "_law_row"] ["_law_rows", "_law_place", "_law_count"] (defScope st_law_own_kinds) := ⟨rfl, rfl, rfl, by decide +kernel, rfl, by decide +kernel, by decide +kernel⟩
theorem ownF_succ (rows : List (List Nat × Kd)) (p : List Nat) (n : Nat) : ownF rows p (n + 1) = ownF rows p n ++ (rows.filter fun x => decide (x.1 = p ++ [n])).map (·.2) := by
  unfold ownF
  rw [List.range_succ, List.flatMap_append]
  simp
theorem ownF_len (rows : List (List Nat × Kd)) (p : List Nat) (n : Nat) : (ownF rows p n).length ≤ n * rows.length := by
  induction n with
  | zero => simp [ownF]
  | succ n ih =>
    rw [ownF_succ, List.length_append, List.length_map, Nat.succ_mul]
    have := List.length_filter_le (fun x : List Nat × Kd => decide (x.1 = p ++ [n])) rows
    omega
theorem ok_own {f : Addr} {fd : FuncData} (F : Fun K "_law_own_kinds" "_law_own_kinds" st_law_own_kinds f fd) (B : Plain mg) : FnOk P w K mg base CX0 1 f fd ["_law_rows", "_law_place", "_law_count"] (spV K ROwn) := by
  refine F.okV sc_own (fun as r h => ?_) (fun cdv A outer s H E as r hr h => ?_)
  · obtain ⟨rows, p, n, rfl, _⟩ := h; exact ⟨rfl, by simp⟩
  obtain ⟨rows, p, n, rfl, hp, hn, hrl, rfl⟩ := h
  show VS _ _ [.l _, .d _, .d _, .un, .un, .un] _
  have hu : (A.deeper (PyProof.Rows.envOfC "_law_own_kinds" (defScope st_law_own_kinds) s.heap.objs.size f cdv)).units + 4 < cLine := by have := hr.un; omega
  have hsl : sizeLine = 16777216 := sizeLine_eq
  refine vs_setO sc_own.nd rfl (by decreasing_trivial_pre_omega) ?_
  refine vs_for PassesOwn.never rfl (vi_range B.range (by decreasing_trivial_pre_omega) (by omega)) (vg_name sc_own.nd rfl)
    (fun i ρ => ∃ x y, ρ = [.l (rows.map noteD), .d (plD p), .d (.int (n : Nat)), .o ((ownF rows p i).map kdD), x, y]) ⟨_, _, rfl⟩ ?_ ?_
  · rintro i d ρ' hd ⟨x, y, rfl⟩
    have hi : i < n := by simpa [rngD] using (List.getElem?_eq_some_iff.mp hd).1
    have ed : d = .int (i : Nat) := by simpa [rngD, hi] using hd.symm
    subst ed
    refine ⟨_, rfl, vs_for PassesOwn.never rfl (vi_name rfl rfl) (vg_name sc_own.nd rfl)
      (fun j ρ => ∃ y, ρ = [.l (rows.map noteD), .d (plD p), .d (.int (n : Nat)), .o ((ownF rows p i ++ ((rows.take j).filter fun x => decide (x.1 = p ++ [i])).map (·.2)).map kdD), .d (.int (i : Nat)), y]) ⟨y, by simp⟩ ?_ ?_⟩
    · rintro j d ρ' hd ⟨y, rfl⟩
      have hj : j < rows.length := by simpa using (List.getElem?_eq_some_iff.mp hd).1
      rw [List.getElem?_map, List.getElem?_eq_getElem hj] at hd
      cases hd
      have et : rows.take (j + 1) = rows.take j ++ [rows[j]] := by rw [List.take_add_one, List.getElem?_eq_getElem hj]; rfl
      have ef : ((rows.take (j + 1)).filter fun x => decide (x.1 = p ++ [i])) = ((rows.take j).filter fun x => decide (x.1 = p ++ [i])) ++ (if rows[j].1 = p ++ [i] then [rows[j]] else []) := by
        rw [et, List.filter_append]
        by_cases h : rows[j].1 = p ++ [i] <;> simp [h]
      rw [ef]
      generalize rows[j] = row at ef ⊢
      obtain ⟨q, k⟩ := row
      refine ⟨_, rfl, vs_if (vt_eqD (n := 4) (d := plD q) (d' := plD (p ++ [i])) hu (ve_ixT (xs := [plD q, kdD k]) (by decreasing_trivial_pre_omega) (by decreasing_trivial_pre_omega) (by exact rfl)) (ve_eq (r' := .d (plD (p ++ [i]))) (ve_addT (xs := p.map fun (k : Nat) => .int (k : Int)) (by decreasing_trivial_pre_omega) (by decreasing_trivial_pre_omega) (by simp; omega)) (by unfold plD; rw [List.map_append]; rfl)) rfl rfl (plD_can q) (plD_can _) (.inl (Nat.le_trans (plD_depth q) (by decide)))) (fun h => ?_) (fun h => ?_)⟩
      · rw [eqv_pl] at h
        have hq := of_decide_eq_true h
        have hb : (((ownF rows p i ++ ((rows.take j).filter fun x => decide (x.1 = p ++ [i])).map (·.2))).map kdD).length < sizeLine := by
          rw [List.length_map, List.length_append, List.length_map]
          have h1 := ownF_len rows p i
          have h2 := List.length_filter_le (fun x : List Nat × Kd => decide (x.1 = p ++ [i])) (rows.take j)
          have h3 : i * rows.length ≤ 1000 * 1000 := Nat.mul_le_mul (by omega) hrl
          rw [List.length_take] at h2
          omega
        refine vs_append rfl rfl (ve_ixT (xs := [plD q, kdD k]) (by decreasing_trivial_pre_omega) (by decreasing_trivial_pre_omega) (by exact rfl)) hb (vs_nil (vs_nil ⟨.d (noteD (q, k)), ?_⟩))
        simp only [if_pos hq]
        rw [List.map_append (l₁ := List.filter _ _), ← List.append_assoc, List.map_append (l₁ := _ ++ _)]
        rfl
      · rw [eqv_pl] at h
        have hq := of_decide_eq_false h
        refine vs_nil (vs_nil ⟨.d (noteD (q, k)), ?_⟩)
        simp only [if_neg hq, List.append_nil]
        rfl
    · rintro ρ' ⟨y, rfl⟩
      rw [List.length_map, List.take_length]
      refine vs_nil ⟨.d (.int (i : Nat)), y, ?_⟩
      rw [ownF_succ]
  · rintro ρ' ⟨x, y, rfl⟩
    rw [show (rngD 0 n).length = n from by simp [rngD]]
    exact vs_retO rfl rfl (.inl rfl)
theorem sc_due4 : FnScope ["_law_part", "_law_own", "_law_k", "_law_word"] ["_law_part", "_law_own", "_law_k"] (defScope st_law_due_kind) := ⟨rfl, rfl, rfl, by decide +kernel, rfl, by decide +kernel, by decide +kernel⟩
theorem ok_due4 {f : Addr} {fd : FuncData} (F : Fun K "_law_due_kind" "_law_due_kind" st_law_due_kind f fd) : FnOk P w K mg base CX0 1 f fd ["_law_part", "_law_own", "_law_k"] (spV K RDueK) := by
  refine F.okV sc_due4 (fun as r h => ?_) (fun cdv A outer s H E as r hr h => ?_)
  · obtain ⟨b, o, ks, k, rfl, _⟩ := h; exact ⟨rfl, by simp⟩
  obtain ⟨b, o, ks, k, rfl, hl, hk, hc, rfl⟩ := h
  show VS _ _ [.d _, .l _, .d _, .un] _
  refine vs_set sc_due4.nd rfl (by decreasing_trivial_pre_omega) ?_
  have hk3 : k < 3 := by have := ar_le b; omega
  cases b with
  | num i => exact absurd hk (by rw [hl]; simp [ar])
  | truth i => exact absurd hk (by rw [hl]; simp [ar])
  | name x => exact absurd hk (by rw [hl]; simp [ar])
  | nil x => exact absurd hk (by rw [hl]; simp [ar])
  | add => exact vs_ifT (vt_w (vw_orT (vt_eq (by decreasing_trivial_pre_omega) (by rfl)))) rfl (vs_ret (ve_eq (r' := .d (kdD (dueAt .add ks k))) (by decreasing_trivial_pre_omega) (by
      have : k = 0 ∨ k = 1 := by rw [hl] at hk; simp [ar] at hk; omega
      rcases this with rfl | rfl <;> rfl)) (.inl rfl))
  | less => exact vs_ifT (vt_w (vw_orF (vt_eq (by decreasing_trivial_pre_omega) (by rfl)) (vw_or1 (vt_eq (by decreasing_trivial_pre_omega) (by rfl))))) rfl (vs_ret (ve_eq (r' := .d (kdD (dueAt .less ks k))) (by decreasing_trivial_pre_omega) (by
      have : k = 0 ∨ k = 1 := by rw [hl] at hk; simp [ar] at hk; omega
      rcases this with rfl | rfl <;> rfl)) (.inl rfl))
  | fn x m =>
    obtain ⟨k1, rfl⟩ := len1 hl
    obtain rfl : k = 0 := by simp at hk; omega
    refine vs_ifN (vt_w (vw_orF (vt_eq (by decreasing_trivial_pre_omega) (by rfl)) (vw_or1 (vt_eq (by decreasing_trivial_pre_omega) (by rfl))))) rfl ?_
    refine vs_ifN (vt_w (vw_andF (vt_eq (by decreasing_trivial_pre_omega) (by rfl)))) rfl ?_
    refine vs_ifN (vt_w (vw_andF (vt_eq (by decreasing_trivial_pre_omega) (by rfl)))) rfl ?_
    refine vs_ifN (vt_w (vw_andF (vt_eq (by decreasing_trivial_pre_omega) (by rfl)))) rfl ?_
    refine vs_ifN (vt_w (vw_andF (vt_eq (by decreasing_trivial_pre_omega) (by rfl)))) rfl ?_
    refine vs_ifN (vt_w (vw_andF (vt_w (vw_orF (vt_eq (by decreasing_trivial_pre_omega) (by rfl)) (vw_or1 (vt_eq (by decreasing_trivial_pre_omega) (by rfl))))))) rfl ?_
    exact vs_ret (ve_eq (r' := .d (kdD k1)) (by decreasing_trivial_pre_omega) (by rfl)) (.inl rfl)
  | front =>
    obtain ⟨k1, k2, rfl⟩ := len2 hl
    refine vs_ifN (vt_w (vw_orF (vt_eq (by decreasing_trivial_pre_omega) (by rfl)) (vw_or1 (vt_eq (by decreasing_trivial_pre_omega) (by rfl))))) rfl ?_
    refine vs_ifN (vt_w (vw_andF (vt_eq (by decreasing_trivial_pre_omega) (by rfl)))) rfl ?_
    match k, hk with
    | 1, _ => exact vs_ifT (vt_w (vw_andT (vt_eq (by decreasing_trivial_pre_omega) (by rfl)) (vw_and1 (vt_eq (by decreasing_trivial_pre_omega) (by rfl))))) rfl (vs_ret (ve_eq (r' := .d (kdD (.list k1))) (by decreasing_trivial_pre_omega) (by rfl)) (.inl rfl))
    | 0, _ =>
      refine vs_ifN (vt_w (vw_andT (vt_eq (by decreasing_trivial_pre_omega) (by rfl)) (vw_and1 (vt_eq (by decreasing_trivial_pre_omega) (by rfl))))) rfl ?_
      refine vs_ifN (vt_w (vw_andF (vt_eq (by decreasing_trivial_pre_omega) (by rfl)))) rfl ?_
      refine vs_ifN (vt_w (vw_andF (vt_eq (by decreasing_trivial_pre_omega) (by rfl)))) rfl ?_
      refine vs_ifN (vt_w (vw_andF (vt_w (vw_orF (vt_eq (by decreasing_trivial_pre_omega) (by rfl)) (vw_or1 (vt_eq (by decreasing_trivial_pre_omega) (by rfl))))))) rfl ?_
      exact vs_ret (ve_eq (r' := .d (kdD k1)) (by decreasing_trivial_pre_omega) (by rfl)) (.inl rfl)
    | n + 2, h => exact absurd h (by simp)
  | call =>
    obtain ⟨m, n, r, rfl⟩ := hc rfl
    obtain ⟨k1, k2, e⟩ := len2 hl
    cases e
    refine vs_ifN (vt_w (vw_orF (vt_eq (by decreasing_trivial_pre_omega) (by rfl)) (vw_or1 (vt_eq (by decreasing_trivial_pre_omega) (by rfl))))) rfl ?_
    refine vs_ifN (vt_w (vw_andF (vt_eq (by decreasing_trivial_pre_omega) (by rfl)))) rfl ?_
    refine vs_ifN (vt_w (vw_andF (vt_eq (by decreasing_trivial_pre_omega) (by rfl)))) rfl ?_
    refine vs_ifN (vt_w (vw_andF (vt_eq (by decreasing_trivial_pre_omega) (by rfl)))) rfl ?_
    match k, hk with
    | 1, _ => exact vs_ifT (vt_w (vw_andT (vt_eq (by decreasing_trivial_pre_omega) (by rfl)) (vw_and1 (vt_eq (by decreasing_trivial_pre_omega) (by rfl))))) rfl (vs_ret (ve_eq (r' := .d (kdD m)) (ve_ixT (xs := [.str "to", kdD m, kdD n]) (by decreasing_trivial_pre_omega) (by decreasing_trivial_pre_omega) (by exact rfl)) (by rfl)) (.inl rfl))
    | 0, _ =>
      refine vs_ifN (vt_w (vw_andT (vt_eq (by decreasing_trivial_pre_omega) (by rfl)) (vw_and1 (vt_eq (by decreasing_trivial_pre_omega) (by rfl))))) rfl ?_
      refine vs_ifN (vt_w (vw_andF (vt_w (vw_orF (vt_eq (by decreasing_trivial_pre_omega) (by rfl)) (vw_or1 (vt_eq (by decreasing_trivial_pre_omega) (by rfl))))))) rfl ?_
      exact vs_ret (ve_eq (r' := .d (kdD (.to m n))) (by decreasing_trivial_pre_omega) (by rfl)) (.inl rfl)
    | n + 2, h => exact absurd h (by simp)
  | ifx =>
    obtain ⟨k1, k2, k3, rfl⟩ := len3 hl
    refine vs_ifN (vt_w (vw_orF (vt_eq (by decreasing_trivial_pre_omega) (by rfl)) (vw_or1 (vt_eq (by decreasing_trivial_pre_omega) (by rfl))))) rfl ?_
    match k, hk with
    | 0, _ => exact vs_ifT (vt_w (vw_andT (vt_eq (by decreasing_trivial_pre_omega) (by rfl)) (vw_and1 (vt_eq (by decreasing_trivial_pre_omega) (by rfl))))) rfl (vs_ret (ve_eq (r' := .d (kdD .truth)) (by decreasing_trivial_pre_omega) (by rfl)) (.inl rfl))
    | 1, _ =>
      refine vs_ifN (vt_w (vw_andT (vt_eq (by decreasing_trivial_pre_omega) (by rfl)) (vw_and1 (vt_eq (by decreasing_trivial_pre_omega) (by rfl))))) rfl ?_
      refine vs_ifN (vt_w (vw_andF (vt_eq (by decreasing_trivial_pre_omega) (by rfl)))) rfl ?_
      refine vs_ifN (vt_w (vw_andF (vt_eq (by decreasing_trivial_pre_omega) (by rfl)))) rfl ?_
      refine vs_ifN (vt_w (vw_andF (vt_eq (by decreasing_trivial_pre_omega) (by rfl)))) rfl ?_
      refine vs_ifN (vt_w (vw_andT (vt_w (vw_orT (vt_eq (by decreasing_trivial_pre_omega) (by rfl)))) (vw_and1 (vt_eq (by decreasing_trivial_pre_omega) (by rfl))))) rfl ?_
      exact vs_ret (ve_eq (r' := .d (kdD k2)) (by decreasing_trivial_pre_omega) (by rfl)) (.inl rfl)
    | 2, _ =>
      refine vs_ifN (vt_w (vw_andT (vt_eq (by decreasing_trivial_pre_omega) (by rfl)) (vw_and1 (vt_eq (by decreasing_trivial_pre_omega) (by rfl))))) rfl ?_
      refine vs_ifN (vt_w (vw_andF (vt_eq (by decreasing_trivial_pre_omega) (by rfl)))) rfl ?_
      refine vs_ifN (vt_w (vw_andF (vt_eq (by decreasing_trivial_pre_omega) (by rfl)))) rfl ?_
      refine vs_ifN (vt_w (vw_andF (vt_eq (by decreasing_trivial_pre_omega) (by rfl)))) rfl ?_
      exact vs_ifT (vt_w (vw_andT (vt_w (vw_orT (vt_eq (by decreasing_trivial_pre_omega) (by rfl)))) (vw_and1 (vt_eq (by decreasing_trivial_pre_omega) (by rfl))))) rfl (vs_ret (ve_eq (r' := .d (kdD k2)) (by decreasing_trivial_pre_omega) (by rfl)) (.inl rfl))
    | n + 3, h => exact absurd h (by simp)
  | case c x y =>
    obtain ⟨k1, k2, k3, rfl⟩ := len3 hl
    refine vs_ifN (vt_w (vw_orF (vt_eq (by decreasing_trivial_pre_omega) (by rfl)) (vw_or1 (vt_eq (by decreasing_trivial_pre_omega) (by rfl))))) rfl ?_
    refine vs_ifN (vt_w (vw_andF (vt_eq (by decreasing_trivial_pre_omega) (by rfl)))) rfl ?_
    refine vs_ifN (vt_w (vw_andF (vt_eq (by decreasing_trivial_pre_omega) (by rfl)))) rfl ?_
    match k, hk with
    | 0, _ => exact vs_ifT (vt_w (vw_andT (vt_eq (by decreasing_trivial_pre_omega) (by rfl)) (vw_and1 (vt_eq (by decreasing_trivial_pre_omega) (by rfl))))) rfl (vs_ret (ve_eq (r' := .d (kdD (.list c))) (by decreasing_trivial_pre_omega) (by rfl)) (.inl rfl))
    | 1, _ =>
      refine vs_ifN (vt_w (vw_andT (vt_eq (by decreasing_trivial_pre_omega) (by rfl)) (vw_and1 (vt_eq (by decreasing_trivial_pre_omega) (by rfl))))) rfl ?_
      refine vs_ifN (vt_w (vw_andF (vt_eq (by decreasing_trivial_pre_omega) (by rfl)))) rfl ?_
      refine vs_ifN (vt_w (vw_andT (vt_w (vw_orF (vt_eq (by decreasing_trivial_pre_omega) (by rfl)) (vw_or1 (vt_eq (by decreasing_trivial_pre_omega) (by rfl))))) (vw_and1 (vt_eq (by decreasing_trivial_pre_omega) (by rfl))))) rfl ?_
      exact vs_ret (ve_eq (r' := .d (kdD k2)) (by decreasing_trivial_pre_omega) (by rfl)) (.inl rfl)
    | 2, _ =>
      refine vs_ifN (vt_w (vw_andT (vt_eq (by decreasing_trivial_pre_omega) (by rfl)) (vw_and1 (vt_eq (by decreasing_trivial_pre_omega) (by rfl))))) rfl ?_
      refine vs_ifN (vt_w (vw_andF (vt_eq (by decreasing_trivial_pre_omega) (by rfl)))) rfl ?_
      exact vs_ifT (vt_w (vw_andT (vt_w (vw_orF (vt_eq (by decreasing_trivial_pre_omega) (by rfl)) (vw_or1 (vt_eq (by decreasing_trivial_pre_omega) (by rfl))))) (vw_and1 (vt_eq (by decreasing_trivial_pre_omega) (by rfl))))) rfl (vs_ret (ve_eq (r' := .d (kdD k2)) (by decreasing_trivial_pre_omega) (by rfl)) (.inl rfl))
    | n + 3, h => exact absurd h (by simp)
theorem sc_shown : FnScope ["_law_expr", "_law_rows", "_law_found", "_law_here", "_law_part", "_law_scope", "_law_own", "_law_k", "_law_due"] ["_law_expr", "_law_rows", "_law_found"] (defScope st_law_shown) := ⟨rfl, rfl, rfl, by decide +kernel, rfl, by decide +kernel, by decide +kernel⟩
theorem kit_t4 (K : PySem.W.Frag) : PySem.W.kitOne K (.type "tuple") (.type "tuple") = some true := by first | rfl | kernel_rfl
theorem ok_shown {f : Addr} {fd : FuncData} (F : Fun K "_law_shown" "_law_shown" st_law_shown f fd) (B : Plain mg) (DL : DefOk P w K mg base 2 "_law_low" ["_law_expr", "_law_place"] (spV K RLow)) (DN : DefOk P w K mg base 3 "_law_next" ["_law_expr", "_law_place"] (spV K RNext)) (DI : DefOk P w K mg base 2 "_law_is_place" ["_law_found"] (spV K RIsPlace))
    (DP : DefOk P w K mg base 1 "_law_part_there" ["_law_expr", "_law_place"] (spV K RThere)) (DBs : DefOk P w K mg base 1 "_law_base" [] (spV K RBase)) (DS : DefOk P w K mg base 1 "_law_scope_at" ["_law_expr", "_law_place", "_law_scope"] (spV K RScAt)) (DM : DefOk P w K mg base 1 "_law_named" ["_law_scope", "_law_name"] (spV K RNamed))
    (DO : DefOk P w K mg base 1 "_law_own_kinds" ["_law_rows", "_law_place", "_law_count"] (spV K ROwn)) (DD : DefOk P w K mg base 1 "_law_due_kind" ["_law_part", "_law_own", "_law_k"] (spV K RDueK)) :
    FnOk P w K mg base CX0 62 f fd ["_law_expr", "_law_rows", "_law_found"] (spV K RShown) := by
  refine F.okV sc_shown (fun as r h => ?_) (fun cdv A outer s H E as r hr h => ?_)
  · obtain ⟨e, f, rfl, _⟩ := h; exact ⟨rfl, by simp⟩
  obtain ⟨e, fl, rfl, tok, hz, hf, rfl⟩ := h
  have hu : (A.deeper (PyProof.Rows.envOfC "_law_shown" (defScope st_law_shown) s.heap.objs.size f cdv)).units + 1100 < cLine := by have := hr.un; omega
  have hu4 : (A.deeper (PyProof.Rows.envOfC "_law_shown" (defScope st_law_shown) s.heap.objs.size f cdv)).units + 4 < cLine := by omega
  have gd := notes_good e baseSc
  have hrl := gd.le
  have sm := gd.small tok base_small
  have st := notes_stop e baseSc
  unfold Stop at st
  rw [hf] at st
  generalize hrows : (notesN e baseSc).1 = rows at gd hrl sm st
  obtain ⟨p, t, br, hpt, hb, rfl⟩ := st
  have hat := post_at e _ (List.mem_of_getElem? hpt)
  simp only at hat
  have htok := tok.at hat
  have hes : (ex e).size ≤ 1000 := by rw [ex_size]; exact hz
  have hps := at?_size (e := ex e) (t := ex t) (p := p) (by rw [ex_at, hat]; rfl)
  have hpl := post_place hpt
  simp only at hpl
  have hrz : rows.length < e.places.length := (List.getElem?_eq_some_iff.mp hpl).1
  have hez : e.places.length = e.size := by first | exact places_size e | rw [Rose.places, List.length_map]; exact post_length e
  show VS _ _ [.d (py (ex e)), .l (rows.map noteD), .d (.tuple [plD (p ++ br.1), optD br.2.1, optD br.2.2]), .un, .un, .un, .un, .un, .un] _
  refine vs_ifN (k := false) (vt_w (vw_orF (vt_eq (vt_not (vt_bool (ve_isinst B.isinstance B.tuple PyProof.Rows.boot_tuple (by decreasing_trivial_pre_omega) rfl (kit_t4 K)))) (by rfl)) (vw_orF (vt_eq (vt_neI (ve_lenT (xs := [plD (p ++ br.1), optD br.2.1, optD br.2.2]) B.len (by decreasing_trivial_pre_omega)) (by decreasing_trivial_pre_omega)) (by rfl)) (vw_or1 (vt_eq (vt_not (vt_bool (ve_call DI (hr.mono (by decide)) (va_cons (ve_ixT (xs := [plD (p ++ br.1), optD br.2.1, optD br.2.2]) (by decreasing_trivial_pre_omega) (by decreasing_trivial_pre_omega) (by exact rfl)) va_nil) ⟨p ++ br.1, rfl, rfl⟩))) (by rfl)))))) rfl ?_
  refine vs_set sc_shown.nd rfl (ve_call (r := .d (plD ([] ++ (ex e).low))) DL (hr.mono (by decide)) (va_cons (by decreasing_trivial_pre_omega) (va_cons (by decreasing_trivial_pre_omega) va_nil)) ⟨ex e, ex e, [], rfl, at?_nil _, by simp; omega, rfl⟩) ?_
  refine vs_ifJ (ρ' := [.d (py (ex e)), .l (rows.map noteD), .d (.tuple [plD (p ++ br.1), optD br.2.1, optD br.2.2]), .d (plD p), .un, .un, .un, .un, .un]) ?_ (fun main => ?_)
  · have hQ : ∀ {r : Sl}, r = .d (.bool true) → r = .d (.bool true) := fun z => z
    have hlen := Nat.le_of_lt hrz
    obtain ⟨o1, o2⟩ := gd.own (p := p) (t := t) hpt
    have hF := ownF_K gd.nodup p t.own.length
    have hkd : ∀ k ∈ ownK rows p t.own.length, kdep k ≤ 1010 := by
      intro k hk
      obtain ⟨j, hj⟩ := List.getElem?_of_mem hk
      have hjl : j < t.own.length := by rw [← o1]; exact (List.getElem?_eq_some_iff.mp hj).1
      obtain ⟨kj, j', hr1, hr2⟩ := o2 j hjl
      rw [hj] at hr2
      cases hr2
      obtain ⟨u, a, _⟩ := gd j' _ hr1
      have h1 := (sm j' _ u hr1 a).2
      have hau := post_at e _ (List.mem_of_getElem? a)
      have h2 := at?_size (e := ex e) (t := ex u) (p := p ++ [j]) (by rw [ex_at, hau]; rfl)
      rw [ex_size] at h2
      simp only at h1
      omega
    have hal : (ownK rows p t.own.length).length = ar t.lab := by rw [o1, htok.len]
    have hol : t.own.length ≤ 3 := by rw [htok.len]; exact ar_le _
    have hls := htok.small
    have htl : t.own.length = (pys (exs t.own)).length := by rw [pys_map, exs_map]; simp
    have hpn : p.length ≤ 1000 := by omega
    obtain ⟨b, o⟩ := t
    simp only [Rose.lab] at hb hal hls
    generalize hks : ownK rows p (Rose.node b o).own.length = ks at hb hal hkd o1 hF
    refine vs_set sc_shown.nd rfl (ve_call DP (hr.mono (by decide)) (va_cons (by decreasing_trivial_pre_omega) (va_cons (by decreasing_trivial_pre_omega) va_nil)) ⟨ex e, ex (.node b o), p, rfl, by rw [ex_at, hat]; rfl, rfl⟩) ?_
    show VS _ _ [.d (py (ex e)), .l (rows.map noteD), .d (.tuple [plD (p ++ br.1), optD br.2.1, optD br.2.2]), .d (plD p), .d (py (ex (.node b o))), .un, .un, .un, .un] _
    by_cases hn : ∃ x, b = .name x
    · obtain ⟨x, rfl⟩ := hn
      rw [breach_name] at hb
      cases hlk : look (scAt e p baseSc) x with
      | some k => rw [hlk] at hb; cases hb
      | none =>
        rw [hlk] at hb
        cases hb
        refine vs_ifT (vt_eq (vt_eqS (ve_ixT (xs := [.str "name", .tuple [.str x], .tuple (pys (exs o))]) (by decreasing_trivial_pre_omega) (by decreasing_trivial_pre_omega) (by exact rfl)) (by decreasing_trivial_pre_omega)) (by rfl)) rfl ?_
        refine vs_setL sc_shown.nd rfl (ve_call (r := .l ((scAt e p baseSc).map pairK)) DS (hr.mono (by decide)) (va_cons (by decreasing_trivial_pre_omega) (va_cons (by decreasing_trivial_pre_omega) (va_cons (ve_call0 DBs (hr.mono (by decide)) ⟨rfl, rfl⟩) va_nil))) ⟨e, .node (.name x) o, p, baseSc, rfl, hat, by show 5 + 2 * p.length ≤ 100000; omega, rfl⟩) ?_
        refine vs_ret (ve_eq (r' := .d (.bool true)) (ve_and (ve_br (br := (p, none, none)) (br' := (p, none, none)) hu (ve_eq (r' := .d (brD (some (p, none, none)))) (by decreasing_trivial_pre_omega) (by rw [List.append_nil]; rfl)) (by decreasing_trivial_pre_omega) (fun _ z => nomatch z) (fun _ z => nomatch z) rfl) fun _ => ve_one (ve_isN (ra := .d (optD (look (scAt e p baseSc) x))) (ve_call DM (hr.mono (by decide)) (va_cons (by decreasing_trivial_pre_omega) (va_cons (by decreasing_trivial_pre_omega) va_nil)) ⟨scAt e p baseSc, x, rfl, rfl⟩))) (by rw [hlk]; rfl)) (.inl rfl)
    have hword : decide ((lbl b).1 = "name") = false := by
      cases b with
      | name x => exact absurd ⟨x, rfl⟩ hn
      | _ => rfl
    refine vs_ifN (vt_eqS (x := (lbl b).1) (ve_ixT (xs := [.str (lbl b).1, .tuple (lbl b).2, .tuple (pys (exs o))]) (by decreasing_trivial_pre_omega) (by decreasing_trivial_pre_omega) (by exact rfl)) (by decreasing_trivial_pre_omega)) hword ?_
    refine vs_setD sc_shown.nd rfl (by show 6 < 9; decide) (ve_eq (r' := .o (ks.map kdD)) (ve_call DO (hr.mono (by decide)) (va_cons (by decreasing_trivial_pre_omega) (va_cons (by decreasing_trivial_pre_omega) (va_cons (ve_eq (r' := .d (.int (o.length : Nat))) (ve_lenT (xs := pys (exs o)) B.len (by decreasing_trivial_pre_omega)) (by rw [← show o.length = (pys (exs o)).length from htl])) va_nil))) ⟨rows, p, o.length, rfl, hpn, by have : o.length ≤ 3 := hol; omega, by omega, rfl⟩) (by rw [show ownF rows p o.length = ks from hF])) ?_
    show VS _ _ [.d (py (ex e)), .l (rows.map noteD), .d (.tuple [plD (p ++ br.1), optD br.2.1, optD br.2.2]), .d (plD p), .d (py (ex (.node b o))), .un, .l (ks.map kdD), .un, .un] _
    refine vs_ifN (k := false) (vt_eq (vt_neI (ve_eq (r' := .d (.int (o.length : Nat))) (ve_lenL B.len (by decreasing_trivial_pre_omega) rfl) (by rw [List.length_map]; show Sl.d (.int (ks.length : Nat)) = _; rw [show ks.length = o.length from o1])) (ve_eq (r' := .d (.int (o.length : Nat))) (ve_lenT (xs := pys (exs o)) B.len (by decreasing_trivial_pre_omega)) (by rw [← show o.length = (pys (exs o)).length from htl]))) (by simp)) rfl ?_
    by_cases hcall : b = .call ∧ ∃ k r, ks = k :: r ∧ k.arg = none
    · obtain ⟨rfl, k, r, rfl, hk0⟩ := hcall
      obtain ⟨k1, k2, e2⟩ := len2 hal
      cases e2
      have hb' : (if k.arg.isSome then byDues .call [k, k2] else some ([0], none, some k)) = some br := hb
      rw [hk0] at hb'
      cases hb'
      have hkk := hkd k (by simp)
      have hto : ∃ y ys, kdD k = .tuple (.str y :: ys) ∧ y ≠ "to" := by
        cases k with
        | num => exact ⟨_, _, rfl, by decide⟩
        | truth => exact ⟨_, _, rfl, by decide⟩
        | list k => exact ⟨_, _, rfl, by decide⟩
        | to a c => cases hk0
      obtain ⟨y, ys, ey, hy⟩ := hto
      refine vs_ifT (vt_w (vw_andT (vt_eq (by decreasing_trivial_pre_omega) (by rfl)) (vw_and1 (vt_eq (vt_neS (x := y) (ve_ixT (xs := .str y :: ys) (ve_eq (r := .d (kdD k)) (by decreasing_trivial_pre_omega) (by rw [ey])) (by decreasing_trivial_pre_omega) (show atI (PyData.str y :: ys) ((0 : Nat) : Int) = some (.str y) from atI_nat rfl)) (by decreasing_trivial_pre_omega)) (by simp [hy]))))) rfl ?_
      exact vs_ret (ve_br (br := (p ++ [0], none, some k)) (br' := (p ++ [0], none, some k)) hu (by decreasing_trivial_pre_omega) (ve_eq (r := .d (.tuple [.tuple (p.map (fun (k : Nat) => PyData.int (k : Int)) ++ [.int 0]), .none, kdD k])) (ve_tup (vd_cons (ve_addT (xs := p.map fun (k : Nat) => .int (k : Int)) (ys := [.int 0]) (by decreasing_trivial_pre_omega) (by decreasing_trivial_pre_omega) (by simp; have : sizeLine = 16777216 := rfl; omega)) (vd_cons (by decreasing_trivial_pre_omega) (vd_cons (by decreasing_trivial_pre_omega) vd_nil)))) (by simp [brD, plD, optD])) (fun _ z => nomatch z) (fun m z => by cases z; omega) rfl) (.inl rfl)
    have hcl : ∀ m, b = .call → ks[0]? = some m → ∃ x y, m = .to x y := by
      intro m e1 e2
      cases ks with
      | nil => cases e2
      | cons k r =>
        cases e2
        cases m with
        | to x y => exact ⟨x, y, rfl⟩
        | _ => exact absurd ⟨e1, _, _, rfl, rfl⟩ hcall
    have hby : byDues b ks = some br := by
      cases b with
      | name x => exact absurd ⟨x, rfl⟩ hn
      | call =>
        cases ks with
        | nil => exact hb
        | cons k r =>
          obtain ⟨x, y, rfl⟩ := hcl k rfl rfl
          exact hb
      | _ => exact hb
    obtain ⟨j, kj, rfl, hj1, hj2, hj3⟩ := byDues_at hby
    have hjl : j < ks.length := (List.getElem?_eq_some_iff.mp hj1).1
    have hc2 : b = .call → ∃ m n r, ks = .to m n :: r := by
      intro e1
      cases ks with
      | nil => exact absurd hjl (by simp)
      | cons k r =>
        obtain ⟨x, y, rfl⟩ := hcl k e1 rfl
        exact ⟨x, y, r, rfl⟩
    refine vs_ifN (k := false) (vt_w ?_) rfl ?_
    · by_cases e1 : b = .call
      · subst e1
        obtain ⟨m, n, r, rfl⟩ := hc2 rfl
        obtain ⟨k1, k2, e2⟩ := len2 hal
        cases e2
        exact vw_andT (vt_eq (by decreasing_trivial_pre_omega) (by rfl)) (vw_and1 (vt_eq (vt_neS (x := "to") (ve_ixT (xs := [.str "to", kdD m, kdD n]) (by decreasing_trivial_pre_omega) (by decreasing_trivial_pre_omega) (by exact rfl)) (by decreasing_trivial_pre_omega)) (by rfl)))
      · exact vw_andF (vt_eq (vt_eqS (x := (lbl b).1) (ve_ixT (xs := [.str (lbl b).1, .tuple (lbl b).2, .tuple (pys (exs o))]) (by decreasing_trivial_pre_omega) (by decreasing_trivial_pre_omega) (by exact rfl)) (by decreasing_trivial_pre_omega)) (by cases b <;> first | rfl | exact absurd rfl e1))
    have hds : ∀ i, kdep (dueAt b ks i) ≤ 1011 := fun i => dueAt_dep (n := 1010) (by decide) hkd (by omega)
    refine vs_for PassesOwn.never rfl (vi_range B.range (n := ks.length) (ve_eq (ve_lenL B.len (by decreasing_trivial_pre_omega) rfl) (by simp)) (by omega)) (vg_name sc_shown.nd rfl)
      (fun i ρ => ∃ x7 x8, i ≤ j ∧ ρ = [.d (py (ex e)), .l (rows.map noteD), .d (.tuple [plD (p ++ [j]), kdD (dueAt b ks j), kdD kj]), .d (plD p), .d (py (ex (.node b o))), .un, .l (ks.map kdD), x7, x8]) ⟨_, _, Nat.zero_le _, rfl⟩ ?_ ?_
    · rintro i d ρ' hd ⟨x7, x8, hij, rfl⟩
      have hi : i < ks.length := by simpa [rngD] using (List.getElem?_eq_some_iff.mp hd).1
      have ed : d = .int (i : Nat) := by simpa [rngD, hi] using hd.symm
      subst ed
      refine ⟨_, rfl, ?_⟩
      show VS _ _ [.d (py (ex e)), .l (rows.map noteD), .d (.tuple [plD (p ++ [j]), kdD (dueAt b ks j), kdD kj]), .d (plD p), .d (py (ex (.node b o))), .un, .l (ks.map kdD), .d (.int (i : Int)), x8] _
      refine vs_set sc_shown.nd rfl (ve_call DD (hr.mono (by decide)) (va_cons (by decreasing_trivial_pre_omega) (va_cons (by decreasing_trivial_pre_omega) (va_cons (by decreasing_trivial_pre_omega) va_nil))) ⟨b, o, ks, i, rfl, hal, hi, hc2, rfl⟩) ?_
      show VS _ _ [.d (py (ex e)), .l (rows.map noteD), .d (.tuple [plD (p ++ [j]), kdD (dueAt b ks j), kdD kj]), .d (plD p), .d (py (ex (.node b o))), .un, .l (ks.map kdD), .d (.int (i : Int)), .d (kdD (dueAt b ks i))] _
      have hki : ∀ m, ks[i]? = some m → atI (ks.map kdD) (i : Int) = some (kdD m) := fun m q => atI_nat (by rw [List.getElem?_map, q]; rfl)
      by_cases hlt : i < j
      · obtain ⟨m, hm, hdm⟩ := hj3 i hlt
        refine vs_ifN (vt_eq (vt_neD (n := 1100) (d := kdD (dueAt b ks i)) (d' := kdD m) hu (by decreasing_trivial_pre_omega) (ve_ixL (by decreasing_trivial_pre_omega) (by decreasing_trivial_pre_omega) rfl (hki m hm)) rfl rfl (kd_can _) (kd_can _) (.inl (by rw [kd_depth]; have := hds i; omega))) (by rw [kd_eqv, hdm]; simp)) rfl ?_
        exact vs_nil ⟨_, _, hlt, rfl⟩
      · obtain rfl : i = j := by omega
        refine vs_ifT (vt_eq (vt_neD (n := 1100) (d := kdD (dueAt b ks i)) (d' := kdD kj) hu (by decreasing_trivial_pre_omega) (ve_ixL (by decreasing_trivial_pre_omega) (by decreasing_trivial_pre_omega) rfl (hki kj hj1)) rfl rfl (kd_can _) (kd_can _) (.inl (by rw [kd_depth]; have := hds i; omega))) (by rw [kd_eqv]; simp [hj2])) rfl ?_
        have hkk := hkd kj (List.mem_of_getElem? hj1)
        have hdi := hds i
        exact vs_ret (ve_br (br := (p ++ [i], some (dueAt b ks i), some kj)) (br' := (p ++ [i], some (dueAt b ks i), some kj)) hu (by decreasing_trivial_pre_omega) (ve_eq (r := .d (.tuple [.tuple (p.map (fun (k : Nat) => PyData.int (k : Int)) ++ [.int (i : Int)]), kdD (dueAt b ks i), kdD kj])) (ve_tup (vd_cons (ve_addT (xs := p.map fun (k : Nat) => .int (k : Int)) (ys := [.int (i : Int)]) (by decreasing_trivial_pre_omega) (by decreasing_trivial_pre_omega) (by simp; have : sizeLine = 16777216 := rfl; omega)) (vd_cons (by decreasing_trivial_pre_omega) (vd_cons (ve_ixL (by decreasing_trivial_pre_omega) (by decreasing_trivial_pre_omega) rfl (hki kj hj1)) vd_nil)))) (by simp [brD, plD, optD])) (fun m z => by cases z; omega) (fun m z => by cases z; omega) rfl) (.inl rfl)
    · rintro ρ' ⟨x7, x8, hij, rfl⟩
      rw [show (rngD 0 ks.length).length = ks.length from by simp [rngD]] at hij
      omega
  by_cases h0 : rows = []
  · subst h0
    refine vs_ifN (vt_eq (vt_gtI (ve_lenL B.len (by decreasing_trivial_pre_omega) rfl) (by decreasing_trivial_pre_omega)) (by rfl)) rfl ?_
    have hp0 : (ex e).low = p := by
      rw [ex_low]
      have := places_head e
      rw [show ([] : Nts).length = 0 from rfl] at hpl
      rw [this] at hpl
      exact Option.some.inj hpl
    rw [List.nil_append, hp0]
    exact main
  · have hrp : 0 < rows.length := List.length_pos_iff.mpr h0
    obtain ⟨x, hx⟩ : ∃ x, rows[rows.length - 1]? = some x := ⟨_, List.getElem?_eq_getElem (by omega)⟩
    obtain ⟨q, k⟩ := x
    have hqp : e.places[rows.length - 1]? = some q := by
      have h1 : (rows.map (·.1))[rows.length - 1]? = some q := by rw [List.getElem?_map, hx]; rfl
      rw [gd.places, List.getElem?_take, if_pos (by omega)] at h1
      exact h1
    have hqn : q ≠ [] := by
      intro z
      rw [z] at hqp
      have := places_nil e hqp
      omega
    have hnx : nextP e q = p := places_next e hqp (by rw [show rows.length - 1 + 1 = rows.length from by omega]; exact hpl)
    obtain ⟨u, a, _⟩ := gd _ _ hx
    have hau := post_at e _ (List.mem_of_getElem? a)
    simp only at hau
    have hqs := at?_size (e := ex e) (t := ex u) (p := q) (by rw [ex_at, hau]; rfl)
    have hix : atI (rows.map noteD) (-1) = some (noteD (q, k)) := atI_m1 (by rw [List.length_map, List.getElem?_map, hx]; rfl)
    refine vs_ifT (vt_eq (vt_gtI (ve_lenL B.len (by decreasing_trivial_pre_omega) rfl) (by decreasing_trivial_pre_omega)) (by simp; omega)) rfl ?_
    refine vs_ifN (vt_eq (vt_eqD (n := 4) (d := plD q) (d' := plD []) hu4 (ve_ixT (xs := [plD q, kdD k]) (ve_ixL (by decreasing_trivial_pre_omega) (by decreasing_trivial_pre_omega) rfl hix) (by decreasing_trivial_pre_omega) (by exact rfl)) (by decreasing_trivial_pre_omega) rfl rfl (plD_can q) (plD_can []) (.inl (Nat.le_trans (plD_depth q) (by decide)))) (by rw [eqv_pl]; simp [hqn])) rfl ?_
    refine vs_set sc_shown.nd rfl (ve_call (r := .d (plD (nextP (ex e) q))) DN (hr.mono (by decide)) (va_cons (by decreasing_trivial_pre_omega) (va_cons (ve_ixT (xs := [plD q, kdD k]) (ve_ixL (by decreasing_trivial_pre_omega) (by decreasing_trivial_pre_omega) rfl hix) (by decreasing_trivial_pre_omega) (by exact rfl)) va_nil)) ⟨ex e, ex u, q, rfl, by rw [ex_at, hau]; rfl, hqn, by omega, rfl⟩) (vs_nil ?_)
    rw [ex_next, hnx]
    exact main
theorem sc_kof : FnScope ["expr", "scope", "outcome", "place"] ["expr", "scope"] (defScope st_kind_of) := ⟨rfl, rfl, rfl, by decide +kernel, rfl, by decide +kernel, by decide +kernel⟩
theorem ok_kofX {f C : Addr} {fd : FuncData} (F : Fun K "kind_of" "kind_of" st_kind_of f fd) (c : ExcC K mg "BadKind" C) (DC : DefOk P w K mg base 3 "checked" ["expr", "scope"] (spChecked K)) : FnOk P w K mg base (CX1 P w base) 4 f fd ["expr", "scope"] (spKofX K C) := by
  refine F.okX sc_kof (fun vs H Q E h => ?_) (fun cdv A outer s H vs Q E hr h => ?_)
  · obtain ⟨v, q, qs, e, sc, rfl, _⟩ := h; rfl
  obtain ⟨v, qa, qs, e, sc, rfl, cok, r1, hq, rq, h⟩ := h
  have hu : (A.deeper (PyProof.Rows.envOfC "kind_of" (defScope st_kind_of) s.heap.objs.size f cdv)).units + 2 < cLine := by have := hr.un; omega
  refine ⟨_, pss_cons (ps_set (i := 2) sc_kof.nd rfl (Or.inl rfl) (pe_callD DC hr rfl (pa_cons (pv 0) (pa_cons (pv 1) pa_nil))))
    (pss_cons (ps_if (pt_cmp (pc_notN (pe_ix ix_tup (pv 2) pe_int (fun _ _ => rfl)))) (pss_cons (ps_set (i := 3) sc_kof.nd rfl (Or.inl rfl) (pe_ix ix_tup (pe_ix ix_tup (pv 2) pe_int (fun _ _ => rfl)) pe_int (fun _ _ => rfl))) (pss_one (ps_raise raising c rfl (pa_cons (pe_fplace hu (pv 3)) pa_nil)))) pss_nil)
    (pss_one (ps_ret (pe_ix ix_tup (pe_ix ix_list (pe_ix ix_tup (pv 2) pe_int (fun _ _ => rfl)) (pe_un un_neg pe_int) (fun _ _ => rfl)) pe_int (fun _ _ => rfl))))), ?_⟩
  refine ⟨_, rfl, _, rfl, v, qa, qs, e, sc, rfl, cok, r1, hq, rq, fun a L ns fv H' s' sq nL hL rL rf => ?_⟩
  rcases h with ⟨k, hn, hl, hk, q⟩ | ⟨fl, hn, hk3, hfl, hE⟩
  · rw [hn] at rf
    obtain rfl := Rep.is_non rf
    refine ⟨_, rfl, a, _, _, .non, rfl, rfl, sq, rfl, false, rfl, iteF ?_⟩
    have hes := e.size_pos
    have hnl : ns.length = e.size := by rw [rL.length, List.length_map, hl]
    obtain ⟨nv, hnv, rnv⟩ := rL.get (i := e.size - 1) (d := noteD ([], k)) (by rw [List.getElem?_map, hk]; rfl)
    obtain ⟨na, nvs, rfl, hna, rna⟩ := Rep.untuple rnv
    obtain ⟨n1, x1, rfl, e1, rna⟩ := rna.split
    obtain ⟨n2, x2, rfl, e2, rna⟩ := rna.split
    rw [Reps] at rna
    subst rna
    refine ⟨_, rfl, a, _, _, .ref L, rfl, rfl, sq, rfl, 1, rfl, L, ns, _, .ref na, rfl, rfl, SqL.of hL, ?_, na, _, _, n2, rfl, rfl, hna, rfl, q _ H' s' e2⟩
    exact atI_m1 (by rw [hnl]; exact hnv)
  · rw [hn] at rf
    obtain ⟨fa, fvs, rfl, hfa, rfs⟩ := Rep.untuple rf
    obtain ⟨f1, x1, rfl, e1, rfs⟩ := rfs.split
    obtain ⟨pa, rfl, hpq⟩ := pl_open e1
    refine ⟨_, rfl, a, _, _, .ref fa, rfl, rfl, sq, rfl, true, rfl, iteT ?_⟩
    refine ⟨_, rfl, a, _, _, .ref fa, rfl, rfl, sq, rfl, fa, _, _, .ref pa, rfl, rfl, hfa, atI_nat (j := 0) rfl, ?_⟩
    refine ⟨_, rfl, pa, fl.1, rfl, ?_, hk3, hfl, fun y => ⟨by show 1 ≤ 1000; decide, hE H' s'⟩⟩
    exact hpq
theorem sc_und : FnScope ["_law_expr", "e", "_law_just"] ["_law_expr"] (defScope st_law_under_base) := ⟨rfl, rfl, rfl, by decide +kernel, rfl, by decide +kernel, by decide +kernel⟩
theorem ref_is4 {D : Addr} : ∀ u, RelV (.ref D) u → u = .ref D := fun u h => h
theorem ty_is4 {T : String} : ∀ u, RelV (.ty T) u → u = .type T := fun u h => h
theorem ok_und {f C CK CP CS CT CL : Addr} {fd : FuncData} (F : Fun K "_law_under_base" "_law_under_base" st_law_under_base f fd) (B : Plain mg) (B2 : Plain2 mg) (XC : ExcsB K mg C CK CP CS CT CL) (DK : DefX P w K mg base 4 "kind_of" ["expr", "scope"] (spKofX K C)) (DBs : DefOk P w K mg base 1 "_law_base" [] (spV K RBase)) :
    FnOk P w K mg base CX0 5 f fd ["_law_expr"] (spV K RUnder) := by
  refine F.ok sc_und (fun vs H Q E h => ?_) (fun cdv A outer s H vs Q E hr h => ?_)
  · obtain ⟨as, r, h1, ⟨e, fl, rfl, _⟩, _⟩ := h; rw [h1.length]; rfl
  obtain ⟨as, r, h1, ⟨e, fl, rfl, cok, hn, hk3, hfl, rfl⟩, q⟩ := h
  obtain ⟨v, rfl, r1⟩ := h1.one
  refine ⟨_, pss_cons (ps_tryAs (i := 1) ⟨rfl, rfl, rfl⟩ DK hr rfl (pa_cons (pv 0) (pa_cons (pe_callD0 DBs (hr.mono (by decide)) rfl) pa_nil)) rfl XC.mK sc_und.nd rfl rfl (fun ea oe =>
      pss_cons (ps_set (i := 2) sc_und.nd rfl (Or.inl rfl) (pe_lst (pa_cons (pe_isE rfl B.isinstance (pv 1) (pe_glob (v := .ref CP) rfl XC.mP rfl)) (pa_cons (pe_isE rfl B.isinstance (pv 1) (pe_glob (v := .ref C) rfl XC.c.at_ rfl)) (pa_cons (pe_isE rfl B.isinstance (pv 1) (pe_glob (v := .ref CS) rfl XC.mS rfl)) pa_nil)))))
      (pss_cons (ps_set (i := 2) sc_und.nd rfl (Or.inl rfl) (pe_op op_cat (pv 2) (pe_lst (pa_cons (pe_isE rfl B.isinstance (pv 1) (pe_glob (v := .ref CT) rfl XC.mT rfl)) (pa_cons (pe_isE rfl B.isinstance (pv 1) (pe_glob (v := .ref CL) rfl XC.mL rfl)) pa_nil)))))
      (pss_one (ps_ret (pe_and (pe_isE rfl B.isinstance (pv 1) (pe_bltn (v := .ty "ValueError") rfl B2.ve PyProof.Rows.Boot.«ValueError» rfl)) (pe_one (pe_cmpR op_eq (pe_bm PySem.F.plainAttrs_list PySem.F.slot_list_count PySem.F.type_list_count mt_countB (pv 2) (pa_cons pe_bl pa_nil)) pe_int (nomark _)))))))))
    (pss_one (ps_ret pe_bl)), ?_⟩
  refine ⟨_, rfl, [], _, .nil, ⟨rfl, rfl⟩, fun bv H1 s1 rb => ?_⟩
  obtain ⟨qa, rfl, hf0, qs, hqa, rqs⟩ := rb
  refine ⟨v, qa, qs, e, baseSc, rfl, cok, Rep.mono (TupLe.of_same s1) _ _ r1, hqa, rqs, .inr ⟨fl, hn, hk3, hfl, fun H2 s2 => ⟨XC.x2, fun ea oe hoe => ?_⟩⟩⟩
  refine ⟨_, rfl, C, _, _, _, rfl, ref_is4, hoe, XC.xk, XC.kP, _, rfl, C, _, _, _, rfl, ref_is4, hoe, XC.xk, XC.kB, _, rfl, C, _, _, _, rfl, ref_is4, hoe, XC.xk, XC.kS, ?_⟩
  refine ⟨(by show 3 ≤ sizeLine; decide), fun l nl => ?_⟩
  have s3 := same_upd nl (.lst [V.bl false, V.bl true, V.bl false])
  refine ⟨_, rfl, _, rfl, C, _, _, _, rfl, ref_is4, hoe, XC.xk, XC.kT, _, rfl, C, _, _, _, rfl, ref_is4, hoe, XC.xk, XC.kL, ?_⟩
  refine ⟨(by show 2 ≤ sizeLine; decide), fun l2 nl2 => ?_⟩
  have s4 := same_upd nl2 (.lst [V.bl false, V.bl false])
  refine ⟨l, l2, _, _, rfl, rfl, s4 _ _ upd_same, upd_same, (by show 5 ≤ sizeLine; decide), fun l3 nl3 => ?_⟩
  have s5 := same_upd nl3 (.lst ([V.bl false, V.bl true, V.bl false] ++ [V.bl false, V.bl false]))
  refine ⟨_, rfl, C, _, _, _, rfl, ty_is4, hoe, XC.xk, XC.kV, true, rfl, iteT ?_⟩
  refine ⟨_, rfl, ?_⟩
  exact ⟨.inl ⟨rfl, _, SqL.of upd_same⟩, l3, [false, true, false, false, false], true, rfl, rfl, upd_same, rfl, q _ _ ((((s1.trans s2).trans s3).trans s4).trans s5) RsR.bool⟩
theorem sc_so : FnScope ["_law_found", "_law_meant", "_law_k"] ["_law_found", "_law_meant"] (defScope st_law_so) := ⟨rfl, rfl, rfl, by decide +kernel, rfl, by decide +kernel, by decide +kernel⟩
theorem kit_so (K : PySem.W.Frag) : PySem.W.kitOne K (.type "tuple") (.type "bool") = some false ∧ PySem.W.kitOne K (.type "tuple") (.type "int") = some false ∧ PySem.W.kitOne K (.type "tuple") (.type "str") = some false ∧ PySem.W.kitOne K (.type "tuple") (.type "dict") = some false ∧
    PySem.W.kitOne K (.type "tuple") (.type "tuple") = some true ∧ PySem.W.kitOne K (.type "tuple") (.type "list") = some false ∧ PySem.W.kitAny K (.type "tuple") [.type "list", .type "tuple"] = some true ∧
    PySem.W.kitOne K (.type "str") (.type "bool") = some false ∧ PySem.W.kitOne K (.type "str") (.type "int") = some false ∧ PySem.W.kitOne K (.type "str") (.type "str") = some true :=
  ⟨by first | rfl | kernel_rfl, by first | rfl | kernel_rfl, by first | rfl | kernel_rfl, by first | rfl | kernel_rfl, by first | rfl | kernel_rfl, by first | rfl | kernel_rfl, by first | rfl | kernel_rfl, by first | rfl | kernel_rfl, by first | rfl | kernel_rfl, by first | rfl | kernel_rfl⟩
theorem ok_so {f : Addr} {fd : FuncData} (F : Fun K "_law_so" "_law_so" st_law_so f fd) (hb : Binds K fd ["_law_found", "_law_meant"] []) (hkp : PySem.W.keepIn K (.ref f) = true) (hm : mg "_law_so" = some (.ref f)) (B : Plain mg) (B2 : Plain2 mg) (hdict : mg "dict" = none) (n : Nat) : FnOk P w K mg base CX0 (n + 1) f fd ["_law_found", "_law_meant"] (spV K (RSo n)) := by
  obtain ⟨c1, c2, c3, c4, c5, c6, c7, c8, c9, c10⟩ := kit_so K
  induction n with
  | zero =>
    refine F.okV sc_so (fun as r h => ?_) (fun cdv A outer s H E as r hr h => ?_)
    · obtain ⟨x, rfl, _⟩ := h; exact ⟨rfl, by simp⟩
    obtain ⟨x, rfl, hx, rfl⟩ := h
    cases x with
    | inl k => have := kdep_pos k; simp only [soDep] at hx; omega
    | inr x =>
      show VS _ _ [.d (.str x), .d (.str x), .un] _
      refine vs_ifN (vt_eq (vt_isN (ra := .d (.str x)) (by decreasing_trivial_pre_omega)) (by rfl)) rfl ?_
      refine vs_ifN (vt_bool (ve_isinst B.isinstance B.bool PyProof.Rows.boot_bool (by decreasing_trivial_pre_omega) rfl c8)) rfl ?_
      refine vs_ifN (vt_bool (ve_isinst B.isinstance B.int PyProof.Rows.boot_int (by decreasing_trivial_pre_omega) rfl c9)) rfl ?_
      refine vs_ifT (vt_bool (ve_isinst B.isinstance B2.str PyProof.Rows.boot_str (by decreasing_trivial_pre_omega) rfl c10)) rfl ?_
      exact vs_ret (ve_eq (r' := .d (.bool true)) (ve_and (ve_isinst B.isinstance B2.str PyProof.Rows.boot_str (by decreasing_trivial_pre_omega) rfl c10) fun _ => ve_one (ve_eqSb (x := x) (y := x) (by decreasing_trivial_pre_omega) (by decreasing_trivial_pre_omega))) (by simp)) (.inl rfl)
  | succ n ih =>
    have DS : DefOk P w K mg base (n + 1) "_law_so" ["_law_found", "_law_meant"] (spV K (RSo n)) := ⟨f, fd, ih, hb, hkp, hm⟩
    refine F.okV sc_so (fun as r h => ?_) (fun cdv A outer s H E as r hr h => ?_)
    · obtain ⟨x, rfl, _⟩ := h; exact ⟨rfl, by simp⟩
    obtain ⟨x, rfl, hx, rfl⟩ := h
    cases x with
    | inr x =>
      show VS _ _ [.d (.str x), .d (.str x), .un] _
      refine vs_ifN (vt_eq (vt_isN (ra := .d (.str x)) (by decreasing_trivial_pre_omega)) (by rfl)) rfl ?_
      refine vs_ifN (vt_bool (ve_isinst B.isinstance B.bool PyProof.Rows.boot_bool (by decreasing_trivial_pre_omega) rfl c8)) rfl ?_
      refine vs_ifN (vt_bool (ve_isinst B.isinstance B.int PyProof.Rows.boot_int (by decreasing_trivial_pre_omega) rfl c9)) rfl ?_
      refine vs_ifT (vt_bool (ve_isinst B.isinstance B2.str PyProof.Rows.boot_str (by decreasing_trivial_pre_omega) rfl c10)) rfl ?_
      exact vs_ret (ve_eq (r' := .d (.bool true)) (ve_and (ve_isinst B.isinstance B2.str PyProof.Rows.boot_str (by decreasing_trivial_pre_omega) rfl c10) fun _ => ve_one (ve_eqSb (x := x) (y := x) (by decreasing_trivial_pre_omega) (by decreasing_trivial_pre_omega))) (by simp)) (.inl rfl)
    | inl k =>
      have hu : (A.deeper (PyProof.Rows.envOfC "_law_so" (defScope st_law_so) s.heap.objs.size f cdv)).units + 4 < cLine := by have := hr.un; omega
      have h3 := kparts_len k
      have hdp : ∀ x ∈ kparts k, soDep x ≤ n := fun x hx' => by have := kparts_dep hx'; simp only [soDep] at hx; omega
      generalize hps : kparts k = ps at h3 hdp
      have ek : kdD k = .tuple (ps.map soD) := by rw [kd_parts, hps]
      show VS _ _ [.d (kdD k), .d (kdD k), .un] _
      rw [ek]
      refine vs_ifN (vt_eq (vt_isN (ra := .d (.tuple (ps.map soD))) (by decreasing_trivial_pre_omega)) (by rfl)) rfl ?_
      refine vs_ifN (vt_bool (ve_isinst B.isinstance B.bool PyProof.Rows.boot_bool (by decreasing_trivial_pre_omega) rfl c1)) rfl ?_
      refine vs_ifN (vt_bool (ve_isinst B.isinstance B.int PyProof.Rows.boot_int (by decreasing_trivial_pre_omega) rfl c2)) rfl ?_
      refine vs_ifN (vt_bool (ve_isinst B.isinstance B2.str PyProof.Rows.boot_str (by decreasing_trivial_pre_omega) rfl c3)) rfl ?_
      refine vs_ifN (vt_bool (ve_isinst B.isinstance hdict PyProof.Rows.boot_dict (by decreasing_trivial_pre_omega) rfl c4)) rfl ?_
      refine vs_ifN (vt_eq (vt_neD (n := 4) (d := .bool true) (d' := .bool true) hu (ve_isinst B.isinstance B.tuple PyProof.Rows.boot_tuple (by decreasing_trivial_pre_omega) rfl c5) (ve_isinst B.isinstance B.tuple PyProof.Rows.boot_tuple (by decreasing_trivial_pre_omega) rfl c5) rfl rfl rfl rfl (.inl (by decide))) (by rfl)) rfl ?_
      refine vs_ifN (k := false) (vt_w (vw_orF (vt_eq (vt_neD (n := 4) (d := .bool false) (d' := .bool false) hu (ve_isinst B.isinstance B.list PyProof.Rows.boot_list (by decreasing_trivial_pre_omega) rfl c6) (ve_isinst B.isinstance B.list PyProof.Rows.boot_list (by decreasing_trivial_pre_omega) rfl c6) rfl rfl rfl rfl (.inl (by decide))) (by rfl)) (vw_or1 (vt_eq (vt_not (vt_bool (ve_isinstT B.isinstance B.list PyProof.Rows.boot_list B.tuple PyProof.Rows.boot_tuple (by decreasing_trivial_pre_omega) c7))) (by rfl))))) rfl ?_
      refine vs_ifN (vt_eq (vt_neI (ve_lenT B.len (by decreasing_trivial_pre_omega)) (ve_lenT B.len (by decreasing_trivial_pre_omega))) (by simp)) rfl ?_
      refine vs_for PassesOwn.never rfl (vi_range B.range (n := ps.length) (ve_eq (ve_lenT B.len (by decreasing_trivial_pre_omega)) (by simp)) (by omega)) (vg_name sc_so.nd rfl)
        (fun i ρ => ∃ x2, ρ = [.d (.tuple (ps.map soD)), .d (.tuple (ps.map soD)), x2]) ⟨_, rfl⟩ ?_ ?_
      · rintro i d ρ' hd ⟨x2, rfl⟩
        have hi : i < ps.length := by simpa [rngD] using (List.getElem?_eq_some_iff.mp hd).1
        have ed : d = .int (i : Nat) := by simpa [rngD, hi] using hd.symm
        subst ed
        have hix : atI (ps.map soD) (i : Int) = some (soD ps[i]) := atI_nat (by rw [List.getElem?_map, List.getElem?_eq_getElem hi]; rfl)
        refine ⟨_, rfl, ?_⟩
        show VS _ _ [.d (.tuple (ps.map soD)), .d (.tuple (ps.map soD)), .d (.int (i : Int))] _
        refine vs_ifN (vt_eq (vt_not (vt_bool (ve_call DS hr (va_cons (ve_ixT (by decreasing_trivial_pre_omega) (by decreasing_trivial_pre_omega) hix) (va_cons (ve_ixT (by decreasing_trivial_pre_omega) (by decreasing_trivial_pre_omega) hix) va_nil)) ⟨ps[i], rfl, hdp _ (List.getElem_mem hi), rfl⟩))) (by rfl)) rfl ?_
        exact vs_nil ⟨_, rfl⟩
      · rintro ρ' ⟨x2, rfl⟩
        exact vs_ret (by decreasing_trivial_pre_omega) (.inl rfl)
theorem sc_law : FnScope ["_law_script", "_law_expr", "_law_handed", "_law_rows", "_law_found", "_law_kind", "_law_refused"] ["_law_script"] (defScope st_law) := ⟨rfl, rfl, rfl, by decide +kernel, rfl, by decide +kernel, by decide +kernel⟩
theorem kit_t5 (K : PySem.W.Frag) : PySem.W.kitOne K (.type "tuple") (.type "tuple") = some true := by first | rfl | kernel_rfl
theorem ok_law {f C CK CP CS CT CL : Addr} {fd : FuncData} (F : Fun K "law" "law" st_law f fd) (B : Plain mg) (XC : ExcsB K mg C CK CP CS CT CL) (DD : DefOk P w K mg base 5 "_law_drawn" ["_law_cells"] (spDrawn4 K)) (DBs : DefOk P w K mg base 1 "_law_base" [] (spV K RBase)) (DN : DefOk P w K mg base 4 "notes" ["expr", "scope"] (spV K RNotes))
    (DFt : DefOk P w K mg base 4 "fault" ["expr", "scope"] (spV K RFault)) (DT : DefOk P w K mg base 4 "_law_told" ["_law_expr", "_law_rows"] (spV K RTold)) (DKo : DefX P w K mg base 4 "kind_of" ["expr", "scope"] (spKofX K C)) (DSh : DefOk P w K mg base 62 "_law_shown" ["_law_expr", "_law_rows", "_law_found"] (spV K RShown))
    (DU : DefOk P w K mg base 5 "_law_under_base" ["_law_expr"] (spV K RUnder)) (DSo : DefOk P w K mg base 201 "_law_so" ["_law_found", "_law_meant"] (spV K (RSo 200))) : FnOk P w K mg base CX0 202 f fd ["_law_script"] (spV K (RLaw K)) := by
  refine F.okV sc_law (fun as r h => ?_) (fun cdv A outer s H E as r hr h => ?_)
  · obtain ⟨ns, rfl, _⟩ := h; exact ⟨rfl, by simp⟩
  obtain ⟨ns, rfl, hns, rfl⟩ := h
  show VS _ _ [.h _, .un, .un, .un, .un, .un, .un] _
  have hu : (A.deeper (PyProof.Rows.envOfC "law" (defScope st_law) s.heap.objs.size f cdv)).units + 10 < cLine := by have := hr.un; omega
  refine vs_of (ps_set (i := 1) sc_law.nd rfl (Or.inl rfl) (pe_callD DD (hr.mono (by decide)) rfl (pa_cons (pe_slice sl_list (pv 0) po_none (po_some pe_int)) pa_nil))) fun H0 hs D σ H1 er l => ?_
  obtain ⟨sv, h1, a, rfl, hS⟩ := er.per 0 _ rfl
  refine ⟨_, h1, 64, rfl, a, _, rfl, hS.sq, fun p np => ?_⟩
  have s1 := same_upd np (.lst (cutV (ns.map V.int) none (some 64)))
  have e64 : cutV (ns.map V.int) none (some 64) = (ns.take 64).map V.int := by rw [show (64 : Int) = ((64 : Nat) : Int) from rfl, cutV_take, List.map_take]
  have hcl : (ns.take 64).length ≤ 63 := by rw [List.length_take]; omega
  refine ⟨p, ns.take 64, rfl, by rw [e64]; exact SqL.of upd_same, by omega, fun v2 H2 e0 s2 wf hz rv => l.nx _ _ ⟨_, ?_, (er.grow (s1.trans s2)).setD rv⟩⟩
  obtain ⟨e, rfl, tok⟩ := wf.tm
  have hz' : e.size ≤ 192 := by rw [← ex_size]; omega
  have cok : ChkOk e baseSc := .of_tok tok (by omega) (by decide) base_small
  have gd := notes_good e baseSc
  have hrl := gd.le
  have sm := gd.small tok base_small
  have st := notes_stop e baseSc
  unfold Stop at st
  have nck := notes_ck e baseSc
  show VS _ _ [.h _, .d (py (ex e)), .un, .un, .un, .un, .un] _
  refine vs_setD sc_law.nd rfl (by simp) (ve_call0 DBs (hr.mono (by decide)) ⟨rfl, rfl⟩) ?_
  refine vs_setD sc_law.nd rfl (by simp) (ve_call DN (hr.mono (by decide)) (va_cons (by decreasing_trivial_pre_omega) (va_cons (by decreasing_trivial_pre_omega) va_nil)) ⟨e, baseSc, rfl, cok, rfl⟩) ?_
  refine vs_set sc_law.nd rfl (ve_call DFt (hr.mono (by decide)) (va_cons (by decreasing_trivial_pre_omega) (va_cons (by decreasing_trivial_pre_omega) va_nil)) ⟨e, baseSc, rfl, cok, rfl⟩) ?_
  show VS _ _ [.h _, .d (py (ex e)), .l (baseSc.map pairK), .l ((notesN e baseSc).1.map noteD), .d (brD (notesN e baseSc).2), .un, .un] _
  refine vs_ifN (k := false) (vt_eq (vt_not (vt_bool (ve_call DT (hr.mono (by decide)) (va_cons (by decreasing_trivial_pre_omega) (va_cons (by decreasing_trivial_pre_omega) va_nil)) ⟨e, _, _, rfl, by omega, gd.places, rfl⟩))) (by rfl)) rfl ?_
  refine vs_set sc_law.nd rfl (by decreasing_trivial_pre_omega) ?_
  refine vs_set sc_law.nd rfl (by decreasing_trivial_pre_omega) ?_
  show VS _ _ [.h _, .d (py (ex e)), .l (baseSc.map pairK), .l ((notesN e baseSc).1.map noteD), .d (brD (notesN e baseSc).2), .d .none, .d (.bool false)] _
  refine vs_of (ps_trySet (i := 5) ⟨rfl, rfl, rfl⟩ DKo (hr.mono (by decide)) rfl (pa_cons (pv 1) (pa_cons (pv 2) pa_nil)) rfl XC.c.at_ sc_law.nd rfl (Or.inl rfl) (fun ea oe => pss_one (ps_set (i := 6) sc_law.nd rfl (Or.inl rfl) pe_bl))) fun H0 hs D σ H1 er l => ?_
  obtain ⟨v1, g1, r1⟩ := er.dat 1 _ rfl
  obtain ⟨qa, g2, qs, hq, rq⟩ := er.lst 2 _ rfl
  cases hf : (notesN e baseSc).2 with
  | none =>
    rw [hf] at st
    refine ⟨_, g1, _, g2, v1, qa, qs, e, baseSc, rfl, cok, r1, hq, rq, .inl ?_⟩
    cases hc : ck baseSc e with
    | bad r pl d f => rw [hc] at nck; rw [hf] at nck; cases nck.1
    | ok k =>
      rw [hc] at nck
      obtain ⟨n1, n2, n3⟩ := nck
      refine ⟨k, n1, n2, n3, fun v H' s' rv => l.nx _ _ ⟨_, ?_, (er.grow s').setD rv⟩⟩
      rw [hf]
      show VS _ _ [.h _, .d (py (ex e)), .l (baseSc.map pairK), .l ((notesN e baseSc).1.map noteD), .d .none, .d (kdD k), .d (.bool false)] _
      have hkp : kdep k ≤ 200 := by
        obtain ⟨t, ha, _⟩ := gd _ _ n3
        have h1 := (sm _ _ t n3 ha).2
        have hat := post_at e _ (List.mem_of_getElem? ha)
        simp only at hat
        rw [at?_nil] at hat
        cases hat
        simp only at h1
        omega
      have hpos := e.size_pos
      have hix : atI ((notesN e baseSc).1.map noteD) (-1) = some (noteD ([], k)) := atI_m1 (by rw [List.length_map, List.getElem?_map, n2, n3]; rfl)
      refine vs_ifN (k := false) (vt_w (vw_orF (vt_eq (vt_neD (n := 10) (d := .bool false) (d' := .bool false) hu (by decreasing_trivial_pre_omega) (ve_eq (r' := .d (.bool false)) (ve_notN (ra := .d .none) (by decreasing_trivial_pre_omega)) (by rfl)) rfl rfl rfl rfl (.inl (by decide))) (by rfl)) (vw_or1 (vt_eq (vt_neD (n := 10) hu (by decreasing_trivial_pre_omega) (ve_call0 DBs (hr.mono (by decide)) ⟨rfl, rfl⟩) rfl rfl base_can base_can (.inl base_depth)) (by rw [base_eqv]; rfl))))) rfl ?_
      refine vs_ifN (by decreasing_trivial_pre_omega) (by rfl) ?_
      refine vs_ifN (k := false) (vt_w (vw_orF (vt_eq (vt_eqI (ve_lenL B.len (by decreasing_trivial_pre_omega) rfl) (by decreasing_trivial_pre_omega)) (by rw [List.length_map, n2]; rw [decide_eq_false_iff_not]; omega)) (vw_or1 (vt_eq (vt_neD (n := 10) (d := plD []) (d' := plD []) hu (ve_ixT (xs := [plD [], kdD k]) (ve_ixL (by decreasing_trivial_pre_omega) (by decreasing_trivial_pre_omega) rfl hix) (by decreasing_trivial_pre_omega) (by exact rfl)) (by decreasing_trivial_pre_omega) rfl rfl (plD_can []) (plD_can []) (.inl (by decide))) (by rw [eqv_pl]; rfl))))) rfl ?_
      exact vs_ret (ve_eq (r' := .d (.bool true)) (ve_and (ve_isinst B.isinstance B.tuple PyProof.Rows.boot_tuple (by decreasing_trivial_pre_omega) (by cases k <;> rfl) (kit_t5 K)) fun _ => ve_one (ve_call DSo hr (va_cons (by decreasing_trivial_pre_omega) (va_cons (ve_ixT (xs := [plD [], kdD k]) (ve_ixL (by decreasing_trivial_pre_omega) (by decreasing_trivial_pre_omega) rfl hix) (by decreasing_trivial_pre_omega) (by exact rfl)) va_nil)) ⟨.inl k, rfl, hkp, rfl⟩)) (by rfl)) (.inl rfl)
  | some fl =>
    rw [hf] at st
    obtain ⟨p, t, br, hpt, hb, rfl⟩ := st
    have hat := post_at e _ (List.mem_of_getElem? hpt)
    simp only at hat
    have hps := at?_size (e := ex e) (t := ex t) (p := p) (by rw [ex_at, hat]; rfl)
    rw [ex_size] at hps
    have hal : (ownK (notesN e baseSc).1 p t.own.length).length = ar t.lab := by rw [(gd.own (p := p) (t := t) hpt).1, (tok.at hat).len]
    have hk3 : ∀ k ∈ p ++ br.1, k < 3 := by
      intro k hk
      rcases List.mem_append.mp hk with hk | hk
      · exact tok_digits tok hat k hk
      · exact breach_digit hal hb k hk
    have hpl : (p ++ br.1).length ≤ 1000000 := by
      have := breach_len hb
      rw [List.length_append]
      omega
    refine ⟨_, g1, _, g2, v1, qa, qs, e, baseSc, rfl, cok, r1, hq, rq, .inr ⟨_, hf, hk3, hpl, fun H' s' => ⟨XC.x1, l.nx _ _ ⟨_, ?_, (er.grow s').setD (i := 6) (x := .bool true) (v := .bl true) (@Rep.bool K _ true)⟩⟩⟩⟩
    rw [hf]
    show VS _ _ [.h _, .d (py (ex e)), .l (baseSc.map pairK), .l ((notesN e baseSc).1.map noteD), .d (.tuple [plD (p ++ br.1), optD br.2.1, optD br.2.2]), .d .none, .d (.bool true)] _
    refine vs_ifN (k := false) (vt_w (vw_orF (vt_eq (vt_neD (n := 10) (d := .bool true) (d' := .bool true) hu (by decreasing_trivial_pre_omega) (ve_eq (r' := .d (.bool true)) (ve_notN (ra := .d (.tuple [plD (p ++ br.1), optD br.2.1, optD br.2.2])) (by decreasing_trivial_pre_omega)) (by rfl)) rfl rfl rfl rfl (.inl (by decide))) (by rfl)) (vw_or1 (vt_eq (vt_neD (n := 10) hu (by decreasing_trivial_pre_omega) (ve_call0 DBs (hr.mono (by decide)) ⟨rfl, rfl⟩) rfl rfl base_can base_can (.inl base_depth)) (by rw [base_eqv]; rfl))))) rfl ?_
    refine vs_ifT (by decreasing_trivial_pre_omega) (by rfl) ?_
    exact vs_ret (ve_eq (r' := .d (.bool true)) (ve_and (ve_call DSh (hr.mono (by decide)) (va_cons (by decreasing_trivial_pre_omega) (va_cons (by decreasing_trivial_pre_omega) (va_cons (by decreasing_trivial_pre_omega) va_nil))) ⟨e, (p ++ br.1, br.2), rfl, tok, by omega, hf, rfl⟩) fun _ => ve_one (ve_call DU (hr.mono (by decide)) (va_cons (by decreasing_trivial_pre_omega) va_nil) ⟨e, (p ++ br.1, br.2), rfl, cok, hf, hk3, hpl, rfl⟩)) (by rfl)) (.inl rfl)
end
theorem all_mk {l : PySem.W.OpenLaw} {w : World} {K : PySem.W.Frag} {h : Heap} {mg : Str → Option Value} {fa f1 f2 f3 f4 f5 f6 f7 f8 f9 f10 f11 f12 f13 f14 f15 f16 f17 f18 f19 f20 f21 f22 f23 f24 f25 f26 f27 f28 f29 f30 f31 : Addr} (X : K.In h) (G : h.Ns mainGlobals mg) (hfa : mg "law" = some (.ref fa))
    {od1 an1 od2 an2 od3 an3 od4 an4 od5 an5 od6 an6 od7 an7 od8 an8 od9 an9 od10 an10 od11 an11 od12 an12 od13 an13 od14 an14 od15 an15 od16 an16 od17 an17 od18 an18 od19 an19 od20 an20 od21 an21 od22 an22 od23 an23 od24 an24 od25 an25 od26 an26 od27 an27 od28 an28 od29 an29 od30 an30 od31 an31 : Option Addr} {sl1 sl2 sl3 sl4 sl5 sl6 sl7 sl8 sl9 sl10 sl11 sl12 sl13 sl14 sl15 sl16 sl17 sl18 sl19 sl20 sl21 sl22 sl23 sl24 sl25 sl26 sl27 sl28 sl29 sl30 sl31 : Array (Option Value)} {oc1 kV1 dc1 pm1 cd1 ct1 oc2 kV2 dc2 pm2 cd2 ct2 oc3 kV3 dc3 pm3 cd3 ct3 oc4 kV4 dc4 pm4 cd4 ct4 oc5 kV5 dc5 pm5 cd5 ct5 oc6 kV6 dc6 pm6 cd6 ct6 oc7 kV7 dc7 pm7 cd7 ct7 oc8 kV8 dc8 pm8 cd8 ct8 oc9 kV9 dc9 pm9 cd9 ct9 oc10 kV10 dc10 pm10 cd10 ct10 oc11 kV11 dc11 pm11 cd11 ct11 oc12 kV12 dc12 pm12 cd12 ct12 oc13 kV13 dc13 pm13 cd13 ct13 oc14 kV14 dc14 pm14 cd14 ct14 oc15 kV15 dc15 pm15 cd15 ct15 oc16 kV16 dc16 pm16 cd16 ct16 oc17 kV17 dc17 pm17 cd17 ct17 oc18 kV18 dc18 pm18 cd18 ct18 oc19 kV19 dc19 pm19 cd19 ct19 oc20 kV20 dc20 pm20 cd20 ct20 oc21 kV21 dc21 pm21 cd21 ct21 oc22 kV22 dc22 pm22 cd22 ct22 oc23 kV23 dc23 pm23 cd23 ct23 oc24 kV24 dc24 pm24 cd24 ct24 oc25 kV25 dc25 pm25 cd25 ct25 oc26 kV26 dc26 pm26 cd26 ct26 oc27 kV27 dc27 pm27 cd27 ct27 oc28 kV28 dc28 pm28 cd28 ct28 oc29 kV29 dc29 pm29 cd29 ct29 oc30 kV30 dc30 pm30 cd30 ct30 oc31 kV31 dc31 pm31 cd31 ct31 : Value}
    (a1 : PySem.W.nsIn K mainGlobals "in_order" = some (some (.ref f1))) (l1 : K.lookup f1 = some ⟨oc1, od1, .func (PySem.W.fnOf "in_order" "in_order" (defArgs st_in_order) (defBody st_in_order) (defScope st_in_order) .none kV1 dc1 pm1 an1 cd1 ct1), sl1⟩) (c1 : PySem.W.codeIn K cd1 "in_order" = true) (k1 : PySem.W.keepIn K (.ref f1) = true)
    (a2 : PySem.W.nsIn K mainGlobals "notes" = some (some (.ref f2))) (l2 : K.lookup f2 = some ⟨oc2, od2, .func (PySem.W.fnOf "notes" "notes" (defArgs st_notes) (defBody st_notes) (defScope st_notes) .none kV2 dc2 pm2 an2 cd2 ct2), sl2⟩) (c2 : PySem.W.codeIn K cd2 "notes" = true) (k2 : PySem.W.keepIn K (.ref f2) = true)
    (a3 : PySem.W.nsIn K mainGlobals "fault" = some (some (.ref f3))) (l3 : K.lookup f3 = some ⟨oc3, od3, .func (PySem.W.fnOf "fault" "fault" (defArgs st_fault) (defBody st_fault) (defScope st_fault) .none kV3 dc3 pm3 an3 cd3 ct3), sl3⟩) (c3 : PySem.W.codeIn K cd3 "fault" = true) (k3 : PySem.W.keepIn K (.ref f3) = true)
    (a4 : PySem.W.nsIn K mainGlobals "kind_of" = some (some (.ref f4))) (l4 : K.lookup f4 = some ⟨oc4, od4, .func (PySem.W.fnOf "kind_of" "kind_of" (defArgs st_kind_of) (defBody st_kind_of) (defScope st_kind_of) .none kV4 dc4 pm4 an4 cd4 ct4), sl4⟩) (c4 : PySem.W.codeIn K cd4 "kind_of" = true) (k4 : PySem.W.keepIn K (.ref f4) = true)
    (a5 : PySem.W.nsIn K mainGlobals "checked" = some (some (.ref f5))) (l5 : K.lookup f5 = some ⟨oc5, od5, .func (PySem.W.fnOf "checked" "checked" (defArgs st_checked) (defBody st_checked) (defScope st_checked) .none kV5 dc5 pm5 an5 cd5 ct5), sl5⟩) (c5 : PySem.W.codeIn K cd5 "checked" = true) (k5 : PySem.W.keepIn K (.ref f5) = true)
    (a6 : PySem.W.nsIn K mainGlobals "scopes_by_place" = some (some (.ref f6))) (l6 : K.lookup f6 = some ⟨oc6, od6, .func (PySem.W.fnOf "scopes_by_place" "scopes_by_place" (defArgs st_scopes_by_place) (defBody st_scopes_by_place) (defScope st_scopes_by_place) .none kV6 dc6 pm6 an6 cd6 ct6), sl6⟩) (c6 : PySem.W.codeIn K cd6 "scopes_by_place" = true) (k6 : PySem.W.keepIn K (.ref f6) = true)
    (a7 : PySem.W.nsIn K mainGlobals "scope_within" = some (some (.ref f7))) (l7 : K.lookup f7 = some ⟨oc7, od7, .func (PySem.W.fnOf "scope_within" "scope_within" (defArgs st_scope_within) (defBody st_scope_within) (defScope st_scope_within) .none kV7 dc7 pm7 an7 cd7 ct7), sl7⟩) (c7 : PySem.W.codeIn K cd7 "scope_within" = true) (k7 : PySem.W.keepIn K (.ref f7) = true)
    (a8 : PySem.W.nsIn K mainGlobals "breach_of_rule" = some (some (.ref f8))) (l8 : K.lookup f8 = some ⟨oc8, od8, .func (PySem.W.fnOf "breach_of_rule" "breach_of_rule" (defArgs st_breach_of_rule) (defBody st_breach_of_rule) (defScope st_breach_of_rule) .none kV8 dc8 pm8 an8 cd8 ct8), sl8⟩) (c8 : PySem.W.codeIn K cd8 "breach_of_rule" = true) (k8 : PySem.W.keepIn K (.ref f8) = true)
    (a9 : PySem.W.nsIn K mainGlobals "due_kinds" = some (some (.ref f9))) (l9 : K.lookup f9 = some ⟨oc9, od9, .func (PySem.W.fnOf "due_kinds" "due_kinds" (defArgs st_due_kinds) (defBody st_due_kinds) (defScope st_due_kinds) .none kV9 dc9 pm9 an9 cd9 ct9), sl9⟩) (c9 : PySem.W.codeIn K cd9 "due_kinds" = true) (k9 : PySem.W.keepIn K (.ref f9) = true)
    (a10 : PySem.W.nsIn K mainGlobals "kind_by_rule" = some (some (.ref f10))) (l10 : K.lookup f10 = some ⟨oc10, od10, .func (PySem.W.fnOf "kind_by_rule" "kind_by_rule" (defArgs st_kind_by_rule) (defBody st_kind_by_rule) (defScope st_kind_by_rule) .none kV10 dc10 pm10 an10 cd10 ct10), sl10⟩) (c10 : PySem.W.codeIn K cd10 "kind_by_rule" = true) (k10 : PySem.W.keepIn K (.ref f10) = true)
    (a11 : PySem.W.nsIn K mainGlobals "same_kind" = some (some (.ref f11))) (l11 : K.lookup f11 = some ⟨oc11, od11, .func (PySem.W.fnOf "same_kind" "same_kind" (defArgs st_same_kind) (defBody st_same_kind) (defScope st_same_kind) .none kV11 dc11 pm11 an11 cd11 ct11), sl11⟩) (c11 : PySem.W.codeIn K cd11 "same_kind" = true) (k11 : PySem.W.keepIn K (.ref f11) = true)
    (a12 : PySem.W.nsIn K mainGlobals "_law_so" = some (some (.ref f12))) (l12 : K.lookup f12 = some ⟨oc12, od12, .func (PySem.W.fnOf "_law_so" "_law_so" (defArgs st_law_so) (defBody st_law_so) (defScope st_law_so) .none kV12 dc12 pm12 an12 cd12 ct12), sl12⟩) (c12 : PySem.W.codeIn K cd12 "_law_so" = true) (k12 : PySem.W.keepIn K (.ref f12) = true)
    (a13 : PySem.W.nsIn K mainGlobals "_law_whole" = some (some (.ref f13))) (l13 : K.lookup f13 = some ⟨oc13, od13, .func (PySem.W.fnOf "_law_whole" "_law_whole" (defArgs st_law_whole) (defBody st_law_whole) (defScope st_law_whole) .none kV13 dc13 pm13 an13 cd13 ct13), sl13⟩) (c13 : PySem.W.codeIn K cd13 "_law_whole" = true) (k13 : PySem.W.keepIn K (.ref f13) = true)
    (a14 : PySem.W.nsIn K mainGlobals "_law_kinds" = some (some (.ref f14))) (l14 : K.lookup f14 = some ⟨oc14, od14, .func (PySem.W.fnOf "_law_kinds" "_law_kinds" (defArgs st_law_kinds) (defBody st_law_kinds) (defScope st_law_kinds) .none kV14 dc14 pm14 an14 cd14 ct14), sl14⟩) (c14 : PySem.W.codeIn K cd14 "_law_kinds" = true) (k14 : PySem.W.keepIn K (.ref f14) = true)
    (a15 : PySem.W.nsIn K mainGlobals "_law_leaf" = some (some (.ref f15))) (l15 : K.lookup f15 = some ⟨oc15, od15, .func (PySem.W.fnOf "_law_leaf" "_law_leaf" (defArgs st_law_leaf) (defBody st_law_leaf) (defScope st_law_leaf) .none kV15 dc15 pm15 an15 cd15 ct15), sl15⟩) (c15 : PySem.W.codeIn K cd15 "_law_leaf" = true) (k15 : PySem.W.keepIn K (.ref f15) = true)
    (a16 : PySem.W.nsIn K mainGlobals "_law_taken" = some (some (.ref f16))) (l16 : K.lookup f16 = some ⟨oc16, od16, .func (PySem.W.fnOf "_law_taken" "_law_taken" (defArgs st_law_taken) (defBody st_law_taken) (defScope st_law_taken) .none kV16 dc16 pm16 an16 cd16 ct16), sl16⟩) (c16 : PySem.W.codeIn K cd16 "_law_taken" = true) (k16 : PySem.W.keepIn K (.ref f16) = true)
    (a17 : PySem.W.nsIn K mainGlobals "_law_combined" = some (some (.ref f17))) (l17 : K.lookup f17 = some ⟨oc17, od17, .func (PySem.W.fnOf "_law_combined" "_law_combined" (defArgs st_law_combined) (defBody st_law_combined) (defScope st_law_combined) .none kV17 dc17 pm17 an17 cd17 ct17), sl17⟩) (c17 : PySem.W.codeIn K cd17 "_law_combined" = true) (k17 : PySem.W.keepIn K (.ref f17) = true)
    (a18 : PySem.W.nsIn K mainGlobals "_law_drawn" = some (some (.ref f18))) (l18 : K.lookup f18 = some ⟨oc18, od18, .func (PySem.W.fnOf "_law_drawn" "_law_drawn" (defArgs st_law_drawn) (defBody st_law_drawn) (defScope st_law_drawn) .none kV18 dc18 pm18 an18 cd18 ct18), sl18⟩) (c18 : PySem.W.codeIn K cd18 "_law_drawn" = true) (k18 : PySem.W.keepIn K (.ref f18) = true)
    (a19 : PySem.W.nsIn K mainGlobals "_law_part_there" = some (some (.ref f19))) (l19 : K.lookup f19 = some ⟨oc19, od19, .func (PySem.W.fnOf "_law_part_there" "_law_part_there" (defArgs st_law_part_there) (defBody st_law_part_there) (defScope st_law_part_there) .none kV19 dc19 pm19 an19 cd19 ct19), sl19⟩) (c19 : PySem.W.codeIn K cd19 "_law_part_there" = true) (k19 : PySem.W.keepIn K (.ref f19) = true)
    (a20 : PySem.W.nsIn K mainGlobals "_law_low" = some (some (.ref f20))) (l20 : K.lookup f20 = some ⟨oc20, od20, .func (PySem.W.fnOf "_law_low" "_law_low" (defArgs st_law_low) (defBody st_law_low) (defScope st_law_low) .none kV20 dc20 pm20 an20 cd20 ct20), sl20⟩) (c20 : PySem.W.codeIn K cd20 "_law_low" = true) (k20 : PySem.W.keepIn K (.ref f20) = true)
    (a21 : PySem.W.nsIn K mainGlobals "_law_next" = some (some (.ref f21))) (l21 : K.lookup f21 = some ⟨oc21, od21, .func (PySem.W.fnOf "_law_next" "_law_next" (defArgs st_law_next) (defBody st_law_next) (defScope st_law_next) .none kV21 dc21 pm21 an21 cd21 ct21), sl21⟩) (c21 : PySem.W.codeIn K cd21 "_law_next" = true) (k21 : PySem.W.keepIn K (.ref f21) = true)
    (a22 : PySem.W.nsIn K mainGlobals "_law_is_place" = some (some (.ref f22))) (l22 : K.lookup f22 = some ⟨oc22, od22, .func (PySem.W.fnOf "_law_is_place" "_law_is_place" (defArgs st_law_is_place) (defBody st_law_is_place) (defScope st_law_is_place) .none kV22 dc22 pm22 an22 cd22 ct22), sl22⟩) (c22 : PySem.W.codeIn K cd22 "_law_is_place" = true) (k22 : PySem.W.keepIn K (.ref f22) = true)
    (a23 : PySem.W.nsIn K mainGlobals "_law_scope_at" = some (some (.ref f23))) (l23 : K.lookup f23 = some ⟨oc23, od23, .func (PySem.W.fnOf "_law_scope_at" "_law_scope_at" (defArgs st_law_scope_at) (defBody st_law_scope_at) (defScope st_law_scope_at) .none kV23 dc23 pm23 an23 cd23 ct23), sl23⟩) (c23 : PySem.W.codeIn K cd23 "_law_scope_at" = true) (k23 : PySem.W.keepIn K (.ref f23) = true)
    (a24 : PySem.W.nsIn K mainGlobals "_law_named" = some (some (.ref f24))) (l24 : K.lookup f24 = some ⟨oc24, od24, .func (PySem.W.fnOf "_law_named" "_law_named" (defArgs st_law_named) (defBody st_law_named) (defScope st_law_named) .none kV24 dc24 pm24 an24 cd24 ct24), sl24⟩) (c24 : PySem.W.codeIn K cd24 "_law_named" = true) (k24 : PySem.W.keepIn K (.ref f24) = true)
    (a25 : PySem.W.nsIn K mainGlobals "_law_base" = some (some (.ref f25))) (l25 : K.lookup f25 = some ⟨oc25, od25, .func (PySem.W.fnOf "_law_base" "_law_base" (defArgs st_law_base) (defBody st_law_base) (defScope st_law_base) .none kV25 dc25 pm25 an25 cd25 ct25), sl25⟩) (c25 : PySem.W.codeIn K cd25 "_law_base" = true) (k25 : PySem.W.keepIn K (.ref f25) = true)
    (a26 : PySem.W.nsIn K mainGlobals "_law_told" = some (some (.ref f26))) (l26 : K.lookup f26 = some ⟨oc26, od26, .func (PySem.W.fnOf "_law_told" "_law_told" (defArgs st_law_told) (defBody st_law_told) (defScope st_law_told) .none kV26 dc26 pm26 an26 cd26 ct26), sl26⟩) (c26 : PySem.W.codeIn K cd26 "_law_told" = true) (k26 : PySem.W.keepIn K (.ref f26) = true)
    (a27 : PySem.W.nsIn K mainGlobals "_law_own_kinds" = some (some (.ref f27))) (l27 : K.lookup f27 = some ⟨oc27, od27, .func (PySem.W.fnOf "_law_own_kinds" "_law_own_kinds" (defArgs st_law_own_kinds) (defBody st_law_own_kinds) (defScope st_law_own_kinds) .none kV27 dc27 pm27 an27 cd27 ct27), sl27⟩) (c27 : PySem.W.codeIn K cd27 "_law_own_kinds" = true) (k27 : PySem.W.keepIn K (.ref f27) = true)
    (a28 : PySem.W.nsIn K mainGlobals "_law_due_kind" = some (some (.ref f28))) (l28 : K.lookup f28 = some ⟨oc28, od28, .func (PySem.W.fnOf "_law_due_kind" "_law_due_kind" (defArgs st_law_due_kind) (defBody st_law_due_kind) (defScope st_law_due_kind) .none kV28 dc28 pm28 an28 cd28 ct28), sl28⟩) (c28 : PySem.W.codeIn K cd28 "_law_due_kind" = true) (k28 : PySem.W.keepIn K (.ref f28) = true)
    (a29 : PySem.W.nsIn K mainGlobals "_law_shown" = some (some (.ref f29))) (l29 : K.lookup f29 = some ⟨oc29, od29, .func (PySem.W.fnOf "_law_shown" "_law_shown" (defArgs st_law_shown) (defBody st_law_shown) (defScope st_law_shown) .none kV29 dc29 pm29 an29 cd29 ct29), sl29⟩) (c29 : PySem.W.codeIn K cd29 "_law_shown" = true) (k29 : PySem.W.keepIn K (.ref f29) = true)
    (a30 : PySem.W.nsIn K mainGlobals "_law_under_base" = some (some (.ref f30))) (l30 : K.lookup f30 = some ⟨oc30, od30, .func (PySem.W.fnOf "_law_under_base" "_law_under_base" (defArgs st_law_under_base) (defBody st_law_under_base) (defScope st_law_under_base) .none kV30 dc30 pm30 an30 cd30 ct30), sl30⟩) (c30 : PySem.W.codeIn K cd30 "_law_under_base" = true) (k30 : PySem.W.keepIn K (.ref f30) = true)
    (a31 : PySem.W.nsIn K mainGlobals "law" = some (some (.ref f31))) (l31 : K.lookup f31 = some ⟨oc31, od31, .func (PySem.W.fnOf "law" "law" (defArgs st_law) (defBody st_law) (defScope st_law) .none kV31 dc31 pm31 an31 cd31 ct31), sl31⟩) (c31 : PySem.W.codeIn K cd31 "law" = true) (k31 : PySem.W.keepIn K (.ref f31) = true)
    (z0 : PySem.W.nsIn K mainGlobals "len" = some none)
    (z1 : PySem.W.nsIn K mainGlobals "list" = some none)
    (z2 : PySem.W.nsIn K mainGlobals "tuple" = some none)
    (z3 : PySem.W.nsIn K mainGlobals "int" = some none)
    (z4 : PySem.W.nsIn K mainGlobals "bool" = some none)
    (z5 : PySem.W.nsIn K mainGlobals "range" = some none)
    (z6 : PySem.W.nsIn K mainGlobals "enumerate" = some none)
    (z7 : PySem.W.nsIn K mainGlobals "reversed" = some none)
    (z8 : PySem.W.nsIn K mainGlobals "isinstance" = some none)
    {aN aT : Addr} {dN dT : Option Addr} {tN tT : Tok} {nN nT : Nat} {slN slT : Array (Option Value)} {C_KindError C_NoPart C_BadKind C_Stuck C_Tired C_NoLine : Addr}
    (y_zip : PySem.W.nsIn K mainGlobals "zip" = some none)
    (y_str : PySem.W.nsIn K mainGlobals "str" = some none)
    (y_ValueError : PySem.W.nsIn K mainGlobals "ValueError" = some none)
    (y_dict : PySem.W.nsIn K mainGlobals "dict" = some none)
    (c_num : PySem.W.nsIn K mainGlobals "NUM" = some (some (.ref aN)))
    (c_truth : PySem.W.nsIn K mainGlobals "TRUTH" = some (some (.ref aT)))
    (l_num : K.lookup aN = some ⟨.type "tuple", dN, .seq #[.str "num" tN] nN, slN⟩)
    (l_truth : K.lookup aT = some ⟨.type "tuple", dT, .seq #[.str "truth" tT] nT, slT⟩)
    (c_KindError : PySem.W.nsIn K mainGlobals "KindError" = some (some (.ref C_KindError)))
    (c_NoPart : PySem.W.nsIn K mainGlobals "NoPart" = some (some (.ref C_NoPart)))
    (c_BadKind : PySem.W.nsIn K mainGlobals "BadKind" = some (some (.ref C_BadKind)))
    (c_Stuck : PySem.W.nsIn K mainGlobals "Stuck" = some (some (.ref C_Stuck)))
    (c_Tired : PySem.W.nsIn K mainGlobals "Tired" = some (some (.ref C_Tired)))
    (c_NoLine : PySem.W.nsIn K mainGlobals "NoLine" = some (some (.ref C_NoLine)))
    (e_exc : PySem.W.excIn K C_BadKind [.type "ValueError", .type "Exception", .type "BaseException", .type "object"] "ValueError.__new__" = true)
    (e_x1 : PySem.W.exmOne K (.ref C_BadKind) (.ref C_BadKind) = some true)
    (e_x2 : PySem.W.exmOne K (.ref C_BadKind) (.ref C_KindError) = some true)
    (e_kNoPart : PySem.W.kitOne K (.ref C_BadKind) (.ref C_NoPart) = some false)
    (e_kStuck : PySem.W.kitOne K (.ref C_BadKind) (.ref C_Stuck) = some false)
    (e_kTired : PySem.W.kitOne K (.ref C_BadKind) (.ref C_Tired) = some false)
    (e_kNoLine : PySem.W.kitOne K (.ref C_BadKind) (.ref C_NoLine) = some false)
    (e_kV : PySem.W.kitOne K (.ref C_BadKind) (.type "ValueError") = some true)
    (e_ga : PySem.W.findIn K (.ref C_BadKind) "__getattribute__" = some (some (.builtin "BaseException.__getattribute__")))
    (e_cl : PySem.W.findIn K (.ref C_BadKind) "__class__" = some (some (.builtin "object.__class__")))
    (e_no : PySem.W.findIn K (.ref C_BadKind) "__getattr__" = some none)
    (e_sb : PySem.W.subIn K (.ref C_BadKind) (.type "BaseException") = some true)
    (e_so : PySem.W.subIn K (.ref C_BadKind) (.type "object") = some true)
    (e_is : (PySem.W.clsIn K C_BadKind).isSome = true)
    (e_kC : PySem.W.kitOne K (.ref C_BadKind) (.ref C_BadKind) = some true)
    : ∃ fd : FuncData, (∀ (s : Shared) (v : Value), BindsTo s fd ⟨[v], []⟩ [("_law_script", v)]) ∧ ∀ base : Heap, K.In base → base.Ns mainGlobals mg → FnOk l.prog w K mg base CX0 202 fa fd ["_law_script"] (spV K (RLaw K)) := by
  have e0 := hfa.symm.trans (PySem.W.mg_of X G a31)
  cases e0
  have F1 := fun_mk (st := st_in_order) l1 c1 k1
  have b1 := F1.binds (ps := ["expr"]) fun _ _ _ _ _ _ us hl => match us, hl with | [_], _ => rfl
  have m1 := PySem.W.mg_of X G a1
  have F2 := fun_mk (st := st_notes) l2 c2 k2
  have b2 := F2.binds (ps := ["expr", "scope"]) fun _ _ _ _ _ _ us hl => match us, hl with | [_, _], _ => rfl
  have m2 := PySem.W.mg_of X G a2
  have F3 := fun_mk (st := st_fault) l3 c3 k3
  have b3 := F3.binds (ps := ["expr", "scope"]) fun _ _ _ _ _ _ us hl => match us, hl with | [_, _], _ => rfl
  have m3 := PySem.W.mg_of X G a3
  have F4 := fun_mk (st := st_kind_of) l4 c4 k4
  have b4 := F4.binds (ps := ["expr", "scope"]) fun _ _ _ _ _ _ us hl => match us, hl with | [_, _], _ => rfl
  have m4 := PySem.W.mg_of X G a4
  have F5 := fun_mk (st := st_checked) l5 c5 k5
  have b5 := F5.binds (ps := ["expr", "scope"]) fun _ _ _ _ _ _ us hl => match us, hl with | [_, _], _ => rfl
  have m5 := PySem.W.mg_of X G a5
  have F6 := fun_mk (st := st_scopes_by_place) l6 c6 k6
  have b6 := F6.binds (ps := ["pairs", "scope"]) fun _ _ _ _ _ _ us hl => match us, hl with | [_, _], _ => rfl
  have m6 := PySem.W.mg_of X G a6
  have F7 := fun_mk (st := st_scope_within) l7 c7 k7
  have b7 := F7.binds (ps := ["part", "number", "known"]) fun _ _ _ _ _ _ us hl => match us, hl with | [_, _, _], _ => rfl
  have m7 := PySem.W.mg_of X G a7
  have F8 := fun_mk (st := st_breach_of_rule) l8 c8 k8
  have b8 := F8.binds (ps := ["part", "own", "known"]) fun _ _ _ _ _ _ us hl => match us, hl with | [_, _, _], _ => rfl
  have m8 := PySem.W.mg_of X G a8
  have F9 := fun_mk (st := st_due_kinds) l9 c9 k9
  have b9 := F9.binds (ps := ["part", "own"]) fun _ _ _ _ _ _ us hl => match us, hl with | [_, _], _ => rfl
  have m9 := PySem.W.mg_of X G a9
  have F10 := fun_mk (st := st_kind_by_rule) l10 c10 k10
  have b10 := F10.binds (ps := ["part", "own", "known"]) fun _ _ _ _ _ _ us hl => match us, hl with | [_, _, _], _ => rfl
  have m10 := PySem.W.mg_of X G a10
  have F11 := fun_mk (st := st_same_kind) l11 c11 k11
  have b11 := F11.binds (ps := ["first", "second"]) fun _ _ _ _ _ _ us hl => match us, hl with | [_, _], _ => rfl
  have m11 := PySem.W.mg_of X G a11
  have F12 := fun_mk (st := st_law_so) l12 c12 k12
  have b12 := F12.binds (ps := ["_law_found", "_law_meant"]) fun _ _ _ _ _ _ us hl => match us, hl with | [_, _], _ => rfl
  have m12 := PySem.W.mg_of X G a12
  have F13 := fun_mk (st := st_law_whole) l13 c13 k13
  have b13 := F13.binds (ps := ["_law_found"]) fun _ _ _ _ _ _ us hl => match us, hl with | [_], _ => rfl
  have m13 := PySem.W.mg_of X G a13
  have F14 := fun_mk (st := st_law_kinds) l14 c14 k14
  have b14 := F14.binds (ps := []) fun _ _ _ _ _ _ us hl => match us, hl with | [], _ => rfl
  have m14 := PySem.W.mg_of X G a14
  have F15 := fun_mk (st := st_law_leaf) l15 c15 k15
  have b15 := F15.binds (ps := ["_law_cell"]) fun _ _ _ _ _ _ us hl => match us, hl with | [_], _ => rfl
  have m15 := PySem.W.mg_of X G a15
  have F16 := fun_mk (st := st_law_taken) l16 c16 k16
  have b16 := F16.binds (ps := ["_law_pile", "_law_cell"]) fun _ _ _ _ _ _ us hl => match us, hl with | [_, _], _ => rfl
  have m16 := PySem.W.mg_of X G a16
  have F17 := fun_mk (st := st_law_combined) l17 c17 k17
  have b17 := F17.binds (ps := ["_law_pile", "_law_cell"]) fun _ _ _ _ _ _ us hl => match us, hl with | [_, _], _ => rfl
  have m17 := PySem.W.mg_of X G a17
  have F18 := fun_mk (st := st_law_drawn) l18 c18 k18
  have b18 := F18.binds (ps := ["_law_cells"]) fun _ _ _ _ _ _ us hl => match us, hl with | [_], _ => rfl
  have m18 := PySem.W.mg_of X G a18
  have F19 := fun_mk (st := st_law_part_there) l19 c19 k19
  have b19 := F19.binds (ps := ["_law_expr", "_law_place"]) fun _ _ _ _ _ _ us hl => match us, hl with | [_, _], _ => rfl
  have m19 := PySem.W.mg_of X G a19
  have F20 := fun_mk (st := st_law_low) l20 c20 k20
  have b20 := F20.binds (ps := ["_law_expr", "_law_place"]) fun _ _ _ _ _ _ us hl => match us, hl with | [_, _], _ => rfl
  have m20 := PySem.W.mg_of X G a20
  have F21 := fun_mk (st := st_law_next) l21 c21 k21
  have b21 := F21.binds (ps := ["_law_expr", "_law_place"]) fun _ _ _ _ _ _ us hl => match us, hl with | [_, _], _ => rfl
  have m21 := PySem.W.mg_of X G a21
  have F22 := fun_mk (st := st_law_is_place) l22 c22 k22
  have b22 := F22.binds (ps := ["_law_found"]) fun _ _ _ _ _ _ us hl => match us, hl with | [_], _ => rfl
  have m22 := PySem.W.mg_of X G a22
  have F23 := fun_mk (st := st_law_scope_at) l23 c23 k23
  have b23 := F23.binds (ps := ["_law_expr", "_law_place", "_law_scope"]) fun _ _ _ _ _ _ us hl => match us, hl with | [_, _, _], _ => rfl
  have m23 := PySem.W.mg_of X G a23
  have F24 := fun_mk (st := st_law_named) l24 c24 k24
  have b24 := F24.binds (ps := ["_law_scope", "_law_name"]) fun _ _ _ _ _ _ us hl => match us, hl with | [_, _], _ => rfl
  have m24 := PySem.W.mg_of X G a24
  have F25 := fun_mk (st := st_law_base) l25 c25 k25
  have b25 := F25.binds (ps := []) fun _ _ _ _ _ _ us hl => match us, hl with | [], _ => rfl
  have m25 := PySem.W.mg_of X G a25
  have F26 := fun_mk (st := st_law_told) l26 c26 k26
  have b26 := F26.binds (ps := ["_law_expr", "_law_rows"]) fun _ _ _ _ _ _ us hl => match us, hl with | [_, _], _ => rfl
  have m26 := PySem.W.mg_of X G a26
  have F27 := fun_mk (st := st_law_own_kinds) l27 c27 k27
  have b27 := F27.binds (ps := ["_law_rows", "_law_place", "_law_count"]) fun _ _ _ _ _ _ us hl => match us, hl with | [_, _, _], _ => rfl
  have m27 := PySem.W.mg_of X G a27
  have F28 := fun_mk (st := st_law_due_kind) l28 c28 k28
  have b28 := F28.binds (ps := ["_law_part", "_law_own", "_law_k"]) fun _ _ _ _ _ _ us hl => match us, hl with | [_, _, _], _ => rfl
  have m28 := PySem.W.mg_of X G a28
  have F29 := fun_mk (st := st_law_shown) l29 c29 k29
  have b29 := F29.binds (ps := ["_law_expr", "_law_rows", "_law_found"]) fun _ _ _ _ _ _ us hl => match us, hl with | [_, _, _], _ => rfl
  have m29 := PySem.W.mg_of X G a29
  have F30 := fun_mk (st := st_law_under_base) l30 c30 k30
  have b30 := F30.binds (ps := ["_law_expr"]) fun _ _ _ _ _ _ us hl => match us, hl with | [_], _ => rfl
  have m30 := PySem.W.mg_of X G a30
  have F31 := fun_mk (st := st_law) l31 c31 k31
  have m31 := PySem.W.mg_of X G a31
  have B : Plain mg := ⟨PySem.W.mg_none_of X G z0, PySem.W.mg_none_of X G z1, PySem.W.mg_none_of X G z2, PySem.W.mg_none_of X G z3, PySem.W.mg_none_of X G z4, PySem.W.mg_none_of X G z5, PySem.W.mg_none_of X G z6, PySem.W.mg_none_of X G z7, PySem.W.mg_none_of X G z8⟩
  have B2 : Plain2 mg := ⟨PySem.W.mg_none_of X G y_zip, PySem.W.mg_none_of X G y_str, PySem.W.mg_none_of X G y_ValueError⟩
  have hdict : mg "dict" = none := PySem.W.mg_none_of X G y_dict
  have C : Consts K mg := ⟨⟨aN, PySem.W.mg_of X G c_num, fun H => Rep.tuple (vs := [.str "num"]) (.inr ⟨_, _, _, l_num, rfl, rfl, by show 1 ≤ sizeLine; decide, .cons ⟨tN, rfl⟩ .nil⟩) (.one (.str _))⟩, ⟨aT, PySem.W.mg_of X G c_truth, fun H => Rep.tuple (vs := [.str "truth"]) (.inr ⟨_, _, _, l_truth, rfl, rfl, by show 1 ≤ sizeLine; decide, .cons ⟨tT, rfl⟩ .nil⟩) (.one (.str _))⟩⟩
  have XC : ExcsB K mg C_BadKind C_KindError C_NoPart C_Stuck C_Tired C_NoLine := ⟨⟨PySem.W.mg_of X G c_BadKind, e_exc⟩, PySem.W.mg_of X G c_KindError, PySem.W.mg_of X G c_NoPart, PySem.W.mg_of X G c_Stuck, PySem.W.mg_of X G c_Tired, PySem.W.mg_of X G c_NoLine, e_x1, e_x2, e_kNoPart, e_kStuck, e_kTired, e_kNoLine, e_kV, e_kC, ⟨e_ga, e_cl, e_no, e_sb, e_so, e_is⟩⟩
  refine ⟨PySem.W.fnOf "law" "law" (defArgs st_law) (defBody st_law) (defScope st_law) .none kV31 dc31 pm31 an31 cd31 ct31, fun s v => .of_eq rfl, fun base _ _ => ?_⟩
  have D_in_order : DefOk l.prog w K mg base _ "in_order" _ _ := ⟨f1, _, ok_orderT F1 B, b1, k1, m1⟩
  have D_same_kind : DefOk l.prog w K mg base _ "same_kind" _ _ := ⟨f11, _, ok_samek F11 B B2, b11, k11, m11⟩
  have D_scope_within : DefOk l.prog w K mg base _ "scope_within" _ _ := ⟨f7, _, ok_scw F7 hdict, b7, k7, m7⟩
  have D_scopes_by_place : DefOk l.prog w K mg base _ "scopes_by_place" _ _ := ⟨f6, _, ok_sbp F6 B hdict D_scope_within, b6, k6, m6⟩
  have D_due_kinds : DefOk l.prog w K mg base _ "due_kinds" _ _ := ⟨f9, _, ok_due F9 C, b9, k9, m9⟩
  have D_kind_by_rule : DefOk l.prog w K mg base _ "kind_by_rule" _ _ := ⟨f10, _, ok_kbr F10 C, b10, k10, m10⟩
  have D_breach_of_rule : DefOk l.prog w K mg base _ "breach_of_rule" _ _ := ⟨f8, _, ok_brk F8 B (D_same_kind.imp fun _ _ _ _ => same_V) D_due_kinds, b8, k8, m8⟩
  have D_checked : DefOk l.prog w K mg base _ "checked" _ _ := ⟨f5, _, ok_chk F5 B D_in_order D_scopes_by_place D_breach_of_rule D_kind_by_rule, b5, k5, m5⟩
  have D_notes : DefOk l.prog w K mg base _ "notes" _ _ := ⟨f2, _, ok_notes F2 D_checked, b2, k2, m2⟩
  have D_fault : DefOk l.prog w K mg base _ "fault" _ _ := ⟨f3, _, ok_fault F3 D_checked, b3, k3, m3⟩
  have D_kind_of : DefX l.prog w K mg base _ "kind_of" _ _ := ⟨f4, _, ok_kofX F4 XC.c D_checked, b4, k4, m4⟩
  have D_law_whole : DefOk l.prog w K mg base _ "_law_whole" _ _ := ⟨f13, _, ok_whole F13 B, b13, k13, m13⟩
  have D_law_kinds : DefOk l.prog w K mg base _ "_law_kinds" _ _ := ⟨f14, _, ok_kinds F14, b14, k14, m14⟩
  have D_law_leaf : DefOk l.prog w K mg base _ "_law_leaf" _ _ := ⟨f15, _, ok_leaf F15 D_law_kinds, b15, k15, m15⟩
  have D_law_taken : DefOk l.prog w K mg base _ "_law_taken" _ _ := ⟨f16, _, ok_taken4 F16 B D_law_leaf, b16, k16, m16⟩
  have D_law_combined : DefOk l.prog w K mg base _ "_law_combined" _ _ := ⟨f17, _, ok_combined4 F17 D_law_kinds D_law_taken, b17, k17, m17⟩
  have D_law_drawn : DefOk l.prog w K mg base _ "_law_drawn" _ _ := ⟨f18, _, ok_drawn4 F18 B D_law_leaf D_law_taken D_law_combined, b18, k18, m18⟩
  have D_law_part_there : DefOk l.prog w K mg base _ "_law_part_there" _ _ := ⟨f19, _, ok_there F19, b19, k19, m19⟩
  have D_law_low : DefOk l.prog w K mg base _ "_law_low" _ _ := ⟨f20, _, ok_low F20 B D_law_part_there, b20, k20, m20⟩
  have D_law_next : DefOk l.prog w K mg base _ "_law_next" _ _ := ⟨f21, _, ok_next F21 B D_law_part_there D_law_low, b21, k21, m21⟩
  have D_law_is_place : DefOk l.prog w K mg base _ "_law_is_place" _ _ := ⟨f22, _, ok_isplace F22 B D_law_whole, b22, k22, m22⟩
  have D_law_scope_at : DefOk l.prog w K mg base _ "_law_scope_at" _ _ := ⟨f23, _, ok_scat F23, b23, k23, m23⟩
  have D_law_named : DefOk l.prog w K mg base _ "_law_named" _ _ := ⟨f24, _, ok_named F24, b24, k24, m24⟩
  have D_law_base : DefOk l.prog w K mg base _ "_law_base" _ _ := ⟨f25, _, ok_base F25, b25, k25, m25⟩
  have D_law_told : DefOk l.prog w K mg base _ "_law_told" _ _ := ⟨f26, _, ok_told F26 B (D_law_low.imp fun _ _ _ _ => low_V) (D_law_next.imp fun _ _ _ _ => next_V) (D_law_is_place.imp fun _ _ _ _ => isplace_V), b26, k26, m26⟩
  have D_law_own_kinds : DefOk l.prog w K mg base _ "_law_own_kinds" _ _ := ⟨f27, _, ok_own F27 B, b27, k27, m27⟩
  have D_law_due_kind : DefOk l.prog w K mg base _ "_law_due_kind" _ _ := ⟨f28, _, ok_due4 F28, b28, k28, m28⟩
  have D_law_shown : DefOk l.prog w K mg base _ "_law_shown" _ _ := ⟨f29, _, ok_shown F29 B (D_law_low.imp fun _ _ _ _ => low_V) (D_law_next.imp fun _ _ _ _ => next_V) (D_law_is_place.imp fun _ _ _ _ => isplace_V) (D_law_part_there.imp fun _ _ _ _ => there_V) D_law_base D_law_scope_at D_law_named D_law_own_kinds D_law_due_kind, b29, k29, m29⟩
  have D_law_so : DefOk l.prog w K mg base _ "_law_so" _ _ := ⟨f12, _, ok_so F12 b12 k12 m12 B B2 hdict 200, b12, k12, m12⟩
  have D_law_under_base : DefOk l.prog w K mg base _ "_law_under_base" _ _ := ⟨f30, _, ok_und F30 B B2 XC D_kind_of D_law_base, b30, k30, m30⟩
  exact ok_law F31 B XC D_law_drawn D_law_base D_notes D_fault D_law_told D_kind_of D_law_shown D_law_under_base D_law_so
theorem walk {l : PySem.W.OpenLaw} {q : Program} {loose : List Str} {XP : (Str → Option Value) → Heap → Prop} {YP : World → Heap → Prop} {d : DefRec} {K : Params → PySem.W.Frag} (hn : l.most = some 63) (hdf : d.params.defaults = [])
    (hY : ∀ (w : World) (h : Heap), YP w h → (K w.params).In h)
    (F : ∀ (w : World) (mg : Str → Option Value) (fa : Addr) (h : Heap), (K w.params).In h → h.Ns mainGlobals mg → mg d.name = some (.ref fa) →
      ∃ fd : FuncData, (∀ (s : Shared) (u : Value), BindsTo s fd ⟨[u], []⟩ [("_law_script", u)]) ∧ ∀ base : Heap, (K w.params).In base → base.Ns mainGlobals mg → FnOk l.prog w (K w.params) mg base CX0 202 fa fd ["_law_script"] (spV (K w.params) (RLaw (K w.params)))) :
    PySem.W.WalkO q loose XP YP l.row.toRowW d [] (fun f vs => PySem.call f vs) :=
  L2.walk_of (n := 63) (k := 202) (x := "_law_script") (CX := fun _ => CX0) (sp := fun w => spV (K w.params) (RLaw (K w.params))) hn (by decide) hdf ⟨rfl, by decide, by decide⟩ hY F (fun _ _ a ns hl ho hS => law_of hl ho hS) fun _ _ _ _ _ z => z
end Wk
def PySem.W.Fast.tw9775733465622967370 : Nat := 0
def PySem.W.Fast.tw9301741076166463754 : Nat := 0
def PySem.W.Fast.tw11799855985403517007 : Nat := 0
def PySem.W.Fast.tw1658013220993002255 : Nat := 0
def PySem.W.Fast.tw10670447294914634002 : Nat := 0
def PySem.W.Fast.tw1701290363962328390 : Nat := 0
def PySem.W.Fast.tw865887802341628961 : Nat := 0
def PySem.W.Fast.tw5473103414781402137 : Nat := 0
def PySem.W.Fast.tw9331352128112534799 : Nat := 0
def PySem.W.Fast.tw7501625214380381662 : Nat := 0
def PySem.W.Fast.tw8920098120175197024 : Nat := 0
def PySem.W.Fast.tw14062136659930216779 : Nat := 0
def PySem.W.Fast.tw12215556952007690550 : Nat := 0
def PySem.W.Fast.tw6188031412310380294 : Nat := 0
def PySem.W.Fast.tw17519934020686453572 : Nat := 0
def PySem.W.Fast.tw395051016536960552 : Nat := 0
def PySem.W.Fast.tw1154353842570135891 : Nat := 0
def PySem.W.Fast.tw4069838077545244726 : Nat := 0
def PySem.W.Fast.tw5904691236454524640 : Nat := 0
def PySem.W.Fast.tw6378050880639344620 : Nat := 0
def PySem.W.Fast.tw2725736792131052775 : Nat := 0
def PySem.W.Fast.tw9381779428934843577 : Nat := 0
def PySem.W.Fast.tw14620040439693572589 : Nat := 0
def PySem.W.Fast.tw17876846775216007110 : Nat := 0
def PySem.W.Fast.tw17603972888642398509 : Nat := 0
def PySem.W.Fast.tw2299585264000137153 : Nat := 0
def PySem.W.Fast.tw9067035265377658754 : Nat := 0
def PySem.W.Fast.tw8783714080553236636 : Nat := 0
def PySem.W.Fast.tw11203635755855567036 : Nat := 0
def PySem.W.Fast.tw3699644101927460825 : Nat := 0
def PySem.W.Fast.tw9254868603828896957 : Nat := 0
def PySem.W.Fast.tw2044960260320383984 : Nat := 0
def PySem.W.Fast.tw4916079079393933329 : Nat := 0
def PySem.W.Fast.tw3010035395084242222 : Nat := 0
def PySem.W.Fast.tw6100143814613012532 : Nat := 0
def PySem.W.Fast.tw13847483850110694551 : Nat := 0
def PySem.W.Fast.tw5136717153273136702 : Nat := 0
def PySem.W.Fast.tw791998965273932701 : Nat := 0
def PySem.W.Fast.tw205872249565416732 : Nat := 0
def PySem.W.Fast.tw14972855650350130473 : Nat := 0
def PySem.W.Fast.tw2912959082467087570 : Nat := 0
def PySem.W.Fast.tw16105021064964465401 : Nat := 0
def PySem.W.Fast.tw14387050508780596534 : Nat := 0
def PySem.W.Fast.tw17045332628870684567 : Nat := 0
def PySem.W.Fast.tw18420939693892297066 : Nat := 0
def PySem.W.Fast.tw2614777280309026362 : Nat := 0
def PySem.W.Fast.tw12411445894081036440 : Nat := 0
def PySem.W.Fast.tw9531970182736137445 : Nat := 0
def PySem.W.Fast.tw3155022439839640421 : Nat := 0
open PySem PySem.W PyProof.Rows
set_option maxRecDepth 100000 in
set_option maxHeartbeats 0 in
theorem PySem.Challenge.cw_wellkind_k04_whole_fault_shown_holds : PySem.Challenge.rw_wellkind_k04_whole_fault_shown.Holds := by
  w_on; o_law; k_head; (case hw => w_witness2)
  k_fill
  refine Wk.walk (l := PySem.Challenge.rw_wellkind_k04_whole_fault_shown) rfl rfl (fun w h Y => PySem.W.kIn_of Y) ?F
  case F =>
    intro w mg fa h KX G hmg
    refine' Wk.all_mk KX G hmg ?a1 ?l1 ?c1 ?k1 ?a2 ?l2 ?c2 ?k2 ?a3 ?l3 ?c3 ?k3 ?a4 ?l4 ?c4 ?k4 ?a5 ?l5 ?c5 ?k5 ?a6 ?l6 ?c6 ?k6 ?a7 ?l7 ?c7 ?k7 ?a8 ?l8 ?c8 ?k8 ?a9 ?l9 ?c9 ?k9 ?a10 ?l10 ?c10 ?k10 ?a11 ?l11 ?c11 ?k11 ?a12 ?l12 ?c12 ?k12 ?a13 ?l13 ?c13 ?k13 ?a14 ?l14 ?c14 ?k14 ?a15 ?l15 ?c15 ?k15 ?a16 ?l16 ?c16 ?k16 ?a17 ?l17 ?c17 ?k17 ?a18 ?l18 ?c18 ?k18 ?a19 ?l19 ?c19 ?k19 ?a20 ?l20 ?c20 ?k20 ?a21 ?l21 ?c21 ?k21 ?a22 ?l22 ?c22 ?k22 ?a23 ?l23 ?c23 ?k23 ?a24 ?l24 ?c24 ?k24 ?a25 ?l25 ?c25 ?k25 ?a26 ?l26 ?c26 ?k26 ?a27 ?l27 ?c27 ?k27 ?a28 ?l28 ?c28 ?k28 ?a29 ?l29 ?c29 ?k29 ?a30 ?l30 ?c30 ?k30 ?a31 ?l31 ?c31 ?k31 ?z0 ?z1 ?z2 ?z3 ?z4 ?z5 ?z6 ?z7 ?z8 ?y_zip ?y_str ?y_ValueError ?y_dict ?c_num ?c_truth ?l_num ?l_truth ?c_KindError ?c_NoPart ?c_BadKind ?c_Stuck ?c_Tired ?c_NoLine ?e_exc ?e_x1 ?e_x2 ?e_kNoPart ?e_kStuck ?e_kTired ?e_kNoLine ?e_kV ?e_ga ?e_cl ?e_no ?e_sb ?e_so ?e_is ?e_kC
    (case a1 => k_is)
    (case l1 => k_is)
    (case c1 => k_is)
    (case k1 => k_is)
    (case a2 => k_is)
    (case l2 => k_is)
    (case c2 => k_is)
    (case k2 => k_is)
    (case a3 => k_is)
    (case l3 => k_is)
    (case c3 => k_is)
    (case k3 => k_is)
    (case a4 => k_is)
    (case l4 => k_is)
    (case c4 => k_is)
    (case k4 => k_is)
    (case a5 => k_is)
    (case l5 => k_is)
    (case c5 => k_is)
    (case k5 => k_is)
    (case a6 => k_is)
    (case l6 => k_is)
    (case c6 => k_is)
    (case k6 => k_is)
    (case a7 => k_is)
    (case l7 => k_is)
    (case c7 => k_is)
    (case k7 => k_is)
    (case a8 => k_is)
    (case l8 => k_is)
    (case c8 => k_is)
    (case k8 => k_is)
    (case a9 => k_is)
    (case l9 => k_is)
    (case c9 => k_is)
    (case k9 => k_is)
    (case a10 => k_is)
    (case l10 => k_is)
    (case c10 => k_is)
    (case k10 => k_is)
    (case a11 => k_is)
    (case l11 => k_is)
    (case c11 => k_is)
    (case k11 => k_is)
    (case a12 => k_is)
    (case l12 => k_is)
    (case c12 => k_is)
    (case k12 => k_is)
    (case a13 => k_is)
    (case l13 => k_is)
    (case c13 => k_is)
    (case k13 => k_is)
    (case a14 => k_is)
    (case l14 => k_is)
    (case c14 => k_is)
    (case k14 => k_is)
    (case a15 => k_is)
    (case l15 => k_is)
    (case c15 => k_is)
    (case k15 => k_is)
    (case a16 => k_is)
    (case l16 => k_is)
    (case c16 => k_is)
    (case k16 => k_is)
    (case a17 => k_is)
    (case l17 => k_is)
    (case c17 => k_is)
    (case k17 => k_is)
    (case a18 => k_is)
    (case l18 => k_is)
    (case c18 => k_is)
    (case k18 => k_is)
    (case a19 => k_is)
    (case l19 => k_is)
    (case c19 => k_is)
    (case k19 => k_is)
    (case a20 => k_is)
    (case l20 => k_is)
    (case c20 => k_is)
    (case k20 => k_is)
    (case a21 => k_is)
    (case l21 => k_is)
    (case c21 => k_is)
    (case k21 => k_is)
    (case a22 => k_is)
    (case l22 => k_is)
    (case c22 => k_is)
    (case k22 => k_is)
    (case a23 => k_is)
    (case l23 => k_is)
    (case c23 => k_is)
    (case k23 => k_is)
    (case a24 => k_is)
    (case l24 => k_is)
    (case c24 => k_is)
    (case k24 => k_is)
    (case a25 => k_is)
    (case l25 => k_is)
    (case c25 => k_is)
    (case k25 => k_is)
    (case a26 => k_is)
    (case l26 => k_is)
    (case c26 => k_is)
    (case k26 => k_is)
    (case a27 => k_is)
    (case l27 => k_is)
    (case c27 => k_is)
    (case k27 => k_is)
    (case a28 => k_is)
    (case l28 => k_is)
    (case c28 => k_is)
    (case k28 => k_is)
    (case a29 => k_is)
    (case l29 => k_is)
    (case c29 => k_is)
    (case k29 => k_is)
    (case a30 => k_is)
    (case l30 => k_is)
    (case c30 => k_is)
    (case k30 => k_is)
    (case a31 => k_is)
    (case l31 => k_is)
    (case c31 => k_is)
    (case k31 => k_is)
    (case z0 => k_is)
    (case z1 => k_is)
    (case z2 => k_is)
    (case z3 => k_is)
    (case z4 => k_is)
    (case z5 => k_is)
    (case z6 => k_is)
    (case z7 => k_is)
    (case z8 => k_is)
    (case y_zip => first | k_is | rfl | kernel_rfl | decide +kernel)
    (case y_str => first | k_is | rfl | kernel_rfl | decide +kernel)
    (case y_ValueError => first | k_is | rfl | kernel_rfl | decide +kernel)
    (case y_dict => first | k_is | rfl | kernel_rfl | decide +kernel)
    (case c_num => first | k_is | rfl | kernel_rfl | decide +kernel)
    (case c_truth => first | k_is | rfl | kernel_rfl | decide +kernel)
    (case l_num => first | k_is | rfl | kernel_rfl | decide +kernel)
    (case l_truth => first | k_is | rfl | kernel_rfl | decide +kernel)
    (case c_KindError => first | k_is | rfl | kernel_rfl | decide +kernel)
    (case c_NoPart => first | k_is | rfl | kernel_rfl | decide +kernel)
    (case c_BadKind => first | k_is | rfl | kernel_rfl | decide +kernel)
    (case c_Stuck => first | k_is | rfl | kernel_rfl | decide +kernel)
    (case c_Tired => first | k_is | rfl | kernel_rfl | decide +kernel)
    (case c_NoLine => first | k_is | rfl | kernel_rfl | decide +kernel)
    (case e_exc => first | k_is | rfl | kernel_rfl | decide +kernel)
    (case e_x1 => first | k_is | rfl | kernel_rfl | decide +kernel)
    (case e_x2 => first | k_is | rfl | kernel_rfl | decide +kernel)
    (case e_kNoPart => first | k_is | rfl | kernel_rfl | decide +kernel)
    (case e_kStuck => first | k_is | rfl | kernel_rfl | decide +kernel)
    (case e_kTired => first | k_is | rfl | kernel_rfl | decide +kernel)
    (case e_kNoLine => first | k_is | rfl | kernel_rfl | decide +kernel)
    (case e_kV => first | k_is | rfl | kernel_rfl | decide +kernel)
    (case e_ga => first | k_is | rfl | kernel_rfl | decide +kernel)
    (case e_cl => first | k_is | rfl | kernel_rfl | decide +kernel)
    (case e_no => first | k_is | rfl | kernel_rfl | decide +kernel)
    (case e_sb => first | k_is | rfl | kernel_rfl | decide +kernel)
    (case e_so => first | k_is | rfl | kernel_rfl | decide +kernel)
    (case e_is => first | k_is | rfl | kernel_rfl | decide +kernel)
    (case e_kC => first | k_is | rfl | kernel_rfl | decide +kernel)
