import PyProof.Rows.All
import Wide.All
import OpenK.AllK
import Wide.FinOn
import Lean
import PyProof.EqAt
import PyProof.EqKinds
import PyProof.TupleCall
import PySem.Challenge.RW_wellkind_k06_names_as_they_were
set_option Elab.async false
set_option linter.all false
set_option maxRecDepth 100000
namespace L2
open PySem PySem.Spec PyProof.Rows
abbrev Key := Sum Int Str
def keyIs : Key → Value → Bool
  | .inl k, v => Value.isInt k v
  | .inr x, v => Value.isStrOf x v
def keyH (w : World) : Key → Int
  | .inl k => hashInt k
  | .inr x => hashStr w x
theorem keyIs_shape : ∀ {k : Key} {v : Value}, keyIs k v = true → (∃ i t, k = Sum.inl i ∧ v = Value.int i t) ∨ (∃ x t, k = Sum.inr x ∧ v = Value.str x t)
  | .inl i, v, h => by
    obtain ⟨t, e⟩ := Value.isInt_shape (k := i) (v := v) h
    exact .inl ⟨i, t, rfl, e⟩
  | .inr x, v, h => by
    obtain ⟨t, e⟩ := Value.isStrOf_shape (x := x) (v := v) h
    exact .inr ⟨x, t, rfl, e⟩
theorem keyIs_int (i : Int) (t : Tok) : keyIs (.inl i) (.int i t) = true := by simp [keyIs, Value.isInt]
theorem keyIs_str (x : Str) (t : Tok) : keyIs (.inr x) (.str x t) = true := by simp [keyIs, Value.isStrOf]
theorem key_ll (a b : Int) : decide ((Sum.inl a : Key) = Sum.inl b) = (a == b) := by
  by_cases e : a = b
  · subst e; simp
  · have h : ¬ (Sum.inl a : Key) = Sum.inl b := fun q => e (Sum.inl.inj q)
    rw [decide_eq_false h]
    exact (beq_eq_false_iff_ne.mpr e).symm
theorem key_rr (a b : Str) : decide ((Sum.inr a : Key) = Sum.inr b) = decide (a = b) := by
  by_cases e : a = b
  · subst e; simp
  · have h : ¬ (Sum.inr a : Key) = Sum.inr b := fun q => e (Sum.inr.inj q)
    rw [decide_eq_false h, decide_eq_false e]
theorem key_lr (a : Int) (b : Str) : decide ((Sum.inl a : Key) = Sum.inr b) = false := decide_eq_false (fun q => nomatch q)
theorem key_rl (a : Str) (b : Int) : decide ((Sum.inr a : Key) = Sum.inl b) = false := decide_eq_false (fun q => nomatch q)
def mixKind (prog : Program) (w : World) : PySem.KeyKind prog w Key where
  is := keyIs
  hash := keyH w
  inj := fun v a b ha hb => by
    rcases keyIs_shape ha with ⟨i, t, rfl, rfl⟩ | ⟨x, t, rfl, rfl⟩
    · rcases keyIs_shape hb with ⟨j, u, rfl, e⟩ | ⟨y, u, rfl, e⟩
      · injection e with e1 _; rw [e1]
      · exact nomatch e
    · rcases keyIs_shape hb with ⟨j, u, rfl, e⟩ | ⟨y, u, rfl, e⟩
      · exact nomatch e
      · injection e with e1 _; rw [e1]
  byValue := fun k v h => by
    rcases keyIs_shape h with ⟨i, t, rfl, rfl⟩ | ⟨x, t, rfl, rfl⟩ <;> rfl
  pyHash := fun hv h => by
    rcases keyIs_shape hv with ⟨i, t, rfl, rfl⟩ | ⟨x, t, rfl, rfl⟩
    · exact wpAny_pyHash_int h
    · exact wpAny_pyHash_str h
  eqBool := fun hu hv h => by
    rcases keyIs_shape hu with ⟨i, t, rfl, rfl⟩ | ⟨x, t, rfl, rfl⟩
    · rcases keyIs_shape hv with ⟨j, u, rfl, rfl⟩ | ⟨y, u, rfl, rfl⟩
      · rw [key_ll] at h; exact wpAny_eqBool_int h
      · rw [key_lr] at h; exact SeqAt.EqAt.int_str i t y u _ _ _ _ h
    · rcases keyIs_shape hv with ⟨j, u, rfl, rfl⟩ | ⟨y, u, rfl, rfl⟩
      · rw [key_rl] at h; exact SeqAt.EqAt.str_int x t j u _ _ _ _ h
      · rw [key_rr] at h; exact wpAny_eqBool_str h
  «strs» := fun k x t v h => by
    rcases keyIs_shape h with ⟨i, u, rfl, e⟩ | ⟨y, u, rfl, e⟩
    · exact nomatch e
    · injection e with e1 _
      subst e1
      cases v <;> rfl
theorem mixKind_int (prog : Program) (w : World) (i : Int) (t : Tok) : (mixKind prog w).is (.inl i) (.int i t) = true := keyIs_int i t
theorem mixKind_str (prog : Program) (w : World) (x : Str) (t : Tok) : (mixKind prog w).is (.inr x) (.str x t) = true := keyIs_str x t
end L2
namespace L2
open PySem PySem.Spec PyProof.Rows
inductive V where
  | non | bl (b : Bool) | int (i : Int) | str (x : Str) | byt (b : Array UInt8) | flt (b : UInt64) | ref (a : Addr) | ty (n : String)
  deriving DecidableEq
def RelV : V → Value → Prop
  | .non, u => u = Value.none
  | .bl b, u => u = Value.bool b
  | .int i, u => ∃ t, u = Value.int i t
  | .str x, u => ∃ t, u = Value.str x t
  | .byt b, u => ∃ t, u = Value.bytes b t
  | .flt b, u => ∃ t, u = Value.float b t
  | .ref a, u => u = Value.ref a
  | .ty n, u => u = Value.type n
abbrev Vals : List V → List Value → Prop := Paired RelV
theorem Vals.length {xs : List V} {us : List Value} (r : Vals xs us) : xs.length = us.length := Paired.length r
theorem Vals.get : ∀ {xs : List V} {us : List Value} {i : Nat} {x : V}, Vals xs us → xs[i]? = some x → ∃ u, us[i]? = some u ∧ RelV x u
  | _, _, _, _, .nil, e => by simp at e
  | _, _, 0, _, .cons r _, e => by simp at e; subst e; exact ⟨_, rfl, r⟩
  | _, _, i + 1, x, .cons _ t, e => by
    obtain ⟨u, h1, h2⟩ := Vals.get (i := i) (x := x) t (by simpa using e)
    exact ⟨u, by simpa using h1, h2⟩
theorem Vals.append : ∀ {xs ys : List V} {us ws : List Value}, Vals xs us → Vals ys ws → Vals (xs ++ ys) (us ++ ws)
  | _, _, _, _, .nil, s => s
  | _, _, _, _, .cons r t, s => .cons r (Vals.append t s)
theorem Vals.take : ∀ {xs : List V} {us : List Value} (n : Nat), Vals xs us → Vals (xs.take n) (us.take n)
  | _, _, 0, _ => .nil
  | _, _, _ + 1, .nil => .nil
  | _, _, n + 1, .cons r t => .cons r (Vals.take n t)
theorem Vals.drop : ∀ {xs : List V} {us : List Value} (n : Nat), Vals xs us → Vals (xs.drop n) (us.drop n)
  | _, _, 0, r => r
  | _, _, _ + 1, .nil => .nil
  | _, _, n + 1, .cons _ t => Vals.drop n t
def RelO : Option V → Option Value → Prop
  | some v, some u => RelV v u
  | none, none => True
  | _, _ => False
def KV {κ : Type} : List (κ × V) → List (κ × Value) → Prop := Paired fun (p : κ × V) (q : κ × Value) => p.1 = q.1 ∧ RelV p.2 q.2
def kV : Key → V
  | .inl i => .int i
  | .inr x => .str x
inductive HO where
  /-- a list -/
  | lst (xs : List V)
  /-- a tuple (never changes) -/
  | tup (xs : List V)
  /-- a dict whose keys are ints and texts; one whose keys are tuples of ints and texts (the empty one is both) -/
  | dK (kvs : List (Key × V)) | dT (kvs : List (List Key × V))
  /-- a set of ints: its members, its size -/
  | set (S : Int → Bool) (n : Nat)
  /-- an instance of the class at C, its dict at dx, its attributes -/
  | ins (C dx : Addr) (fs : List (Str × V))
  /-- the dict of the instance at x -/
  | own (x : Addr)
  /-- the dict of an exception -/
  | xd (fs : List (Str × V))
  /-- a bound method, f of x -/
  | met (f x : Addr)
  /-- a range object lo, lo + 1, .. below hi -/
  | rng (lo hi : Int)
  /-- a thing that is known to the object (the script; a dict while a loop walks it): read, never written while it is so -/
  | frz (o : Obj) (u : HO)
  /-- a code object's table -/
  | tbl (ps : Array Value)
  /-- any other thing, by what is true of its one object (a def of one's own: SetO a S n := HO.ext fun h => ..) -/
  | ext (φ : Heap → Prop)
abbrev Hp := Addr → Option HO
def upd (H : Hp) (a : Addr) (o : HO) : Hp := fun b => if b = a then some o else H b
theorem upd_same {H : Hp} {a : Addr} {o : HO} : upd H a o a = some o := by unfold upd; rw [if_pos rfl]
theorem upd_ne {H : Hp} {a b : Addr} {o : HO} (h : b ≠ a) : upd H a o b = H b := by unfold upd; rw [if_neg h]
theorem ne_of {H : Hp} {a b : Addr} {o u : HO} (h : H a = some o) (h' : H b = some u) (d : o ≠ u) : a ≠ b := by
  intro e; subst e; rw [h] at h'; exact d (Option.some.inj h')
theorem ne_of_none {H : Hp} {a b : Addr} {o : HO} (h : H a = some o) (h' : H b = none) : a ≠ b := by
  intro e; subst e; rw [h] at h'; cases h'
section
variable (P : Program) (w : World)
def ObjOk (H : Hp) (h : Heap) (a : Addr) : HO → Prop
  | .lst xs => xs.length ≤ sizeLine ∧ ∃ (its : List Value) (n : Nat), Vals xs its ∧ h.get? a = some { cls := .type "list", data := .seq its.toArray n }
  | .tup xs => xs.length ≤ sizeLine ∧ ∃ its : List Value, Vals xs its ∧ IsTup h a its.toArray
  | .dK kvs => kvs.length ≤ sizeLine ∧ (a == sysModules) = false ∧ ∃ vs, KV kvs vs ∧ h.DictOf (mixKind P w) a vs
  | .dT kvs => kvs.length ≤ sizeLine ∧ (a == sysModules) = false ∧ ∃ xs : List (List Key × Addr × Value),
      Paired (fun (p : List Key × V) (q : List Key × Addr × Value) => p.1 = q.1 ∧ H q.2.1 = some (.tup (p.1.map kV)) ∧ RelV p.2 q.2.2) kvs xs ∧
      ∃ o es ep, h.get? a = some o ∧ o.ExactDict ∧ o.data = .dict es ep ∧ es.toList = xs.map (entryOfKey (tupleKind (mixKind P w))) ∧ (xs.map (·.1)).Nodup
  | .set S n => h.SetOf (intKind P w) a S n
  | .ins C dx fs => H dx = some (.own a) ∧ fs.length ≤ 1000 ∧ dx ≠ a ∧ h.get? a = some (PySem.W.instObj C dx) ∧
      ∃ mA, h.Ns1 dx mA ∧ (∀ f, RelO (fs.lookup f) (mA f)) ∧ PySem.Within mA (fs.map (·.1))
  | .own _ => ∃ o, h.get? a = some o
  | .xd fs => ∃ mA, h.Ns1 a mA ∧ ∀ f, RelO (fs.lookup f) (mA f)
  | .rng lo hi => ∃ t u v, h.get? a = some { cls := .type "range", data := .fields #[.int lo t, .int hi u, .int 1 v] }
  | .frz o u => h.get? a = some o ∧ ObjOk H h a u
  | .tbl ps => h.get? a = some { cls := .none, data := .fields ps }
  | .met f x => h.get? a = some (PySem.W.methodObj (.ref f) (.ref x))
  | .ext φ => φ h ∧ (∃ o, h.get? a = some o) ∧ ∀ h1 h2 : Heap, φ h1 → (∀ o, h1.get? a = some o → h2.get? a = some o) → φ h2
def HOk (H : Hp) (h : Heap) : Prop := ∀ a o, H a = some o → ObjOk P w H h a o
end
section
variable {P : Program} {w : World} {H H' : Hp} {h h' : Heap} {a : Addr} {o : HO}
theorem ObjOk.lt (x : ObjOk P w H h a o) : a < h.objs.size := by
  cases o with
  | lst xs => obtain ⟨_, _, _, _, e⟩ := x; exact Heap.lt_size e
  | tup xs => obtain ⟨_, _, _, p⟩ := x; exact p.lt
  | dK kvs => obtain ⟨_, _, _, _, o, _, _, e, _⟩ := x; exact Heap.lt_size e
  | dT kvs => obtain ⟨_, _, _, _, o, _, _, e, _⟩ := x; exact Heap.lt_size e
  | set S n => obtain ⟨o, _, _, _, e, _⟩ := x; exact Heap.lt_size e
  | ins C dx fs => obtain ⟨_, _, _, e, _⟩ := x; exact Heap.lt_size e
  | own y => obtain ⟨_, e⟩ := x; exact Heap.lt_size e
  | xd fs => obtain ⟨_, ⟨_, _, _, e, _⟩, _⟩ := x; exact Heap.lt_size e
  | rng lo hi => obtain ⟨_, _, _, e⟩ := x; exact Heap.lt_size e
  | frz ob u => obtain ⟨e, _⟩ := x; exact Heap.lt_size e
  | tbl ps => exact Heap.lt_size (show h.get? a = some _ from x)
  | met f y => exact Heap.lt_size (show h.get? a = some _ from x)
  | ext φ => obtain ⟨_, ⟨_, e⟩, _⟩ := x; exact Heap.lt_size e
theorem Paired.mapP {α β : Type} {F G : α → β → Prop} : ∀ {l₁ : List α} {l₂ : List β}, Paired F l₁ l₂ → (∀ a b, F a b → G a b) → Paired G l₁ l₂
  | _, _, .nil, _ => .nil
  | _, _, .cons r t, f => .cons (f _ _ r) (Paired.mapP t f)
theorem ObjOk.stay (x : ObjOk P w H h a o) (k : ∀ b u, (b = a ∨ H b = some (.own a)) → h.get? b = some u → h'.get? b = some u)
    (ho : ∀ b, H b = some (.own a) → H' b = some (.own a)) (ht : ∀ b xs, H b = some (.tup xs) → H' b = some (.tup xs)) : ObjOk P w H' h' a o := by
  induction o with
  | lst xs => obtain ⟨z, its, n, r, e⟩ := x; exact ⟨z, its, n, r, k _ _ (.inl rfl) e⟩
  | tup xs => obtain ⟨z, its, r, ob, e, c⟩ := x; exact ⟨z, its, r, ob, k _ _ (.inl rfl) e, c⟩
  | dK kvs => obtain ⟨z, y, vs, r, ob, es, ep, e, c⟩ := x; exact ⟨z, y, vs, r, ob, es, ep, k _ _ (.inl rfl) e, c⟩
  | dT kvs =>
    obtain ⟨z, y, xs, r, ob, es, ep, e, c⟩ := x
    exact ⟨z, y, xs, Paired.mapP r fun p q z => ⟨z.1, ht _ _ z.2.1, z.2.2⟩, ob, es, ep, k _ _ (.inl rfl) e, c⟩
  | set S n => obtain ⟨ob, es, ep, t, e, c⟩ := x; exact ⟨ob, es, ep, t, k _ _ (.inl rfl) e, c⟩
  | ins C dx fs =>
    obtain ⟨d, z, ne, e, mA, ⟨od, es, ep, e2, c⟩, r⟩ := x
    exact ⟨ho _ d, z, ne, k _ _ (.inl rfl) e, mA, ⟨od, es, ep, k _ _ (.inr d) e2, c⟩, r⟩
  | own y => obtain ⟨ob, e⟩ := x; exact ⟨ob, k _ _ (.inl rfl) e⟩
  | xd fs => obtain ⟨mA, ⟨od, es, ep, e, c⟩, r⟩ := x; exact ⟨mA, ⟨od, es, ep, k _ _ (.inl rfl) e, c⟩, r⟩
  | rng lo hi => obtain ⟨t, u, v, e⟩ := x; exact ⟨t, u, v, k _ _ (.inl rfl) e⟩
  | frz ob u ih => obtain ⟨e, q⟩ := x; exact ⟨k _ _ (.inl rfl) e, ih q⟩
  | tbl ps =>
    have e : h.get? a = some { cls := .none, data := .fields ps } := x
    show h'.get? a = some { cls := .none, data := .fields ps }
    exact k a _ (.inl rfl) e
  | met f y =>
    have e : h.get? a = some (PySem.W.methodObj (.ref f) (.ref y)) := x
    show h'.get? a = some (PySem.W.methodObj (.ref f) (.ref y))
    exact k a _ (.inl rfl) e
  | ext φ => obtain ⟨p, ⟨o, e⟩, st⟩ := x; exact ⟨st _ _ p fun o q => k _ _ (.inl rfl) q, ⟨o, k _ _ (.inl rfl) e⟩, st⟩
theorem HOk.lt (x : HOk P w H h) (e : H a = some o) : a < h.objs.size := (x a o e).lt
theorem HOk.fresh (x : HOk P w H h) (e : h.objs.size ≤ a) : H a = none := by
  cases q : H a with
  | none => rfl
  | some u => exact absurd (Nat.lt_of_lt_of_le (x.lt q) e) (Nat.lt_irrefl _)
theorem HOk.kept (x : HOk P w H h) (k : ∀ b u, h.get? b = some u → h'.get? b = some u) : HOk P w H h' := fun a o e =>
  (x a o e).stay (fun b u _ q => k b u q) (fun _ q => q) fun _ _ q => q
theorem HOk.laid (x : HOk P w H h) (k : ∀ b u, h.get? b = some u → h'.get? b = some u) (hp : h.objs.size ≤ a) (new : ObjOk P w (upd H a o) h' a o) : HOk P w (upd H a o) h' := fun b u e => by
  have hn := x.fresh hp
  by_cases hb : b = a
  · subst hb; rw [upd_same] at e; cases e; exact new
  · rw [upd_ne hb] at e
    exact (x b u e).stay (fun c v _ q => k c v q) (fun c q => by rw [upd_ne (ne_of_none q hn)]; exact q) fun c xs q => by rw [upd_ne (ne_of_none q hn)]; exact q
end
def Rd (H : Hp) (a : Addr) (u : HO) : Prop := H a = some u ∨ ∃ o, H a = some (.frz o u)
theorem Rd.ok {P : Program} {w : World} {H : Hp} {h : Heap} {a : Addr} {u : HO} (r : Rd H a u) (x : HOk P w H h) : ObjOk P w H h a u := by
  rcases r with r | ⟨o, r⟩
  · exact x a u r
  · obtain ⟨_, q⟩ := x a _ r
    exact q
def Mut : Option HO → Prop
  | some (.lst _) => True
  | some (.dK _) => True
  | some (.dT _) => True
  | some (.set _ _) => True
  | some (.ins _ _ _) => True
  | some (.ext _) => True
  | _ => False
section
variable {P : Program} {w : World} {H : Hp} {h h' : Heap} {x e : Addr} {o' : HO}
theorem HOk.write (ok : HOk P w H h) (mu : Mut (H x)) (he : e = x ∨ H e = some (.own x)) (k : ∀ b u, b ≠ e → h.get? b = some u → h'.get? b = some u) (heo : ∃ u, h'.get? e = some u)
    (new : ObjOk P w (upd H x o') h' x o') : HOk P w (upd H x o') h' := fun b u q => by
  have nown : ∀ c y, H c = some (.own y) → c ≠ x := fun c y r z => by subst z; rw [r] at mu; exact mu
  have ntup : ∀ c xs, H c = some (.tup xs) → c ≠ x := fun c xs r z => by subst z; rw [r] at mu; exact mu
  by_cases hb : b = x
  · subst hb; rw [upd_same] at q; cases q; exact new
  · rw [upd_ne hb] at q
    by_cases hbe : b = e
    · have q' : H b = some (.own x) := by
        rcases he with z | z
        · exact absurd (hbe.trans z) hb
        · rw [hbe]; exact z
      rw [q] at q'; cases q'
      obtain ⟨v, hv⟩ := heo
      exact ⟨v, by rw [hbe]; exact hv⟩
    · refine (ok b u q).stay (fun c v hc r => k c v ?_ r) (fun c r => by rw [upd_ne (nown c b r)]; exact r) fun c xs r => by rw [upd_ne (ntup c xs r)]; exact r
      rcases hc with rfl | hc
      · exact hbe
      · rintro rfl
        rcases he with z | z
        · exact nown c b hc z
        · rw [hc] at z; cases z; exact hb rfl
end
structure Un (fs ex : List Addr) (H H' : Hp) (h h' : Heap) : Prop where
  keep : ∀ b o, h.get? b = some o → H b = none → b ∉ fs → b ∉ ex → h'.get? b = some o
  slot : ∀ b o, h.get? b = some o → H b = none → b ∈ fs → b ∉ ex → ∃ sl, h'.get? b = some { o with slots := sl }
  free : ∀ b o, h.get? b = some o → H b = none → b ∉ ex → H' b = none
  there : ∀ b o, h.get? b = some o → b ∉ ex → ∃ o', h'.get? b = some o'
  tups : ∀ b xs, H b = some (.tup xs) → H' b = some (.tup xs)
  frzs : ∀ b o u, H b = some (.frz o u) → H' b = some (.frz o u)
  tbls : ∀ b ps, H b = some (.tbl ps) → ∃ more, H' b = some (.tbl (ps ++ more))
section
variable {fs fs' ex ex' : List Addr} {H H1 H2 : Hp} {h h1 h2 h' : Heap} {a x e : Addr} {o : HO}
theorem Un.any (u : Un fs ex H H1 h h1) {b : Addr} {ob : Obj} (q : h.get? b = some ob) (n : H b = none) (hx : b ∉ ex) : ∃ sl, h1.get? b = some { ob with slots := sl } := by
  by_cases hb : b ∈ fs
  · exact u.slot b ob q n hb hx
  · exact ⟨ob.slots, u.keep b ob q n hb hx⟩
theorem Un.trans (a : Un fs ex H H1 h h1) (b : Un fs ex H1 H2 h1 h2) : Un fs ex H H2 h h2 where
  keep := fun c ob q n hc hx => b.keep c ob (a.keep c ob q n hc hx) (a.free c ob q n hx) hc hx
  slot := fun c ob q n hc hx => by
    obtain ⟨sl, e1⟩ := a.slot c ob q n hc hx
    obtain ⟨sl', e2⟩ := b.slot c _ e1 (a.free c ob q n hx) hc hx
    exact ⟨sl', e2⟩
  free := fun c ob q n hx => by
    obtain ⟨o', e1⟩ := a.there c ob q hx
    exact b.free c o' e1 (a.free c ob q n hx) hx
  there := fun c ob q hx => by
    obtain ⟨o', e1⟩ := a.there c ob q hx
    exact b.there c o' e1 hx
  tups := fun c xs q => b.tups c xs (a.tups c xs q)
  frzs := fun c ob xs q => b.frzs c ob xs (a.frzs c ob xs q)
  tbls := fun c ps q => by
    obtain ⟨m1, e1⟩ := a.tbls c ps q
    obtain ⟨m2, e2⟩ := b.tbls c _ e1
    exact ⟨m1 ++ m2, by rw [e2, Array.append_assoc]⟩
theorem Un.kept (k : ∀ b u, h.get? b = some u → h'.get? b = some u) : Un fs ex H H h h' :=
  ⟨fun b ob q _ _ _ => k b ob q, fun b ob q _ _ _ => ⟨ob.slots, k b ob q⟩, fun _ _ _ n _ => n, fun b ob q _ => ⟨ob, k b ob q⟩, fun _ _ q => q, fun _ _ _ q => q, fun _ ps q => ⟨#[], by rw [q]; simp⟩⟩
theorem Un.refl : Un fs ex H H h h := Un.kept fun _ _ q => q
theorem Un.laid (k : ∀ b u, h.get? b = some u → h'.get? b = some u) (hp : h.objs.size ≤ a) (hn : H a = none) : Un fs ex H (upd H a o) h h' where
  keep := fun b u q _ _ _ => k b u q
  slot := fun b u q _ _ _ => ⟨u.slots, k b u q⟩
  free := fun b u q n _ => by rw [upd_ne (Nat.ne_of_lt (Nat.lt_of_lt_of_le (Heap.lt_size q) hp))]; exact n
  there := fun b u q _ => ⟨u, k b u q⟩
  tups := fun b xs q => by rw [upd_ne (ne_of_none q hn)]; exact q
  frzs := fun b u xs q => by rw [upd_ne (ne_of_none q hn)]; exact q
  tbls := fun b ps q => ⟨#[], by rw [upd_ne (ne_of_none q hn), q]; simp⟩
theorem Un.write (mu : Mut (H x)) (he : e = x ∨ H e = some (.own x)) (k : ∀ b u, b ≠ e → h.get? b = some u → h'.get? b = some u) (heo : ∃ u, h'.get? e = some u) : Un fs ex H (upd H x o) h h' := by
  have hx : ∀ b, H b = none → b ≠ x := fun b n z => by subst z; rw [n] at mu; exact mu
  have hb : ∀ b, H b = none → b ≠ e := fun b n z => by
    subst z
    rcases he with r | r
    · exact hx b n r
    · rw [n] at r; cases r
  have hm : ∀ b u, H b = some u → ¬ Mut (some u) → b ≠ x := fun b u q nm z => by subst z; rw [q] at mu; exact nm mu
  refine ⟨fun b u q n _ _ => k b u (hb b n) q, fun b u q n _ _ => ⟨u.slots, k b u (hb b n) q⟩, fun b u q n _ => by rw [upd_ne (hx b n)]; exact n, fun b u q _ => ?_,
    fun b xs q => by rw [upd_ne (hm b _ q fun z => z)]; exact q, fun b u xs q => by rw [upd_ne (hm b _ q fun z => z)]; exact q, fun b ps q => ⟨#[], by rw [upd_ne (hm b _ q fun z => z), q]; simp⟩⟩
  by_cases hbe : b = e
  · subst hbe; exact heo
  · exact ⟨u, k b u hbe q⟩
theorem Un.mono (u : Un fs ex H H1 h h1) (hs : ∀ b ∈ fs, b ∈ fs') (hx : ∀ b ∈ ex, b ∈ ex') : Un fs' ex' H H1 h h1 :=
  ⟨fun b ob q n hb he => u.keep b ob q n (fun z => hb (hs b z)) fun z => he (hx b z), fun _ _ q n _ he => u.any q n fun z => he (hx _ z), fun b ob q n he => u.free b ob q n fun z => he (hx b z), fun b ob q he => u.there b ob q fun z => he (hx b z), u.tups, u.frzs, u.tbls⟩
end
def trk (h : Heap) (H : Hp) : List Addr := (List.range h.objs.size).filter fun a => (H a).isSome
def hidT (h : Heap) (H : Hp) : Heap := PySem.W.hideAll h (trk h H)
theorem hidT_size (h : Heap) (H : Hp) : (hidT h H).objs.size = h.objs.size := PySem.W.hideAll_size _ _
theorem hidT_get {h : Heap} {H : Hp} {b : Addr} {o : Obj} (e : h.get? b = some o) (n : H b = none) : (hidT h H).get? b = some o :=
  PySem.W.hideAll_get _ e fun hm => by
    have q : (H b).isSome = true := (List.mem_filter.mp hm).2
    rw [n] at q; simp at q
theorem of_hidT {h : Heap} {H : Hp} {b : Addr} {o : Obj} (e : (hidT h H).get? b = some o) : h.get? b = some o ∧ H b = none := by
  have e' : h.get? b = some o := PySem.W.of_hideAll (trk h H) e
  refine ⟨e', ?_⟩
  cases q : H b with
  | none => rfl
  | some x =>
    have hm : b ∈ trk h H := List.mem_filter.mpr ⟨List.mem_range.mpr (Heap.lt_size e'), by simp [q]⟩
    have z : (hidT h H).get? b = none := PySem.W.hideAll_none (trk h H) hm
    rw [z] at e; cases e
end L2
namespace L2
open PySem PySem.Spec PyProof.Rows
structure Mod (K : PySem.W.Frag) (mg : Str → Option Value) (base : Heap) : Prop where
  kin : K.In base
  glob : base.Ns mainGlobals mg
  blt : ∃ mb, base.Ns builtinsNs mb ∧ ∀ x : Str, x ≠ "__name__" → mb x = bootBuiltins x
  nolimit : base.NoLimit
structure Cx where
  prog : Program
  w : World
  K : PySem.W.Frag
  mg : Str → Option Value
  base : Heap
  A : Around
  N : List Str
  s₀ : Shared
  H₀ : Hp
  env : Env
  outer : List Env
  stack : List Env
  ex : List Addr
  fn : Str → Bool
  calm : Bool
  pn : List (Addr × Obj)
  xe : Value → Shared → Prop
def frs (l : List Env) : List Addr := l.filterMap (·.frame)
abbrev Cx.fs (X : Cx) : List Addr := frs X.outer
def Vis (sc : Scope) (x : Str) : Prop := sc.names.lookup x = some .local ∨ sc.names.lookup x = some .cell ∨ sc.names.lookup x = some .free
def Loc (sc : Scope) (x : Str) : Prop := sc.names.lookup x = some .local ∨ sc.names.lookup x = some .cell
def Look (env : Env) (h : Heap) (m : Str → Option Value) (x : Str) (u : Value) : Prop :=
  (env.kindOf x = some .local ∧ m x = some u) ∨ ((env.kindOf x = some .cell ∨ env.kindOf x = some .free) ∧ ∃ c, env.cells.lookup x = some c ∧ h.IsCell c (some u))
structure Cx.Ok (X : Cx) : Prop where
  mod : Mod X.K X.mg X.base
  kind : X.env.scope.kind = .function
  glob : X.env.globals = mainGlobals
  blt : X.env.builtins = builtinsNs
  above : X.s₀.heap.objs.size ≤ X.env.locals
  inj : ∀ x y c, X.env.cells.lookup x = some c → X.env.cells.lookup y = some c → x = y
  has : ∀ x, (X.env.kindOf x = some .cell ∨ X.env.kindOf x = some .free) → ∃ c, X.env.cells.lookup x = some c
  cab : ∀ x c, X.fn x = true → X.env.cells.lookup x = some c → X.s₀.heap.objs.size ≤ c
  hd : X.calm = true → X.A.handled = none
  frames : X.A.frames = some X.stack
  stk : X.stack = X.outer ∨ (X.stack = X.env :: X.outer ∧ X.env.frame = some X.env.locals)
  exf : ∀ b ∈ X.ex, b ≠ X.env.locals ∧ ∀ x c, X.env.cells.lookup x = some c → c ≠ b
  bs : ∀ b o, X.base.get? b = some o → X.s₀.heap.get? b = some o ∧ X.H₀ b = none
  bsz : X.base.objs.size ≤ X.s₀.heap.objs.size
  noex : ∀ b o, X.base.get? b = some o → b ∉ X.ex
  exfs : ∀ b ∈ X.ex, b ∉ X.fs
  funs : X.s₀.heap.FunFrames X.base X.outer
  frf : ∀ b ∈ X.fs, X.H₀ b = none
structure Inv (X : Cx) (pins : List (Addr × Obj)) (σ : List (Option V)) (H : Hp) (s : Shared) : Prop where
  ok : X.Ok
  os : s.os = X.s₀.os
  bare : AllBare s.gens
  base : Un X.fs X.ex X.H₀ H X.s₀.heap s.heap
  loc : ∃ m, s.heap.Ns X.env.locals m ∧ ∀ (i : Nat) (x : Str) (v : V), X.N[i]? = some x → σ[i]? = some (some v) → Vis X.env.scope x → ∃ u, RelV v u ∧ Look X.env s.heap m x u
  cell : ∀ x c, X.env.cells.lookup x = some c → ∃ v, s.heap.IsCell c v
  free : H X.env.locals = none
  freeC : ∀ x c, X.env.cells.lookup x = some c → H c = none
  pin : ∀ p ∈ X.pn ++ pins, s.heap.get? p.1 = some p.2 ∧ H p.1 = none ∧ p.1 ≠ X.env.locals ∧ p.1 ∉ X.fs ∧ ∀ v, p.2.data ≠ .cell v
  hok : HOk X.prog X.w H s.heap
  len : σ.length = X.N.length
section
variable {X : Cx} {pins : List (Addr × Obj)} {σ : List (Option V)} {H H' : Hp} {s : Shared} {h' : Heap}
theorem Cx.Ok.nofr (ok : X.Ok) {b : Addr} {o : Obj} (e : X.base.get? b = some o) : b ∉ X.fs := fun hb => by
  have := (ok.funs.mem hb).1
  rw [e] at this; cases this
theorem Inv.bs (I : Inv X pins σ H s) : ∀ b o, X.base.get? b = some o → s.heap.get? b = some o ∧ H b = none := fun b o e =>
  ⟨I.base.keep b o (I.ok.bs b o e).1 (I.ok.bs b o e).2 (I.ok.nofr e) (I.ok.noex b o e), I.base.free b o (I.ok.bs b o e).1 (I.ok.bs b o e).2 (I.ok.noex b o e)⟩
theorem Inv.bk (I : Inv X pins σ H s) : ∀ b o, X.base.get? b = some o → s.heap.get? b = some o := fun b o e => (I.bs b o e).1
theorem Inv.mod (I : Inv X pins σ H s) : Mod X.K X.mg X.base := I.ok.mod
theorem Inv.kIn (I : Inv X pins σ H s) : X.K.In s.heap := I.ok.mod.kin.keeps I.bk
theorem Inv.lt (I : Inv X pins σ H s) : X.env.locals < s.heap.objs.size := let ⟨_, hn, _⟩ := I.loc; hn.lt
theorem Inv.sz (I : Inv X pins σ H s) : X.s₀.heap.objs.size ≤ s.heap.objs.size := Nat.le_trans I.ok.above (Nat.le_of_lt I.lt)
theorem Inv.nofs (I : Inv X pins σ H s) {a : Addr} (h : s.heap.objs.size ≤ a) : a ∉ X.fs := fun hb => by
  obtain ⟨_, o, ho, _⟩ := I.ok.funs.mem hb
  exact absurd (Nat.lt_of_lt_of_le (Heap.lt_size ho) (Nat.le_trans I.sz h)) (Nat.lt_irrefl _)
theorem Inv.cne (I : Inv X pins σ H s) : ∀ x c, X.env.cells.lookup x = some c → c ≠ X.env.locals := fun x c e z => by
  obtain ⟨v, o, ho, hd⟩ := I.cell x c e
  obtain ⟨m, ⟨o', es, ep, ho', hd', _⟩, _⟩ := I.loc
  rw [z, ho'] at ho; cases ho; rw [hd'] at hd; cases hd
theorem Inv.funs (I : Inv X pins σ H s) : s.heap.FunFrames X.base X.outer := by
  have all : ∀ (l : List Env), (∀ b ∈ frs l, b ∈ X.fs) → X.s₀.heap.FunFrames X.base l → s.heap.FunFrames X.base l := by
    intro l
    induction l with
    | nil => intro _ _; trivial
    | cons env r ih =>
      intro hs hl
      obtain ⟨hk, ⟨L, o, hf, hn, ho, hd⟩, hr⟩ := hl
      have hL : L ∈ X.fs := hs L (by unfold frs; rw [List.filterMap_cons, hf]; exact List.mem_cons_self)
      obtain ⟨sl, e⟩ := I.base.slot L o ho (I.ok.frf L hL) hL fun z => I.ok.exfs L z hL
      exact ⟨hk, ⟨L, _, hf, hn, e, hd⟩, ih (fun b hb => hs b (by unfold frs; rw [List.filterMap_cons, hf]; exact List.mem_cons_of_mem _ hb)) hr⟩
  exact all X.outer (fun _ hb => hb) I.ok.funs
theorem Inv.stack (I : Inv X pins σ H s) : s.heap.FunFrames X.base X.stack := by
  rcases I.ok.stk with e | ⟨e, hf⟩
  · rw [e]; exact I.funs
  · rw [e]
    obtain ⟨m, hn, _⟩ := I.loc
    refine .cons (by rw [I.ok.kind]; decide) hf hn ?_ I.funs
    exact Heap.get?_none_of_le (Nat.le_trans I.ok.bsz I.ok.above)
theorem Inv.stkSub (I : Inv X pins σ H s) : ∀ b ∈ frs X.stack, b ∈ X.env.locals :: X.fs := fun b hb => by
  rcases I.ok.stk with e | ⟨e, hf⟩
  · rw [e] at hb; exact List.mem_cons_of_mem _ hb
  · rw [e] at hb
    unfold frs at hb
    rw [List.filterMap_cons, hf] at hb
    exact hb
theorem Inv.stkFree (I : Inv X pins σ H s) : ∀ b ∈ frs X.stack, H b = none := fun b hb => by
  rcases List.mem_cons.mp (I.stkSub b hb) with e | hb
  · rw [e]; exact I.free
  · obtain ⟨_, o, ho, _⟩ := I.ok.funs.mem hb
    exact I.base.free b o ho (I.ok.frf b hb) fun z => I.ok.exfs b z hb
theorem Inv.step {g' : Array GenState} {t' : Nat} {d' : Drawn} {ch : List Addr} (I : Inv X pins σ H s)
    (hch : ∀ b ∈ ch, (b ∈ X.ex ∨ X.s₀.heap.objs.size ≤ b) ∧ b ≠ X.env.locals ∧ (∀ x c, X.env.cells.lookup x = some c → c ≠ b) ∧ ∀ p ∈ X.pn ++ pins, p.1 ≠ b)
    (keep : ∀ b o, b ≠ X.env.locals → b ∉ X.fs → b ∉ ch → s.heap.get? b = some o → H b = none → h'.get? b = some o)
    (slot : ∀ b o, b ≠ X.env.locals → b ∈ X.fs → b ∉ ch → s.heap.get? b = some o → H b = none → ∃ sl, h'.get? b = some { o with slots := sl }) (free : ∀ b o, b ∉ ch → s.heap.get? b = some o → H b = none → H' b = none)
    (there : ∀ b o, b ∉ ch → s.heap.get? b = some o → ∃ o', h'.get? b = some o')
    (tups : ∀ b xs, H b = some (.tup xs) → H' b = some (.tup xs)) (frzs : ∀ b o u, H b = some (.frz o u) → H' b = some (.frz o u)) (tbls : ∀ b ps, H b = some (.tbl ps) → ∃ more, H' b = some (.tbl (ps ++ more)))
    (ns : ∀ m, s.heap.Ns X.env.locals m → h'.Ns X.env.locals m) (hok : HOk X.prog X.w H' h') (hg : AllBare g') :
    Inv X pins σ H' { s with heap := h', gens := g', drawn := d', toks := t' } := by
  have neL : ∀ b o, X.s₀.heap.get? b = some o → b ≠ X.env.locals := fun b o e => Nat.ne_of_lt (Nat.lt_of_lt_of_le (Heap.lt_size e) I.ok.above)
  have neC : ∀ b o, X.s₀.heap.get? b = some o → b ∉ X.ex → b ∉ ch := fun b o e hx hb => by
    rcases (hch b hb).1 with z | z
    · exact hx z
    · exact absurd (Nat.lt_of_lt_of_le (Heap.lt_size e) z) (Nat.lt_irrefl _)
  have cellK : ∀ x c, X.env.cells.lookup x = some c → ∀ v, s.heap.IsCell c v → h'.IsCell c v := fun x c e v ⟨o, ho, hd⟩ => by
    have nch : c ∉ ch := fun z => (hch c z).2.2.1 x c e rfl
    by_cases hc : c ∈ X.fs
    · obtain ⟨sl, q⟩ := slot c o (I.cne x c e) hc nch ho (I.freeC x c e)
      exact ⟨_, q, hd⟩
    · exact ⟨o, keep c o (I.cne x c e) hc nch ho (I.freeC x c e), hd⟩
  refine ⟨I.ok, I.os, hg, ⟨fun b o e n hb hx => ?_, fun b o e n hb hx => ?_, fun b o e n hx => ?_, fun b o e hx => ?_, fun b xs e => tups b xs (I.base.tups b xs e), fun b o xs e => frzs b o xs (I.base.frzs b o xs e), fun b ps e => ?_⟩, ?_, fun x c e => ?_, ?_, fun x c e => ?_, fun p hp => ?_, hok, I.len⟩
  · exact keep b o (neL b o e) hb (neC b o e hx) (I.base.keep b o e n hb hx) (I.base.free b o e n hx)
  · obtain ⟨sl, e1⟩ := I.base.slot b o e n hb hx
    obtain ⟨sl', e2⟩ := slot b _ (neL b o e) hb (neC b o e hx) e1 (I.base.free b o e n hx)
    exact ⟨sl', e2⟩
  · obtain ⟨o', e1⟩ := I.base.there b o e hx
    exact free b o' (neC b o e hx) e1 (I.base.free b o e n hx)
  · obtain ⟨o', e1⟩ := I.base.there b o e hx
    exact there b o' (neC b o e hx) e1
  · obtain ⟨m1, e1⟩ := I.base.tbls b ps e
    obtain ⟨m2, e2⟩ := tbls b _ e1
    exact ⟨m1 ++ m2, by rw [e2, Array.append_assoc]⟩
  · obtain ⟨m, hn, hl⟩ := I.loc
    refine ⟨m, ns m hn, fun i x v e1 e2 e3 => ?_⟩
    obtain ⟨u, r, l⟩ := hl i x v e1 e2 e3
    refine ⟨u, r, ?_⟩
    rcases l with l | ⟨k, c, e, z⟩
    · exact .inl l
    · exact .inr ⟨k, c, e, cellK x c e _ z⟩
  · obtain ⟨v, z⟩ := I.cell x c e
    exact ⟨v, cellK x c e v z⟩
  · obtain ⟨m, ⟨o, _, _, ho, _⟩, _⟩ := I.loc
    exact free _ o (fun z => (hch _ z).2.1 rfl) ho I.free
  · obtain ⟨v, o, ho, hd⟩ := I.cell x c e
    exact free c o (fun z => (hch c z).2.2.1 x c e rfl) ho (I.freeC x c e)
  · obtain ⟨e, n, ne, nf, d⟩ := I.pin p hp
    have nch : p.1 ∉ ch := fun z => (hch p.1 z).2.2.2 p hp rfl
    exact ⟨keep p.1 p.2 ne nf nch e n, free p.1 p.2 nch e n, ne, nf, d⟩
theorem Inv.un {t' : Nat} (I : Inv X pins σ H s) (u : Un X.fs [] H H' s.heap h') (hok : HOk X.prog X.w H' h') : Inv X pins σ H' { s with heap := h', toks := t' } := by
  obtain ⟨m, ⟨o, es, ep, ho, r⟩, _⟩ := id I.loc
  obtain ⟨sl, hL⟩ := u.any ho I.free (by simp)
  exact I.step (g' := s.gens) (d' := s.drawn) (ch := []) (fun _ z => nomatch z) (fun b o _ hb _ e n => u.keep b o e n hb (by simp)) (fun b o _ hb _ e n => u.slot b o e n hb (by simp)) (fun b o _ e n => u.free b o e n (by simp)) (fun b o _ e => u.there b o e (by simp)) u.tups u.frzs u.tbls (fun m' hm => by
    obtain ⟨o', es', ep', ho', r'⟩ := hm
    rw [ho] at ho'; cases ho'
    exact ⟨_, es', ep', hL, r'⟩) hok I.bare
theorem Inv.call {g' : Array GenState} {t' : Nat} {d' : Drawn} {ch : List Addr} (I : Inv X pins σ H s) (u : Un (frs X.stack) ch H H' s.heap h') (hok : HOk X.prog X.w H' h') (hg : AllBare g')
    (hch : ∀ b ∈ ch, (b ∈ X.ex ∨ X.s₀.heap.objs.size ≤ b) ∧ b ≠ X.env.locals ∧ (∀ x c, X.env.cells.lookup x = some c → c ≠ b) ∧ ∀ p ∈ X.pn ++ pins, p.1 ≠ b) :
    Inv X pins σ H' { s with heap := h', gens := g', drawn := d', toks := t' } := by
  obtain ⟨m, ⟨o, es, ep, ho, r⟩, _⟩ := id I.loc
  obtain ⟨sl, hL⟩ := u.any ho I.free fun z => (hch _ z).2.1 rfl
  exact I.step (ch := ch) hch (fun b o hL hb hc e n => u.keep b o e n (fun z => (List.mem_cons.mp (I.stkSub b z)).elim hL hb) hc) (fun b o _ _ hc e n => u.any e n hc) (fun b o hc e n => u.free b o e n hc) (fun b o hc e => u.there b o e hc) u.tups u.frzs u.tbls (fun m' hm => by
    obtain ⟨o', es', ep', ho', r'⟩ := hm
    rw [ho] at ho'; cases ho'
    exact ⟨_, es', ep', hL, r'⟩) hok hg
theorem Inv.turned {t' : Nat} {it : Addr} (I : Inv X pins σ H s) (k : ∀ b o, b ≠ it → s.heap.get? b = some o → h'.get? b = some o) (hn : H it = none) (hL : it ≠ X.env.locals)
    (h1 : it ∈ X.ex ∨ X.s₀.heap.objs.size ≤ it) (h2 : ∀ x c, X.env.cells.lookup x = some c → c ≠ it) (h3 : ∀ p ∈ X.pn ++ pins, p.1 ≠ it) : Inv X pins σ H { s with heap := h', toks := t' } := by
  have nit : ∀ b u, H b = some u → b ≠ it := fun b u e z => by rw [z, hn] at e; cases e
  refine I.step (g' := s.gens) (d' := s.drawn) (ch := [it]) (fun b hb => ?_) (fun b o _ _ hc e _ => k b o (fun z => hc (by simp [z])) e) (fun b o _ _ hc e _ => ⟨o.slots, k b o (fun z => hc (by simp [z])) e⟩) (fun _ _ _ _ n => n)
    (fun b o hc e => ⟨o, k b o (fun z => hc (by simp [z])) e⟩) (fun _ _ e => e) (fun _ _ _ e => e) (fun b ps e => ⟨#[], by rw [e]; simp⟩) (fun m hm => ?_) (fun b u e => ?_) I.bare
  · have e : b = it := by simpa using hb
    subst e
    exact ⟨h1, hL, h2, h3⟩
  · obtain ⟨o, es, ep, ho, r⟩ := hm
    exact ⟨o, es, ep, k _ o (Ne.symm hL) ho, r⟩
  · refine (I.hok b u e).stay (fun c v hc q => k c v ?_ q) (fun _ q => q) fun _ _ q => q
    rcases hc with z | z
    · rw [z]; exact nit b u e
    · exact nit c _ z
theorem Inv.tok (I : Inv X pins σ H s) (t : Nat) : Inv X pins σ H { s with toks := t } := I.un (h' := s.heap) (t' := t) Un.refl I.hok
theorem Inv.kept {t' : Nat} (I : Inv X pins σ H s) (k : ∀ b u, s.heap.get? b = some u → h'.get? b = some u) : Inv X pins σ H { s with heap := h', toks := t' } := I.un (Un.kept k) (I.hok.kept k)
theorem Inv.laid {a : Addr} {o : HO} {t' : Nat} (I : Inv X pins σ H s) (k : ∀ b u, s.heap.get? b = some u → h'.get? b = some u) (hp : s.heap.objs.size ≤ a) (new : ObjOk X.prog X.w (upd H a o) h' a o) :
    Inv X pins σ (upd H a o) { s with heap := h', toks := t' } := I.un (Un.laid k hp (I.hok.fresh hp)) (I.hok.laid k hp new)
theorem Inv.write {x e : Addr} {o : HO} {t' : Nat} (I : Inv X pins σ H s) (mu : Mut (H x)) (he : e = x ∨ H e = some (.own x)) (k : ∀ b u, b ≠ e → s.heap.get? b = some u → h'.get? b = some u) (heo : ∃ u, h'.get? e = some u)
    (new : ObjOk X.prog X.w (upd H x o) h' x o) : Inv X pins σ (upd H x o) { s with heap := h', toks := t' } := I.un (Un.write mu he k heo) (I.hok.write mu he k heo new)
theorem Inv.pins_of {pins' : List (Addr × Obj)} (I : Inv X pins σ H s) (h : ∀ p ∈ pins', s.heap.get? p.1 = some p.2 ∧ H p.1 = none ∧ p.1 ≠ X.env.locals ∧ p.1 ∉ X.fs ∧ ∀ v, p.2.data ≠ .cell v) : Inv X pins' σ H s :=
  ⟨I.ok, I.os, I.bare, I.base, I.loc, I.cell, I.free, I.freeC, fun p hp => (List.mem_append.mp hp).elim (fun z => I.pin p (List.mem_append_left _ z)) (h p), I.hok, I.len⟩
theorem nodup_ix {N : List Str} (hN : N.Nodup) {i j : Nat} {x : Str} (a : N[i]? = some x) (b : N[j]? = some x) : i = j := by
  obtain ⟨h1, e1⟩ := List.getElem?_eq_some_iff.mp a
  obtain ⟨h2, e2⟩ := List.getElem?_eq_some_iff.mp b
  exact (List.getElem_inj hN).mp (e1.trans e2.symm)
theorem store_ok2 {M : Model} {A : Around} {E : Value → Shared → Prop} {i : Nat} {x : Str} {v : V} {u : Value} {Q : Unit → Shared → Prop} (I : Inv X pins σ H s) (hN : X.N.Nodup) (hi : X.N[i]? = some x) (hx : Loc X.env.scope x) (r : RelV v u)
    (h : ∀ s', Inv X pins (σ.set i (some v)) H s' → (∃ a, Heap.SameBut a s.heap s'.heap ∧ (a = X.env.locals ∨ X.env.cells.lookup x = some a)) → Q () s') (hf : X.fn x = true ∨ X.env.scope.names.lookup x = some .local := by first | exact .inl rfl | exact .inr rfl | assumption) : wpAny M A (storeName X.env x u) Q E s := by
  obtain ⟨m, hn, hl⟩ := id I.loc
  have hcls : (X.env.scope.kind == .class || (X.env.scope.kind == .module && X.env.locals != X.env.globals)) = false := by rw [I.ok.kind]; rfl
  have hiσ : i < σ.length := by rw [I.len]; exact (List.getElem?_eq_some_iff.mp hi).1
  have cne := I.cne
  have tracked : ∀ {a : Addr} {h' : Heap}, (∃ o, s.heap.get? a = some o ∧ H a = none) → Heap.SameBut a s.heap h' → HOk X.prog X.w H h' := fun {a h'} ha hs b ob e => by
    obtain ⟨_, _, hfree⟩ := ha
    refine (I.hok b ob e).stay (fun c w' hc q => (hs.2 c ?_).trans q) (fun _ q => q) fun _ _ q => q
    rintro rfl
    rcases hc with rfl | hc
    · rw [hfree] at e; cases e
    · rw [hfree] at hc; cases hc
  rcases hx with hk | hk
  · refine wpAny_storeName_local hk hn (fun h' hn' hs => ?_) hcls
    obtain ⟨oL, _, _, hoL, _⟩ := id hn
    refine h _ ⟨I.ok, I.os, I.bare, ⟨fun b o e n hb hx => ?_, fun b o e n hb hx => ?_, I.base.free, fun b o e hx => ?_, I.base.tups, I.base.frzs, I.base.tbls⟩, ⟨_, hn', fun j y v' e1 e2 e3 => ?_⟩, fun y c e => ?_, I.free, I.freeC, fun p hp => ?_, tracked ⟨oL, hoL, I.free⟩ hs, by simpa using I.len⟩ ⟨_, hs, .inl rfl⟩
    · exact (hs.2 b (Nat.ne_of_lt (Nat.lt_of_lt_of_le (Heap.lt_size e) I.ok.above))).trans (I.base.keep b o e n hb hx)
    · obtain ⟨sl, e1⟩ := I.base.slot b o e n hb hx
      exact ⟨sl, (hs.2 b (Nat.ne_of_lt (Nat.lt_of_lt_of_le (Heap.lt_size e) I.ok.above))).trans e1⟩
    · obtain ⟨o', e1⟩ := I.base.there b o e hx
      exact ⟨o', (hs.2 b (Nat.ne_of_lt (Nat.lt_of_lt_of_le (Heap.lt_size e) I.ok.above))).trans e1⟩
    · by_cases hj : j = i
      · subst hj
        rw [hi] at e1; cases e1
        rw [List.getElem?_set_self hiσ] at e2
        cases e2
        exact ⟨u, r, .inl ⟨hk, by simp⟩⟩
      · rw [List.getElem?_set_ne (Ne.symm hj)] at e2
        obtain ⟨u', r', q⟩ := hl j y v' e1 e2 e3
        refine ⟨u', r', ?_⟩
        rcases q with ⟨k, e⟩ | ⟨k, c, e, z⟩
        · refine .inl ⟨k, ?_⟩
          have : y ≠ x := fun e => hj (nodup_ix hN e1 (e ▸ hi))
          simp [this, e]
        · exact .inr ⟨k, c, e, z.sameBut hs (cne y c e)⟩
    · obtain ⟨w', z⟩ := I.cell y c e
      exact ⟨w', z.sameBut hs (cne y c e)⟩
    · obtain ⟨e, n, ne, nf, d⟩ := I.pin p hp
      exact ⟨(hs.2 p.1 ne).trans e, n, ne, nf, d⟩
  · have hfn : X.fn x = true := by
      rcases hf with z | z
      · exact z
      · rw [z] at hk; cases hk
    obtain ⟨c, hc⟩ := I.ok.has x (.inl hk)
    obtain ⟨w', z⟩ := I.cell x c hc
    refine wpAny_storeName_cell I.ok.kind hk hc z (fun h' hc' hs => ?_)
    obtain ⟨oc, hoc, hocd⟩ := id z
    refine h { s with heap := h' } ⟨I.ok, I.os, I.bare, ⟨fun b o e n hb hx => ?_, fun b o e n hb hx => ?_, I.base.free, fun b o e hx => ?_, I.base.tups, I.base.frzs, I.base.tbls⟩, ⟨m, hn.sameBut hs (Ne.symm (cne x c hc)), fun j y v' e1 e2 e3 => ?_⟩, fun y c' e => ?_, I.free, I.freeC, fun p hp => ?_, tracked ⟨oc, hoc, I.freeC x c hc⟩ hs, by simpa using I.len⟩ ⟨c, hs, .inr hc⟩
    · exact (hs.2 b (Nat.ne_of_lt (Nat.lt_of_lt_of_le (Heap.lt_size e) (I.ok.cab x c hfn hc)))).trans (I.base.keep b o e n hb hx)
    · obtain ⟨sl, e1⟩ := I.base.slot b o e n hb hx
      exact ⟨sl, (hs.2 b (Nat.ne_of_lt (Nat.lt_of_lt_of_le (Heap.lt_size e) (I.ok.cab x c hfn hc)))).trans e1⟩
    · obtain ⟨o', e1⟩ := I.base.there b o e hx
      exact ⟨o', (hs.2 b (Nat.ne_of_lt (Nat.lt_of_lt_of_le (Heap.lt_size e) (I.ok.cab x c hfn hc)))).trans e1⟩
    · by_cases hj : j = i
      · subst hj
        rw [hi] at e1; cases e1
        rw [List.getElem?_set_self hiσ] at e2
        cases e2
        exact ⟨u, r, .inr ⟨.inl hk, c, hc, hc'⟩⟩
      · rw [List.getElem?_set_ne (Ne.symm hj)] at e2
        obtain ⟨u', r', q⟩ := hl j y v' e1 e2 e3
        refine ⟨u', r', ?_⟩
        rcases q with q | ⟨k, c', e, z'⟩
        · exact .inl q
        · refine .inr ⟨k, c', e, z'.sameBut hs ?_⟩
          rintro rfl
          exact hj (nodup_ix hN e1 (I.ok.inj _ _ _ e hc ▸ hi))
    · by_cases hcc : c' = c
      · subst hcc; exact ⟨_, hc'⟩
      · obtain ⟨w2, z2⟩ := I.cell y c' e
        exact ⟨w2, z2.sameBut hs hcc⟩
    · obtain ⟨e, n, ne, nf, d⟩ := I.pin p hp
      refine ⟨(hs.2 p.1 ?_).trans e, n, ne, nf, d⟩
      intro q
      rw [q, hoc] at e
      have q' : oc = p.2 := Option.some.inj e
      exact d w' (by rw [← q']; exact hocd)
theorem store_ok {M : Model} {A : Around} {E : Value → Shared → Prop} {i : Nat} {x : Str} {v : V} {u : Value} {Q : Unit → Shared → Prop} (I : Inv X pins σ H s) (hN : X.N.Nodup) (hi : X.N[i]? = some x) (hx : Loc X.env.scope x) (r : RelV v u)
    (h : ∀ s', Inv X pins (σ.set i (some v)) H s' → Q () s') (hf : X.fn x = true ∨ X.env.scope.names.lookup x = some .local := by first | exact .inl rfl | exact .inr rfl | assumption) : wpAny M A (storeName X.env x u) Q E s :=
  store_ok2 I hN hi hx r (fun s' I' _ => h s' I') hf
theorem Inv.call' {s' : Shared} {ch : List Addr} (I : Inv X pins σ H s) (ho : s'.os = s.os) (u : Un (frs X.stack) ch H H' s.heap s'.heap) (hok : HOk X.prog X.w H' s'.heap) (hg : AllBare s'.gens)
    (hch : ∀ b ∈ ch, (b ∈ X.ex ∨ X.s₀.heap.objs.size ≤ b) ∧ b ≠ X.env.locals ∧ (∀ x c, X.env.cells.lookup x = some c → c ≠ b) ∧ ∀ p ∈ X.pn ++ pins, p.1 ≠ b) : Inv X pins σ H' s' := by
  obtain ⟨h', g', d', t', o'⟩ := s'
  have e : o' = s.os := ho
  subst e
  exact I.call (g' := g') (t' := t') (d' := d') u hok hg hch
end
abbrev XK := Value → Option Addr → Hp → Prop
abbrev St := List (Option V)
abbrev VK := V → Hp → Prop
abbrev TE := St → Hp → VK → Prop
abbrev TT := St → Hp → (Bool → Hp → Prop) → Prop
abbrev TA := St → Hp → (List V → Hp → Prop) → Prop
structure Ends where
  nx : St → Hp → Prop
  rt : VK
  bk : St → Hp → Prop := fun _ _ => False
  ct : St → Hp → Prop := fun _ _ => False
abbrev TS := Ends → St → Hp → Prop
def EP (X : Cx) (pins : List (Addr × Obj)) (σ : St) (Q : VK) (u : Value) (s' : Shared) : Prop := ∃ v H', Inv X pins σ H' s' ∧ RelV v u ∧ Q v H'
def TP (X : Cx) (pins : List (Addr × Obj)) (σ : St) (Q : Bool → Hp → Prop) (b : Bool) (s' : Shared) : Prop := ∃ H', Inv X pins σ H' s' ∧ Q b H'
def AP (X : Cx) (pins : List (Addr × Obj)) (σ : St) (Q : List V → Hp → Prop) (us : List Value) (s' : Shared) : Prop := ∃ vs H', Inv X pins σ H' s' ∧ Vals vs us ∧ Q vs H'
def SP (X : Cx) (pins : List (Addr × Obj)) (D : Ends) (f : Flow) (s' : Shared) : Prop :=
  match f with
  | .next => ∃ σ' H', Inv X pins σ' H' s' ∧ D.nx σ' H'
  | .brk => ∃ σ' H', Inv X pins σ' H' s' ∧ D.bk σ' H'
  | .cont => ∃ σ' H', Inv X pins σ' H' s' ∧ D.ct σ' H'
  | .ret u => ∃ v σ' H', Inv X pins σ' H' s' ∧ RelV v u ∧ D.rt v H'
def PE (X : Cx) (e : Expr) (t : TE) : Prop :=
  ∀ (pins : List (Addr × Obj)) (s : Shared) (σ : St) (H : Hp) (Q : VK), Inv X pins σ H s → t σ H Q → wpAny (model X.prog X.w) X.A (eval e X.env) (EP X pins σ Q) X.xe s
def PT (X : Cx) (e : Expr) (t : TT) : Prop :=
  ∀ (pins : List (Addr × Obj)) (s : Shared) (σ : St) (H : Hp) (Q : Bool → Hp → Prop), Inv X pins σ H s → t σ H Q → wpAny (model X.prog X.w) X.A (isTrue e X.env (eval e X.env)) (TP X pins σ Q) X.xe s
def PW (X : Cx) (e : Expr) (t : TT) : Prop :=
  ∀ (whole : Sem Value) (pins : List (Addr × Obj)) (s : Shared) (σ : St) (H : Hp) (Q : Bool → Hp → Prop), Inv X pins σ H s → t σ H Q → wpAny (model X.prog X.w) X.A (isTrue e X.env whole) (TP X pins σ Q) X.xe s
theorem PW.pt {X : Cx} {e : Expr} {t : TT} (h : PW X e t) : PT X e t := h _
def PA (X : Cx) (es : List Expr) (t : TA) : Prop :=
  ∀ (pos : Pos) (pins : List (Addr × Obj)) (s : Shared) (σ : St) (H : Hp) (Q : List V → Hp → Prop), Inv X pins σ H s → t σ H Q → wpAny (model X.prog X.w) X.A (spliced (backTo pos (starEach es X.env))) (AP X pins σ Q) X.xe s
def PS (X : Cx) (st : Stmt) (t : TS) : Prop :=
  ∀ (pins : List (Addr × Obj)) (s : Shared) (σ : St) (H : Hp) (D : Ends), Inv X pins σ H s → t D σ H → wpAny (model X.prog X.w) X.A (exec st X.env) (SP X pins D) X.xe s
def PSs (X : Cx) (st : List Stmt) (t : TS) : Prop :=
  ∀ (pins : List (Addr × Obj)) (s : Shared) (σ : St) (H : Hp) (D : Ends), Inv X pins σ H s → t D σ H → wpAny (model X.prog X.w) X.A (execs st X.env) (SP X pins D) X.xe s
theorem thn {α : Type} {t : Sem α} {Q Q' : α → Shared → Prop} {M : Model} {A : Around} {E : Value → Shared → Prop} {s : Shared} (h : wpAny M A t Q E s) (hQ : ∀ a s, Q a s → Q' a s) : wpAny M A t Q' E s := wpAny_mono h hQ fun _ _ x => x
end L2
namespace L2
open PySem PySem.Spec PyProof.Rows
section
variable {X : Cx}
theorem bin {a b : Expr} {ta tb : TE} (ha : PE X a ta) (hb : PE X b tb) {pins : List (Addr × Obj)} {s : Shared} {σ : St} {H : Hp} {R : V → V → Hp → Prop} (I : Inv X pins σ H s) (h : ta σ H fun x H1 => tb σ H1 fun y H2 => R x y H2)
    {α : Type} {Q : α → Shared → Prop} {f : Value → Value → Sem α}
    (hf : ∀ v u s2 x y H2, Inv X pins σ H2 s2 → RelV x v → RelV y u → R x y H2 → wpAny (model X.prog X.w) X.A (f v u) Q X.xe s2) :
    wpAny (model X.prog X.w) X.A (eval a X.env) (fun v s₁ => wpAny (model X.prog X.w) X.A (eval b X.env) (fun u s₂ => wpAny (model X.prog X.w) X.A (f v u) Q X.xe s₂) X.xe s₁) X.xe s := by
  refine thn (ha pins s σ H _ I h) fun v s1 ⟨x, H1, I1, r1, q1⟩ => ?_
  refine thn (hb pins s1 σ H1 _ I1 q1) fun u s2 ⟨y, H2, I2, r2, q2⟩ => ?_
  exact hf v u s2 x y H2 I2 r1 r2 q2
def tVar (i : Nat) : TE := fun σ H Q => ∃ v, σ[i]? = some (some v) ∧ Q v H
def tC (v : V) : TE := fun _ H Q => Q v H
theorem pe_var {i : Nat} {x : Str} {pos : Pos} (hN : X.N[i]? = some x) (hv : Vis X.env.scope x) (hd : (x == ("__debug__" : Str)) = false := by decide) (hcd : (x == ("__classdict__" : Str)) = false := by decide) : PE X (.Name x pos) (tVar i) := by
  intro pins s σ H Q I h
  obtain ⟨v, e, h⟩ := h
  obtain ⟨m, hn, hl⟩ := I.loc
  obtain ⟨u, r, l⟩ := hl i x v hN e hv
  have fin : EP X pins σ Q u s := ⟨v, H, I, r, h⟩
  rcases l with ⟨hk, hm⟩ | ⟨hk, c, hc, hcell⟩
  · exact wpAny_Name (wpAny_loadName_local I.ok.kind hk hn hm fin) hd
  · rcases hk with hk | hk
    · exact wpAny_Name (wpAny_loadName_cell I.ok.kind hk hc hcell fin) hd
    · exact wpAny_Name (wpAny_loadName_free I.ok.kind hk hc hcell fin hcd) hd
theorem pe_int {i j pos} : PE X (.Constant (.int i) j pos) (tC (.int i)) := fun _ _ _ H _ I h => wpAny_Constant_int ⟨.int i, H, I.tok _, ⟨_, rfl⟩, h⟩
theorem pe_bl {b j pos} : PE X (.Constant (.bool b) j pos) (tC (.bl b)) := fun _ _ _ H _ I h => Constant_bool ⟨.bl b, H, I, rfl, h⟩
theorem pe_non {j pos} : PE X (.Constant .none j pos) (tC .non) := fun _ _ _ H _ I h => Constant_none ⟨.non, H, I, rfl, h⟩
theorem pe_str {x j pos} : PE X (.Constant (.str x) j pos) (tC (.str x)) := fun _ _ _ H _ I h => Calls.Constant_str ⟨.str x, H, I.tok _, ⟨_, rfl⟩, h⟩
def Gl (X : Cx) (x : Str) : Prop := X.env.kindOf x = some .globalImplicit
theorem ld_glob {E : Value → Shared → Prop} {pins : List (Addr × Obj)} {s : Shared} {σ : St} {H : Hp} {x : Str} {u : Value} {pos : Pos} {Q : Value → Shared → Prop} (I : Inv X pins σ H s) (hg : Gl X x) (hm : X.mg x = some u) (h : Q u s)
    (hd : (x == ("__debug__" : Str)) = false := by decide) : wpAny (model X.prog X.w) X.A (eval (.Name x pos) X.env) Q E s :=
  Calls.Name_function_global I.ok.kind hg (Calls.loadGlobal_global (by rw [I.ok.glob]; exact I.mod.glob.keeps I.bk) hm h) hd
theorem ld_blt {E : Value → Shared → Prop} {pins : List (Addr × Obj)} {s : Shared} {σ : St} {H : Hp} {x : Str} {u : Value} {pos : Pos} {Q : Value → Shared → Prop} (I : Inv X pins σ H s) (hg : Gl X x) (hm : X.mg x = none) (hv : bootBuiltins x = some u) (h : Q u s)
    (hn : x ≠ "__name__" := by decide) (hd : (x == ("__debug__" : Str)) = false := by decide) : wpAny (model X.prog X.w) X.A (eval (.Name x pos) X.env) Q E s := by
  obtain ⟨mb, h1, h2⟩ := I.mod.blt
  exact Calls.Name_function_global I.ok.kind hg (Calls.loadGlobal_builtin (by rw [I.ok.glob]; exact I.mod.glob.keeps I.bk) hm (by rw [I.ok.blt]; exact h1.keeps I.bk) ((h2 x hn).trans hv) h) hd
theorem pe_glob {x : Str} {v : V} {u : Value} {pos : Pos} (hg : Gl X x) (hm : X.mg x = some u) (r : RelV v u) (hd : (x == ("__debug__" : Str)) = false := by decide) : PE X (.Name x pos) (tC v) :=
  fun _ _ _ H _ I h => ld_glob I hg hm ⟨v, H, I, r, h⟩ hd
theorem pe_bltn {x : Str} {v : V} {u : Value} {pos : Pos} (hg : Gl X x) (hm : X.mg x = none) (hv : bootBuiltins x = some u) (r : RelV v u) (hn : x ≠ "__name__" := by decide) (hd : (x == ("__debug__" : Str)) = false := by decide) : PE X (.Name x pos) (tC v) :=
  fun _ _ _ H _ I h => ld_blt I hg hm hv ⟨v, H, I, r, h⟩ hn hd
variable {a b : Expr} {ta tb : TE} {pos : Pos}
def PC (X : Cx) (op : CmpOp) (a b : Expr) (t : TE) : Prop :=
  ∀ (pins : List (Addr × Obj)) (s : Shared) (σ : St) (H : Hp) (Q : VK), Inv X pins σ H s → t σ H Q →
    wpAny (model X.prog X.w) X.A (eval a X.env) (fun v s₁ => wpAny (model X.prog X.w) X.A (eval b X.env) (fun u s₂ => wpAny (model X.prog X.w) X.A (compareOp op v u) (EP X pins σ Q) X.xe s₂) X.xe s₁) X.xe s
def tB (t : TE) : TT := fun σ H Q => t σ H fun x H1 => ∃ c, x = .bl c ∧ Q c H1
theorem pt_cmp {op : CmpOp} {t : TE} (h : PC X op a b t) (h1 : behindInMarks op b = false := by first | exact nobehind _ (by decide) (by decide) | rfl) : PT X (.Compare a [op] [b] pos) (tB t) := by
  intro pins s σ H Q I hw
  refine wpAny_isTrue_Compare1 (thn (h pins s σ H _ I hw) fun v s1 h1 => thn h1 fun u s2 h2 => thn h2 fun c s3 ⟨x, H1, I1, r1, q1⟩ => ?_) h1
  obtain ⟨d, rfl, q⟩ := q1
  cases r1
  exact wpAny_truthy_bool ⟨H1, I1, q⟩
theorem pt_val {e : Expr} {t : TE} (h : PE X e t) (he : ∀ whole, isTrue e X.env whole = (do let v ← whole; standAt e.pos; holding [v] (truthy v)) := by intro _; rfl) : PT X e (tB t) := by
  intro pins s σ H Q I hw
  refine isTrue_plain (thn (h pins s σ H _ I hw) fun v s1 ⟨x, H1, I1, r1, q1⟩ => ?_) (he _)
  obtain ⟨d, rfl, q⟩ := q1
  cases r1
  exact wpAny_truthy_bool ⟨H1, I1, q⟩
variable {tA tB' : TT} {rest : List Expr}
def tAnd (t u : TT) : TT := fun σ H Q => t σ H fun c H1 => if c = true then u σ H1 Q else Q false H1
def tOr (t u : TT) : TT := fun σ H Q => t σ H fun c H1 => if c = true then Q true H1 else u σ H1 Q
def tNot (t : TT) : TT := fun σ H Q => t σ H fun c H1 => Q (!c) H1
theorem pw_and1 (ha : PT X a tA) : PW X (.BoolOp .And [a] pos) tA := by
  intro wh pins s σ H Q I h
  refine isTrue_and (thn (ha pins s σ H Q I h) fun c s1 e => ?_)
  cases c with
  | true => exact isTrue_and_nil e
  | false => exact e
theorem pw_or1 (ha : PT X a tA) : PW X (.BoolOp .Or [a] pos) tA := by
  intro wh pins s σ H Q I h
  refine isTrue_or (thn (ha pins s σ H Q I h) fun c s1 e => ?_)
  cases c with
  | false => exact isTrue_or_nil e
  | true => exact e
theorem pw_and (ha : PT X a tA) (hb : PW X (.BoolOp .And (b :: rest) pos) tB') : PW X (.BoolOp .And (a :: b :: rest) pos) (tAnd tA tB') := by
  intro wh pins s σ H Q I h
  refine isTrue_and (thn (ha pins s σ H _ I h) fun c s1 ⟨H1, I1, q1⟩ => ?_)
  cases c with
  | true => exact hb wh pins s1 σ H1 Q I1 q1
  | false => exact ⟨H1, I1, q1⟩
theorem pw_or (ha : PT X a tA) (hb : PW X (.BoolOp .Or (b :: rest) pos) tB') : PW X (.BoolOp .Or (a :: b :: rest) pos) (tOr tA tB') := by
  intro wh pins s σ H Q I h
  refine isTrue_or (thn (ha pins s σ H _ I h) fun c s1 ⟨H1, I1, q1⟩ => ?_)
  cases c with
  | true => exact ⟨H1, I1, q1⟩
  | false => exact hb wh pins s1 σ H1 Q I1 q1
theorem pt_not (ha : PT X a tA) : PT X (.UnaryOp .Not a pos) (tNot tA) := by
  intro pins s σ H Q I h
  exact isTrue_not (ha pins s σ H (fun c H1 => Q (!c) H1) I h)
def tAndV (ta tb : TE) : TE := fun σ H Q => ta σ H fun x H1 => ∃ c, x = .bl c ∧ if c = true then tb σ H1 Q else Q (.bl false) H1
def tNotV (ta : TE) : TE := fun σ H Q => ta σ H fun x H1 => ∃ c, x = .bl c ∧ Q (.bl (!c)) H1
theorem pe_one {op} {t : TE} (h : PE X a t) : PE X (.BoolOp op [a] pos) t := fun pins s σ H Q I hw => BoolOp_one (h pins s σ H Q I hw)
theorem pe_and (ha : PE X a ta) (hb : PE X (.BoolOp .And (b :: rest) pos) tb) : PE X (.BoolOp .And (a :: b :: rest) pos) (tAndV ta tb) := by
  intro pins s σ H Q I h
  refine BoolOp_and (thn (ha pins s σ H _ I h) fun v s1 ⟨x, H1, I1, r1, q1⟩ => ?_)
  obtain ⟨c, rfl, q1⟩ := q1
  cases r1
  refine wpAny_truthy_bool ?_
  cases c with
  | true => exact hb pins s1 σ H1 Q I1 q1
  | false => exact ⟨.bl false, H1, I1, rfl, q1⟩
theorem pe_not (ha : PE X a ta) : PE X (.UnaryOp .Not a pos) (tNotV ta) := by
  intro pins s σ H Q I h
  refine UnaryOp_ (thn (ha pins s σ H _ I h) fun v s1 ⟨x, H1, I1, r1, q1⟩ => ?_)
  obtain ⟨c, rfl, q1⟩ := q1
  cases r1
  exact not_of (wpAny_truthy_bool ⟨.bl (!c), H1, I1, rfl, q1⟩)
end
end L2
namespace L2
open PySem PySem.Spec PyProof.Rows
def SqL (K : PySem.W.Frag) (H : Hp) (a : Addr) (xs : List V) : Prop :=
  Rd H a (.lst xs) ∨
    ∃ (o : Obj) (its : Array Value) (n : Nat), K.lookup a = some o ∧ o.cls = .type "list" ∧ o.dict = none ∧ o.data = .seq its n ∧ its.size ≤ sizeLine ∧ Vals xs its.toList
def SqT (K : PySem.W.Frag) (H : Hp) (a : Addr) (xs : List V) : Prop :=
  Rd H a (.tup xs) ∨
    ∃ (o : Obj) (its : Array Value) (n : Nat), K.lookup a = some o ∧ o.cls = .type "tuple" ∧ o.data = .seq its n ∧ its.size ≤ sizeLine ∧ Vals xs its.toList
def absV : Value → Option V
  | .none => some .non
  | .bool b => some (.bl b)
  | .int i _ => some (.int i)
  | .str x _ => some (.str x)
  | .bytes b _ => some (.byt b)
  | .float b _ => some (.flt b)
  | .ref a => some (.ref a)
  | .type n => some (.ty n)
  | _ => none
theorem RelV.abs {x : V} {u : Value} (r : RelV x u) : absV u = some x := by
  cases x with
  | non => cases r; rfl
  | bl _ => cases r; rfl
  | int _ => obtain ⟨t, rfl⟩ := r; rfl
  | str _ => obtain ⟨t, rfl⟩ := r; rfl
  | byt _ => obtain ⟨t, rfl⟩ := r; rfl
  | flt _ => obtain ⟨t, rfl⟩ := r; rfl
  | ref _ => cases r; rfl
  | ty _ => cases r; rfl
theorem RelV.inj {x y : V} {u : Value} (r : RelV x u) (q : RelV y u) : x = y := Option.some.inj (r.abs.symm.trans q.abs)
theorem Vals.inj : ∀ {xs ys : List V} {us : List Value}, Vals xs us → Vals ys us → xs = ys
  | _, _, _, .nil, .nil => rfl
  | _, _, _, .cons r t, .cons r' t' => by rw [r.inj r', Vals.inj t t']
section
variable {X : Cx} {pins : List (Addr × Obj)} {σ : St} {H : Hp} {s : Shared} {a : Addr} {xs ys : List V}
theorem SqL.of {K : PySem.W.Frag} (h : H a = some (.lst xs)) : SqL K H a xs := .inl (.inl h)
theorem SqT.of {K : PySem.W.Frag} (h : H a = some (.tup xs)) : SqT K H a xs := .inl (.inl h)
theorem Inv.list (I : Inv X pins σ H s) (h : SqL X.K H a xs) : ∃ its : List Value, Vals xs its ∧ PlainL s.heap a its.toArray ∧ xs.length ≤ sizeLine := by
  rcases h with h | ⟨o, its, n, hk, hc, hd, hs, hz, r⟩
  · obtain ⟨z, its, n, r, e⟩ := h.ok I.hok
    exact ⟨its, r, ⟨_, n, e, rfl, rfl, rfl⟩, z⟩
  · refine ⟨its.toList, r, ⟨o, n, I.kIn a o hk, hc, hd, by simpa using hs⟩, ?_⟩
    have e := r.length
    simp only [Array.length_toList] at e
    omega
theorem Inv.tuple (I : Inv X pins σ H s) (h : SqT X.K H a xs) : ∃ its : List Value, Vals xs its ∧ IsTup s.heap a its.toArray ∧ xs.length ≤ sizeLine := by
  rcases h with h | ⟨o, its, n, hk, hc, hs, hz, r⟩
  · obtain ⟨z, its, r, p⟩ := h.ok I.hok
    exact ⟨its, r, p, z⟩
  · refine ⟨its.toList, r, ⟨o, I.kIn a o hk, hc, n, by simpa using hs⟩, ?_⟩
    have e := r.length
    simp only [Array.length_toList] at e
    omega
theorem Inv.list_inj (I : Inv X pins σ H s) (h : SqL X.K H a xs) (h' : SqL X.K H a ys) : xs = ys := by
  obtain ⟨its, r, ⟨o, n, e, _, _, d⟩, _⟩ := I.list h
  obtain ⟨its', r', ⟨o', n', e', _, _, d'⟩, _⟩ := I.list h'
  rw [e] at e'; cases e'
  rw [d] at d'
  injection d' with d1 _
  have : its = its' := by simpa using congrArg Array.toList d1
  subst this
  exact r.inj r'
theorem Inv.tuple_inj (I : Inv X pins σ H s) (h : SqT X.K H a xs) (h' : SqT X.K H a ys) : xs = ys := by
  obtain ⟨its, r, ⟨o, e, _, n, d⟩, _⟩ := I.tuple h
  obtain ⟨its', r', ⟨o', e', _, n', d'⟩, _⟩ := I.tuple h'
  rw [e] at e'; cases e'
  rw [d] at d'
  injection d' with d1 _
  have : its = its' := by simpa using congrArg Array.toList d1
  subst this
  exact r.inj r'
end
abbrev Cx.wish (X : Cx) (E : Value → Shared → Prop) : Cx := { X with xe := E }
abbrev Cx.nox (X : Cx) : Cx := X.wish fun _ _ => False
theorem Cx.Ok.wish {X : Cx} (ok : X.Ok) (E : Value → Shared → Prop) : (X.wish E).Ok :=
  ⟨ok.mod, ok.kind, ok.glob, ok.blt, ok.above, ok.inj, ok.has, ok.cab, ok.hd, ok.frames, ok.stk, ok.exf, ok.bs, ok.bsz, ok.noex, ok.exfs, ok.funs, ok.frf⟩
theorem Cx.Ok.unwish {X : Cx} {E : Value → Shared → Prop} (ok : (X.wish E).Ok) : X.Ok :=
  ⟨ok.mod, ok.kind, ok.glob, ok.blt, ok.above, ok.inj, ok.has, ok.cab, ok.hd, ok.frames, ok.stk, ok.exf, ok.bs, ok.bsz, ok.noex, ok.exfs, ok.funs, ok.frf⟩
section
variable {X : Cx} {pins : List (Addr × Obj)} {σ : St} {H : Hp} {s : Shared} {E : Value → Shared → Prop}
theorem Inv.wish (I : Inv X pins σ H s) (E : Value → Shared → Prop) : Inv (X.wish E) pins σ H s := ⟨I.ok.wish E, I.os, I.bare, I.base, I.loc, I.cell, I.free, I.freeC, I.pin, I.hok, I.len⟩
theorem Inv.unwish (I : Inv (X.wish E) pins σ H s) : Inv X pins σ H s := ⟨I.ok.unwish, I.os, I.bare, I.base, I.loc, I.cell, I.free, I.freeC, I.pin, I.hok, I.len⟩
theorem SP.unwish {D : Ends} {f : Flow} {s' : Shared} (h : SP (X.wish E) pins D f s') : SP X pins D f s' := by
  cases f with
  | next => obtain ⟨σ', H', I, q⟩ := h; exact ⟨σ', H', I.unwish, q⟩
  | brk => obtain ⟨σ', H', I, q⟩ := h; exact ⟨σ', H', I.unwish, q⟩
  | cont => obtain ⟨σ', H', I, q⟩ := h; exact ⟨σ', H', I.unwish, q⟩
  | ret u => obtain ⟨v, σ', H', I, r, q⟩ := h; exact ⟨v, σ', H', I.unwish, r, q⟩
theorem PSs.nox {st : List Stmt} {t : TS} (h : PSs X.nox st t) : PSs X st t := fun pins s σ H D I hw =>
  wpAny_mono (h pins s σ H D (I.wish _) hw) (fun _ _ q => q.unwish) fun _ _ z => False.elim z
end
section
variable {X : Cx} {st : Stmt} {rest : List Stmt} {t u : TS} {e : Expr} {te : TE} {pos : Pos}
def tNext : TS := fun D σ H => D.nx σ H
def tSeq (t u : TS) : TS := fun D σ H => t { D with nx := u D } σ H
theorem pss_nil : PSs X [] tNext := fun _ _ σ H _ I h => wpAny_execs_nil ⟨σ, H, I, h⟩
theorem pss_cons (h1 : PS X st t) (h2 : PSs X rest u) : PSs X (st :: rest) (tSeq t u) := by
  intro pins s σ H D I h
  refine wpAny_execs_cons (thn (h1 pins s σ H { D with nx := u D } I h) fun f s1 q => ?_)
  cases f with
  | next =>
    obtain ⟨σ', H', I', q⟩ := q
    exact h2 pins s1 σ' H' D I' q
  | ret v => exact q
  | brk => exact q
  | cont => exact q
theorem pss_one (h1 : PS X st t) : PSs X [st] t := by
  intro pins s σ H D I h
  refine wpAny_execs_cons (thn (h1 pins s σ H D I h) fun f s1 q => ?_)
  cases f with
  | next => exact wpAny_execs_nil q
  | ret v => exact q
  | brk => exact q
  | cont => exact q
theorem Inv.quiet {pins : List (Addr × Obj)} {σ : St} {H : Hp} {s : Shared} (I : Inv X pins σ H s) : interactive X.env = false := by simp [interactive, I.ok.kind]
def tDrop (te : TE) : TS := fun D σ H => te σ H fun _ H1 => D.nx σ H1
theorem ps_expr (he : PE X e te) (hs : swapsWith e none pos.line X.env = pure false := by rfl) : PS X (.Expr e pos) (tDrop te) := by
  intro pins s σ H D I h
  exact wpAny_Expr_any (thn (he pins s σ H _ I h) fun v s1 ⟨x, H1, I1, r1, q1⟩ => ⟨σ, H1, I1, q1⟩) I.quiet hs
def tRet (te : TE) : TS := fun D σ H => te σ H D.rt
theorem ps_ret (he : PE X e te) : PS X (.Return (some e) pos) (tRet te) := by
  intro pins s σ H D I h
  exact wpAny_Return_some (thn (he pins s σ H _ I h) fun v s1 ⟨x, H1, I1, r1, q1⟩ => ⟨x, σ, H1, I1, r1, q1⟩)
def tIfS (c : TT) (t u : TS) : TS := fun D σ H => c σ H fun b H1 => if b = true then t D σ H1 else u D σ H1
theorem ps_if {c : Expr} {a b : List Stmt} {tc : TT} (hc : PT X c tc) (ha : PSs X a t) (hb : PSs X b u) : PS X (.If c a b pos) (tIfS tc t u) := by
  intro pins s σ H D I h
  refine wpAny_If (thn (hc pins s σ H _ I h) fun d s1 ⟨H1, I1, q1⟩ => ?_)
  cases d with
  | true => exact ha pins s1 σ H1 D I1 q1
  | false => exact hb pins s1 σ H1 D I1 q1
def tNever : TS := fun _ _ _ => False
theorem pss_never {sts : List Stmt} : PSs X sts tNever := fun _ _ _ _ _ _ h => h.elim
end
abbrev TG := V → St → Hp → (St → Hp → Prop) → Prop
abbrev TGs := List V → St → Hp → (St → Hp → Prop) → Prop
def PG (X : Cx) (target : Expr) (t : TG) : Prop :=
  ∀ (pins : List (Addr × Obj)) (s : Shared) (σ : St) (H : Hp) (v : V) (u : Value) (Q : St → Hp → Prop), Inv X pins σ H s → RelV v u → t v σ H Q →
    wpAny (model X.prog X.w) X.A (assign target X.env u) (fun _ s' => ∃ σ' H', Inv X pins σ' H' s' ∧ Q σ' H') X.xe s
def PGs (X : Cx) (ts : List Expr) (t : TGs) : Prop :=
  ∀ (pins : List (Addr × Obj)) (s : Shared) (σ : St) (H : Hp) (vs : List V) (us : List Value) (Q : St → Hp → Prop), Inv X pins σ H s → Vals vs us → t vs σ H Q →
    wpAny (model X.prog X.w) X.A (assignInOrder ((assignEach ts X.env).map (·.2)) us) (fun _ s' => ∃ σ' H', Inv X pins σ' H' s' ∧ Q σ' H') X.xe s
abbrev TIp := V → V → Hp → VK → Prop
def PIp (X : Cx) (op : Operator) (t : TIp) : Prop :=
  ∀ (pins : List (Addr × Obj)) (s : Shared) (σ : St) (H : Hp) (x y : V) (v u : Value) (Q : VK), Inv X pins σ H s → RelV x v → RelV y u → t x y H Q →
    wpAny (model X.prog X.w) X.A (inplaceOp op v u) (EP X pins σ Q) X.xe s
section
variable {X : Cx} {pos : Pos}
def gName (i : Nat) : TG := fun v σ H Q => Q (σ.set i (some v)) H
theorem pg_name {i : Nat} {x : Str} (hN : X.N.Nodup) (hi : X.N[i]? = some x) (hx : Loc X.env.scope x) (hf : X.fn x = true ∨ X.env.scope.names.lookup x = some .local := by first | exact .inl rfl | exact .inr rfl | assumption) : PG X (.Name x pos) (gName i) := by
  intro pins s σ H v u Q I r h
  exact wpAny_assign_Name (store_ok I hN hi hx r (fun s' I' => ⟨_, H, I', h⟩) hf)
def gNil : TGs := fun vs σ H Q => vs = [] ∧ Q σ H
def gCons (t : TG) (u : TGs) : TGs := fun vs σ H Q => ∃ v r, vs = v :: r ∧ t v σ H fun σ' H' => u r σ' H' Q
theorem pgs_nil : PGs X [] gNil := by
  intro pins s σ H vs us Q I r h
  obtain ⟨e, h⟩ := h
  subst e
  cases r
  exact assignInOrder_nil ⟨σ, H, I, h⟩
theorem pgs_cons {e : Expr} {es : List Expr} {t : TG} {u : TGs} (h1 : PG X e t) (h2 : PGs X es u)
    (hs : (assignEach (e :: es) X.env).map (·.2) = assign e X.env :: (assignEach es X.env).map (·.2) := by rfl) : PGs X (e :: es) (gCons t u) := by
  intro pins s σ H vs us Q I r h
  obtain ⟨v, vr, e1, h⟩ := h
  subst e1
  cases r with
  | cons r rr =>
    rw [hs]
    refine assignInOrder_cons (thn (h1 pins s σ H _ _ _ I r h) fun _ s1 ⟨σ1, H1, I1, q1⟩ => ?_)
    exact h2 pins s1 σ1 H1 _ _ Q I1 rr q1
def gTup (K : PySem.W.Frag) (n : Nat) (t : TGs) : TG := fun v σ H Q => ∃ a xs, v = .ref a ∧ SqT K H a xs ∧ xs.length = n ∧ t xs σ H Q
theorem pg_tup {es : List Expr} {k : Nat} {t : TGs} {n : Nat} (hc : X.calm = true) (h : PGs X es t)
    (hn : (assignEach es X.env).length = n := by rfl) (hst : (assignEach es X.env).findIdx? (·.1) = none := by rfl) : PG X (.Tuple es k pos) (gTup X.K n t) := by
  intro pins s σ H v u Q I r hw
  obtain ⟨a, xs, e1, hq, hl, hw⟩ := hw
  subst e1
  cases r
  obtain ⟨its, rv, ht, hz⟩ := I.tuple hq
  refine assign_Tuple_tuple (I.ok.hd hc) ht (by simp [hn, ← hl, rv.length]) hst fun h' hx => ?_
  have I1 : Inv X pins σ H { s with heap := h' } := I.kept (t' := s.toks) fun b o e => hx b o (Nat.ne_of_lt (Heap.lt_size e)) e
  exact h pins _ σ H xs _ Q I1 (by simpa using rv) hw
def tAsg (te : TE) (g : TG) : TS := fun D σ H => te σ H fun x H1 => g x σ H1 D.nx
theorem ps_set {i : Nat} {x : Str} {e : Expr} {te : TE} {pos' : Pos} (hN : X.N.Nodup) (hi : X.N[i]? = some x) (hx : Loc X.env.scope x) (he : PE X e te) (hs : swapsWith e (some (.Name x pos')) pos.line X.env = pure false := by rfl) (hf : X.fn x = true ∨ X.env.scope.names.lookup x = some .local := by first | exact .inl rfl | exact .inr rfl | assumption) :
    PS X (.Assign [.Name x pos'] e pos) (tAsg te (gName i)) := by
  intro pins s σ H D I h
  refine wpAny_Assign_Name (thn (he pins s σ H _ I h) fun v s1 ⟨y, H1, I1, r1, q1⟩ => ?_) hs
  exact store_ok I1 hN hi hx r1 (fun s2 I2 => ⟨_, H1, I2, q1⟩) hf
def tAug (i : Nat) (te : TE) (ti : TIp) : TS := fun D σ H => ∃ x, σ[i]? = some (some x) ∧ te σ H fun y H1 => ti x y H1 fun z H2 => D.nx (σ.set i (some z)) H2
theorem ps_aug {i : Nat} {x : Str} {e : Expr} {te : TE} {op : Operator} {ti : TIp} {pos' : Pos} (hN : X.N.Nodup) (hi : X.N[i]? = some x) (hx : Loc X.env.scope x) (he : PE X e te) (ho : PIp X op ti) (hf : X.fn x = true ∨ X.env.scope.names.lookup x = some .local := by first | exact .inl rfl | exact .inr rfl | assumption) :
    PS X (.AugAssign (.Name x pos') op e pos) (tAug i te ti) := by
  intro pins s σ H D I h
  obtain ⟨v, e1, h⟩ := h
  obtain ⟨m, hn, hl⟩ := I.loc
  have vis : Vis X.env.scope x := by rcases hx with k | k; exact .inl k; exact .inr (.inl k)
  obtain ⟨u, r, l⟩ := hl i x v hi e1 vis
  refine wpAny_AugAssign_Name ?_
  have go : wpAny (model X.prog X.w) X.A (eval e X.env) (fun w s₂ => wpAny (model X.prog X.w) X.A (inplaceOp op u w) (fun r s₃ => wpAny (model X.prog X.w) X.A (storeName X.env x r) (fun _ => SP X pins D .next) X.xe s₃) X.xe s₂) X.xe s := by
    refine thn (he pins s σ H _ I h) fun w s1 ⟨y, H1, I1, r1, q1⟩ => ?_
    refine thn (ho pins s1 σ H1 v y u w _ I1 r r1 q1) fun z s2 ⟨zv, H2, I2, r2, q2⟩ => ?_
    exact store_ok I2 hN hi hx r2 (fun s3 I3 => ⟨_, H2, I3, q2⟩) hf
  rcases l with ⟨hk, hm⟩ | ⟨hk, c, hc, hcell⟩
  · exact wpAny_loadName_local I.ok.kind hk hn hm go
  · rcases hk with hk | hk
    · exact wpAny_loadName_cell I.ok.kind hk hc hcell go
    · rcases hx with k | k
      · have : X.env.scope.names.lookup x = some .free := hk
        rw [k] at this; cases this
      · have : X.env.scope.names.lookup x = some .free := hk
        rw [k] at this; cases this
def ipI (f : Int → Int → Int) : TIp := fun x y H Q => ∃ i j, x = .int i ∧ y = .int j ∧ Q (.int (f i j)) H
theorem ip_add : PIp X .Add (ipI fun i j => i + j) := by
  intro pins s σ H x y v u Q I r1 r2 h
  obtain ⟨i, j, e1, e2, q⟩ := h
  subst e1; subst e2
  obtain ⟨t, rfl⟩ := r1
  obtain ⟨t', rfl⟩ := r2
  exact iadd_int ⟨.int _, H, I.tok _, ⟨_, rfl⟩, q⟩
end
section
variable {X : Cx} {pos : Pos}
def tWhile (c : TT) (tb : TS) : TS := fun D σ H => ∃ W : Nat → St → Hp → Prop, (∃ m, W m σ H) ∧ ∀ m σ H, W m σ H →
  c σ H fun b H1 => if b = true then ∃ N : St → Hp → Prop, (∀ σ' H', N σ' H' → ∃ m', m' < m ∧ W m' σ' H') ∧ tb { D with nx := N, ct := N, bk := D.nx } σ H1 else D.nx σ H1
theorem ps_while {c : Expr} {body : List Stmt} {tc : TT} {tb : TS} (hp : PassesOwn (model X.prog X.w) X.A X.env X.xe) (hc : PT X c tc) (hb : PSs X body tb) : PS X (.While c body [] pos) (tWhile tc tb) := by
  intro pins s σ H D I h
  obtain ⟨W, ⟨m0, w0⟩, turn⟩ := h
  refine wpAny_While (codeAny_whileLoop (fun n s' => ∃ σ' H', Inv X pins σ' H' s' ∧ W n σ' H') ?_ m0 ⟨σ, H, I, w0⟩)
  rintro n s1 ⟨σ1, H1, I1, w1⟩
  refine wpAny_passesOwn hp (thn (hc pins s1 σ1 H1 _ I1 (turn n σ1 H1 w1)) fun b s2 ⟨H2, I2, q2⟩ => ?_)
  cases b with
  | true =>
    obtain ⟨N, hN, q2⟩ := q2
    rw [if_pos rfl]
    refine wpAny_passesOwn hp (thn (hb pins s2 σ1 H2 _ I2 q2) fun f s3 q3 => ?_)
    cases f with
    | next =>
      obtain ⟨σ3, H3, I3, n3⟩ := q3
      obtain ⟨m', hm, w3⟩ := hN σ3 H3 n3
      exact ⟨m', hm, σ3, H3, I3, w3⟩
    | cont =>
      obtain ⟨σ3, H3, I3, n3⟩ := q3
      obtain ⟨m', hm, w3⟩ := hN σ3 H3 n3
      exact ⟨m', hm, σ3, H3, I3, w3⟩
    | brk => exact q3
    | ret v => exact q3
  | false =>
    rw [if_neg Bool.false_ne_true]
    exact wpAny_execs_nil ⟨σ1, H2, I2, q2⟩
end
structure It where
  go : Nat → Hp → Prop
  yld : Nat → Hp → V → Hp → Prop
  stop : Nat → Hp → Prop
def FpOk (X : Cx) (pins : List (Addr × Obj)) (H : Hp) (b : Addr) : Prop :=
  H b = none ∧ b ≠ X.env.locals ∧ b ∉ X.fs ∧ (b ∈ X.ex ∨ X.s₀.heap.objs.size ≤ b) ∧ (∀ x c, X.env.cells.lookup x = some c → c ≠ b) ∧ ∀ p ∈ X.pn ++ pins, p.1 ≠ b
theorem Inv.fpOk {X : Cx} {pins : List (Addr × Obj)} {σ : St} {H H' : Hp} {s : Shared} {b : Addr} (I : Inv X pins σ H s) (hb : s.heap.objs.size ≤ b) (hn : H' b = none) : FpOk X pins H' b := by
  refine ⟨hn, Nat.ne_of_gt (Nat.lt_of_lt_of_le I.lt hb), I.nofs hb, .inr (Nat.le_trans I.sz hb), fun x c e z => ?_, fun p hp z => ?_⟩
  · obtain ⟨v, q⟩ := I.cell x c e
    exact absurd (Nat.lt_of_lt_of_le q.lt (by rw [z]; exact hb)) (Nat.lt_irrefl _)
  · exact absurd (Nat.lt_of_lt_of_le (Heap.lt_size (I.pin p hp).1) (by rw [z]; exact hb)) (Nat.lt_irrefl _)
structure Turn (P : Program) (w : World) (K : PySem.W.Frag) (tg : Expr) (J : It) (fp : List Addr) (it : Addr) (tn : Nat → Heap → Prop) : Prop where
  mem : it ∈ fp
  obj : ∀ i h, tn i h → ∀ b ∈ fp, ∃ o, h.get? b = some o ∧ ∀ v, o.data ≠ .cell v
  keep : ∀ i h h', tn i h → (∀ b ∈ fp, ∀ o, h.get? b = some o → h'.get? b = some o) → tn i h'
  item : ∀ (X : Cx), X.prog = P → X.w = w → X.K = K → X.calm = true → ∀ (i : Nat) (pins : List (Addr × Obj)) (s : Shared) (σ : St) (H : Hp) (E : Value → Shared → Prop), Inv X pins σ H s → (∀ b ∈ fp, FpOk X pins H b) → tn i s.heap → J.go i H →
    wpAny (model P w) X.A (pyNext (.ref it)) (fun r s1 => ∃ u, r = some u ∧
      wpAny (model P w) X.A (letOwnedTupleGo tg (.ref it) u) (fun _ s2 => ∃ x H', Inv X pins σ H' s2 ∧ RelV x u ∧ J.yld i H x H' ∧ tn (i + 1) s2.heap ∧ ∀ b ∈ fp, H' b = none) E s1) E s
  done : ∀ (X : Cx), X.prog = P → X.w = w → X.K = K → X.calm = true → ∀ (i : Nat) (pins : List (Addr × Obj)) (s : Shared) (σ : St) (H : Hp) (E : Value → Shared → Prop), Inv X pins σ H s → (∀ b ∈ fp, FpOk X pins H b) → tn i s.heap → J.stop i H →
    wpAny (model P w) X.A (pyNext (.ref it)) (fun r s1 => r = none ∧ Inv X pins σ H s1) E s
  self : ∀ (A : Around) (i : Nat) (s : Shared) (Q : Value → Shared → Prop) (E : Value → Shared → Prop), tn i s.heap → Q (.ref it) s → wpAny (model P w) A (pyIter (.ref it)) Q E s
abbrev TI := St → Hp → (It → Hp → Prop) → Prop
def PIE (X : Cx) (pins : List (Addr × Obj)) (σ : St) (tg : Expr) (R : It → Hp → Prop) (itv : Value) (s2 : Shared) : Prop :=
  ∃ (it : Addr) (fp : List Addr) (tn : Nat → Heap → Prop) (J : It) (H' : Hp), itv = .ref it ∧ Inv X pins σ H' s2 ∧ Turn X.prog X.w X.K tg J fp it tn ∧ tn 0 s2.heap ∧ (∀ b ∈ fp, FpOk X pins H' b) ∧ R J H'
def PI (X : Cx) (tg iter : Expr) (wi : TI) : Prop :=
  ∀ (pins : List (Addr × Obj)) (s : Shared) (σ : St) (H : Hp) (R : It → Hp → Prop), Inv X pins σ H s → wi σ H R →
    wpAny (model X.prog X.w) X.A (eval iter X.env) (fun v s1 => wpAny (model X.prog X.w) X.A (pyIter v) (PIE X pins σ tg R) X.xe s1) X.xe s
theorem go_of {M : Model} {A : Around} {E : Value → Shared → Prop} {s : Shared} {tg : Expr} {it : Addr} {u : Value} {o : Obj} {n : String} {vs : Array Value} {Q : Unit → Shared → Prop} (ho : s.heap.get? it = some o) (hc : o.cls = .type n) (hd : o.data = .fields vs)
    (hn : ["enumerate", "zip", "dict_itemiterator", "dict_reverseitemiterator", "odict_iterator", "itertools.zip_longest", "itertools.pairwise"].contains n = false) (hQ : Q () s) : wpAny M A (letOwnedTupleGo tg (.ref it) u) Q E s := by
  unfold letOwnedTupleGo
  cases tg <;> first
    | exact wpAny_pure hQ
    | (cases u <;> first
        | exact wpAny_pure hQ
        | (refine wpAny_bind (wpAny_load ho ?_)
           rw [hc, hd]
           show wpAny M A (if (["enumerate", "zip", "dict_itemiterator", "dict_reverseitemiterator", "odict_iterator", "itertools.zip_longest", "itertools.pairwise"].contains n && vs[0]? == some (rawInt _)) = true then _ else _) Q E s
           rw [if_neg (by intro h; rw [hn, Bool.false_and] at h; cases h)]
           exact wpAny_pure hQ))
def Itl (K : PySem.W.Frag) (a : Addr) : It :=
  ⟨fun i H => ∃ xs x, SqL K H a xs ∧ xs[i]? = some x, fun i H x H' => H' = H ∧ ∀ xs, SqL K H a xs → xs[i]? = some x, fun i H => ∃ xs, SqL K H a xs ∧ xs.length ≤ i⟩
def Itr (lo : Int) (n : Nat) : It := ⟨fun i _ => i < n, fun i H x H' => H' = H ∧ x = .int (lo + i), fun i _ => n ≤ i⟩
theorem turn_list {P : Program} {w : World} {K : PySem.W.Frag} {tg : Expr} (a it : Addr) : Turn P w K tg (Itl K a) [it] it (fun i h => h.IsListIter it a i) where
  mem := by simp
  obj := fun i h st b hb => by
    have e : b = it := by simpa using hb
    subst e
    obtain ⟨o, e, c, d⟩ := st
    exact ⟨o, e, fun v z => by rw [d] at z; cases z⟩
  keep := fun i h h' st k => st.at fun o e => k it (by simp) o e
  item := by
    intro X hP hw hK hc i pins s σ H E I hf st hg
    subst hP hw hK
    obtain ⟨xs, x, hq, hx⟩ := hg
    obtain ⟨its, rv, p, hz⟩ := I.list hq
    obtain ⟨u, hu, ru⟩ := rv.get hx
    obtain ⟨f0, f1, f2, f3, f4, f5⟩ := hf it (by simp)
    refine wpAny_pyNext_list_item st p.isList (x := u) (by simpa using hu) fun h' st' sb => ?_
    have I1 : Inv X pins σ H { s with heap := h' } := I.turned (t' := s.toks) (fun b o hb e => (sb.2 b hb).trans e) f0 f1 f3 f4 f5
    obtain ⟨o, e, c, d⟩ := id st'
    exact ⟨u, rfl, go_of (s := { s with heap := h' }) e c d (by decide) ⟨x, H, I1, ru, ⟨rfl, fun ys hy => by rw [I.list_inj hy hq]; exact hx⟩, st', fun b hb => (hf b hb).1⟩⟩
  done := by
    intro X hP hw hK hc i pins s σ H E I hf st hg
    subst hP hw hK
    obtain ⟨xs, hq, hx⟩ := hg
    obtain ⟨its, rv, p, hz⟩ := I.list hq
    obtain ⟨f0, f1, f2, f3, f4, f5⟩ := hf it (by simp)
    have hl := rv.length
    exact wpAny_pyNext_list_end (I.ok.hd hc) st p.isList (by simp; omega) fun h' eb => ⟨rfl, I.turned (t' := s.toks) (fun b o hb e => eb b o hb e) f0 f1 f3 f4 f5⟩
  self := fun _ _ _ _ _ st h => wpAny_pyIter_listiter st h
theorem turn_range {P : Program} {w : World} {K : PySem.W.Frag} {tg : Expr} (it : Addr) (lo : Int) (n : Nat) : Turn P w K tg (Itr lo n) [it] it (fun i h => IsRangeIter h it (lo + (i : Nat) * 1) ((n : Int) - (i : Nat)) 1) where
  mem := by simp
  obj := fun i h st b hb => by
    have e : b = it := by simpa using hb
    subst e
    exact ⟨_, st, fun v z => by
      have z' : Data.fields _ = Data.cell v := z
      cases z'⟩
  keep := fun i h h' st k => k it (by simp) _ st
  item := by
    intro X hP hw hK hc i pins s σ H E I hf st hg
    subst hP hw hK
    obtain ⟨f0, f1, f2, f3, f4, f5⟩ := hf it (by simp)
    have W := Walks.range (prog := X.prog) (w := X.w) (I.ok.hd hc) it lo 1 n
    refine W.item i s _ _ hg st fun v h' tk hv st' kk => ?_
    obtain ⟨t, rfl⟩ := hv
    have I1 : Inv X pins σ H { s with heap := h', toks := tk } := I.turned (fun b o hb e => kk b o (by simpa using hb) e) f0 f1 f3 f4 f5
    refine ⟨_, rfl, go_of (s := { s with heap := h', toks := tk }) (n := "range_iterator") st' rfl rfl (by decide) ⟨.int (lo + i), H, I1, ⟨t, ?_⟩, ⟨rfl, rfl⟩, st', fun b hb => (hf b hb).1⟩⟩
    rw [Int.mul_one]
  done := by
    intro X hP hw hK hc i pins s σ H E I hf st hg
    subst hP hw hK
    obtain ⟨f0, f1, f2, f3, f4, f5⟩ := hf it (by simp)
    exact wpAny_pyNext_range_end (I.ok.hd hc) st (by have : n ≤ i := hg; omega) fun h' eb => ⟨rfl, I.turned (t' := s.toks) (fun b o hb e => eb b o hb e) f0 f1 f3 f4 f5⟩
  self := fun _ _ _ _ _ st h => wpAny_pyIter_rangeiter st h
end L2
namespace L2
open PySem PySem.Spec PyProof.Rows
section
variable {X : Cx} {tg : Expr}
def iList (K : PySem.W.Frag) (tl : TE) : TI := fun σ H R => tl σ H fun x H1 => ∃ a, x = .ref a ∧ (∃ xs, SqL K H1 a xs) ∧ R (Itl K a) H1
theorem pi_list {l : Expr} {tl : TE} (hl : PE X l tl) : PI X tg l (iList X.K tl) := by
  intro pins s σ H R I h
  refine thn (hl pins s σ H _ I h) fun v s1 ⟨x, H1, I1, r1, q1⟩ => ?_
  obtain ⟨a, e, ⟨xs, hq⟩, q⟩ := q1
  subst e
  cases r1
  obtain ⟨its, rv, p, hz⟩ := I1.list hq
  refine wpAny_pyIter_list p.isList ?_
  refine ⟨s1.heap.objs.size, [s1.heap.objs.size], _, _, H1, rfl, I1.kept (t' := s1.toks) fun b o e => Heap.get?_push_of_some _ e, turn_list a _, ⟨_, Heap.get?_push_size _ rfl, rfl, rfl⟩, fun b hb => ?_, q⟩
  have e : b = s1.heap.objs.size := by simpa using hb
  subst e
  exact I1.fpOk (Nat.le_refl _) (I1.hok.fresh (Nat.le_refl _))
theorem range_it {pins : List (Addr × Obj)} {σ : St} {H : Hp} {s : Shared} {R : It → Hp → Prop} {E : Value → Shared → Prop} {lo hi : Int} {t u v : Tok} {tk : Nat} (I : Inv X pins σ H s) (h1 : -(2 ^ 62) ≤ lo) (h2 : lo < 2 ^ 62) (h3 : -(2 ^ 62) ≤ hi) (h4 : hi < 2 ^ 62)
    (q : R (Itr lo (hi - lo).toNat) H) : wpAny (model X.prog X.w) X.A (pyIter (.ref s.heap.objs.size)) (PIE X pins σ tg R) E { s with heap := s.heap.push { cls := .type "range", data := .fields #[.int lo t, .int hi u, .int 1 v] }, toks := tk } := by
  refine wpAny_pyIter_range (IsRange.new ..) (small_one h1 h2 h3 h4) ?_
  have I1 : Inv X pins σ H { s with heap := s.heap.push { cls := .type "range", data := .fields #[.int lo t, .int hi u, .int 1 v] }, toks := tk } := I.kept fun b o e => Heap.get?_push_of_some _ e
  refine ⟨(s.heap.push { cls := .type "range", data := .fields #[.int lo t, .int hi u, .int 1 v] }).objs.size, [(s.heap.push { cls := .type "range", data := .fields #[.int lo t, .int hi u, .int 1 v] }).objs.size], _, _, H, rfl,
    I1.kept (t' := tk) fun b o e => Heap.get?_push_of_some _ e, turn_range _ lo (hi - lo).toNat, ?_, fun b hb => ?_, q⟩
  · have e1 : lo + ((0 : Nat) : Int) * 1 = lo := by simp
    have e2 : (((hi - lo).toNat : Nat) : Int) - ((0 : Nat) : Int) = Builtin.Range.rangeSize lo hi 1 := by rw [rangeSize_one]; split <;> omega
    show IsRangeIter _ _ (lo + ((0 : Nat) : Int) * 1) ((((hi - lo).toNat : Nat) : Int) - ((0 : Nat) : Int)) 1
    rw [e1, e2]
    exact Heap.get?_push_size _ rfl
  · have e : b = (s.heap.push { cls := .type "range", data := .fields #[.int lo t, .int hi u, .int 1 v] }).objs.size := by simpa using hb
    subst e
    exact I1.fpOk (Nat.le_refl _) (I1.hok.fresh (Nat.le_refl _))
def iRng1 (ta : TA) : TI := fun σ H R => ta σ H fun vs H1 => ∃ j : Int, vs = [.int j] ∧ -(2 ^ 62) ≤ j ∧ j < 2 ^ 62 ∧ R (Itr 0 j.toNat) H1
theorem pi_range1 {a : Expr} {ta : TA} {p pos : Pos} (hg : Gl X "range") (hm : X.mg "range" = none) (ha : PA X [a] ta) (hs : starEach [a] X.env = [(false, eval a X.env)] := by rfl) : PI X tg (.Call (.Name "range" p) [a] [] pos) (iRng1 ta) := by
  intro pins s σ H R I h
  refine Call_ (ld_blt I hg hm boot_range (PyProof.Rows.callWith_type1 (thn (ha pos pins s σ H _ I h) fun us s1 ⟨vs, H1, I1, r1, q1⟩ => ?_) hs rfl))
  obtain ⟨j, e, q1, q2, q⟩ := q1
  subst e
  cases r1 with
  | cons r rr =>
    cases rr
    obtain ⟨t, rfl⟩ := r
    exact call_range_1 (range_it I1 (by omega) (by omega) q1 q2 (by simpa using q))
def tFor (wi : TI) (g : TG) (tb : TS) : TS := fun D σ H => wi σ H fun J H1 => ∃ W : Nat → Nat → St → Hp → Prop, (∃ m, W 0 m σ H1) ∧ ∀ i m σ H, W i m σ H →
  (J.stop i H ∧ D.nx σ H) ∨ (J.go i H ∧ ∃ N : St → Hp → Prop, (∀ σ' H', N σ' H' → ∃ m', m' < m ∧ W (i + 1) m' σ' H') ∧ ∀ x H', J.yld i H x H' → g x σ H' fun σ2 H2 => tb { D with nx := N, ct := N, bk := D.nx } σ2 H2)
def pinsAt (fp : List Addr) (h : Heap) : List (Addr × Obj) := fp.filterMap fun b => (h.get? b).map fun o => (b, o)
theorem mem_pinsAt {fp : List Addr} {h : Heap} {b : Addr} {o : Obj} (hb : b ∈ fp) (e : h.get? b = some o) : (b, o) ∈ pinsAt fp h := List.mem_filterMap.mpr ⟨b, hb, by rw [e]; rfl⟩
theorem of_pinsAt {fp : List Addr} {h : Heap} {p : Addr × Obj} (hp : p ∈ pinsAt fp h) : p.1 ∈ fp ∧ h.get? p.1 = some p.2 := by
  obtain ⟨b, hb, e⟩ := List.mem_filterMap.mp hp
  cases q : h.get? b with
  | none => rw [q] at e; cases e
  | some o =>
    rw [q] at e
    have e' : (b, o) = p := Option.some.inj e
    subst e'
    exact ⟨hb, q⟩
theorem Inv.pinned {pins : List (Addr × Obj)} {σ : St} {H : Hp} {s : Shared} {fp : List Addr} (I : Inv X pins σ H s) (hf : ∀ b ∈ fp, FpOk X pins H b) (ho : ∀ b ∈ fp, ∃ o, s.heap.get? b = some o ∧ ∀ v, o.data ≠ .cell v) : Inv X (pins ++ pinsAt fp s.heap) σ H s :=
  I.pins_of fun p hp => (List.mem_append.mp hp).elim (fun z => I.pin p (List.mem_append_right _ z)) fun z => by
    obtain ⟨hb, e⟩ := of_pinsAt z
    obtain ⟨f0, f1, f2, _⟩ := hf p.1 hb
    obtain ⟨o, e', d⟩ := ho p.1 hb
    rw [e] at e'; cases e'
    exact ⟨e, f0, f1, f2, d⟩
theorem Inv.unpinned {pins pl : List (Addr × Obj)} {σ : St} {H : Hp} {s : Shared} (I : Inv X (pins ++ pl) σ H s) : Inv X pins σ H s := I.pins_of fun p hp => I.pin p (List.mem_append_right _ (List.mem_append_left _ hp))
theorem ps_for {iter : Expr} {body : List Stmt} {wi : TI} {g : TG} {tb : TS} {pos : Pos} (hp : PassesOwn (model X.prog X.w) X.A X.env X.xe) (hc : X.calm = true) (hi : PI X tg iter wi) (hg : PG X tg g) (hb : PSs X body tb)
    (hs : ∀ x, foldedSetIterable iter X.env x = pure x := by intro _; rfl) : PS X (.For tg iter body [] pos) (tFor wi g tb) := by
  intro pins s σ H D I h
  refine wpAny_For (thn (hi pins s σ H _ I h) fun v s1 h1 => thn h1 fun itv s2 h2 => ?_) hs
  obtain ⟨it, fp, tn, J, H2, e, I2, T, st2, f2, W, ⟨m0, w0⟩, turn⟩ := h2
  subst e
  have stat : ∀ {H' : Hp}, (∀ b ∈ fp, H' b = none) → ∀ b ∈ fp, FpOk X pins H' b := fun hn b hb => ⟨hn b hb, (f2 b hb).2⟩
  refine codeAny_forLoop_any (fun n s' => ∃ i σ' H', Inv X pins σ' H' s' ∧ tn i s'.heap ∧ (∀ b ∈ fp, H' b = none) ∧ W i n σ' H') ?_ m0 ⟨0, σ, H2, I2, st2, fun b hb => (f2 b hb).1, w0⟩
  rintro n s3 ⟨i, σ3, H3, I3, st3, fr3, w3⟩
  rcases turn i n σ3 H3 w3 with ⟨stop, qn⟩ | ⟨go, N, hN, step⟩
  · refine wpAny_passesOwn hp (thn (T.done X rfl rfl rfl hc i pins s3 σ3 H3 X.xe I3 (stat fr3) st3 stop) fun r s4 ⟨hr, I4⟩ => ?_)
    subst hr
    exact wpAny_execs_nil ⟨σ3, H3, I4, qn⟩
  · refine wpAny_passesOwn hp (thn (T.item X rfl rfl rfl hc i pins s3 σ3 H3 X.xe I3 (stat fr3) st3 go) fun r s4 ⟨u, hr, h4⟩ => ?_)
    subst hr
    refine wpAny_passesOwn hp (thn h4 fun _ s5 ⟨x, H5, I5, r5, y5, st5, fr5⟩ => ?_)
    have I5' := I5.pinned (stat fr5) (T.obj _ _ st5)
    refine wpAny_passesOwn hp (thn (hg _ s5 σ3 H5 x u _ I5' r5 (step x H5 y5)) fun _ s6 ⟨σ6, H6, I6, q6⟩ => ?_)
    refine wpAny_passesOwn hp (thn (hb _ s6 σ6 H6 _ I6 q6) fun f s7 q7 => ?_)
    have again : ∀ {σ7 : St} {H7 : Hp}, Inv X (pins ++ pinsAt fp s5.heap) σ7 H7 s7 → N σ7 H7 → ∃ m, m < n ∧ ∃ i σ' H', Inv X pins σ' H' s7 ∧ tn i s7.heap ∧ (∀ b ∈ fp, H' b = none) ∧ W i m σ' H' := fun {σ7 H7} I7 n7 => by
      obtain ⟨m', hm, w7⟩ := hN σ7 H7 n7
      refine ⟨m', hm, i + 1, σ7, H7, I7.unpinned, T.keep _ _ _ st5 fun b hb o e => (I7.pin (b, o) (List.mem_append_right _ (List.mem_append_right _ (mem_pinsAt hb e)))).1, fun b hb => ?_, w7⟩
      obtain ⟨o, e, d⟩ := T.obj _ _ st5 b hb
      exact (I7.pin (b, o) (List.mem_append_right _ (List.mem_append_right _ (mem_pinsAt hb e)))).2.1
    cases f with
    | next => obtain ⟨σ7, H7, I7, n7⟩ := q7; exact again I7 n7
    | cont => obtain ⟨σ7, H7, I7, n7⟩ := q7; exact again I7 n7
    | brk => obtain ⟨σ7, H7, I7, q7⟩ := q7; exact ⟨σ7, H7, I7.unpinned, q7⟩
    | ret v => obtain ⟨x7, σ7, H7, I7, r7, q7⟩ := q7; exact ⟨x7, σ7, H7, I7.unpinned, r7, q7⟩
end
end L2
namespace L2
open PySem PySem.Spec PyProof.Rows
abbrev R2 := V → V → Hp → VK → Prop
def OpR (X : Cx) (f : Value → Value → Sem Value) (r : R2) : Prop :=
  ∀ (pins : List (Addr × Obj)) (s : Shared) (σ : St) (H : Hp) (x y : V) (v u : Value) (Q : VK), Inv X pins σ H s → RelV x v → RelV y u → r x y H Q →
    wpAny (model X.prog X.w) X.A (f v u) (EP X pins σ Q) X.xe s
def CallR (X : Cx) (f : Value) (r : List V → Hp → VK → Prop) : Prop :=
  ∀ (pins : List (Addr × Obj)) (s : Shared) (σ : St) (H : Hp) (xs : List V) (us : List Value) (Q : VK), Inv X pins σ H s → Vals xs us → r xs H Q →
    wpAny (model X.prog X.w) X.A (call f us) (EP X pins σ Q) X.xe s
def TruR (X : Cx) (r : V → Hp → (Bool → Hp → Prop) → Prop) : Prop :=
  ∀ (pins : List (Addr × Obj)) (s : Shared) (σ : St) (H : Hp) (x : V) (v : Value) (Q : Bool → Hp → Prop), Inv X pins σ H s → RelV x v → r x H Q →
    wpAny (model X.prog X.w) X.A (truthy v) (TP X pins σ Q) X.xe s
def tOp (r : R2) (ta tb : TE) : TE := fun σ H Q => ta σ H fun x H1 => tb σ H1 fun y H2 => r x y H2 Q
def rI (C : Int → Int → Prop) (g : Int → Int → V) : R2 := fun x y H Q => ∃ i j, x = .int i ∧ y = .int j ∧ C i j ∧ Q (g i j) H
def rI0 (g : Int → Int → V) : R2 := fun x y H Q => ∃ i j, x = .int i ∧ y = .int j ∧ Q (g i j) H
section
variable {X : Cx} {a b c : Expr} {ta tb tc : TE} {pos : Pos}
theorem binT (ha : PE X a ta) (hb : PE X b tb) {pins : List (Addr × Obj)} {s : Shared} {σ : St} {H : Hp} {R : V → V → Hp → Prop} (I : Inv X pins σ H s)
    (h : ta σ H fun x H1 => tb σ H1 fun y H2 => R x y H2) {Q : Value → Shared → Prop} {f : Value → Value → Sem Value}
    (hf : ∀ v u s2 x y H2, Inv X pins σ H2 s2 → RelV x v → RelV y u → R x y H2 → wpAny (model X.prog X.w) X.A (f v u) Q X.xe s2) :
    wpAny (model X.prog X.w) X.A (eval a X.env) (fun v s₁ => wpAny (model X.prog X.w) X.A (eval b X.env) (fun u s₂ => wpAny (model X.prog X.w) X.A (f v u) Q X.xe s₂) X.xe s₁) X.xe s := by
  refine thn (ha pins s σ H _ I h) fun v s1 ⟨x, H1, I1, r1, q1⟩ => ?_
  refine thn (hb pins s1 σ H1 _ I1 q1) fun u s2 ⟨y, H2, I2, r2, q2⟩ => ?_
  exact hf v u s2 x y H2 I2 r1 r2 q2
theorem pe_op {op : Operator} {r : R2} (ho : OpR X (binaryOp op) r) (ha : PE X a ta) (hb : PE X b tb) : PE X (.BinOp a op b pos) (tOp r ta tb) := by
  intro pins s σ H Q I h
  exact wpAny_BinOp (binT ha hb I h fun v u s2 x y H2 I2 rx ry q => ho pins s2 σ H2 x y v u Q I2 rx ry q)
theorem opI {f : Value → Value → Sem Value} {C : Int → Int → Prop} {g : Int → Int → Int}
    (rule : ∀ (i j : Int) (t u : Tok) (s : Shared) (Q : Value → Shared → Prop) (E : Value → Shared → Prop), C i j → Q (.int (g i j) s.toks) { s with toks := s.toks + 1 } → wpAny (model X.prog X.w) X.A (f (.int i t) (.int j u)) Q E s) :
    OpR X f (rI C fun i j => .int (g i j)) := by
  intro pins s σ H x y v u Q I rx ry h
  obtain ⟨i, j, rfl, rfl, hc, q⟩ := h
  obtain ⟨t, rfl⟩ := rx
  obtain ⟨t', rfl⟩ := ry
  exact rule i j t t' s _ _ hc ⟨.int (g i j), H, I.tok _, ⟨_, rfl⟩, q⟩
theorem opI0 {f : Value → Value → Sem Value} {g : Int → Int → Int}
    (rule : ∀ (i j : Int) (t u : Tok) (s : Shared) (Q : Value → Shared → Prop) (E : Value → Shared → Prop), Q (.int (g i j) s.toks) { s with toks := s.toks + 1 } → wpAny (model X.prog X.w) X.A (f (.int i t) (.int j u)) Q E s) :
    OpR X f (rI0 fun i j => .int (g i j)) := by
  intro pins s σ H x y v u Q I rx ry h
  obtain ⟨i, j, rfl, rfl, q⟩ := h
  obtain ⟨t, rfl⟩ := rx
  obtain ⟨t', rfl⟩ := ry
  exact rule i j t t' s _ _ ⟨.int (g i j), H, I.tok _, ⟨_, rfl⟩, q⟩
theorem opB0 {f : Value → Value → Sem Value} {g : Int → Int → Bool}
    (rule : ∀ (i j : Int) (t u : Tok) (s : Shared) (Q : Value → Shared → Prop) (E : Value → Shared → Prop), Q (.bool (g i j)) s → wpAny (model X.prog X.w) X.A (f (.int i t) (.int j u)) Q E s) :
    OpR X f (rI0 fun i j => .bl (g i j)) := by
  intro pins s σ H x y v u Q I rx ry h
  obtain ⟨i, j, rfl, rfl, q⟩ := h
  obtain ⟨t, rfl⟩ := rx
  obtain ⟨t', rfl⟩ := ry
  exact rule i j t t' s _ _ ⟨.bl (g i j), H, I, rfl, q⟩
def CMul (i j : Int) : Prop := (-(2 ^ 64) < i ∧ i < 2 ^ 64) ∨ (-(2 ^ 64) < j ∧ j < 2 ^ 64)
theorem CMul.ok {i j : Int} (h : CMul i j) : IntMulOk i j := by
  rcases h with ⟨h1, h2⟩ | ⟨h1, h2⟩
  · exact .of_left (intBits_le_64 h1 h2)
  · exact .of_right (intBits_le_64 h1 h2)
theorem op_add : OpR X (binaryOp .Add) (rI0 fun i j => .int (i + j)) := opI0 fun _ _ _ _ _ _ _ q => add_int q
theorem op_sub : OpR X (binaryOp .Sub) (rI0 fun i j => .int (i - j)) := opI0 fun _ _ _ _ _ _ _ q => sub_int q
theorem op_mul : OpR X (binaryOp .Mult) (rI CMul fun i j => .int (i * j)) := opI fun _ _ _ _ _ _ _ hc q => mul_int q hc.ok
theorem op_mod : OpR X (binaryOp .Mod) (rI (fun _ j => 0 < j) fun i j => .int (i % j)) := opI fun i j _ _ _ _ _ hc q => by
  have h1 : (0 : Int) < j := hc
  exact mod_int' (by omega) (by rw [Int.fmod_eq_emod_of_nonneg i (by omega)]; exact q)
end
def scal : V → V → Bool
  | .non, .non => true | .non, .int _ => true | .int _, .non => true | .non, .bl _ => true | .bl _, .non => true | .non, .str _ => true | .str _, .non => true
  | .int _, .int _ => true | .bl _, .bl _ => true | .str _, .str _ => true | .byt _, .byt _ => true
  | .int _, .str _ => true | .str _, .int _ => true | .bl _, .str _ => true | .str _, .bl _ => true
  | _, _ => false
def rEq : R2 := fun x y H Q => scal x y = true ∧ Q (.bl (decide (x = y))) H
def rNe : R2 := fun x y H Q => scal x y = true ∧ Q (.bl (!decide (x = y))) H
theorem dec_int {i j : Int} : decide (V.int i = V.int j) = (i == j) := by
  rw [Bool.eq_iff_iff]
  simp
theorem dec_bl {i j : Bool} : decide (V.bl i = V.bl j) = (i == j) := by
  rw [Bool.eq_iff_iff]
  simp
theorem dec_str {i j : Str} : decide (V.str i = V.str j) = (i == j) := by
  rw [Bool.eq_iff_iff]
  simp
theorem dec_byt {i j : Array UInt8} : decide (V.byt i = V.byt j) = (i.toList == j.toList) := by
  rw [Bool.eq_iff_iff]
  cases i
  cases j
  simp
section
variable {X : Cx} {a b c : Expr} {ta tb tc : TE} {pos : Pos}
theorem fin_bl {pins : List (Addr × Obj)} {σ : St} {H : Hp} {s : Shared} {Q : VK} {k k' : Bool} (I : Inv X pins σ H s) (q : Q (.bl k) H) (e : k = k') : EP X pins σ Q (.bool k') s := by
  subst e
  exact ⟨.bl k, H, I, rfl, q⟩
theorem op_eq : OpR X (compareOp .Eq) rEq := by
  intro pins s σ H x y v u Q I rx ry h
  obtain ⟨hs, q⟩ := h
  cases x with
  | non =>
    cases rx
    cases y with
    | non => cases ry; exact PySem.EqNone.eq_none_none (fin_bl I q (by simp))
    | bl j => cases ry; exact PySem.EqNone.eq_none_bool (fin_bl I q (by simp))
    | int j => obtain ⟨t', rfl⟩ := ry; exact PySem.EqNone.eq_none_int (fin_bl I q (by simp))
    | str j => obtain ⟨t', rfl⟩ := ry; exact PySem.EqNone.eq_none_str (fin_bl I q (by simp))
    | _ => exact absurd (show false = true from hs) Bool.false_ne_true
  | bl i =>
    cases rx
    cases y with
    | non => cases ry; exact PySem.EqNone.eq_bool_none (fin_bl I q (by simp))
    | bl j => cases ry; exact eq_bool (fin_bl I q dec_bl)
    | str j => obtain ⟨t', rfl⟩ := ry; exact PySem.EqMixed.eq_bool_str (fin_bl I q (by simp))
    | _ => exact absurd (show false = true from hs) Bool.false_ne_true
  | int i =>
    obtain ⟨t, rfl⟩ := rx
    cases y with
    | non => cases ry; exact PySem.EqNone.eq_int_none (fin_bl I q (by simp))
    | int j => obtain ⟨t', rfl⟩ := ry; exact eq_int (fin_bl I q dec_int)
    | str j => obtain ⟨t', rfl⟩ := ry; exact PySem.EqMixed.eq_int_str (fin_bl I q (by simp))
    | _ => exact absurd (show false = true from hs) Bool.false_ne_true
  | str i =>
    obtain ⟨t, rfl⟩ := rx
    cases y with
    | non => cases ry; exact PySem.EqNone.eq_str_none (fin_bl I q (by simp))
    | bl j => cases ry; exact PySem.EqMixed.eq_str_bool (fin_bl I q (by simp))
    | int j => obtain ⟨t', rfl⟩ := ry; exact PySem.EqMixed.eq_str_int (fin_bl I q (by simp))
    | str j => obtain ⟨t', rfl⟩ := ry; exact eq_str (fin_bl I q dec_str)
    | _ => exact absurd (show false = true from hs) Bool.false_ne_true
  | byt i =>
    obtain ⟨t, rfl⟩ := rx
    cases y with
    | byt j => obtain ⟨t', rfl⟩ := ry; exact PySem.W.eq_bytes (fin_bl I q dec_byt)
    | _ => exact absurd (show false = true from hs) Bool.false_ne_true
  | _ => cases y <;> exact absurd (show false = true from hs) Bool.false_ne_true
theorem op_ne : OpR X (compareOp .NotEq) rNe := by
  intro pins s σ H x y v u Q I rx ry h
  obtain ⟨hs, q⟩ := h
  cases x with
  | non =>
    cases rx
    cases y with
    | non => cases ry; exact PySem.EqNone.ne_none_none (fin_bl I q (by simp))
    | bl j => cases ry; exact PySem.EqNone.ne_none_bool (fin_bl I q (by simp))
    | int j => obtain ⟨t', rfl⟩ := ry; exact PySem.EqNone.ne_none_int (fin_bl I q (by simp))
    | str j => obtain ⟨t', rfl⟩ := ry; exact PySem.EqNone.ne_none_str (fin_bl I q (by simp))
    | _ => exact absurd (show false = true from hs) Bool.false_ne_true
  | bl i =>
    cases rx
    cases y with
    | non => cases ry; exact PySem.EqNone.ne_bool_none (fin_bl I q (by simp))
    | bl j => cases ry; exact ne_bool (fin_bl I q (congrArg not dec_bl))
    | str j => obtain ⟨t', rfl⟩ := ry; exact PySem.EqMixed.ne_bool_str (fin_bl I q (by simp))
    | _ => exact absurd (show false = true from hs) Bool.false_ne_true
  | int i =>
    obtain ⟨t, rfl⟩ := rx
    cases y with
    | non => cases ry; exact PySem.EqNone.ne_int_none (fin_bl I q (by simp))
    | int j => obtain ⟨t', rfl⟩ := ry; exact ne_int (fin_bl I q (congrArg not dec_int))
    | str j => obtain ⟨t', rfl⟩ := ry; exact PySem.EqMixed.ne_int_str (fin_bl I q (by simp))
    | _ => exact absurd (show false = true from hs) Bool.false_ne_true
  | str i =>
    obtain ⟨t, rfl⟩ := rx
    cases y with
    | non => cases ry; exact PySem.EqNone.ne_str_none (fin_bl I q (by simp))
    | bl j => cases ry; exact PySem.EqMixed.ne_str_bool (fin_bl I q (by simp))
    | int j => obtain ⟨t', rfl⟩ := ry; exact PySem.EqMixed.ne_str_int (fin_bl I q (by simp))
    | str j => obtain ⟨t', rfl⟩ := ry; exact ne_str (fin_bl I q (congrArg not dec_str))
    | _ => exact absurd (show false = true from hs) Bool.false_ne_true
  | byt i =>
    obtain ⟨t, rfl⟩ := rx
    cases y with
    | byt j => obtain ⟨t', rfl⟩ := ry; exact PySem.W.ne_bytes (fin_bl I q (congrArg not dec_byt))
    | _ => exact absurd (show false = true from hs) Bool.false_ne_true
  | _ => cases y <;> exact absurd (show false = true from hs) Bool.false_ne_true
theorem op_lt : OpR X (compareOp .Lt) (rI0 fun i j => .bl (decide (i < j))) := opB0 fun _ _ _ _ _ _ _ q => lt_int q
theorem op_isN : OpR X (compareOp .Is) (fun x y H Q => y = .non ∧ Q (.bl (decide (x = .non))) H) := by
  intro pins s σ H x y v u Q I rx ry h
  obtain ⟨rfl, q⟩ := h
  cases ry
  refine is_none_gen (fin_bl I q ?_)
  cases x <;> first
    | (cases rx; rfl)
    | (obtain ⟨t, rfl⟩ := rx; rfl)
theorem op_notN : OpR X (compareOp .IsNot) (fun x y H Q => y = .non ∧ Q (.bl (!decide (x = .non))) H) := by
  intro pins s σ H x y v u Q I rx ry h
  obtain ⟨rfl, q⟩ := h
  cases ry
  refine isnot_none_gen (fin_bl I q ?_)
  cases x <;> first
    | (cases rx; rfl)
    | (obtain ⟨t, rfl⟩ := rx; rfl)
theorem nomark (b : Expr) {op : CmpOp} (h : op ≠ .In := by decide) (h2 : op ≠ .NotIn := by decide) : behindInMarks op b = false := by
  have e1 : (op == CmpOp.In) = false := by cases op <;> first | rfl | exact absurd rfl h
  have e2 : (op == CmpOp.NotIn) = false := by cases op <;> first | rfl | exact absurd rfl h2
  cases b <;> simp [behindInMarks, e1, e2]
theorem pe_cmpR {op : CmpOp} {r : R2} (ho : OpR X (compareOp op) r) (ha : PE X a ta) (hb : PE X b tb) (hm : behindInMarks op b = false) : PE X (.Compare a [op] [b] pos) (tOp r ta tb) := by
  intro pins s σ H Q I h
  exact wpAny_Compare1 (binT ha hb I h fun v u s2 x y H2 I2 rx ry q => ho pins s2 σ H2 x y v u Q I2 rx ry q) hm
def tTest (t : TE) : TT := fun σ H Q => t σ H fun x H' => ∃ k, x = .bl k ∧ Q k H'
theorem pt_cmpR {op : CmpOp} {r : R2} (ho : OpR X (compareOp op) r) (ha : PE X a ta) (hb : PE X b tb) (hm : behindInMarks op b = false) : PT X (.Compare a [op] [b] pos) (tTest (tOp r ta tb)) := by
  intro pins s σ H Q I h
  refine wpAny_isTrue_Compare1 (thn (ha pins s σ H _ I h) fun v s1 ⟨x, H1, I1, r1, q1⟩ => thn (hb pins s1 σ H1 _ I1 q1) fun u s2 ⟨y, H2, I2, r2, q2⟩ =>
    thn (ho pins s2 σ H2 x y v u _ I2 r1 r2 q2) fun c s3 ⟨z, H3, I3, r3, k, e, q3⟩ => ?_) hm
  subst e
  cases r3
  exact wpAny_truthy_bool ⟨H3, I3, q3⟩
def TruV (K : PySem.W.Frag) (x : V) (H : Hp) (k : Bool) : Prop :=
  match x with
  | .non => k = false
  | .bl b => k = b
  | .int i => k = (i != 0)
  | .str y => y.length ≤ sizeLine ∧ k = ((y.length : Int) != 0)
  | .byt y => y.size ≤ sizeLine ∧ k = ((y.size : Int) != 0)
  | .ref p => (∃ xs, SqL K H p xs ∧ k = !xs.isEmpty) ∨ (∃ xs, SqT K H p xs ∧ k = !xs.isEmpty) ∨ ∃ kvs, H p = some (.dK kvs) ∧ k = !kvs.isEmpty
  | _ => False
theorem isEmpty_kv {κ : Type} {kvs : List (κ × V)} {vs : List (κ × Value)} (r : KV kvs vs) : (!vs.isEmpty) = !kvs.isEmpty := by
  cases r <;> rfl
theorem isEmpty_of {xs : List V} {its : List Value} (r : Vals xs its) : (!its.toArray.isEmpty) = !xs.isEmpty := by
  cases r <;> simp
theorem line63 : (sizeLine : Nat) < 2 ^ 63 := by rw [sizeLine_eq]; decide
theorem tru_ok : TruR X (fun x H Q => ∃ k, TruV X.K x H k ∧ Q k H) := by
  intro pins s σ H x v Q I rx h
  obtain ⟨k, e, q⟩ := h
  have hl := line63
  have hs : sizeLine = 16777216 := sizeLine_eq
  cases x with
  | non =>
    cases rx
    have e' : k = false := e
    subst e'
    exact truthy_none ⟨H, I, q⟩
  | bl b =>
    cases rx
    have e' : k = b := e
    subst e'
    exact wpAny_truthy_bool ⟨H, I, q⟩
  | int i =>
    obtain ⟨t, rfl⟩ := rx
    have e' : k = (i != 0) := e
    subst e'
    exact PySem.P.truthy_int ⟨H, I, q⟩
  | str y =>
    obtain ⟨t, rfl⟩ := rx
    obtain ⟨hy, e'⟩ : y.length ≤ sizeLine ∧ k = ((y.length : Int) != 0) := e
    subst e'
    exact PySem.P.truthy_str (by omega) ⟨H, I.tok _, q⟩
  | byt y =>
    obtain ⟨t, rfl⟩ := rx
    obtain ⟨hy, e'⟩ : y.size ≤ sizeLine ∧ k = ((y.size : Int) != 0) := e
    subst e'
    exact PySem.W.truthy_bytes (by omega) ⟨H, I.tok _, q⟩
  | ref p =>
    cases rx
    have e' : (∃ xs, SqL X.K H p xs ∧ k = !xs.isEmpty) ∨ (∃ xs, SqT X.K H p xs ∧ k = !xs.isEmpty) ∨ ∃ kvs, H p = some (.dK kvs) ∧ k = !kvs.isEmpty := e
    rcases e' with ⟨xs, hx, e'⟩ | ⟨xs, hx, e'⟩ | ⟨kvs, hx, e'⟩
    · subst e'
      obtain ⟨its, r, pl, hz⟩ := I.list hx
      have hlen := r.length
      exact wpAny_truthy_list pl.isList (by simp only [List.size_toArray]; omega) ⟨H, I.tok _, by rw [isEmpty_of r]; exact q⟩
    · subst e'
      obtain ⟨its, r, pl, hz⟩ := I.tuple hx
      have hlen := r.length
      exact truthy_tuple pl (by simp only [List.size_toArray]; omega) ⟨H, I.tok _, by rw [isEmpty_of r]; exact q⟩
    · subst e'
      obtain ⟨hz, hS, vs, r, m⟩ : kvs.length ≤ sizeLine ∧ (p == sysModules) = false ∧ ∃ vs, KV kvs vs ∧ s.heap.DictOf (mixKind X.prog X.w) p vs := I.hok p _ hx
      have hlen : kvs.length = vs.length := Paired.length r
      exact wpAny_truthy_dict hS m (by omega) ⟨H, I.tok _, by rw [isEmpty_kv r]; exact q⟩
  | _ => exact (show False from e).elim
theorem pt_truth (ha : PE X a ta) (he : ∀ whole, isTrue a X.env whole = (do let v ← whole; standAt a.pos; holding [v] (truthy v))) :
    PT X a (fun σ H Q => ta σ H fun x H' => ∃ k, TruV X.K x H' k ∧ Q k H') := by
  intro pins s σ H Q I h
  exact isTrue_plain (thn (ha pins s σ H _ I h) fun v s1 ⟨x, H1, I1, r1, q1⟩ => tru_ok pins s1 σ H1 x v Q I1 r1 q1) (he _)
theorem op_add_str : OpR X (binaryOp .Add) (fun x y H Q => ∃ i j, x = .str i ∧ y = .str j ∧ i.length + j.length ≤ sizeLine ∧ Q (.str (i ++ j)) H) := by
  intro pins s σ H x y v u Q I rx ry h
  obtain ⟨i, j, rfl, rfl, hz, q⟩ := h
  obtain ⟨t, rfl⟩ := rx
  obtain ⟨t', rfl⟩ := ry
  exact add_str (fun t' tk => ⟨.str (i ++ j), H, I.tok _, ⟨_, rfl⟩, q⟩) hz
theorem vals1 {x : V} {us : List Value} (r : Vals [x] us) : ∃ u, us = [u] ∧ RelV x u := by
  cases r with
  | cons r1 r2 => cases r2; exact ⟨_, rfl, r1⟩
theorem vals2 {x y : V} {us : List Value} (r : Vals [x, y] us) : ∃ u w', us = [u, w'] ∧ RelV x u ∧ RelV y w' := by
  cases r with
  | cons r1 r2 =>
    cases r2 with
    | cons r3 r4 => cases r4; exact ⟨_, _, rfl, r1, r3⟩
theorem call_min2 (hc : X.calm = true) : CallR X (.builtin "min") (fun xs H Q => ∃ i j, xs = [.int i, .int j] ∧ Q (.int (if j < i then j else i)) H) := by
  intro pins s σ H xs us Q I r h
  obtain ⟨i, j, rfl, q⟩ := h
  obtain ⟨u, w', rfl, ⟨t, rfl⟩, ⟨t', rfl⟩⟩ := vals2 r
  refine min_two_ints (I.ok.hd hc) fun h' tk k => ⟨_, H, I.kept k, ?_, q⟩
  by_cases hj : j < i
  · rw [if_pos hj, if_pos hj]; exact ⟨_, rfl⟩
  · rw [if_neg hj, if_neg hj]; exact ⟨_, rfl⟩
end
end L2
namespace L2
open PySem PySem.Spec PyProof.Rows
structure ObjM (h : Heap) (x dx C : Addr) (mA : Str → Option Value) : Prop where
  obj : h.get? x = some (PySem.W.instObj C dx)
  ns : h.Ns1 dx mA
  ne : dx ≠ x
theorem lookIn_ns {h : Heap} {dx : Addr} {mA : Str → Option Value} (n : h.Ns1 dx mA) : ∃ od, h.get? dx = some od ∧ ∀ name, PySem.W.lookIn name od = some (mA name) := by
  obtain ⟨o, es, ep, ho, hd, hk, _, hm⟩ := n
  refine ⟨o, ho, fun name => ?_⟩
  have e := hm name
  unfold nsFind findBy at e
  rw [← Array.find?_toList] at e
  unfold PySem.W.lookIn
  rw [hd]
  dsimp only
  split
  · rename_i y q
    rw [q] at e
    exact congrArg some e
  · rename_i q
    rw [q] at e
    have a : es.toList.any (·.refKey) = false := by
      rw [List.any_eq_false]
      intro y hy
      obtain ⟨z, t, hkey⟩ := hk y (Array.mem_toList_iff.mp hy)
      simp [DictEntry.refKey, hkey]
    have a' : ¬ es.toList.any (·.refKey) = true := by rw [a]; exact Bool.false_ne_true
    rw [if_neg a']
    exact congrArg some e
theorem ObjM.look {h : Heap} {x dx C : Addr} {mA : Str → Option Value} (I : ObjM h x dx C mA) : ∃ od, PySem.W.InstAt h x (PySem.W.instObj C dx) C (some od) ∧ ∀ name, PySem.W.lookIn name od = some (mA name) :=
  let ⟨od, ho, hl⟩ := lookIn_ns I.ns
  ⟨od, ⟨I.obj, rfl, rfl, ho⟩, hl⟩
section
variable {prog : Program} {w : World} {A : Around} {E : Value → Shared → Prop} {s : Shared} {K : PySem.W.Frag} {x dx C f : Addr} {mA : Str → Option Value} {name : Str} {v : Value}
theorem get_map {expr : Bool} {Q : Value → Shared → Prop} (X : K.In s.heap) (I : ObjM s.heap x dx C mA) (hg : PySem.W.plainGet K C name = true) (hh : PySem.W.hasDictIn K C = true)
    (ha : PySem.W.findIn K (.ref C) name = some none) (hv : mA name = some v) (hv' : PySem.W.handedIn v = true) (h : Q v { s with toks := s.toks + 1 }) :
    wpAny (model prog w) A (getAttr (.ref x) name expr) Q E s := by
  obtain ⟨od, J, hl⟩ := I.look
  exact PySem.W.get_value X J (PySem.W.plainGet_of hg).1 (PySem.W.findObj_own hh ha rfl (by rw [hl, hv])) hv' h
theorem set_map {ns : List Str} {Q : Unit → Shared → Prop} (X : K.In s.heap) (I : ObjM s.heap x dx C mA)
    (hs : PySem.W.findIn K (.ref C) "__setattr__" = some (some (.builtin "object.__setattr__"))) (hp : PySem.W.plainOver K C = true) (ht : PySem.W.takerIn K C name = some none) (hh : PySem.W.hasDictIn K C = true)
    (hw : PySem.Within mA ns) (hsz : ns.length ≤ sizeLine)
    (h : ∀ h', ObjM h' x dx C (fun y => if y = name then some v else mA y) → Heap.SameBut dx s.heap h' → Q () { s with heap := h', toks := s.toks + 2 }) :
    wpAny (model prog w) A (setAttr (.ref x) name v) Q E s := by
  obtain ⟨od, J, hl⟩ := I.look
  refine PySem.W.set_plain X J hs (PySem.W.osa_open (s := { s with toks := s.toks + 1 }) (r := none) X J hp ht fun b => ?_)
  obtain ⟨cd, hc, hd'⟩ := PySem.W.any_some hh
  have hx : s.heap.get? x = some ⟨.ref C, some dx, .plain, #[]⟩ := I.obj
  refine wpAny_bind (wpAny_pure (wpAny_bind (wpAny_bind (wpAny_loadPart hx (wpAny_bind (PySem.W.Looks.here (s := { s with toks := s.toks + 1 }) (PySem.W.looks_clsIn X hc) ?_))))))
  rw [hd']
  refine wpAny_pure (a := some dx) (wpAny_bind (wpAny_pure (wpAny_bind ?_)))
  refine wpAny_nsSet1 (s := { s with toks := s.toks + 1 }) I.ns fun h' hn2 hs2 => ?_
  obtain ⟨oD, esD, epD, hoD, hdD, hcD⟩ := hn2.count (PySem.Within.cons name v hw)
  refine wpAny_bind (wpAny_lookBehind hoD (by rw [hdD]; exact pastItsLine_dict (Nat.le_trans hcD (by rw [List.length_cons]; omega))) ?_)
  exact wpAny_pure (h _ ⟨(hs2.2 _ (Ne.symm I.ne)).trans I.obj, hn2, I.ne⟩ hs2)
theorem make_map {R : Result → Shared → Prop} {vs : List Value} {kw : List (Str × Value)} (X : K.In s.heap) (hm : PySem.W.makesIn K C = true)
    (hi : PySem.W.findIn K (.ref C) "__init__" = some (some (.ref f))) (hf : PySem.W.typeIn K (.ref f) = some (.type "function"))
    (h : codeAny (model prog w) (A.under (.builtin "type.__call__" ⟨.ref C :: vs, kw⟩)) (.call (.ref f) ⟨.ref (s.heap.objs.size + 1) :: vs, kw⟩) (PySem.W.InitBack (s.heap.objs.size + 1) R)
      { s with heap := (s.heap.push PySem.W.emptyDict).push (PySem.W.instObj C s.heap.objs.size) }) :
    codeAny (model prog w) A (.call (.ref C) ⟨vs, kw⟩) R s := by
  obtain ⟨hh, g, d, t, os⟩ := s
  exact PySem.W.make_core (PySem.W.makes_of X hm) (PySem.W.looks_findIn X hi) (fun self => PySem.W.bind_fn X self hf) (.inl rfl) h
end
def putF (f : Str) (v : V) : List (Str × V) → List (Str × V)
  | [] => [(f, v)]
  | (g, x) :: r => if g = f then (g, v) :: r else (g, x) :: putF f v r
theorem lookup_putF (f g : Str) (v : V) : ∀ fs : List (Str × V), (putF f v fs).lookup g = if g = f then some v else fs.lookup g
  | [] => by
    show List.lookup g [(f, v)] = _
    by_cases h : g = f
    · have hb : (g == f) = true := beq_iff_eq.mpr h
      simp only [List.lookup, hb, if_pos h]
    · have hb : (g == f) = false := beq_eq_false_iff_ne.mpr h
      simp only [List.lookup, hb, if_neg h]
  | (k, x) :: r => by
    have ih := lookup_putF f g v r
    rw [show putF f v ((k, x) :: r) = (if k = f then (k, v) :: r else (k, x) :: putF f v r) from rfl]
    by_cases hk : k = f
    · rw [if_pos hk]
      by_cases h : g = k
      · have hb : (g == k) = true := beq_iff_eq.mpr h
        simp only [List.lookup, hb, if_pos (h.trans hk)]
      · have hb : (g == k) = false := beq_eq_false_iff_ne.mpr h
        simp only [List.lookup, hb, if_neg (fun e : g = f => h (e.trans hk.symm))]
    · rw [if_neg hk]
      by_cases h : g = k
      · have hb : (g == k) = true := beq_iff_eq.mpr h
        simp only [List.lookup, hb, if_neg (fun e : g = f => hk (h.symm.trans e))]
      · have hb : (g == k) = false := beq_eq_false_iff_ne.mpr h
        simp only [List.lookup, hb]
        exact ih
theorem keys_putF (f : Str) (v : V) : ∀ fs : List (Str × V), f ∈ (putF f v fs).map (·.1) ∧ ∀ g, g ∈ fs.map (·.1) → g ∈ (putF f v fs).map (·.1)
  | [] => ⟨by simp [putF], fun g h => by simp at h⟩
  | (k, x) :: r => by
    obtain ⟨i1, i2⟩ := keys_putF f v r
    rw [show putF f v ((k, x) :: r) = (if k = f then (k, v) :: r else (k, x) :: putF f v r) from rfl]
    by_cases hk : k = f
    · rw [if_pos hk]
      subst hk
      exact ⟨by simp, fun g h => by simpa using h⟩
    · rw [if_neg hk]
      refine ⟨?_, fun g h => ?_⟩
      · rw [List.map_cons]
        exact List.mem_cons_of_mem _ i1
      · rw [List.map_cons] at h ⊢
        rcases List.mem_cons.mp h with e | e
        · exact List.mem_cons.mpr (.inl e)
        · exact List.mem_cons_of_mem _ (i2 g e)
theorem length_putF (f : Str) (v : V) : ∀ fs : List (Str × V), (putF f v fs).length ≤ fs.length + 1
  | [] => by simp [putF]
  | (k, x) :: r => by
    have ih := length_putF f v r
    rw [show putF f v ((k, x) :: r) = (if k = f then (k, v) :: r else (k, x) :: putF f v r) from rfl]
    by_cases hk : k = f
    · rw [if_pos hk, List.length_cons, List.length_cons]; omega
    · rw [if_neg hk, List.length_cons, List.length_cons]; omega
theorem RelO.some_of {v : V} {o : Option Value} (r : RelO (some v) o) : ∃ u, o = some u ∧ RelV v u := by
  cases o with
  | none => exact (show False from r).elim
  | some u => exact ⟨u, rfl, r⟩
theorem handed_of {v : V} {u : Value} (r : RelV v u) : PySem.W.handedIn u = true := by
  cases v with
  | non => cases (show u = Value.none from r); rfl
  | bl b => cases (show u = Value.bool b from r); rfl
  | int i => obtain ⟨t, e⟩ := (show ∃ t, u = Value.int i t from r); cases e; rfl
  | str x => obtain ⟨t, e⟩ := (show ∃ t, u = Value.str x t from r); cases e; rfl
  | byt b => obtain ⟨t, e⟩ := (show ∃ t, u = Value.bytes b t from r); cases e; rfl
  | flt b => obtain ⟨t, e⟩ := (show ∃ t, u = Value.float b t from r); cases e; rfl
  | ref a => cases (show u = Value.ref a from r); rfl
  | ty n => cases (show u = Value.type n from r); rfl
section
variable {P : Program} {w : World} {H H' : Hp} {h h' : Heap} {a C dx : Addr} {fs fs' : List (Str × V)}
theorem ins_get (hok : HOk P w H h) (e : H a = some (.ins C dx fs)) : ∃ mA, ObjM h a dx C mA ∧ (∀ f, RelO (fs.lookup f) (mA f)) ∧ PySem.Within mA (fs.map (·.1)) ∧ fs.length ≤ 1000 ∧ H dx = some (.own a) := by
  obtain ⟨d, z, ne, ob, mA, n, r, q⟩ := (show ObjOk P w H h a (.ins C dx fs) from hok a _ e)
  exact ⟨mA, ⟨ob, n, ne⟩, r, q, z, d⟩
end
structure Cls (K : PySem.W.Frag) (C : Addr) : Prop where
  pg : PySem.W.plainGet K C Str.empty = true
  hd : PySem.W.hasDictIn K C = true
  po : PySem.W.plainOver K C = true
  sa : PySem.W.findIn K (.ref C) "__setattr__" = some (some (.builtin "object.__setattr__"))
theorem Cls.get {K : PySem.W.Frag} {C : Addr} (c : Cls K C) (f : Str) : PySem.W.plainGet K C f = true := c.pg
def NoAttr (K : PySem.W.Frag) (C : Addr) (f : Str) : Prop := PySem.W.findIn K (.ref C) f = some none
theorem NoAttr.taker {K : PySem.W.Frag} {C : Addr} {f : Str} (n : NoAttr K C f) : PySem.W.takerIn K C f = some none := by
  unfold PySem.W.takerIn
  rw [show PySem.W.findIn K (.ref C) f = some none from n]
  rfl
section
variable {X : Cx} {pins : List (Addr × Obj)} {σ : St} {H : Hp} {s : Shared} {a C dx : Addr} {fs : List (Str × V)} {f : Str} {v : V} {A : Around} {E : Value → Shared → Prop}
theorem getattr_ok {b : Bool} {Q : Value → Shared → Prop} (I : Inv X pins σ H s) (e : H a = some (.ins C dx fs)) (c : Cls X.K C) (n : NoAttr X.K C f) (l : fs.lookup f = some v)
    (h : ∀ u s', Inv X pins σ H s' → RelV v u → Q u s') : wpAny (model X.prog X.w) A (getAttr (.ref a) f b) Q E s := by
  obtain ⟨mA, O, r, _, _, _⟩ := ins_get I.hok e
  obtain ⟨u, hu, ru⟩ := RelO.some_of (v := v) (o := mA f) (by rw [← l]; exact r f)
  exact get_map I.kIn O (c.get f) c.hd n hu (handed_of ru) (h u _ (I.tok _) ru)
theorem setattr_ok {y : V} {u : Value} {Q : Unit → Shared → Prop} (I : Inv X pins σ H s) (e : H a = some (.ins C dx fs)) (c : Cls X.K C) (n : NoAttr X.K C f) (hl : fs.length < 1000) (ry : RelV y u)
    (h : ∀ s', Inv X pins σ (upd H a (.ins C dx (putF f y fs))) s' → Q () s') : wpAny (model X.prog X.w) A (setAttr (.ref a) f u) Q E s := by
  obtain ⟨mA, O, r, wi, _, ho⟩ := ins_get I.hok e
  have hz : (fs.map (·.1)).length ≤ sizeLine := by rw [List.length_map, sizeLine_eq]; omega
  refine set_map I.kIn O c.sa c.po n.taker c.hd wi hz fun h' O' sb => h _ ?_
  have hd : ∃ o, h'.get? dx = some o := let ⟨o, _, _, e', _⟩ := O'.ns; ⟨o, e'⟩
  refine I.write (x := a) (e := dx) (by rw [e]; exact True.intro) (.inr ho) (fun b q hb z => (sb.2 b hb).trans z) hd ?_
  refine ⟨by rw [upd_ne O.ne]; exact ho, ?_, O.ne, O'.obj, _, O'.ns, fun g => ?_, fun g hg => ?_⟩
  · have := length_putF f y fs; omega
  · show RelO ((putF f y fs).lookup g) (if g = f then some u else mA g)
    rw [lookup_putF]
    by_cases q : g = f
    · rw [if_pos q, if_pos q]; exact ry
    · rw [if_neg q, if_neg q]; exact r g
  · by_cases q : g = f
    · rw [q]; exact (keys_putF f y fs).1
    · refine (keys_putF f y fs).2 g (wi g fun z => hg ?_)
      show (if g = f then some u else mA g) = none
      rw [if_neg q]; exact z
theorem Inv.made (I : Inv X pins σ H s) : Inv X pins σ (upd (upd H s.heap.objs.size (.own (s.heap.objs.size + 1))) (s.heap.objs.size + 1) (.ins C s.heap.objs.size []))
    { s with heap := (s.heap.push PySem.W.emptyDict).push (PySem.W.instObj C s.heap.objs.size) } := by
  have e1 : (s.heap.push PySem.W.emptyDict).get? s.heap.objs.size = some PySem.W.emptyDict := Heap.get?_push_size s.heap rfl
  have e2 : ((s.heap.push PySem.W.emptyDict).push (PySem.W.instObj C s.heap.objs.size)).get? (s.heap.objs.size + 1) = some (PySem.W.instObj C s.heap.objs.size) := by
    have := Heap.get?_push_size (s.heap.push PySem.W.emptyDict) (o := PySem.W.instObj C s.heap.objs.size) rfl
    rwa [Heap.size_push] at this
  have e3 : (s.heap.push PySem.W.emptyDict).Ns s.heap.objs.size (fun _ => none) := ⟨PySem.W.emptyDict, #[], _, e1, rfl, (fun e he => absurd he (by simp)), fun _ => rfl⟩
  have I1 := I.laid (a := s.heap.objs.size) (o := .own (s.heap.objs.size + 1)) (h' := s.heap.push PySem.W.emptyDict) (t' := s.toks) (fun b u q => Heap.get?_push_of_some _ q) (Nat.le_refl _) ⟨_, e1⟩
  refine I1.laid (a := s.heap.objs.size + 1) (o := .ins C s.heap.objs.size []) (t' := s.toks) (fun b u q => Heap.get?_push_of_some _ q) (Nat.le_of_eq (Heap.size_push _ _)) ?_
  have ne : s.heap.objs.size ≠ s.heap.objs.size + 1 := Nat.ne_of_lt (Nat.lt_succ_self _)
  refine ⟨by rw [upd_ne ne, upd_same], Nat.zero_le _, ne, e2, fun _ => none, (Heap.Ns1.of_empty e3).at fun o q => Heap.get?_push_of_some _ q, fun _ => True.intro, fun y hy => absurd rfl hy⟩
theorem attr_of {prog : Program} {w : World} {env : Env} {e : Expr} {f : Str} {pos : Pos} {s : Shared} {Q : Value → Shared → Prop} (hb : attributeBase e f env (eval e env) = eval e env)
    (h : wpAny (model prog w) A (eval e env) (fun o s₁ => wpAny (model prog w) A (getAttr o f true) Q E s₁) E s) : wpAny (model prog w) A (eval (.Attribute e f pos) env) Q E s :=
  Attribute_any_ h (by rw [arm_eval_Attribute, hb])
end
def tFld (K : PySem.W.Frag) (ta : TE) (f : Str) : TE := fun σ H Q => ta σ H fun x H1 => ∃ a C dx fs v, x = .ref a ∧ H1 a = some (.ins C dx fs) ∧ Cls K C ∧ NoAttr K C f ∧ fs.lookup f = some v ∧ Q v H1
def sFld (K : PySem.W.Frag) (ta tv : TE) (f : Str) : TS := fun D σ H => tv σ H fun y H1 => ta σ H1 fun x H2 => ∃ a C dx fs, x = .ref a ∧ H2 a = some (.ins C dx fs) ∧ Cls K C ∧ NoAttr K C f ∧ fs.length < 1000 ∧
  D.nx σ (upd H2 a (.ins C dx (putF f y fs)))
section
variable {X : Cx} {o e value : Expr} {f : Str} {pos pos' tpos : Pos} {ta tv : TE}
theorem pe_fld (he : PE X e ta) (hb : attributeBase e f X.env (eval e X.env) = eval e X.env) : PE X (.Attribute e f pos) (tFld X.K ta f) := by
  intro pins s σ H Q I h
  refine attr_of hb (thn (he pins s σ H _ I h) fun u s1 ⟨x, H1, I1, rx, a, C, dx, fs, v, ex, ea, c, n, l, q⟩ => ?_)
  subst ex
  obtain rfl : u = Value.ref a := rx
  exact getattr_ok I1 ea c n l fun u' s2 I2 ru => ⟨v, H1, I2, ru, q⟩
theorem ps_fld (ha : PE X o ta) (hv : PE X value tv) (hs : swapsWith value (some (.Attribute o f pos')) pos.line X.env = pure false) : PS X (.Assign [.Attribute o f pos'] value pos) (sFld X.K ta tv f) := by
  intro pins s σ H D I h
  refine plainObj_wpAny_Assign_Attribute (thn (hv pins s σ H _ I h) fun u s1 ⟨y, H1, I1, ry, q⟩ => thn (ha pins s1 σ H1 _ I1 q) fun ov s2 ⟨x, H2, I2, rx, a, C, dx, fs, ex, ea, c, n, l, q2⟩ => ?_) hs
  subst ex
  obtain rfl : ov = Value.ref a := rx
  exact setattr_ok I2 ea c n l ry fun s3 I3 => ⟨σ, _, I3, q2⟩
end
section
variable {X : Cx} {pins : List (Addr × Obj)} {σ : St} {H : Hp} {s : Shared} {A : Around} {E : Value → Shared → Prop} {Q : Value → Shared → Prop} {c : Value} {b : Bool}
inductive TyOf (K : PySem.W.Frag) (H : Hp) : V → Value → Prop where
  | non : TyOf K H .non (.type "NoneType")
  | bl (x : Bool) : TyOf K H (.bl x) (.type "bool")
  | int (i : Int) : TyOf K H (.int i) (.type "int")
  | str (x : Str) : TyOf K H (.str x) (.type "str")
  | flt (x : UInt64) : TyOf K H (.flt x) (.type "float")
  | lst {a : Addr} {xs : List V} (e : H a = some (.lst xs)) : TyOf K H (.ref a) (.type "list")
  | frz {a : Addr} {o : Obj} {xs : List V} (e : H a = some (.frz o (.lst xs))) : TyOf K H (.ref a) (.type "list")
  | tup {a : Addr} {xs : List V} (e : H a = some (.tup xs)) : TyOf K H (.ref a) (.type "tuple")
  | dK {a : Addr} {kvs : List (Key × V)} (e : H a = some (.dK kvs)) : TyOf K H (.ref a) (.type "dict")
  | dT {a : Addr} {kvs : List (List Key × V)} (e : H a = some (.dT kvs)) : TyOf K H (.ref a) (.type "dict")
  | ins {a C dx : Addr} {fs : List (Str × V)} (e : H a = some (.ins C dx fs)) (cl : Cls K C) (ha : PySem.W.findIn K (.ref C) "__class__" = some (some (.builtin "object.__class__")))
      (hn : PySem.W.specialIn K (.builtin "object.__class__") "__get__" = some (some (.builtin "getset_descriptor.__get__"))) (htk : PySem.W.takesIn K (.builtin "object.__class__") = some true)
      (hm : PySem.W.mroIn K C (.type "object") = some true) : TyOf K H (.ref a) (.ref C)
theorem isinst_ok {x : V} {u t : Value} (I : Inv X pins σ H s) (rx : RelV x u) (ty : TyOf X.K H x t) (e : PySem.W.kitOne X.K t c = some b) (h : ∀ tk, Q (.bool b) { s with toks := tk }) :
    wpAny (model X.prog X.w) A (call (.builtin "isinstance") [u, c]) Q E s := by
  cases ty with
  | non => cases (show u = Value.none from rx); exact PySem.W.kia_one PySem.W.kitx_none I.kIn True.intro e (fun z => nomatch z) h
  | bl y => cases (show u = Value.bool y from rx); exact PySem.W.kia_one PySem.W.kitx_bool I.kIn True.intro e (fun z => nomatch z) h
  | int i => obtain ⟨t, q⟩ := (show ∃ t, u = Value.int i t from rx); cases q; exact PySem.W.kia_one PySem.W.kitx_int I.kIn True.intro e (fun z => nomatch z) h
  | str y => obtain ⟨t, q⟩ := (show ∃ t, u = Value.str y t from rx); cases q; exact PySem.W.kia_one PySem.W.kitx_str I.kIn True.intro e (fun z => nomatch z) h
  | flt y => obtain ⟨t, q⟩ := (show ∃ t, u = Value.float y t from rx); cases q; exact PySem.W.kia_one PySem.W.kitx_float I.kIn True.intro e (fun z => nomatch z) h
  | @lst a xs ea =>
    cases (show u = Value.ref a from rx)
    obtain ⟨_, _, n, _, h1⟩ := (show ObjOk X.prog X.w H s.heap a (.lst xs) from I.hok a _ ea)
    exact PySem.W.kia_one PySem.W.kitx_list I.kIn ⟨_, h1, rfl⟩ e (fun z => nomatch z) h
  | @frz a ob xs ea =>
    cases (show u = Value.ref a from rx)
    obtain ⟨_, _, _, n, _, h1⟩ := (show ObjOk X.prog X.w H s.heap a (.frz ob (.lst xs)) from I.hok a _ ea)
    exact PySem.W.kia_one PySem.W.kitx_list I.kIn ⟨_, h1, rfl⟩ e (fun z => nomatch z) h
  | @tup a xs ea =>
    cases (show u = Value.ref a from rx)
    obtain ⟨_, _, _, p⟩ := (show ObjOk X.prog X.w H s.heap a (.tup xs) from I.hok a _ ea)
    obtain ⟨o, h1, h2, _⟩ := p
    exact PySem.W.kia_one PySem.W.kitx_tuple I.kIn ⟨o, h1, h2⟩ e (fun z => nomatch z) h
  | @dK a kvs ea =>
    cases (show u = Value.ref a from rx)
    obtain ⟨_, _, vs, _, p⟩ := (show ObjOk X.prog X.w H s.heap a (.dK kvs) from I.hok a _ ea)
    obtain ⟨o, es, ep, h1, h2, _⟩ := p
    exact PySem.W.kia_one PySem.W.kitx_dict I.kIn ⟨o, h1, h2.1⟩ e (fun z => nomatch z) h
  | @dT a kvs ea =>
    cases (show u = Value.ref a from rx)
    obtain ⟨_, _, xs, _, o, es, ep, h1, h2, _⟩ := (show ObjOk X.prog X.w H s.heap a (.dT kvs) from I.hok a _ ea)
    exact PySem.W.kia_one PySem.W.kitx_dict I.kIn ⟨o, h1, h2.1⟩ e (fun z => nomatch z) h
  | @ins a C dx fs ea cl ha hn htk hm =>
    cases (show u = Value.ref a from rx)
    obtain ⟨mA, O, _⟩ := ins_get I.hok ea
    obtain ⟨od, J, _⟩ := O.look
    exact PySem.W.kia_one (PySem.W.kitx_own (cl.get _) cl.hd ha hn htk hm) I.kIn J e (fun z => nomatch z) h
end
end L2
namespace L2
open PySem PySem.Spec PyProof.Rows
structure Room (k : Nat) (A : Around) : Prop where
  hd : A.handled = none
  dp : A.depth + 3 * k + 5 < recursionLimit
  un : A.units + 16 * k + 200 < cLine
theorem Room.mono {j k : Nat} {A : Around} (r : Room k A) (h : j ≤ k) : Room j A := ⟨r.hd, by have := r.dp; omega, by have := r.un; omega⟩
theorem Room.deeper {k : Nat} {A : Around} (r : Room (k + 1) A) (env : Env) : Room k (A.deeper env) :=
  ⟨r.hd, by have := r.dp; show A.depth + 1 + 3 * k + 5 < _; omega, by have := r.un; show A.units + 3 + 16 * k + 200 < _; omega⟩
theorem make_depth {A : Around} {C : Addr} {us : List Value} {kw : List (Str × Value)} : (A.under (.builtin "type.__call__" ⟨.ref C :: us, kw⟩)).depth = A.depth + 1 := by
  first | rfl | simp [Around.under, Code.weight, Code.isCreation, Code.isGuard, Code.isCaller, Code.frames, Code.isFrame, guardIds]
theorem make_units {A : Around} {C : Addr} {us : List Value} {kw : List (Str × Value)} : (A.under (.builtin "type.__call__" ⟨.ref C :: us, kw⟩)).units = A.units + 1 := by
  first | rfl | simp [Around.under, Code.cUnits, Code.frames, Code.isFrame]
theorem Room.make {k : Nat} {A : Around} (r : Room (k + 1) A) (C : Addr) (us : List Value) (kw : List (Str × Value)) : Room k (A.under (.builtin "type.__call__" ⟨.ref C :: us, kw⟩)) :=
  ⟨r.hd, by have := r.dp; rw [make_depth]; omega, by have := r.un; rw [make_units]; omega⟩
theorem Room.depth {k : Nat} {A : Around} (r : Room k A) : A.depth < recursionLimit := by have := r.dp; omega
def tNil : TA := fun _ H Q => Q [] H
def tCons (ta : TE) (tr : TA) : TA := fun σ H Q => ta σ H fun x H1 => tr σ H1 fun xs H2 => Q (x :: xs) H2
section
variable {X : Cx} {e : Expr} {es : List Expr} {te : TE} {t : TA} {pos : Pos}
theorem pa_nil : PA X [] tNil := fun _ _ _ _ H Q I h => Calls.spliced_nil ⟨[], H, I, .nil, h⟩
theorem pa_cons (ha : PE X e te) (hr : PA X es t) (hs : starEach (e :: es) X.env = (false, eval e X.env) :: starEach es X.env := by rfl) : PA X (e :: es) (tCons te t) := by
  intro pos pins s σ H Q I h
  rw [hs]
  show wpAny _ _ (spliced ((false, eval e X.env) :: backTo pos (starEach es X.env))) _ _ s
  refine Calls.spliced_cons (thn (ha pins s σ H _ I h) fun u s1 ⟨x, H1, I1, r1, q1⟩ => ?_)
  exact thn (hr pos pins s1 σ H1 _ I1 q1) fun us s2 ⟨xs, H2, I2, r2, q2⟩ => ⟨x :: xs, H2, I2, .cons r1 r2, q2⟩
def tTup (t : TA) : TE := fun σ H Q => t σ H fun xs H1 => xs.length ≤ sizeLine ∧ ∀ p, H1 p = none → Q (.ref p) (upd H1 p (.tup xs))
def tLst (t : TA) : TE := fun σ H Q => t σ H fun xs H1 => xs.length ≤ sizeLine ∧ ∀ p, H1 p = none → Q (.ref p) (upd H1 p (.lst xs))
theorem pe_tup {x1} (h : PA X es t) : PE X (.Tuple es x1 pos) (tTup t) := by
  intro pins s σ H Q I hq
  refine wpAny_Tuple_spliced (thn (h pos pins s σ H _ I hq) fun us s1 ⟨xs, H1, I1, r, z, q⟩ => ⟨by rw [← r.length]; exact z, ?_⟩)
  have hf : H1 s1.heap.objs.size = none := I1.hok.fresh (Nat.le_refl _)
  refine ⟨.ref s1.heap.objs.size, upd H1 s1.heap.objs.size (.tup xs), I1.laid (t' := s1.toks) (fun b u e => Heap.get?_push_of_some _ e) (Nat.le_refl _) ?_, rfl, q _ hf⟩
  exact ⟨z, us, r, ⟨_, Heap.get?_push_size _ rfl, rfl, _, rfl⟩⟩
theorem pe_lst (h : PA X es t) : PE X (.List es pos) (tLst t) := by
  intro pins s σ H Q I hq
  refine wpAny_List_spliced (thn (h pos pins s σ H _ I hq) fun us s1 ⟨xs, H1, I1, r, z, q⟩ => ⟨by rw [← r.length]; exact z, ?_⟩)
  have hf : H1 s1.heap.objs.size = none := I1.hok.fresh (Nat.le_refl _)
  refine ⟨.ref s1.heap.objs.size, upd H1 s1.heap.objs.size (.lst xs), I1.laid (t' := s1.toks) (fun b u e => Heap.get?_push_of_some _ e) (Nat.le_refl _) ?_, rfl, q _ hf⟩
  exact ⟨z, us, 0, r, Heap.get?_push_size _ rfl⟩
end
abbrev Sp := List V → Hp → VK → XK → Prop
abbrev CXT := List Env → Hp → Shared → XK → Value → Shared → Prop
structure Env0 (P : Program) (w : World) (K : PySem.W.Frag) (mg : Str → Option Value) (base : Heap) (A : Around) (outer : List Env) (s : Shared) (H : Hp) : Prop where
  frames : A.frames = some outer
  mod : Mod K mg base
  bs : ∀ b o, base.get? b = some o → s.heap.get? b = some o ∧ H b = none
  bsz : base.objs.size ≤ s.heap.objs.size
  funs : s.heap.FunFrames base outer
  frf : ∀ b ∈ frs outer, H b = none
  hok : HOk P w H s.heap
  bare : AllBare s.gens
def CE (outer : List Env) (P : Program) (w : World) (H : Hp) (s : Shared) (Q : VK) (u : Value) (s' : Shared) : Prop :=
  ∃ v H', s'.os = s.os ∧ AllBare s'.gens ∧ Un (frs outer) [] H H' s.heap s'.heap ∧ HOk P w H' s'.heap ∧ RelV v u ∧ Q v H'
def CR (CX : CXT) (outer : List Env) (P : Program) (w : World) (H : Hp) (s : Shared) (Q : VK) (E : XK) (r : Result) (s' : Shared) : Prop :=
  match r with
  | .ok (.ret u) => CE outer P w H s Q u s'
  | .ok _ => False
  | .error e => CX outer H s E e s'
structure FnOk (P : Program) (w : World) (K : PySem.W.Frag) (mg : Str → Option Value) (base : Heap) (CX : CXT) (k : Nat) (f : Addr) (fd : FuncData) (ps : List Str) (sp : Sp) : Prop where
  len : ∀ vs H Q E, sp vs H Q E → vs.length = ps.length
  run : ∀ (A : Around) (outer : List Env) (s : Shared) (H : Hp) (args : Args) (us : List Value) (vs : List V) (Q : VK) (E : XK), Room k A → Env0 P w K mg base A outer s H → BindsTo s fd args (ps.zip us) → Vals vs us → sp vs H Q E →
    codeAny (model P w) A (.call (.ref f) args) (CR CX outer P w H s Q E) s
theorem FnOk.imp {P : Program} {w : World} {K : PySem.W.Frag} {mg : Str → Option Value} {base : Heap} {CX : CXT} {k : Nat} {f : Addr} {fd : FuncData} {ps : List Str} {sp sp' : Sp} (F : FnOk P w K mg base CX k f fd ps sp)
    (h : ∀ vs H Q E, sp' vs H Q E → sp vs H Q E) : FnOk P w K mg base CX k f fd ps sp' :=
  ⟨fun vs H Q E q => F.len vs H Q E (h _ _ _ _ q), fun A outer s H args us vs Q E hr he hb hv hs => F.run A outer s H args us vs Q E hr he hb hv (h _ _ _ _ hs)⟩
theorem Env0.make {P : Program} {w : World} {K : PySem.W.Frag} {mg : Str → Option Value} {base : Heap} {A : Around} {outer : List Env} {s : Shared} {H : Hp} (e : Env0 P w K mg base A outer s H) (C : Addr) (us : List Value) (kw : List (Str × Value)) :
    Env0 P w K mg base (A.under (.builtin "type.__call__" ⟨.ref C :: us, kw⟩)) outer s H := ⟨by first | exact e.frames | (simpa [Around.under, Code.envs, Code.isFrame, pushEnvs] using e.frames), e.mod, e.bs, e.bsz, e.funs, e.frf, e.hok, e.bare⟩
section
variable {X : Cx} {pins : List (Addr × Obj)} {σ : St} {H : Hp} {s s' : Shared}
theorem Inv.env0 (I : Inv X pins σ H s) : Env0 X.prog X.w X.K X.mg X.base X.A X.stack s H :=
  ⟨I.ok.frames, I.ok.mod, I.bs, Nat.le_trans I.ok.bsz I.sz, I.stack, I.stkFree, I.hok, I.bare⟩
theorem Inv.after {Q : VK} {u : Value} (I : Inv X pins σ H s) (h : CE X.stack X.prog X.w H s Q u s') : EP X pins σ Q u s' := by
  obtain ⟨v, H', os, bare, un, hok, r, q⟩ := h
  obtain ⟨hh, g, d, t, os'⟩ := s'
  obtain rfl : os' = s.os := os
  exact ⟨v, H', I.call (h' := hh) (g' := g) (d' := d) (t' := t) (ch := []) un hok bare (fun b z => absurd z (by simp)), r, q⟩
end
def tCall (sp : Sp) (dvs : List V) (E : XK) (t : TA) : TE := fun σ H Q => t σ H fun vs H1 => sp (vs ++ dvs) H1 Q E
def tMake (C : Addr) (sp : Sp) (dvs : List V) (E : XK) (t : TA) : TE := fun σ H Q => t σ H fun vs H1 => ∀ x dx, H1 x = none → H1 dx = none → dx ≠ x →
  sp (.ref x :: (vs ++ dvs)) (upd (upd H1 dx (.own x)) x (.ins C dx [])) (fun v H2 => v = .non ∧ Q (.ref x) H2) E
def Binds (K : PySem.W.Frag) (fd : FuncData) (ps : List Str) (ds : List Value) : Prop :=
  ∀ (s : Shared) (us : List Value), K.In s.heap → (us ++ ds).length = ps.length → BindsTo s fd ⟨us, []⟩ (ps.zip (us ++ ds))
theorem Binds.all {K : PySem.W.Frag} {fd : FuncData} {ps : List Str} (h : ∀ us : List Value, us.length = ps.length → bindArgs fd ⟨us, []⟩ = pure (ps.zip us)) : Binds K fd ps [] := fun s us _ hl => by
  rw [List.append_nil] at hl ⊢
  exact .of_eq (h us hl)
def Passes (CX : CXT) (X : Cx) (E : XK) : Prop := ∀ (pins : List (Addr × Obj)) (σ : St) (H : Hp) (s : Shared) (e : Value) (s' : Shared), Inv X pins σ H s → CX X.stack H s E e s' → X.xe e s'
section
variable {X : Cx} {CX : CXT} {k : Nat} {f C : Addr} {fd : FuncData} {ps : List Str} {sp : Sp} {dvs : List V} {ds : List Value} {E : XK} {x m : Str} {p pos apos : Pos} {e o : Expr} {es : List Expr} {ta : TE} {t : TA}
theorem run_fn {pins : List (Addr × Obj)} {σ : St} {H : Hp} {s : Shared} {Q : VK} {us : List Value} {vs : List V} (F : FnOk X.prog X.w X.K X.mg X.base CX k f fd ps sp) (hr : Room k X.A) (hb : Binds X.K fd ps ds) (hd : Vals dvs ds) (hx : Passes CX X E)
    (I : Inv X pins σ H s) (r : Vals vs us) (h : sp (vs ++ dvs) H Q E) : wpAny (model X.prog X.w) X.A (call (.ref f) us) (EP X pins σ Q) X.xe s := by
  have r2 : Vals (vs ++ dvs) (us ++ ds) := r.append hd
  have hl : (us ++ ds).length = ps.length := by rw [← r2.length]; exact F.len _ _ _ _ h
  refine wpAny_call (codeAny_mono (F.run X.A X.stack s H ⟨us, []⟩ (us ++ ds) (vs ++ dvs) Q E hr I.env0 (hb s us I.kIn hl) r2 h) fun r s' hq => ?_)
  cases r with
  | error e => exact hx pins σ H s e s' I hq
  | ok fl =>
    cases fl with
    | ret u => exact I.after hq
    | next => exact False.elim hq
    | brk => exact False.elim hq
    | cont => exact False.elim hq
theorem pe_call (F : FnOk X.prog X.w X.K X.mg X.base CX k f fd ps sp) (hr : Room k X.A) (hg : Gl X x) (hm : X.mg x = some (.ref f)) (hk : PySem.W.keepIn X.K (.ref f) = true) (hb : Binds X.K fd ps ds) (hd : Vals dvs ds) (hx : Passes CX X E)
    (ha : PA X (e :: es) t) (hdb : (x == ("__debug__" : Str)) = false := by decide) (he : starEach (e :: es) X.env = (false, eval e X.env) :: starEach es X.env := by rfl) (hpl : (backTo pos (starEach es X.env)).any (·.1) = false := by rfl) :
    PE X (.Call (.Name x p) (e :: es) [] pos) (tCall sp dvs E t) := by
  intro pins s σ H Q I h
  refine wpAny_Call_Name_kw (ld_glob I hg hm ?_ hdb)
  refine PySem.W.callWith_K (h₀ := X.base) I.ok.mod.kin hk (thn (ha pos pins s σ H _ I h) fun us s1 ⟨vs, H1, I1, r, q⟩ => ⟨I1.kIn, ?_⟩) he hpl
  exact run_fn F hr hb hd hx I1 r q
theorem pe_call0 (F : FnOk X.prog X.w X.K X.mg X.base CX k f fd ps sp) (hr : Room k X.A) (hg : Gl X x) (hm : X.mg x = some (.ref f)) (hk : PySem.W.keepIn X.K (.ref f) = true) (hb : Binds X.K fd ps ds) (hd : Vals dvs ds) (hx : Passes CX X E)
    (hdb : (x == ("__debug__" : Str)) = false := by decide) : PE X (.Call (.Name x p) [] [] pos) (tCall sp dvs E tNil) := by
  intro pins s σ H Q I h
  refine wpAny_Call_Name_kw (ld_glob I hg hm ?_ hdb)
  exact PySem.W.callWith_K0 I.kIn hk (run_fn (us := []) F hr hb hd hx I .nil h)
structure Mk (K : PySem.W.Frag) (C f : Addr) : Prop where
  makes : PySem.W.makesIn K C = true
  init : PySem.W.findIn K (.ref C) "__init__" = some (some (.ref f))
  fn : PySem.W.isFn K (.ref f) = true
  kp : PySem.W.keepIn K (.ref C) = true
theorem run_make {pins : List (Addr × Obj)} {σ : St} {H : Hp} {s : Shared} {Q : VK} {us : List Value} {vs : List V} (M : Mk X.K C f) (F : FnOk X.prog X.w X.K X.mg X.base CX k f fd ps sp) (hr : Room (k + 1) X.A) (hb : Binds X.K fd ps ds) (hd : Vals dvs ds)
    (hx : Passes CX X E) (I : Inv X pins σ H s) (r : Vals vs us)
    (h : ∀ x dx, H x = none → H dx = none → dx ≠ x → sp (.ref x :: (vs ++ dvs)) (upd (upd H dx (.own x)) x (.ins C dx [])) (fun v H2 => v = .non ∧ Q (.ref x) H2) E) :
    wpAny (model X.prog X.w) X.A (call (.ref C) us) (EP X pins σ Q) X.xe s := by
  have hq := h (s.heap.objs.size + 1) s.heap.objs.size (I.hok.fresh (Nat.le_succ _)) (I.hok.fresh (Nat.le_refl _)) (Nat.ne_of_lt (Nat.lt_succ_self _))
  have I2 := Inv.made (C := C) I
  have r2 : Vals (V.ref (s.heap.objs.size + 1) :: (vs ++ dvs)) (Value.ref (s.heap.objs.size + 1) :: (us ++ ds)) := .cons rfl (r.append hd)
  have hl : (Value.ref (s.heap.objs.size + 1) :: us ++ ds).length = ps.length := by
    have e := r2.length
    rw [F.len _ _ _ _ hq] at e
    exact e.symm
  refine wpAny_call (make_map (f := f) I.kIn M.makes M.init (beq_iff_eq.mp M.fn) (codeAny_mono (F.run _ X.stack _ _ ⟨Value.ref (s.heap.objs.size + 1) :: us, []⟩ (Value.ref (s.heap.objs.size + 1) :: (us ++ ds)) _ _ E (hr.make C us [])
    (I2.env0.make C us []) (hb _ (Value.ref (s.heap.objs.size + 1) :: us) I2.kIn hl) r2 hq) fun r s' hq' => ?_))
  cases r with
  | error e => exact hx pins σ _ _ e s' I2 hq'
  | ok fl =>
    cases fl with
    | ret u =>
      obtain ⟨v, H', I3, rv, ev, q3⟩ := I2.after hq'
      subst ev
      exact ⟨rv, ⟨V.ref (s.heap.objs.size + 1), H', I3, rfl, q3⟩⟩
    | next => exact False.elim hq'
    | brk => exact False.elim hq'
    | cont => exact False.elim hq'
theorem pe_make (M : Mk X.K C f) (F : FnOk X.prog X.w X.K X.mg X.base CX k f fd ps sp) (hr : Room (k + 1) X.A) (hg : Gl X x) (hm : X.mg x = some (.ref C)) (hb : Binds X.K fd ps ds) (hd : Vals dvs ds) (hx : Passes CX X E)
    (ha : PA X (e :: es) t) (hdb : (x == ("__debug__" : Str)) = false := by decide) (he : starEach (e :: es) X.env = (false, eval e X.env) :: starEach es X.env := by rfl) (hpl : (backTo pos (starEach es X.env)).any (·.1) = false := by rfl) :
    PE X (.Call (.Name x p) (e :: es) [] pos) (tMake C sp dvs E t) := by
  intro pins s σ H Q I h
  refine wpAny_Call_Name_kw (ld_glob I hg hm ?_ hdb)
  refine PySem.W.callWith_K (h₀ := X.base) I.ok.mod.kin M.kp (thn (ha pos pins s σ H _ I h) fun us s1 ⟨vs, H1, I1, r, q⟩ => ⟨I1.kIn, ?_⟩) he hpl
  exact run_make M F hr hb hd hx I1 r q
end
section
variable {X : Cx} {CX : CXT} {k : Nat} {f C : Addr} {fd : FuncData} {ps ks : List Str} {sp : Sp} {E : XK} {x m : Str} {p pos apos kpos : Pos} {e o : Expr} {es : List Expr} {kws : List Keyword} {te ta : TE} {t tk : TA} {nm : Option Str}
variable {g : List Value → List Value → List Value} {gV : List V → List V → List V}
end
structure FnScope (N P : List Str) (sc : Scope) : Prop where
  kind : sc.kind = .function
  co : sc.isCoroutine = false
  gen : sc.isGenerator = false
  nd : N.Nodup
  pre : N.take P.length = P
  par : ∀ x ∈ P, sc.names.lookup x = some .local ∨ sc.names.lookup x = some .cell
  nofree : ∀ y ∈ sc.names, y.2 ≠ .free
theorem bindL_out {kindOf : Str → Option NameKind} {x : Str} : ∀ {binds : List (Str × Value)} {m : Str → Option Value}, (∀ v, (x, v) ∉ binds) → bindL kindOf binds m x = m x
  | [], _, _ => rfl
  | (n, v) :: r, m, h => by
    unfold bindL
    rw [bindL_out fun w hw => h w (List.mem_cons_of_mem _ hw)]
    split
    · have : x ≠ n := by rintro rfl; exact h v List.mem_cons_self
      simp [this]
    · rfl
theorem bindC_out {kindOf : Str → Option NameKind} {x : Str} : ∀ {binds : List (Str × Value)} {m : Str → Option Value}, (∀ v, (x, v) ∉ binds) → bindC kindOf binds m x = m x
  | [], _, _ => rfl
  | (n, v) :: r, m, h => by
    unfold bindC
    rw [bindC_out fun w hw => h w (List.mem_cons_of_mem _ hw)]
    split
    · rfl
    · have : x ≠ n := by rintro rfl; exact h v List.mem_cons_self
      simp [this]
theorem bindL_get {kindOf : Str → Option NameKind} {x : Str} {v : Value} : ∀ {P : List Str} {vs : List Value} {i : Nat} {m : Str → Option Value}, P.Nodup → P[i]? = some x → vs[i]? = some v → kindOf x = some .local →
    bindL kindOf (P.zip vs) m x = some v
  | [], _, _, _, _, h, _, _ => by simp at h
  | _ :: _, [], _, _, _, _, h, _ => by simp at h
  | p :: P, w :: vs, 0, m, nd, h1, h2, hk => by
    simp at h1 h2; subst h1; subst h2
    show bindL kindOf ((p, w) :: P.zip vs) m p = _
    unfold bindL
    rw [bindL_out fun v hv => (List.nodup_cons.mp nd).1 (List.of_mem_zip hv).1, if_pos hk]
    simp
  | p :: P, w :: vs, i + 1, m, nd, h1, h2, hk => by
    show bindL kindOf ((p, w) :: P.zip vs) m x = _
    unfold bindL
    exact bindL_get (i := i) (List.nodup_cons.mp nd).2 (by simpa using h1) (by simpa using h2) hk
theorem bindC_get {kindOf : Str → Option NameKind} {x : Str} {v : Value} : ∀ {P : List Str} {vs : List Value} {i : Nat} {m : Str → Option Value}, P.Nodup → P[i]? = some x → vs[i]? = some v → kindOf x ≠ some .local →
    bindC kindOf (P.zip vs) m x = some v
  | [], _, _, _, _, h, _, _ => by simp at h
  | _ :: _, [], _, _, _, _, h, _ => by simp at h
  | p :: P, w :: vs, 0, m, nd, h1, h2, hk => by
    simp at h1 h2; subst h1; subst h2
    show bindC kindOf ((p, w) :: P.zip vs) m p = _
    unfold bindC
    rw [bindC_out fun v hv => (List.nodup_cons.mp nd).1 (List.of_mem_zip hv).1, if_neg hk]
    simp
  | p :: P, w :: vs, i + 1, m, nd, h1, h2, hk => by
    show bindC kindOf ((p, w) :: P.zip vs) m x = _
    unfold bindC
    exact bindC_get (i := i) (List.nodup_cons.mp nd).2 (by simpa using h1) (by simpa using h2) hk
def start (N : List Str) (vs : List V) : St := vs.map some ++ List.replicate (N.length - vs.length) none
def cxOf (CX : CXT) (P : Program) (w : World) (K : PySem.W.Frag) (mg : Str → Option Value) (base : Heap) (N : List Str) (qual : Str) (scope : Scope) (f : Addr) (cd : Value) (A : Around) (outer : List Env) (s : Shared) (H : Hp) (E : XK) : Cx where
  prog := P
  w := w
  K := K
  mg := mg
  base := base
  A := A.deeper (envOfC qual scope s.heap.objs.size f cd)
  N := N
  s₀ := s
  H₀ := H
  env := envOfC qual scope s.heap.objs.size f cd
  outer := outer
  stack := envOfC qual scope s.heap.objs.size f cd :: outer
  ex := []
  calm := true
  fn := fun _ => true
  pn := []
  xe := fun e s' => wpAny (model P w) (A.deeper (envOfC qual scope s.heap.objs.size f cd)) (leaving (envOfC qual scope s.heap.objs.size f cd) e) (fun _ s'' => CX outer H s E e s'') (fun e' s'' => CX outer H s E e' s'') s'
theorem cell_has {sc : Scope} {n : Nat} {x : Str} (h : sc.names.lookup x = some .cell) : ∃ c, (cellsFrom n sc.names []).lookup x = some c := by
  have q := PySem.W.cellsFrom_some sc.names n [] (.inl h)
  exact Option.isSome_iff_exists.mp q
theorem inv_start {CX : CXT} {P : Program} {w : World} {K : PySem.W.Frag} {mg : Str → Option Value} {base : Heap} {N ps : List Str} {qual : Str} {scope : Scope} {f : Addr} {cd : Value} {A : Around} {outer : List Env} {s s1 : Shared} {H : Hp} {E : XK} {us : List Value} {vs : List V}
    (S : FnScope N ps scope) (hd : A.handled = none) (e0 : Env0 P w K mg base A outer s H) (hl : vs.length = ps.length) (r : Vals vs us)
    (x : InCallC s s.heap.objs.size (bindL (envOfC qual scope s.heap.objs.size f cd).kindOf (ps.zip us) fun _ => none) (cellsFrom (s.heap.objs.size + 1) scope.names []) (bindC (envOfC qual scope s.heap.objs.size f cd).kindOf (ps.zip us) fun _ => none) s1) :
    Inv (cxOf CX P w K mg base N qual scope f cd A outer s H E) [] (start N vs) H s1 := by
  have hpl : ps.length ≤ N.length := by have := congrArg List.length S.pre; rw [List.length_take] at this; omega
  obtain ⟨h1, tk, rfl, hk⟩ := x.done
  have noA : ∀ b : Addr, b ∉ (cxOf CX P w K mg base N qual scope f cd A outer s H E).ex := fun b z => absurd (show b ∈ ([] : List Addr) from z) (by simp)
  refine ⟨⟨e0.mod, S.kind, rfl, rfl, Nat.le_refl _, fun y z c h1 h2 => ?_, fun y hy => ?_, fun y c _ h => ?_, fun _ => hd, Around.frames_deeper e0.frames, .inr ⟨rfl, rfl⟩, fun b z => absurd z (noA b), e0.bs, e0.bsz, fun b _ _ => noA b, fun b z => absurd z (noA b), e0.funs, e0.frf⟩,
    rfl, e0.bare, Un.kept hk, ⟨_, x.toInCall.ns, fun i y v h1 h2 h3 => ?_⟩, fun y c h => ⟨_, x.cell y c h⟩, e0.hok.fresh (Nat.le_refl _), fun y c h => ?_, fun p hp => absurd (show p ∈ ([] : List (Addr × Obj)) from hp) (by simp), e0.hok.kept hk, ?_⟩
  · exact name_of_addr x.apart (PySem.mem_of_lookup h1) (PySem.mem_of_lookup h2)
  · have hy : scope.names.lookup y = some .cell ∨ scope.names.lookup y = some .free := hy
    rcases hy with hy | hy
    · exact cell_has hy
    · exact absurd rfl (S.nofree _ (PySem.mem_of_lookup hy))
  · exact Nat.le_of_lt (x.above y c (PySem.mem_of_lookup h))
  · have hi : i < vs.length := by
      unfold start at h2
      by_cases hi : i < vs.length
      · exact hi
      · rw [List.getElem?_append_right (by simpa using hi)] at h2
        rw [List.getElem?_replicate] at h2
        split at h2 <;> cases h2
    have ha : vs[i]? = some v := by
      unfold start at h2
      rw [List.getElem?_append_left (by simpa using hi), List.getElem?_map] at h2
      cases e : vs[i]? with
      | none => rw [e] at h2; cases h2
      | some a => rw [e] at h2; cases h2; rfl
    obtain ⟨u, hu, rv⟩ := r.get ha
    have hp : ps[i]? = some y := by
      rw [← S.pre, List.getElem?_take_of_lt (by omega)]; exact h1
    have ndP : ps.Nodup := by rw [← S.pre]; exact S.nd.sublist (List.take_sublist _ _)
    refine ⟨u, rv, ?_⟩
    rcases S.par y (List.mem_of_getElem? hp) with k | k
    · exact .inl ⟨k, bindL_get ndP hp hu k⟩
    · obtain ⟨c, e⟩ := cell_has (n := s.heap.objs.size + 1) k
      refine .inr ⟨.inl k, c, e, ?_⟩
      have q := x.cell y c e
      rw [bindC_get ndP hp hu (by show scope.names.lookup y ≠ _; rw [k]; decide)] at q
      exact q
  · exact e0.hok.fresh (Nat.le_of_lt (x.above y c (PySem.mem_of_lookup h)))
  · unfold start
    show _ = N.length
    rw [List.length_append, List.length_map, List.length_replicate]
    omega
theorem fn_of {CX : CXT} {P : Program} {w : World} {K : PySem.W.Frag} {mg : Str → Option Value} {base : Heap} {k : Nat} {f : Addr} {name qual : Str} {params : Arguments} {body : List Stmt} {scope : Scope} {dV kV doc pm cdv ct oc : Value} {an od : Option Addr}
    {osl : Array (Option Value)} {N ps : List Str} {sp : Sp} (lk : K.lookup f = some ⟨oc, od, .func (PySem.W.fnOf name qual params body scope dV kV doc pm an cdv ct), osl⟩) (hcd : PySem.W.codeIn K cdv qual = true) (S : FnScope N ps scope)
    (len : ∀ vs H Q E, sp vs H Q E → vs.length = ps.length)
    (hbody : ∀ (A : Around) (outer : List Env) (s : Shared) (H : Hp) (vs : List V) (Q : VK) (E : XK), Room k (A.deeper (envOfC qual scope s.heap.objs.size f cdv)) → sp vs H Q E →
      ∃ t, PSs (cxOf CX P w K mg base N qual scope f cdv A outer s H E) body t ∧ t { nx := fun _ H' => Q .non H', rt := Q } (start N vs) H) :
    FnOk P w K mg base CX (k + 1) f (PySem.W.fnOf name qual params body scope dV kV doc pm an cdv ct) ps sp := by
  refine ⟨len, fun A outer s H args us vs Q E hr e0 hb r hsp => ?_⟩
  have hl := len _ _ _ _ hsp
  have KX : K.In s.heap := e0.mod.kin.keeps fun b o e => (e0.bs b o e).1
  have lim : s.heap.NoLimit := e0.mod.nolimit.keeps fun b o e => (e0.bs b o e).1
  have hkind : ∀ y ∈ ps.zip us, scope.names.lookup y.1 = some .local ∨ (scope.names.lookup y.1 = some .cell ∧ ((cellsFrom (s.heap.objs.size + 1) scope.names []).lookup y.1).isSome = true) := fun ⟨n, v⟩ hy => by
    rcases S.par n (List.of_mem_zip hy).1 with q | q
    · exact .inl q
    · exact .inr ⟨q, PySem.W.cellsFrom_some _ _ _ (.inl q)⟩
  refine codeAny_call_function hr.depth (KX _ _ lk) rfl S.co S.gen rfl (PySem.W.codeRec_of KX hcd) (hb _ _ _ _ ?_)
  refine wpAny_newFunctionEnv_cells S.kind hkind fun env he s1 x => ?_
  subst he
  refine ⟨lim.keeps x.toInCall.keep, codeAny_func ?_⟩
  obtain ⟨t, ht, hq⟩ := hbody A outer s H vs Q E (hr.deeper _) hsp
  have I : Inv (cxOf CX P w K mg base N qual scope f cdv A outer s H E) [] (start N vs) H s1 := inv_start S hr.hd e0 hl r x
  refine wpAny_mono (ht [] s1 (start N vs) H _ I hq) (fun fl s' hs => ?_) fun e s' hs => hs
  have fin : ∀ {σ' : St} {H' : Hp} {v : V} {u : Value}, Inv (cxOf CX P w K mg base N qual scope f cdv A outer s H E) [] σ' H' s' → RelV v u → Q v H' → CE outer P w H s Q u s' :=
    fun {σ' H' v u} J rv q => ⟨v, H', J.os, J.bare, J.base, J.hok, rv, q⟩
  cases fl with
  | ret u =>
    obtain ⟨v, σ', H', J, rv, q⟩ := hs
    exact fin J rv q
  | next =>
    obtain ⟨σ', H', J, q⟩ := hs
    exact fin (v := V.non) (u := Value.none) J rfl q
  | brk =>
    obtain ⟨_, _, _, q⟩ := hs
    exact False.elim q
  | cont =>
    obtain ⟨_, _, _, q⟩ := hs
    exact False.elim q
end L2
namespace L2
open PySem PySem.Spec PyProof.Rows
section
variable {X : Cx} {x : Str} {p pos : Pos} {e : Expr} {es : List Expr} {t : TA} {id T : String} {r : List V → Hp → VK → Prop}
def tCB (r : List V → Hp → VK → Prop) (t : TA) : TE := fun σ H Q => t σ H fun vs H1 => r vs H1 Q
theorem pe_callB (hc : CallR X (.builtin id) r) (hg : Gl X x) (hm : X.mg x = none) (hv : bootBuiltins x = some (.builtin id)) (ha : PA X (e :: es) t) (hn : x ≠ "__name__" := by decide) (hdb : (x == ("__debug__" : Str)) = false := by decide)
    (he : starEach (e :: es) X.env = (false, eval e X.env) :: starEach es X.env := by rfl) (hpl : (backTo pos (starEach es X.env)).any (·.1) = false := by rfl) : PE X (.Call (.Name x p) (e :: es) [] pos) (tCB r t) := by
  intro pins s σ H Q I h
  refine wpAny_Call_Name_kw (ld_blt I hg hm hv ?_ hn hdb)
  exact PyProof.Rows.callWith_builtin1 (thn (ha pos pins s σ H _ I h) fun us s1 ⟨vs, H1, I1, r1, q1⟩ => hc pins s1 σ H1 vs us Q I1 r1 q1) he hpl
theorem pe_callTy (hc : CallR X (.type T) r) (hg : Gl X x) (hm : X.mg x = none) (hv : bootBuiltins x = some (.type T)) (ha : PA X (e :: es) t) (hn : x ≠ "__name__" := by decide) (hdb : (x == ("__debug__" : Str)) = false := by decide)
    (he : starEach (e :: es) X.env = (false, eval e X.env) :: starEach es X.env := by rfl) (hpl : (backTo pos (starEach es X.env)).any (·.1) = false := by rfl) : PE X (.Call (.Name x p) (e :: es) [] pos) (tCB r t) := by
  intro pins s σ H Q I h
  refine wpAny_Call_Name_kw (ld_blt I hg hm hv ?_ hn hdb)
  exact PyProof.Rows.callWith_type1 (thn (ha pos pins s σ H _ I h) fun us s1 ⟨vs, H1, I1, r1, q1⟩ => hc pins s1 σ H1 vs us Q I1 r1 q1) he hpl
end
end L2
namespace HT
open PySem PyProof.Rows
section
open PySem.SeqAt
open PySem.AutoSeq1 (wpAny_loadPart')
open PySem.MeetsSeq PySem.MeetsSeq2 PySem.MeetsSeq3
end
section
variable {prog : Program} {w : World} {A : Around} {E : Value → Shared → Prop} {s : Shared}
def sIx (n d : Nat) : Option Int → Nat
  | none => d
  | some v => if v < 0 then (v + (n : Int)).toNat else min v.toNat n
end
end HT
namespace L2
open PySem PySem.Spec PyProof.Rows
section
variable {X : Cx} {e : Expr} {te : TE} {lo hi : Option Expr} {tl th : TO} {pos p2 : Pos}
def SlR (X : Cx) (r : V → Option Int → Option Int → Hp → VK → Prop) : Prop :=
  ∀ (pins : List (Addr × Obj)) (s : Shared) (σ : St) (H : Hp) (x : V) (v vl vu : Value) (lo hi : Option Int) (sl : Addr) (Q : VK), Inv X pins σ H s → RelV x v → s.heap.IsSliceOf sl vl vu .none → IsPart vl lo → IsPart vu hi → r x lo hi H Q →
    ∃ T id, typeLookup (.type T) "__getitem__" = pure (some (.builtin id)) ∧ s.TypeIs v T ∧ wpAny (model X.prog X.w) X.A (getItem v (.ref sl)) (EP X pins σ Q) X.xe s
def cutV (xs : List V) (lo hi : Option Int) : List V := (xs.drop (HT.sIx xs.length 0 lo)).take (HT.sIx xs.length xs.length hi - HT.sIx xs.length 0 lo)
theorem cutV_length (xs : List V) (lo hi : Option Int) : (cutV xs lo hi).length ≤ xs.length := by
  unfold cutV
  rw [List.length_take, List.length_drop]
  omega
end
end L2
namespace L2
open PySem PySem.Spec PyProof.Rows
def ixN (n : Nat) (i : Int) : Option Nat := if 0 ≤ i then (if i < n then some i.toNat else none) else if -(n : Int) ≤ i then some (i + n).toNat else none
def atI {α : Type} (xs : List α) (i : Int) : Option α := (ixN xs.length i).bind fun j => xs[j]?
theorem ixN_seq {n : Nat} {i : Int} {j : Nat} (h : ixN n i = some j) : seqIndex? i n = some j ∧ j < n ∧ -(n : Int) ≤ i ∧ i < n := by
  unfold ixN at h
  by_cases h0 : 0 ≤ i
  · rw [if_pos h0] at h
    by_cases h1 : i < n
    · rw [if_pos h1] at h
      have e : i.toNat = j := Option.some.inj h
      exact ⟨by rw [seqIndex_of h0 h1, e], by omega, by omega, h1⟩
    · rw [if_neg h1] at h; cases h
  · rw [if_neg h0] at h
    by_cases h1 : -(n : Int) ≤ i
    · rw [if_pos h1] at h
      have e : (i + n).toNat = j := Option.some.inj h
      exact ⟨by rw [seqIndex_neg (by omega) h1, e], by omega, h1, by omega⟩
    · rw [if_neg h1] at h; cases h
theorem atI_get {α : Type} {xs : List α} {i : Int} {v : α} (h : atI xs i = some v) : ∃ j, seqIndex? i xs.length = some j ∧ xs[j]? = some v ∧ j < xs.length ∧ -(xs.length : Int) ≤ i ∧ i < xs.length := by
  unfold atI at h
  cases e : ixN xs.length i with
  | none => rw [e] at h; cases h
  | some j =>
    rw [e] at h
    obtain ⟨h1, h2, h3, h4⟩ := ixN_seq e
    exact ⟨j, h1, h, h2, h3, h4⟩
theorem atI_nat {α : Type} {xs : List α} {j : Nat} {v : α} (h : xs[j]? = some v) : atI xs (j : Int) = some v := by
  have hj : j < xs.length := (List.getElem?_eq_some_iff.mp h).1
  have e : ixN xs.length (j : Int) = some j := by
    unfold ixN
    rw [if_pos (by omega), if_pos (by omega)]; simp
  unfold atI; rw [e]; exact h
def PlainIx (b : Expr) : Prop := ∀ o i, subscripted b false o i = operate [o, i] (getItem o i)
def IxR (X : Cx) (r : R2) : Prop :=
  ∀ (value slice : Expr) (pins : List (Addr × Obj)) (s : Shared) (σ : St) (H : Hp) (x y : V) (v u : Value) (Q : VK), Inv X pins σ H s → RelV x v → RelV y u → r x y H Q →
    subscripted slice false v u = operate [v, u] (getItem v u) → wpAny (model X.prog X.w) X.A (subscriptTail value slice v u) (EP X pins σ Q) X.xe s
def MtR (X : Cx) (id : String) (r : V → List V → Hp → VK → Prop) : Prop :=
  ∀ (pins : List (Addr × Obj)) (s : Shared) (σ : St) (H : Hp) (x : V) (xs : List V) (v : Value) (us : List Value) (Q : VK), Inv X pins σ H s → RelV x v → Vals xs us → r x xs H Q →
    wpAny (model X.prog X.w) X.A (call (.builtin id) (v :: us)) (EP X pins σ Q) X.xe s
section
variable {X : Cx} {a b : Expr} {ta tb : TE} {pos : Pos}
theorem pe_ix {r : R2} (hr : IxR X r) (ha : PE X a ta) (hb : PE X b tb) (hs : PlainIx b) : PE X (.Subscript a b pos) (tOp r ta tb) := by
  intro pins s σ H Q I h
  exact Subscript_ (binT ha hb I h fun v u s2 x y H2 I2 rx ry q => hr a b pins s2 σ H2 x y v u Q I2 rx ry q (hs _ _))
def rIxL (K : PySem.W.Frag) : R2 := fun x y H Q => ∃ p xs i v, x = .ref p ∧ y = .int i ∧ SqL K H p xs ∧ atI xs i = some v ∧ Q v H
def rIxT (K : PySem.W.Frag) : R2 := fun x y H Q => ∃ p xs i v, x = .ref p ∧ y = .int i ∧ SqT K H p xs ∧ atI xs i = some v ∧ Q v H
theorem ix_list : IxR X (rIxL X.K) := by
  intro value slice pins s σ H x y v u Q I rx ry h hs
  obtain ⟨p, xs, i, z, rfl, rfl, hq, he, q⟩ := h
  cases rx
  obtain ⟨t, rfl⟩ := ry
  obtain ⟨its, r, pl, hz⟩ := I.list hq
  obtain ⟨j, h1, h2, h3, h4, h5⟩ := atI_get he
  obtain ⟨w, ew, rw'⟩ := r.get h2
  have hl := r.length
  have hn := line63
  have fin : EP X pins σ Q w s := ⟨z, H, I, rw', q⟩
  by_cases h0 : 0 ≤ i
  · have hj : i.toNat = j := by
      rw [seqIndex_of h0 h5] at h1
      exact Option.some.inj h1
    exact item_listR pl.isList h0 (by omega) (by rw [hj]; simpa using ew) fin hs
  · have hj : (i + (its.toArray.size : Int)).toNat = j := by
      rw [seqIndex_neg (by omega) h4] at h1
      rw [List.size_toArray, ← hl]
      exact Option.some.inj h1
    exact subscriptTail_builtinR (x := w) pl.isList.typeIs slot_list_getitem.lookup
      (wpAny_getItem_list_neg (Q := fun r s' => r = w ∧ EP X pins σ Q r s') pl.isList (by omega) (by rw [List.size_toArray] <;> omega) (by omega) (by rw [hj]; simpa using ew) ⟨rfl, fin⟩) hs
theorem ix_tup : IxR X (rIxT X.K) := by
  intro value slice pins s σ H x y v u Q I rx ry h hs
  obtain ⟨p, xs, i, z, rfl, rfl, hq, he, q⟩ := h
  cases rx
  obtain ⟨t, rfl⟩ := ry
  obtain ⟨its, r, pl, hz⟩ := I.tuple hq
  obtain ⟨j, h1, h2, h3, h4, h5⟩ := atI_get he
  obtain ⟨w, ew, rw'⟩ := r.get h2
  have hl := r.length
  have hn := line63
  have fin : EP X pins σ Q w s := ⟨z, H, I, rw', q⟩
  exact subscriptTail_builtinR (x := w) pl.typeIs slot_tuple_getitem.lookup
    (getItem_tuple (j := j) (Q := fun r s' => r = w ∧ EP X pins σ Q r s') pl (by omega) (by omega) (by rw [List.size_toArray, ← hl]; exact h1) (by simpa using ew) ⟨rfl, fin⟩) hs
theorem slice_bounds (lo hi : Option Int) (n : Nat) : (sliceBounds lo hi none n).1 = ((HT.sIx n 0 lo : Nat) : Int) ∧ (sliceBounds lo hi none n).2.1 = ((HT.sIx n n hi : Nat) : Int) ∧ (sliceBounds lo hi none n).2.2 = 1 := by
  refine ⟨?_, ?_, rfl⟩
  · cases lo with
    | none => simp [sliceBounds, HT.sIx]
    | some i =>
      simp only [sliceBounds, HT.sIx, Option.getD_none, show (1 : Int) > 0 by decide, if_true]
      by_cases h : i < 0
      · simp only [h, if_true] <;> omega
      · simp only [h, if_false] <;> omega
  · cases hi with
    | none => simp [sliceBounds, HT.sIx]
    | some i =>
      simp only [sliceBounds, HT.sIx, Option.getD_none, show (1 : Int) > 0 by decide, if_true]
      by_cases h : i < 0
      · simp only [h, if_true] <;> omega
      · simp only [h, if_false] <;> omega
theorem slicePick_cut (its : List Value) (lo hi : Option Int) : slicePick its.toArray lo hi none = ((its.drop (HT.sIx its.length 0 lo)).take (HT.sIx its.length its.length hi - HT.sIx its.length 0 lo)).toArray := by
  obtain ⟨h1, h2, h3⟩ := slice_bounds lo hi its.toArray.size
  unfold slicePick
  rw [h1, h2, h3]
  simp only [sliceRange_one, pick_run, List.size_toArray] <;> rfl
def rSlL (K : PySem.W.Frag) : V → Option Int → Option Int → Hp → VK → Prop := fun x lo hi H Q => ∃ a xs, x = .ref a ∧ SqL K H a xs ∧ ∀ p, H p = none → Q (.ref p) (upd H p (.lst (cutV xs lo hi)))
theorem sl_list : SlR X (rSlL X.K) := by
  intro pins s σ H x v vl vu lo hi sl Q I rx hs pl pu h
  obtain ⟨a, xs, rfl, hx, q⟩ := h
  cases rx
  obtain ⟨its, r, ht, hz⟩ := I.list hx
  have hlen := r.length
  refine ⟨"list", _, slot_list_getitem.lookup, ht.isList.typeIs, ?_⟩
  refine wpAny_getItem_list_slice ht.isList hs pl pu .none (by simp) ?_ (by rw [List.size_toArray] <;> omega)
  rw [slicePick_cut, ← hlen]
  refine ⟨.ref s.heap.objs.size, _, I.laid (t' := s.toks) (o := .lst (cutV xs lo hi)) (fun b ob q => Heap.get?_push_of_some _ q) (Nat.le_refl _) ?_, rfl, q _ (I.hok.fresh (Nat.le_refl _))⟩
  exact ⟨Nat.le_trans (cutV_length xs lo hi) hz, _, 0, (r.drop (HT.sIx xs.length 0 lo)).take (HT.sIx xs.length xs.length hi - HT.sIx xs.length 0 lo), Heap.get?_push_size _ rfl⟩
theorem call_len_seq : CallR X (.builtin "len") (fun xs H Q => ∃ p ys, xs = [.ref p] ∧ (SqL X.K H p ys ∨ SqT X.K H p ys) ∧ Q (.int ys.length) H) := by
  intro pins s σ H xs us Q I r h
  obtain ⟨p, ys, rfl, hq, q⟩ := h
  obtain ⟨u, rfl, rx⟩ := vals1 r
  cases rx
  have hn := line63
  rcases hq with hq | hq
  · obtain ⟨its, r', pl, hz⟩ := I.list hq
    have hlen := r'.length
    exact Calls.call_len_list pl.isList (by simp only [List.size_toArray] <;> omega) ⟨.int ys.length, H, I.tok _, ⟨s.toks + 1, by rw [List.size_toArray, hlen]⟩, q⟩
  · obtain ⟨its, r', pl, hz⟩ := I.tuple hq
    have hlen := r'.length
    exact len_tuple pl (by simp only [List.size_toArray] <;> omega) ⟨.int ys.length, H, I.tok _, ⟨s.toks + 1, by rw [List.size_toArray, hlen]⟩, q⟩
theorem call_list_of : CallR X (.type "list") (fun xs H Q => ∃ p ys, xs = [.ref p] ∧ (SqL X.K H p ys ∨ SqT X.K H p ys) ∧ ∀ l, H l = none → Q (.ref l) (upd H l (.lst ys))) := by
  intro pins s σ H xs us Q I r h
  obtain ⟨p, ys, rfl, hq, q⟩ := h
  obtain ⟨u, rfl, rx⟩ := vals1 r
  cases rx
  have fin : ∀ (its : List Value), Vals ys its → ys.length ≤ sizeLine → ∀ (h' : Heap) (c' : Nat), (∀ b o', s.heap.get? b = some o' → h'.get? b = some o') →
      h'.get? s.heap.objs.size = some { cls := .type "list", dict := none, data := .seq its.toArray c', slots := #[] } → EP X pins σ Q (.ref s.heap.objs.size) { s with heap := h' } := fun its r' hz h' c' kp e =>
    ⟨.ref s.heap.objs.size, _, I.laid (t' := s.toks) kp (Nat.le_refl _) (show ObjOk X.prog X.w _ h' _ (.lst ys) from ⟨hz, its, c', r', e⟩), rfl, q _ (I.hok.fresh (Nat.le_refl _))⟩
  rcases hq with hq | hq
  · obtain ⟨its, r', pl, hz⟩ := I.list hq
    have hlen := r'.length
    obtain ⟨o, ho, hc, n, hd⟩ := pl.isList
    exact call_list_seq p (.inl rfl) ho hc hd (fun h' c' kp e => fin its r' hz h' c' kp e) (by simp only [List.size_toArray] <;> omega)
  · obtain ⟨its, r', pl, hz⟩ := I.tuple hq
    have hlen := r'.length
    obtain ⟨o, ho, hc, n, hd⟩ := pl
    exact call_list_seq p (.inr rfl) ho hc hd (fun h' c' kp e => fin its r' hz h' c' kp e) (by simp only [List.size_toArray] <;> omega)
def tyV (K : PySem.W.Frag) (T : String) (x : V) (H : Hp) : Prop := match x with
  | .str _ => T = "str"
  | .int _ => T = "int"
  | .ref p => (T = "list" ∧ ∃ xs, SqL K H p xs) ∨ (T = "tuple" ∧ ∃ o, K.lookup p = some o ∧ o.cls = .type "tuple" ∧ o.dict = none) ∨
      (T = "dict" ∧ ((∃ kvs, H p = some (.dK kvs)) ∨ ∃ kvs, H p = some (.dT kvs))) ∨ (T = "set" ∧ ∃ S n, H p = some (.set S n))
  | _ => False
theorem tyV_is {pins : List (Addr × Obj)} {σ : St} {H : Hp} {s : Shared} {T : String} {x : V} {v : Value} (I : Inv X pins σ H s) (r : RelV x v) (ty : tyV X.K T x H) :
    s.TypeIs v T ∧ ∀ a, v = .ref a → ∃ ob, s.heap.get? a = some ob ∧ ob.dict = none := by
  cases x with
  | str z =>
    obtain ⟨t, rfl⟩ := r
    cases (show T = "str" from ty)
    exact ⟨typeIs_str s z t, fun _ e => nomatch e⟩
  | int i =>
    obtain ⟨t, rfl⟩ := r
    cases (show T = "int" from ty)
    exact ⟨typeIs_int s i t, fun _ e => nomatch e⟩
  | ref p =>
    cases r
    rcases ty with ⟨rfl, xs, hq⟩ | ⟨rfl, o, hk, hc, hd⟩ | ⟨rfl, hk⟩ | ⟨rfl, S, n, hk⟩
    · obtain ⟨its, _, pl, _⟩ := I.list hq
      refine ⟨pl.isList.typeIs, fun a e => ?_⟩
      cases e
      obtain ⟨o, n, e, c, hd, _⟩ := pl
      exact ⟨o, e, hd⟩
    · refine ⟨⟨o, I.kIn p o hk, hc⟩, fun a e => ?_⟩
      cases e
      exact ⟨o, I.kIn _ o hk, hd⟩
    · have z : ∃ o, s.heap.get? p = some o ∧ o.ExactDict := by
        rcases hk with ⟨kvs, hk⟩ | ⟨kvs, hk⟩
        · obtain ⟨_, _, _, _, o, _, _, e, ex, _⟩ := I.hok p _ hk
          exact ⟨o, e, ex⟩
        · obtain ⟨_, _, _, _, o, _, _, e, ex, _⟩ := I.hok p _ hk
          exact ⟨o, e, ex⟩
      obtain ⟨o, e, ex⟩ := z
      refine ⟨⟨o, e, ex.1⟩, fun a e2 => ?_⟩
      cases e2
      exact ⟨o, e, ex.2.1⟩
    · obtain ⟨o, _, _, _, e, ex, _⟩ := I.hok p _ hk
      refine ⟨⟨o, e, ex.1⟩, fun a e2 => ?_⟩
      cases e2
      exact ⟨o, e, ex.2.1⟩
  | _ => exact False.elim ty
def tBM0 (K : PySem.W.Frag) (T : String) (r : V → List V → Hp → VK → Prop) (to : TE) : TE := fun σ H Q => to σ H fun x H1 => tyV K T x H1 ∧ r x [] H1 Q
def tBM (K : PySem.W.Frag) (T : String) (r : V → List V → Hp → VK → Prop) (to : TE) (t : TA) : TE := fun σ H Q => to σ H fun x H1 => tyV K T x H1 ∧ t σ H1 fun xs H2 => r x xs H2 Q
variable {o e : Expr} {es : List Expr} {to : TE} {t : TA} {name : Str} {apos cpos : Pos} {T id : String} {r : V → List V → Hp → VK → Prop}
theorem pe_bm0 (pa : PlainAttrs T) (slot : Slot T name id) (hty : typeOf (.builtin id) = pure (.type "method_descriptor")) (hm : MtR X id r) (ho : PE X o to)
    (hbase : attributeBase o name X.env (eval o X.env) = eval o X.env := by rfl) (hline : (apos.endLine == cpos.line) = true := by rfl) : PE X (.Call (.Attribute o name apos) [] [] cpos) (tBM0 X.K T r to) := by
  intro pins s σ H Q I h
  refine wpAny_Call_method0_late hbase hline (thn (ho pins s σ H _ I h) fun v s1 ⟨x, H1, I1, r1, ty, q1⟩ => ?_)
  obtain ⟨h1, h2⟩ := tyV_is I1 r1 ty
  exact ⟨T, id, pa, slot, hty, h1, h2, Calls.callWith_builtin rfl (PySem.evalArgs_none (hm pins s1 σ H1 x [] v [] Q I1 r1 .nil q1))⟩
theorem pe_bm (pa : PlainAttrs T) (slot : Slot T name id) (hty : typeOf (.builtin id) = pure (.type "method_descriptor")) (hm : MtR X id r) (ho : PE X o to) (ha : PA X (e :: es) t)
    (hbase : attributeBase o name X.env (eval o X.env) = eval o X.env := by rfl)
    (hfew : ((backTo cpos (starEach (e :: es) X.env)).all (fun x => !x.1) && (backToKw cpos (keywordEach [] X.env)).all (fun x => x.1.isSome)
      && decide ((e :: es).length + ([] : List Keyword).length + (if ([] : List Keyword).isEmpty then 0 else 1) < 30)) = true := by rfl)
    (hline : (apos.endLine == cpos.line) = true := by rfl) (hs : starEach (e :: es) X.env = (false, eval e X.env) :: starEach es X.env := by rfl) (hplain : (backTo cpos (starEach es X.env)).any (·.1) = false := by rfl) :
    PE X (.Call (.Attribute o name apos) (e :: es) [] cpos) (tBM X.K T r to t) := by
  intro pins s σ H Q I h
  refine wpAny_Call_method_late hbase hfew hline rfl (thn (ho pins s σ H _ I h) fun v s1 ⟨x, H1, I1, r1, ty, q1⟩ => ?_)
  obtain ⟨h1, h2⟩ := tyV_is I1 r1 ty
  refine ⟨T, id, pa, slot, hty, h1, h2, ?_⟩
  have hA := ha cpos pins s1 σ H1 _ I1 q1
  rw [hs] at hA ⊢
  refine Calls.callWith_builtin (by show (false || (backTo cpos (starEach es X.env)).any (·.1)) = false; rw [hplain] <;> rfl) (Calls.evalArgs_plain ?_)
  exact thn hA fun us s2 ⟨vs, H2, I2, r2, q2⟩ => hm pins s2 σ H2 x vs v us Q I2 r1 r2 q2
end
end L2
namespace L2
open PySem PySem.Spec PyProof.Rows
def MtM (X : Cx) (id : String) (r : V → List V → Hp → VK → Prop) : Prop :=
  ∀ (pins : List (Addr × Obj)) (s : Shared) (σ : St) (H : Hp) (x : V) (xs : List V) (v : Value) (us : List Value) (Q : VK), Inv X pins σ H s → RelV x v → Vals xs us → r x xs H Q →
    wpAny (model X.prog X.w) X.A (call (.builtin id) (v :: us)) (EP X pins σ Q) X.xe s
theorem Vals.one : ∀ {x : V} {us : List Value}, Vals [x] us → ∃ u, us = [u] ∧ RelV x u
  | _, _, .cons r .nil => ⟨_, rfl, r⟩
theorem Vals.two : ∀ {x y : V} {us : List Value}, Vals [x, y] us → ∃ u v, us = [u, v] ∧ RelV x u ∧ RelV y v
  | _, _, _, .cons r (.cons q .nil) => ⟨_, _, rfl, r, q⟩
theorem Vals.zero : ∀ {us : List Value}, Vals [] us → us = []
  | _, .nil => rfl
theorem Vals.dropLast {xs : List V} {us : List Value} (h : Vals xs us) : Vals xs.dropLast us.dropLast := by
  induction h with
  | nil => exact .nil
  | cons r t ih =>
    cases t with
    | nil => exact .nil
    | cons q t' => exact .cons r ih
theorem Vals.reverse {xs : List V} {us : List Value} (h : Vals xs us) : Vals xs.reverse us.reverse := by
  induction h with
  | nil => exact .nil
  | cons r t ih => rw [List.reverse_cons, List.reverse_cons]; exact Vals.append ih (.cons r .nil)
theorem erase_last {α : Type} (l : List α) : l.eraseIdx (l.length - 1) = l.dropLast := by
  induction l with
  | nil => rfl
  | cons a r ih =>
    cases r with
    | nil => rfl
    | cons b r =>
      have e : (a :: b :: r).length - 1 = ((b :: r).length - 1) + 1 := by
        have h1 : (a :: b :: r).length = r.length + 2 := rfl
        have h2 : (b :: r).length = r.length + 1 := rfl
        omega
      rw [e, List.eraseIdx_cons_succ, ih]
      all_goals rfl
section
variable {X : Cx} {pins : List (Addr × Obj)} {σ : St} {H : Hp} {s : Shared} {l b : Addr} {xs ys zs : List V}
theorem Inv.lset {its its' : List Value} {n : Nat} {f : Array Value → Array Value} {t' : Nat} (I : Inv X pins σ H s) (hH : H l = some (.lst xs))
    (e : s.heap.get? l = some { cls := .type "list", data := .seq its.toArray n }) (hf : f its.toArray = its'.toArray) (hv : Vals ys its') (hz : ys.length ≤ sizeLine) :
    Inv X pins σ (upd H l (.lst ys)) { s with heap := s.heap.update l (Obj.mapSeq f), toks := t' } := by
  have q := PySem.IsL.update e f
  rw [hf] at q
  refine I.write (x := l) (e := l) (by rw [hH]; exact trivial) (.inl rfl) (fun b' u hb hu => (Heap.get?_update_other s.heap (Obj.mapSeq f) (Ne.symm hb)).trans hu) ⟨_, q⟩ ?_
  exact ⟨hz, its', _, hv, q⟩
theorem Inv.lnew {its : List Value} {t' : Nat} (I : Inv X pins σ H s) (hv : Vals ys its) (hz : ys.length ≤ sizeLine) :
    Inv X pins σ (upd H s.heap.objs.size (.lst ys)) { s with heap := s.heap.push { cls := .type "list", data := .seq its.toArray }, toks := t' } :=
  I.laid (fun _ _ q => Heap.get?_push_of_some _ q) (Nat.le_refl _) ⟨hz, its, 0, hv, Heap.get?_push_size _ rfl⟩
theorem Inv.fresh (I : Inv X pins σ H s) : H s.heap.objs.size = none := I.hok.fresh (Nat.le_refl _)
theorem Inv.lstM (I : Inv X pins σ H s) (hH : H l = some (.lst xs)) : xs.length ≤ sizeLine ∧ ∃ (its : List Value) (n : Nat), Vals xs its ∧ xs.length = its.length ∧ s.heap.get? l = some { cls := .type "list", data := .seq its.toArray n } := by
  obtain ⟨z, its, n, r, e⟩ := I.hok l _ hH
  exact ⟨z, its, n, r, r.length, e⟩
theorem notLongL {n : Nat} (h : n ≤ sizeLine) : Builtin.List.listTooLong n = false := by
  unfold Builtin.List.listTooLong
  exact decide_eq_false (by omega)
end
section
variable {X : Cx}
def rAppend : V → List V → Hp → VK → Prop := fun x vs H Q => ∃ l xs y, x = .ref l ∧ vs = [y] ∧ H l = some (.lst xs) ∧ xs.length < sizeLine ∧ Q .non (upd H l (.lst (xs ++ [y])))
theorem mt_append : MtM X "list.append" rAppend := by
  intro pins s σ H x vs v us Q I rx rv h
  obtain ⟨l, xs, y, rfl, rfl, hH, hz, q⟩ := h
  cases rx
  obtain ⟨u, rfl, ru⟩ := rv.one
  obtain ⟨z, its, n, r, hl, e⟩ := I.lstM hH
  refine call_meets F.slot_list_append ⟨_, e, rfl⟩ F.entry_list_append (F.args_list_append_2 _ _) (PySem.list_append l its.toArray n u (by rw [List.size_toArray]; omega)) ⟨e, ?_⟩
  refine ⟨.non, _, I.lset (its' := its ++ [u]) hH e (by simp) (r.append (.cons ru .nil)) ?_, rfl, q⟩
  rw [List.length_append, List.length_singleton]
  omega
def rExtend : V → List V → Hp → VK → Prop := fun x vs H Q => ∃ l b xs zs, x = .ref l ∧ vs = [.ref b] ∧ H l = some (.lst xs) ∧ H b = some (.lst zs) ∧ xs.length + zs.length ≤ sizeLine ∧ Q .non (upd H l (.lst (xs ++ zs)))
theorem mt_extend : MtM X "list.extend" rExtend := by
  intro pins s σ H x vs v us Q I rx rv h
  obtain ⟨l, b, xs, zs, rfl, rfl, hH, hB, hz, q⟩ := h
  cases rx
  obtain ⟨u, rfl, ru⟩ := rv.one
  cases ru
  obtain ⟨z, its, n, r, hl, e⟩ := I.lstM hH
  obtain ⟨z2, its2, n2, r2, hl2, e2⟩ := I.lstM hB
  have hsz : its.toArray.size + its2.toArray.size ≤ sizeLine := by rw [List.size_toArray, List.size_toArray]; omega
  have hlong : ¬ (!its.toArray.isEmpty && Builtin.List.listTooLong (its.toArray.size + its2.toArray.size)) = true := by
    rw [notLongL hsz, Bool.and_false]
    exact Bool.false_ne_true
  refine call_meets F.slot_list_extend ⟨_, e, rfl⟩ F.entry_list_extend (F.args_list_extend_2 _ _)
    (AutoSeq1.list_extend_list_list_0 l its.toArray n b its2.toArray n2 hlong (by rw [List.size_toArray]; omega) (by omega)) ⟨e, e2, ?_⟩
  refine ⟨.non, _, I.lset (its' := its ++ its2) hH e (by simp) (r.append r2) ?_, rfl, q⟩
  rw [List.length_append]
  omega
def rPop : V → List V → Hp → VK → Prop := fun x vs H Q => ∃ l xs y, x = .ref l ∧ vs = [] ∧ H l = some (.lst xs) ∧ xs[xs.length - 1]? = some y ∧ Q y (upd H l (.lst xs.dropLast))
theorem mt_pop : MtM X "list.pop" rPop := by
  intro pins s σ H x vs v us Q I rx rv h
  obtain ⟨l, xs, y, rfl, rfl, hH, hy, q⟩ := h
  cases rx
  have hus := rv.zero
  subst hus
  obtain ⟨z, its, n, r, hl, e⟩ := I.lstM hH
  obtain ⟨u, hu, ru⟩ := r.get hy
  have hy' : its.toArray[its.toArray.size - 1]? = some u := by
    show its.toArray[its.length - 1]? = some u
    rw [← Array.getElem?_toList, ← hl]
    exact hu
  refine call_meets F.slot_list_pop ⟨_, e, rfl⟩ F.entry_list_pop (F.args_list_pop_1 _) (MeetsSeq.list_pop_last l its.toArray n u hy' (by rw [List.size_toArray]; omega)) ⟨e, ?_⟩
  refine ⟨y, _, I.lset (its' := its.dropLast) hH e ?_ r.dropLast ?_, ru, q⟩
  · show its.toArray.eraseIdxIfInBounds (its.toArray.size - 1) = its.dropLast.toArray
    rw [List.size_toArray, List.eraseIdxIfInBounds_toArray, erase_last]
  · rw [List.length_dropLast]
    omega
def rClear : V → List V → Hp → VK → Prop := fun x vs H Q => ∃ l xs, x = .ref l ∧ vs = [] ∧ H l = some (.lst xs) ∧ Q .non (upd H l (.lst []))
theorem mt_clear : MtM X "list.clear" rClear := by
  intro pins s σ H x vs v us Q I rx rv h
  obtain ⟨l, xs, rfl, rfl, hH, q⟩ := h
  cases rx
  have hus := rv.zero
  subst hus
  obtain ⟨z, its, n, r, hl, e⟩ := I.lstM hH
  refine call_meets F.slot_list_clear ⟨_, e, rfl⟩ F.entry_list_clear (F.args_list_clear_1 _) (AutoSeq1.list_clear_list_0 l its.toArray n (by rw [List.size_toArray]; omega)) ⟨e, ?_⟩
  exact ⟨.non, _, I.lset (its' := []) (ys := []) hH e rfl .nil (Nat.zero_le _), rfl, q⟩
def rCat : R2 := fun x y H Q => ∃ l b xs zs, x = .ref l ∧ y = .ref b ∧ H l = some (.lst xs) ∧ H b = some (.lst zs) ∧ xs.length + zs.length ≤ sizeLine ∧ ∀ p, H p = none → Q (.ref p) (upd H p (.lst (xs ++ zs)))
theorem op_cat : OpR X (binaryOp .Add) rCat := by
  intro pins s σ H x y v u Q I rx ry h
  obtain ⟨l, b, xs, zs, rfl, rfl, hH, hB, hz, q⟩ := h
  cases rx
  cases ry
  obtain ⟨z, its, n, r, hl, e⟩ := I.lstM hH
  obtain ⟨z2, its2, n2, r2, hl2, e2⟩ := I.lstM hB
  refine PySem.P.add_list e e2 ?_ (by rw [List.size_toArray, List.size_toArray]; omega)
  have ea : its.toArray ++ its2.toArray = (its ++ its2).toArray := by simp
  rw [ea]
  exact ⟨.ref _, _, I.lnew (t' := s.toks) (r.append r2) (by rw [List.length_append]; omega), rfl, q _ I.fresh⟩
end
section
variable {prog : Program} {w : World} {A : Around} {E : Value → Shared → Prop} {s : Shared}
end
section
variable {X : Cx}
end
end L2
namespace L2
open PySem PySem.Spec PyProof.Rows
section
variable {κ : Type} [DecidableEq κ]
def valV (kvs : List (κ × V)) (k : κ) : Option V := (kvs.find? fun kv => decide (kv.1 = k)).map (·.2)
def putK (kvs : List (κ × V)) (k : κ) (v : V) : List (κ × V) :=
  if (kvs.any fun kv => decide (kv.1 = k)) = true then kvs.map (fun kv => if kv.1 = k then (kv.1, v) else kv) else kvs ++ [(k, v)]
theorem valV_pos {p : κ × V} {r : List (κ × V)} {k : κ} (e : p.1 = k) : valV (p :: r) k = some p.2 := by simp [valV, List.find?_cons, e]
theorem valV_neg {p : κ × V} {r : List (κ × V)} {k : κ} (e : ¬ p.1 = k) : valV (p :: r) k = valV r k := by simp [valV, List.find?_cons, e]
theorem valV_any (k : κ) : ∀ kvs : List (κ × V), (kvs.any fun kv => decide (kv.1 = k)) = (valV kvs k).isSome
  | [] => rfl
  | p :: r => by
    rw [List.any_cons]
    by_cases e : p.1 = k
    · simp only [valV_pos e, decide_eq_true e, Bool.true_or, Option.isSome_some]
    · rw [valV_neg e, decide_eq_false e, Bool.false_or]; exact valV_any k r
theorem length_putK (kvs : List (κ × V)) (k : κ) (v : V) : (putK kvs k v).length ≤ kvs.length + 1 := by
  unfold putK
  split
  · rw [List.length_map]; omega
  · rw [List.length_append, List.length_cons, List.length_nil]; omega
theorem RelO.isSome_eq {o : Option V} {u : Option Value} (r : RelO o u) : o.isSome = u.isSome := by
  cases o with
  | none => cases u with
    | none => rfl
    | some _ => exact (show False from r).elim
  | some _ => cases u with
    | none => exact (show False from r).elim
    | some _ => rfl
theorem KV.val {kvs : List (κ × V)} {vs : List (κ × Value)} (r : KV kvs vs) (k : κ) : RelO (valV kvs k) (valueAt vs k) := by
  unfold KV at r
  induction r with
  | nil => exact True.intro
  | @cons p q ps qs h t ih =>
    obtain ⟨h1, h2⟩ := h
    by_cases e : p.1 = k
    · have e' : q.1 = k := h1.symm.trans e
      have b : valueAt (q :: qs) k = some q.2 := by simp [valueAt, List.find?_cons, e']
      rw [valV_pos e, b]; exact h2
    · have e' : ¬ q.1 = k := fun z => e (h1.trans z)
      have b : valueAt (q :: qs) k = valueAt qs k := by simp [valueAt, List.find?_cons, e']
      rw [valV_neg e, b]; exact ih
theorem KV.any {kvs : List (κ × V)} {vs : List (κ × Value)} (r : KV kvs vs) (k : κ) : (kvs.any fun kv => decide (kv.1 = k)) = vs.any fun kv => decide (kv.1 = k) := by
  unfold KV at r
  induction r with
  | nil => rfl
  | cons h t ih => rw [List.any_cons, List.any_cons, ih, h.1]
theorem KV.repl {kvs : List (κ × V)} {vs : List (κ × Value)} (r : KV kvs vs) (k : κ) {y : V} {u : Value} (ry : RelV y u) :
    KV (kvs.map fun kv => if kv.1 = k then (kv.1, y) else kv) (vs.map fun kv => if kv.1 = k then (kv.1, u) else kv) := by
  unfold KV at r ⊢
  induction r with
  | nil => exact .nil
  | @cons p q ps qs h t ih =>
    rw [List.map_cons, List.map_cons]
    refine .cons ?_ ih
    obtain ⟨h1, h2⟩ := h
    by_cases e : p.1 = k
    · rw [if_pos e, if_pos (h1.symm.trans e)]; exact ⟨h1, ry⟩
    · rw [if_neg e, if_neg (fun z => e (h1.trans z))]; exact ⟨h1, h2⟩
theorem KV.put {kvs : List (κ × V)} {vs : List (κ × Value)} (r : KV kvs vs) (k : κ) {y : V} {u : Value} (ry : RelV y u) : KV (putK kvs k y) (stored vs k u) := by
  unfold putK stored
  rw [r.any k]
  by_cases e : (vs.any fun kv => decide (kv.1 = k)) = true
  · rw [if_pos e, if_pos e]; exact r.repl k ry
  · rw [if_neg e, if_neg e]; exact Paired.snoc r ⟨rfl, ry⟩
theorem KV.length {kvs : List (κ × V)} {vs : List (κ × Value)} (r : KV kvs vs) : kvs.length = vs.length := Paired.length r
end
theorem kV_is {P : Program} {w : World} {k : Key} {u : Value} (r : RelV (kV k) u) : (mixKind P w).is k u = true := by
  cases k with
  | inl i => obtain ⟨t, e⟩ := (show ∃ t, u = Value.int i t from r); subst e; exact mixKind_int P w i t
  | inr x => obtain ⟨t, e⟩ := (show ∃ t, u = Value.str x t from r); subst e; exact mixKind_str P w x t
theorem items_are {P : Program} {w : World} : ∀ {ks : List Key} {us : List Value}, Vals (ks.map kV) us → ItemsAre (mixKind P w) ks us
  | [], _, r => by rw [List.map_nil] at r; cases r; exact .nil
  | k :: ks, _, r => by
    rw [List.map_cons] at r
    cases r with
    | cons h t => exact .cons (kV_is h) (items_are t)
abbrev KT (H : Hp) : List (List Key × V) → List (List Key × Addr × Value) → Prop := Paired fun p q => p.1 = q.1 ∧ H q.2.1 = some (.tup (p.1.map kV)) ∧ RelV p.2 q.2.2
theorem KT.val {H : Hp} {kvs : List (List Key × V)} {xs : List (List Key × Addr × Value)} (r : KT H kvs xs) (k : List Key) : RelO (valV kvs k) ((atKey xs k).map (·.2)) := by
  induction r with
  | nil => exact True.intro
  | @cons p q ps qs h t ih =>
    obtain ⟨h1, _, h2⟩ := h
    by_cases e : p.1 = k
    · have e' : q.1 = k := h1.symm.trans e
      have b : atKey (q :: qs) k = some q.2 := by simp [atKey, List.find?_cons, e']
      rw [valV_pos e, b]; exact h2
    · have e' : ¬ q.1 = k := fun z => e (h1.trans z)
      have b : atKey (q :: qs) k = atKey qs k := by simp [atKey, List.find?_cons, e']
      rw [valV_neg e, b]; exact ih
theorem KT.repl {H : Hp} {kvs : List (List Key × V)} {xs : List (List Key × Addr × Value)} (r : KT H kvs xs) (k : List Key) {y : V} {u : Value} (ry : RelV y u) :
    KT H (kvs.map fun kv => if kv.1 = k then (kv.1, y) else kv) (xs.map (putAt k u)) := by
  induction r with
  | nil => exact .nil
  | @cons p q ps qs h t ih =>
    rw [List.map_cons, List.map_cons]
    refine .cons ?_ ih
    obtain ⟨h1, h2, h3⟩ := h
    unfold putAt
    by_cases e : p.1 = k
    · rw [if_pos e, if_pos (h1.symm.trans e)]; exact ⟨h1, h2, ry⟩
    · rw [if_neg e, if_neg (fun z => e (h1.trans z))]; exact ⟨h1, h2, h3⟩
theorem KT.put {H : Hp} {kvs : List (List Key × V)} {xs : List (List Key × Addr × Value)} (r : KT H kvs xs) (k : List Key) {b : Addr} {y : V} {u : Value} (hb : H b = some (.tup (k.map kV))) (ry : RelV y u) :
    KT H (putK kvs k y) (storedH xs k b u) := by
  have e : (kvs.any fun kv => decide (kv.1 = k)) = (atKey xs k).isSome := by
    rw [valV_any, (r.val k).isSome_eq, Option.isSome_map]
  unfold putK storedH
  rw [e]
  by_cases q : (atKey xs k).isSome = true
  · rw [if_pos q, if_pos q]; exact r.repl k ry
  · rw [if_neg q, if_neg q]; exact Paired.snoc r ⟨rfl, hb, ry⟩
theorem KT.keeps {H H' : Hp} {kvs : List (List Key × V)} {xs : List (List Key × Addr × Value)} (r : KT H kvs xs) (ht : ∀ b ys, H b = some (.tup ys) → H' b = some (.tup ys)) : KT H' kvs xs :=
  Paired.mapP r fun _ _ z => ⟨z.1, ht _ _ z.2.1, z.2.2⟩
section
variable {P : Program} {w : World} {H : Hp} {h : Heap} {a : Addr}
theorem rd_of {u : HO} (ok : HOk P w H h) (e : Rd H a u) : ObjOk P w H h a u := e.ok ok
theorem dk_rd {kvs : List (Key × V)} (ok : HOk P w H h) (e : Rd H a (.dK kvs)) : kvs.length ≤ sizeLine ∧ (a == sysModules) = false ∧ ∃ vs, KV kvs vs ∧ h.DictOf (mixKind P w) a vs :=
  show ObjOk P w H h a (.dK kvs) from rd_of ok e
theorem dk_of {kvs : List (Key × V)} (ok : HOk P w H h) (e : H a = some (.dK kvs)) : kvs.length ≤ sizeLine ∧ (a == sysModules) = false ∧ ∃ vs, KV kvs vs ∧ h.DictOf (mixKind P w) a vs := dk_rd ok (.inl e)
theorem key_of {ks : List Key} (ok : HOk P w H h) (e : H a = some (.tup (ks.map kV))) : (tupleKind (mixKind P w)).is h ks a := by
  obtain ⟨_, its, r, o, h1, h2, n, h3⟩ := (show ObjOk P w H h a (.tup (ks.map kV)) from ok a _ e)
  exact ⟨o, its.toArray, n, h1, h2, h3, by simpa using items_are r⟩
theorem dt_rd {kvs : List (List Key × V)} (ok : HOk P w H h) (e : Rd H a (.dT kvs)) : kvs.length ≤ sizeLine ∧ (a == sysModules) = false ∧
    ∃ xs, KT H kvs xs ∧ h.DictOfH (tupleKind (mixKind P w)) a xs := by
  obtain ⟨z, y, xs, r, o, es, ep, h1, h2, h3, h4, h5⟩ := (show ObjOk P w H h a (.dT kvs) from rd_of ok e)
  refine ⟨z, y, xs, r, o, es, ep, h1, h2, h3, h4, fun x hx => ?_, h5⟩
  have all : ∀ {l : List (List Key × V)} {m : List (List Key × Addr × Value)}, KT H l m → ∀ x ∈ m, (tupleKind (mixKind P w)).is h x.1 x.2.1 := by
    intro l m q
    induction q with
    | nil => intro x hx; exact nomatch hx
    | @cons p q ps qs hq t ih =>
      intro x hx
      rcases List.mem_cons.mp hx with e | hx
      · subst e
        exact key_of ok (by rw [← hq.1]; exact hq.2.1)
      · exact ih x hx
  exact all r x hx
theorem dt_of {kvs : List (List Key × V)} (ok : HOk P w H h) (e : H a = some (.dT kvs)) : kvs.length ≤ sizeLine ∧ (a == sysModules) = false ∧
    ∃ xs, KT H kvs xs ∧ h.DictOfH (tupleKind (mixKind P w)) a xs := dt_rd ok (.inl e)
end
def DGet (H : Hp) (a : Addr) (y : V) (r : Option V) : Prop :=
  (∃ kvs k, Rd H a (.dK kvs) ∧ y = kV k ∧ r = valV kvs k) ∨ ∃ kvs k b, Rd H a (.dT kvs) ∧ y = .ref b ∧ H b = some (.tup (k.map kV)) ∧ r = valV kvs k
def DPut (H : Hp) (a : Addr) (y v : V) (H' : Hp) : Prop :=
  (∃ kvs k, H a = some (.dK kvs) ∧ y = kV k ∧ kvs.length < sizeLine ∧ H' = upd H a (.dK (putK kvs k v))) ∨
  ∃ kvs k b, H a = some (.dT kvs) ∧ y = .ref b ∧ H b = some (.tup (k.map kV)) ∧ kvs.length < sizeLine ∧ H' = upd H a (.dT (putK kvs k v))
theorem DGet.k {H : Hp} {a : Addr} {kvs : List (Key × V)} {k : Key} (e : H a = some (.dK kvs)) : DGet H a (kV k) (valV kvs k) := .inl ⟨kvs, k, .inl e, rfl, rfl⟩
theorem DPut.k {H : Hp} {a : Addr} {kvs : List (Key × V)} {k : Key} {v : V} (e : H a = some (.dK kvs)) (hl : kvs.length < sizeLine) : DPut H a (kV k) v (upd H a (.dK (putK kvs k v))) := .inl ⟨kvs, k, e, rfl, hl, rfl⟩
section
variable {X : Cx} {pins : List (Addr × Obj)} {σ : St} {H : Hp} {s : Shared} {a : Addr} {y v : V} {u r : Value} {o : Option V} {A : Around} {E : Value → Shared → Prop}
theorem Inv.big (I : Inv X pins σ H s) : sysModules < s.heap.objs.size := by
  have h : mainGlobals < s.heap.objs.size := (I.mod.glob.keeps I.bk).lt
  exact Nat.lt_trans (by decide) h
theorem d_getItem {Q : Value → Shared → Prop} (hu : A.units + 1 < cLine) (I : Inv X pins σ H s) (g : DGet H a y (some v)) (ry : RelV y u) (h : ∀ w' s', Inv X pins σ H s' → RelV v w' → Q w' s') :
    wpAny (model X.prog X.w) A (getItem (.ref a) u) Q E s := by
  rcases g with ⟨kvs, k, e, ey, l⟩ | ⟨kvs, k, b, e, ey, eb, l⟩
  · subst ey
    obtain ⟨z, hd, vs, rel, dd⟩ := dk_rd I.hok e
    obtain ⟨w', hw, rw'⟩ := RelO.some_of (v := v) (o := valueAt vs k) (by rw [l]; exact rel.val k)
    exact wpAny_getItem_of (kV_is ry) dd.mapOf hw (h w' _ (I.tok _) rw')
  · subst ey
    cases (show u = Value.ref b from ry)
    obtain ⟨z, hd, xs, rel, dd⟩ := dt_rd I.hok e
    obtain ⟨w', hw, rw'⟩ := RelO.some_of (v := v) (o := (atKey xs k).map (·.2)) (by rw [l]; exact rel.val k)
    obtain ⟨p, hp, hp2⟩ := Option.map_eq_some_iff.mp hw
    refine wpAny_getItem_heap (tupleKind_room_in1 hu) (key_of I.hok eb) dd hp ?_
    rw [hp2]
    exact h w' _ (I.tok _) rw'
theorem d_write {h' : Heap} {t' : Nat} {ob : HO} (I : Inv X pins σ H s) (mu : Mut (H a)) (hs : Heap.SameBut a s.heap h') (he : ∃ q, h'.get? a = some q) (new : ObjOk X.prog X.w (upd H a ob) h' a ob) :
    Inv X pins σ (upd H a ob) { s with heap := h', toks := t' } :=
  I.write (x := a) (e := a) mu (.inl rfl) (fun b q hb z => (hs.2 b hb).trans z) he new
theorem dk_new {P : Program} {w : World} {H' : Hp} {h' : Heap} {kvs : List (Key × V)} {vs : List (Key × Value)} (z : kvs.length ≤ sizeLine) (hd : (a == sysModules) = false) (rel : KV kvs vs) (dd : h'.DictOf (mixKind P w) a vs) :
    ObjOk P w H' h' a (.dK kvs) := ⟨z, hd, vs, rel, dd⟩
theorem d_setItem {H' : Hp} {Q : Unit → Shared → Prop} (hu : A.units + 1 < cLine) (I : Inv X pins σ H s) (g : DPut H a y v H') (ry : RelV y u) (rv : RelV v r) (h : ∀ s', Inv X pins σ H' s' → Q () s') :
    wpAny (model X.prog X.w) A (setItem (.ref a) u r) Q E s := by
  rcases g with ⟨kvs, k, e, ey, l, eH⟩ | ⟨kvs, k, b, e, ey, eb, l, eH⟩
  · subst ey eH
    obtain ⟨z, hd, vs, rel, dd⟩ := dk_of I.hok e
    have hz : vs.length ≤ sizeLine := by rw [← rel.length]; exact z
    have hl : (putK kvs k v).length ≤ sizeLine := by have := length_putK kvs k v; omega
    refine wpAny_setItem_pairs (hsz := hz) (kV_is ry) dd fun h' dd' hs => h _ ?_
    have he : ∃ q, h'.get? a = some q := let ⟨q, _, _, hq, _⟩ := dd'; ⟨q, hq⟩
    exact d_write I (by rw [e]; exact True.intro) hs he (dk_new hl hd (rel.put k rv) dd')
  · subst ey eH
    cases (show u = Value.ref b from ry)
    obtain ⟨z, hd, xs, rel, dd⟩ := dt_of I.hok e
    have hz : xs.length ≤ sizeLine := by rw [← Paired.length rel]; exact z
    have hl : (putK kvs k v).length ≤ sizeLine := by have := length_putK kvs k v; omega
    refine wpAny_setItem_heap (hsz := hz) (tupleKind_room_in1 hu) (key_of I.hok eb) dd fun h' dd' hs => h _ ?_
    obtain ⟨q, es, ep, hq, h2, h3, h4, _, h5⟩ := dd'
    refine d_write I (by rw [e]; exact True.intro) hs ⟨q, hq⟩ ⟨hl, hd, _, (rel.put k eb rv).keeps fun c ys ec => ?_, q, es, ep, hq, h2, h3, h4, h5⟩
    rw [upd_ne (ne_of ec e (fun z => nomatch z))]
    exact ec
end
section
variable {X : Cx} {pins : List (Addr × Obj)} {σ : St} {H : Hp} {s : Shared} {a : Addr} {kvs : List (Key × V)} {k : Key} {u : Value} {A : Around} {E : Value → Shared → Prop}
end
def NoSl (i : Expr) : Prop := ∀ ov iv, subscripted i false ov iv = operate [ov, iv] (getItem ov iv)
theorem subD_of {prog : Program} {w : World} {A : Around} {E : Value → Shared → Prop} {s : Shared} {env : Env} {value slice : Expr} {pos : Pos} {T id : String} {Q : Value → Shared → Prop}
    (hl : typeLookup (.type T) "__getitem__" = pure (some (.builtin id))) (hs : NoSl slice)
    (h : wpAny (model prog w) A (eval value env) (fun o s₁ => wpAny (model prog w) A (eval slice env) (fun i s₂ => s₂.TypeIs o T ∧ wpAny (model prog w) A (getItem o i) Q E s₂) E s₁) E s) :
    wpAny (model prog w) A (eval (.Subscript value slice pos) env) Q E s := by
  refine Subscript_ (wpAny_mono h (fun o s₁ h₁ => wpAny_mono h₁ (fun i s₂ h₂ => ?_) fun _ _ x => x) fun _ _ x => x)
  obtain ⟨hT, h₂⟩ := h₂
  unfold subscriptTail
  refine wpAny_bind ?_
  rw [getitemInPython_of_ne hT.not_modules]
  refine wpAny_bind (wpAny_specialOf hT hl ?_)
  have fin : wpAny (model prog w) A (subscripted slice false o i) (fun r s₃ => wpAny (model prog w) A (letTemporaryGo value o r >>= fun _ => pure r) Q E s₃) E s₂ := by
    rw [hs o i]
    exact wpAny_operating (wpAny_mono h₂ (fun r s₃ h₃ => wpAny_bind (wpAny_letTemporaryGo (wpAny_pure h₃))) fun _ _ x => x)
  first
    | exact wpAny_pure (wpAny_bind fin)
    | exact wpAny_bind (wpAny_pure (wpAny_bind fin))
    | exact wpAny_bind fin
theorem dict_typeIs {X : Cx} {pins : List (Addr × Obj)} {σ : St} {H : Hp} {s : Shared} {a : Addr} {y : V} {o : Option V} (I : Inv X pins σ H s) (g : DGet H a y o) : s.TypeIs (.ref a) "dict" := by
  rcases g with ⟨kvs, k, e, _, _⟩ | ⟨kvs, k, b, e, _, _, _⟩
  · obtain ⟨_, _, vs, _, dd⟩ := dk_rd I.hok e
    exact dd.typeIs
  · obtain ⟨_, _, xs, _, dd⟩ := dt_rd I.hok e
    exact dd.typeIs
def tDGet (td ty : TE) : TE := fun σ H Q => td σ H fun x H1 => ty σ H1 fun y H2 => ∃ a v, x = .ref a ∧ DGet H2 a y (some v) ∧ Q v H2
def sDPut (td ty tv : TE) : TS := fun D σ H => tv σ H fun v H1 => td σ H1 fun x H2 => ty σ H2 fun y H3 => ∃ a H4, x = .ref a ∧ DPut H3 a y v H4 ∧ D.nx σ H4
section
variable {X : Cx} {o i e value : Expr} {pos pos' tpos : Pos} {td ty tv : TE}
theorem pe_dget (hu : X.A.units + 1 < cLine) (ho : PE X o td) (hi : PE X i ty) (hs : NoSl i) : PE X (.Subscript o i pos) (tDGet td ty) := by
  intro pins s σ H Q I h
  refine subD_of PySem.F.slot_dict_getitem.lookup hs (thn (ho pins s σ H _ I h) fun u s1 ⟨x, H1, I1, rx, q1⟩ => thn (hi pins s1 σ H1 _ I1 q1) fun iv s2 ⟨y, H2, I2, ry, a, v, ex, g, q2⟩ => ?_)
  subst ex
  obtain rfl : u = Value.ref a := rx
  exact ⟨dict_typeIs I2 g, d_getItem hu I2 g ry fun w' s3 I3 rw' => ⟨v, H2, I3, rw', q2⟩⟩
theorem ps_dput (hu : X.A.units + 1 < cLine) (ho : PE X o td) (hi : PE X i ty) (hv : PE X value tv) (hs : swapsWith value (some (.Subscript o i pos')) pos.line X.env = pure false) :
    PS X (.Assign [.Subscript o i pos'] value pos) (sDPut td ty tv) := by
  intro pins s σ H D I h
  refine wpAny_Assign_Subscript (thn (hv pins s σ H _ I h) fun r s1 ⟨v, H1, I1, rv, q1⟩ => thn (ho pins s1 σ H1 _ I1 q1) fun u s2 ⟨x, H2, I2, rx, q2⟩ => thn (hi pins s2 σ H2 _ I2 q2) fun iv s3 ⟨y, H3, I3, ry, a, H4, ex, g, q3⟩ => ?_) hs
  subst ex
  obtain rfl : u = Value.ref a := rx
  exact d_setItem hu I3 g ry rv fun s4 I4 => ⟨σ, H4, I4, q3⟩
end
theorem dk_empty {P : Program} {w : World} {H : Hp} (h : Heap) (hb : sysModules < h.objs.size) : ObjOk P w H (h.push { cls := .type "dict", data := .dict #[] }) h.objs.size (.dK []) :=
  ⟨Nat.zero_le _, beq_eq_false_iff_ne.mpr (Ne.symm (Nat.ne_of_lt hb)), [], .nil, Heap.DictOf.new h⟩
section
variable {X : Cx} {pos : Pos}
end
def tPairs : List (TE × TE) → St → Hp → (List (V × V) → Hp → Prop) → Prop
  | [], _, H, Q => Q [] H
  | (tk, tv) :: r, σ, H, Q => tk σ H fun x H1 => tv σ H1 fun y H2 => tPairs r σ H2 fun ps H3 => Q ((x, y) :: ps) H3
abbrev VV : List (V × V) → List (Value × Value) → Prop := Paired fun p q => RelV p.1 q.1 ∧ RelV p.2 q.2
def PPs (X : Cx) (pos : Pos) (keys : List (Option Expr)) (values : List Expr) (trs : List (TE × TE)) : Prop :=
  ∀ (pins : List (Addr × Obj)) (s : Shared) (σ : St) (H : Hp) (Q : List (V × V) → Hp → Prop), Inv X pins σ H s → tPairs trs σ H Q →
    wpAny (model X.prog X.w) X.A (evalPairs (pairTrees keys values X.env pos)) (fun vs s' => ∃ ps H', Inv X pins σ H' s' ∧ VV ps vs ∧ Q ps H') X.xe s
theorem pps_nil {X : Cx} {pos : Pos} : PPs X pos [] [] [] := fun pins s σ H Q I h => pairTrees_nil_walk ⟨[], H, I, .nil, h⟩
theorem pps_cons {X : Cx} {pos : Pos} {k v : Expr} {ks : List (Option Expr)} {vs : List Expr} {tk tv : TE} {trs : List (TE × TE)} (hk : PE X k tk) (hv : PE X v tv) (hr : PPs X pos ks vs trs) :
    PPs X pos (some k :: ks) (v :: vs) ((tk, tv) :: trs) := fun pins s σ H Q I h =>
  pairTrees_cons_walk (thn (hk pins s σ H _ I h) fun u s1 ⟨x, H1, I1, rx, q1⟩ => thn (hv pins s1 σ H1 _ I1 q1) fun w2 s2 ⟨y, H2, I2, ry, q2⟩ =>
    thn (hr pins s2 σ H2 _ I2 q2) fun ws s3 ⟨ps, H3, I3, rel, q3⟩ => ⟨(x, y) :: ps, H3, I3, .cons ⟨rx, ry⟩ rel, q3⟩)
def mergeK (kvs more : List (Key × V)) : List (Key × V) := more.foldl (fun acc kv => putK acc kv.1 kv.2) kvs
theorem KV.merge : ∀ {more : List (Key × V)} {rs : List (Key × Value)} {kvs : List (Key × V)} {vs : List (Key × Value)}, KV more rs → KV kvs vs → KV (mergeK kvs more) (merged vs rs) := by
  intro more rs kvs vs r
  unfold KV at r
  induction r generalizing kvs vs with
  | nil => intro q; exact q
  | @cons p q ps qs h t ih =>
    intro r0
    have e : KV (putK kvs p.1 p.2) (stored vs q.1 q.2) := by
      have := r0.put p.1 h.2
      rw [← h.1]; exact this
    exact ih e
theorem length_mergeK : ∀ (more kvs : List (Key × V)), (mergeK kvs more).length ≤ kvs.length + more.length
  | [], kvs => by show kvs.length ≤ kvs.length + 0; omega
  | p :: r, kvs => by
    have h1 := length_mergeK r (putK kvs p.1 p.2)
    have h2 := length_putK kvs p.1 p.2
    show (mergeK (putK kvs p.1 p.2) r).length ≤ _
    rw [List.length_cons]; omega
theorem carries_of {P : Program} {w : World} : ∀ {kvs : List (Key × V)} {ws : List (Value × Value)}, VV (kvs.map fun kv => (kV kv.1, kv.2)) ws → ∃ rs, Carries (mixKind P w) ws rs ∧ KV kvs rs
  | [], _, r => by rw [List.map_nil] at r; cases r; exact ⟨[], True.intro, .nil⟩
  | p :: kvs, _, r => by
    rw [List.map_cons] at r
    cases r with
    | @cons a b as bs h t =>
      obtain ⟨rs, c, q⟩ := carries_of (P := P) (w := w) t
      obtain ⟨b1, b2⟩ := b
      exact ⟨(p.1, b2) :: rs, ⟨kV_is h.1, rfl, c⟩, .cons ⟨rfl, h.2⟩ q⟩
def tDisp (trs : List (TE × TE)) : TE := fun σ H Q => ∀ p, H p = none → tPairs trs σ (upd H p (.dK [])) fun ps H2 => H2 p = some (.dK []) ∧ ∃ kvs : List (Key × V), ps = kvs.map (fun kv => (kV kv.1, kv.2)) ∧ kvs.length ≤ 15 ∧ Q (.ref p) (upd H2 p (.dK (mergeK [] kvs)))
theorem pe_disp {X : Cx} {pos : Pos} {keys : List (Option Expr)} {values : List Expr} {trs : List (TE × TE)} (h : PPs X pos keys values trs) (hall : keys.all (·.isSome) = true) (hl : keys.length = values.length) (h0 : keys ≠ [])
    (h15 : keys.length ≤ 15) : PE X (.Dict keys values pos) (tDisp trs) := by
  intro pins s σ H Q I q
  have hn := I.hok.fresh (Nat.le_refl s.heap.objs.size)
  have I1 := I.laid (a := s.heap.objs.size) (o := .dK []) (h' := s.heap.push { cls := .type "dict", data := .dict #[] }) (t' := s.toks) (fun _ _ q => Heap.get?_push_of_some _ q) (Nat.le_refl _) (dk_empty s.heap I.big)
  refine wpAny_Dict_walk (knd := mixKind X.prog X.w) hall hl h0 h15 (thn (h pins _ σ _ _ I1 (q _ hn)) fun ws s2 ⟨ps, H2, I2, rel, e, kvs, ep, lk, q2⟩ => ?_)
  subst ep
  obtain ⟨rs, c, rk⟩ := carries_of (P := X.prog) (w := X.w) rel
  obtain ⟨z, hd, vs0, r0, dd⟩ := dk_of I2.hok e
  cases r0
  refine ⟨rs, c, dd, fun h' dd' hs => ⟨.ref s.heap.objs.size, _, ?_, rfl, q2⟩⟩
  have hz : (mergeK [] kvs).length ≤ sizeLine := by
    have h1 := length_mergeK kvs []
    rw [List.length_nil] at h1
    rw [sizeLine_eq]; omega
  have he : ∃ q, h'.get? s.heap.objs.size = some q := let ⟨q, _, _, hq, _⟩ := dd'; ⟨q, hq⟩
  exact d_write I2 (by rw [e]; exact True.intro) hs he (dk_new hz hd (rk.merge .nil) dd')
section
variable {X : Cx} {pins : List (Addr × Obj)} {σ : St} {H : Hp} {s : Shared} {a : Addr} {y d : V} {u r : Value} {o : Option V} {A : Around} {E : Value → Shared → Prop}
end
section
variable {X : Cx} {o e f : Expr} {apos cpos : Pos} {td ty tx : TE}
end
section
variable {X : Cx} {pins : List (Addr × Obj)} {σ : St} {H : Hp} {s : Shared} {a : Addr} {kvs : List (Key × V)} {A : Around} {E : Value → Shared → Prop}
end
section
variable {X : Cx} {pins : List (Addr × Obj)} {σ : St} {H : Hp} {s : Shared} {a : Addr} {y : V} {u : Value} {A : Around} {E : Value → Shared → Prop}
end
end L2
namespace Att
open PySem PySem.W PySem.Calls PyProof.Rows
theorem ints_of_wellAll {P : Params} {h : Heap} : ∀ (ns : List Int) (vs : List Value), WellAll P h vs (ns.map WData.int) → IntsAre vs ns := by
  intro ns
  induction ns with
  | nil =>
    intro vs w
    rw [List.map_nil] at w
    cases w
    exact .nil
  | cons n ns ih =>
    intro vs w
    rw [List.map_cons] at w
    cases w with
    | cons a b =>
      cases a
      exact .cons _ _ (ih _ b)
theorem script_of {l : OpenLaw} {n : Nat} (hn : l.most = some n) {P : Params} {h : Heap} {args : List WData} {vals : List Value}
    (hpre : l.row.toRowW.claim.pre args = true) (hwl : WellAll P h vals args) :
    ∃ a vs ns, vals = [Value.ref a] ∧ args = [WData.list (ns.map WData.int)] ∧ h.get? a = some { cls := .type "list", data := .seq vs.toArray } ∧ IntsAre vs ns ∧ ns.length ≤ n := by
  have hsh : WShape.hasAll [] args [.list .int] = true := (pre_splitW hpre).1
  have hc : l.pre.holds [] { args := args } = true := (pre_splitW hpre).2
  obtain ⟨d, r, rfl, h1, h2⟩ := hasAllW_cons hsh
  obtain rfl := hasAllW_nil h2
  obtain ⟨xs, rfl, h3⟩ := hasW_list h1
  obtain ⟨ns, rfl⟩ := items_int h3
  have hlen : ns.length ≤ n := by
    unfold OpenLaw.pre at hc
    have h4 : (WTm.not (.lt (.lit (.int (n : Int))) (.len (.arg 0)))).holds [] { args := [.list (ns.map .int)] } = true := by
      have h4 := (holds_andW hc).1
      rw [hn] at h4
      exact h4
    have h5 := condW_of h4 (w_not (w_lt w_lit (w_len_list (w_arg rfl))))
    rw [List.length_map] at h5
    refine Nat.le_of_not_lt fun q => ?_
    have q' : (n : Int) < ((ns.length : Nat) : Int) := by omega
    first
      | (rw [decide_eq_true q'] at h5; exact absurd h5 (by decide))
      | (simp at h5; omega)
  cases hwl with
  | cons w1 w2 =>
    cases w2
    cases w1 with
    | list ho hall => exact ⟨_, _, ns, rfl, rfl, ho, ints_of_wellAll ns _ hall, hlen⟩
theorem post_true (l : OpenLaw) (args : List WData) : l.row.toRowW.claim.post args (.bool true) args = true :=
  postW_of (r := l.row.toRowW) (X := (true == true))
    (show WShape.has [] (.bool true) .bool = true by first | rfl | decide | simp [WShape.has, WShape.arms, WShape.armsAll])
    (show (WTm.eq .res (.lit (.bool true))).value [] { args := args, res := some (.bool true), after := args } = some (.bool (true == true)) from w_eq_bool (w_res rfl) w_lit) rfl
theorem attach_call {l : OpenLaw} {n : Nat} {q : Program} {loose : List Str} {XP : (Str → Option Value) → Heap → Prop} {YP : World → Heap → Prop} {d : DefRec}
    (hn : l.most = some n) (hdf : d.params.defaults = [])
    (call : ∀ (w : World) (s₀ s₁ : Shared) (mg mb : Str → Option Value) (fa : Addr) (o : Obj) (pm cd doc : Value) (a : Addr) (vs : List Value) (ns : List Int),
      Ground q loose [] XP w s₀ mg mb s₁.heap → YP w s₁.heap →
      s₁.heap.get? fa = some o → o.data = .func (docDef d.name d.params d.body d.scope pm cd doc) → s₁.heap.CodeRec cd d.name → mg d.name = some (.ref fa) →
      s₁.heap.get? a = some { cls := .type "list", data := .seq vs.toArray } → IntsAre vs ns → ns.length ≤ n → s₁.gens = #[] →
      codeAny (model l.prog w) callerA (.call (.ref fa) ⟨[.ref a], []⟩) (fun r s' => r = .ok (.ret (.bool true)) ∧ OldK s₁.heap s'.heap ∧ s'.os = s₁.os ∧ AllBare s'.gens) s₁) :
    WalkO q loose XP YP l.row.toRowW d [] (fun f vs => PySem.call f vs) := by
  intro w s₀ s₁ mg mb G Y fa o pm cd doc dV kV ho hd hcd hD hmg hg args vals as hpre hlay hrd hwl hlo
  obtain rfl : dV = .none := Dflts.none hD hdf
  obtain rfl : kV = .none := Dflts.noKw hD
  obtain ⟨a, vs, ns, rfl, rfl, hobj, hints, hlen⟩ := script_of hn hpre hwl
  refine enter_call (codeAny_mono (call w s₀ s₁ mg mb fa o pm cd doc a vs ns G Y ho (fd_plain hd) hcd hmg hobj hints hlen hg) fun r s' hq => ?_)
  obtain ⟨rfl, h2, h3, h4⟩ := hq
  exact ⟨.inl ⟨.bool true, .bool true, [], rfl, fun _ => rfl, .bool true, post_true l _, fun _ => ⟨List.Pairwise.nil, fun _ hm => (nomatch hm)⟩⟩, h2, h3, h4⟩
section
variable {prog : Program} {w : World} {A : Around} {E : Value → Shared → Prop} {s : Shared} {K : Frag}
end
end Att
namespace L2
open PySem PySem.Spec PyProof.Rows
theorem vals_ints : ∀ {vs : List Value} {ns : List Int}, IntsAre vs ns → Vals (ns.map V.int) vs
  | _, _, .nil => .nil
  | _, _, .cons n t h => .cons ⟨t, rfl⟩ (vals_ints h)
def Only (H : Hp) : Prop := ∀ b, H b = none ∨ ∃ o xs, H b = some (.frz o (.lst xs))
theorem law_call {P : Program} {w : World} {K : PySem.W.Frag} {mg mb : Str → Option Value} {CX : CXT} {k : Nat} {fa a : Addr} {fd : FuncData} {x : Str} {sp : Sp} {s₁ : Shared} {vs : List Value} {ns : List Int}
    (KX : K.In s₁.heap) (hns : s₁.heap.Ns mainGlobals mg) (hb : s₁.heap.Ns builtinsNs mb) (hbb : ∀ x : Str, x ≠ "__name__" → mb x = bootBuiltins x) (hlim : s₁.heap.NoLimit) (hg : s₁.gens = #[])
    (ha : s₁.heap.get? a = some { cls := .type "list", data := .seq vs.toArray }) (hi : IntsAre vs ns) (hl : ns.length ≤ sizeLine) (hr : Room k callerA)
    (F : ∀ base : Heap, K.In base → base.Ns mainGlobals mg → FnOk P w K mg base CX k fa fd [x] sp) (hbind : ∀ (s : Shared) (u : Value), BindsTo s fd ⟨[u], []⟩ [(x, u)])
    (hsp : ∀ H : Hp, Only H → SqL K H a (ns.map V.int) → sp [.ref a] H (fun v _ => v = .bl true) fun _ _ _ => False)
    (hCX : ∀ H e s', CX [] H s₁ (fun _ _ _ => False) e s' → False) :
    codeAny (model P w) callerA (.call (.ref fa) ⟨[.ref a], []⟩) (fun r s' => r = .ok (.ret (.bool true)) ∧ OldK s₁.heap s'.heap ∧ s'.os = s₁.os ∧ AllBare s'.gens) s₁ := by
  have rv := vals_ints hi
  have lenV := hi.length
  have core : ∀ H : Hp, Only H → SqL K H a (ns.map V.int) → HOk P w H s₁.heap → (∀ b, H b ≠ none → b = a) → (H a ≠ none → K.lookup a = none) →
      codeAny (model P w) callerA (.call (.ref fa) ⟨[.ref a], []⟩) (fun r s' => r = .ok (.ret (.bool true)) ∧ OldK s₁.heap s'.heap ∧ s'.os = s₁.os ∧ AllBare s'.gens) s₁ := by
    intro H hO hS hok hA hK
    have base_of : ∀ {b : Addr} {o : Obj}, s₁.heap.get? b = some o → H b = none → (hidT s₁.heap H).get? b = some o := fun e n => hidT_get e n
    have noA : ∀ {b : Addr} {o : Obj} {es : Array DictEntry} {ep : Nat}, s₁.heap.get? b = some o → o.data = .dict es ep → H b = none := fun {b o es ep} e d => by
      cases q : H b with
      | none => rfl
      | some u =>
        have e' : b = a := hA b (by rw [q]; simp)
        subst e'
        rw [ha] at e; cases e
        have d' : Data.seq vs.toArray _ = Data.dict es ep := d
        cases d'
    have nsK : ∀ {b : Addr} {m : Str → Option Value}, s₁.heap.Ns b m → (hidT s₁.heap H).Ns b m := fun {b m} ⟨o, es, ep, e, d, r⟩ => ⟨o, es, ep, base_of e (noA e d), d, r⟩
    have hKb : K.In (hidT s₁.heap H) := fun b o e => base_of (KX b o e) (by
      cases q : H b with
      | none => rfl
      | some u =>
        have e' : b = a := hA b (by rw [q]; simp)
        subst e'
        rw [hK (by rw [q]; simp)] at e; cases e)
    have hM : Mod K mg (hidT s₁.heap H) := ⟨hKb, nsK hns, ⟨mb, nsK hb, hbb⟩, let ⟨mc, h1, h2⟩ := hlim; ⟨mc, nsK h1, h2⟩⟩
    have e0 : Env0 P w K mg (hidT s₁.heap H) callerA [] s₁ H := ⟨rfl, hM, fun b o e => of_hidT e, Nat.le_of_eq (hidT_size _ _), trivial, fun b hb => absurd (show b ∈ ([] : List Addr) from hb) (by simp), hok, .of_eq hg⟩
    refine codeAny_mono ((F _ hKb (nsK hns)).run callerA [] s₁ H ⟨[.ref a], []⟩ [.ref a] [.ref a] _ _ hr e0 (hbind s₁ (.ref a)) (.cons rfl .nil) (hsp H hO hS)) fun r s' h => ?_
    cases r with
    | error e => exact (hCX H e s' h).elim
    | ok fl =>
      cases fl with
      | next => exact False.elim h
      | brk => exact False.elim h
      | cont => exact False.elim h
      | ret u =>
        obtain ⟨v, H', os, bare, un, hok', r', q⟩ := h
        have q' : v = .bl true := q
        subst q'
        obtain rfl : u = Value.bool true := r'
        refine ⟨rfl, OldK.of_keep fun b o e => ?_, os, bare⟩
        cases q : H b with
        | none => exact un.keep b o e q (by intro z; exact absurd (show b ∈ ([] : List Addr) from z) (by simp)) (by simp)
        | some u =>
          rcases hO b with z | ⟨ob, xs, z⟩
          · rw [q] at z; cases z
          · have z2 := un.frzs b ob _ z
            obtain ⟨e1, _⟩ := hok b _ z
            obtain ⟨e2, _⟩ := hok' b _ z2
            rw [e] at e1; cases e1
            exact e2
  cases hk : K.lookup a with
  | some o =>
    have e := KX a o hk
    rw [ha] at e
    cases e
    refine core (fun _ => none) (fun _ => .inl rfl) (.inr ⟨_, vs.toArray, _, hk, rfl, rfl, rfl, by rw [List.size_toArray, lenV]; exact hl, by simpa using rv⟩) (fun b u z => by have z' : (none : Option HO) = some u := z; cases z') (fun b z => absurd rfl z) fun z => absurd rfl z
  | none =>
    refine core (fun b => if b = a then some (.frz { cls := .type "list", data := .seq vs.toArray } (.lst (ns.map V.int))) else none) (fun b => ?_) (.inl (.inr ⟨{ cls := .type "list", data := .seq vs.toArray }, if_pos rfl⟩)) (fun b u z => ?_) (fun b z => ?_) fun _ => hk
    · by_cases hb : b = a
      · exact .inr ⟨_, _, if_pos hb⟩
      · exact .inl (if_neg hb)
    · by_cases hb : b = a
      · have z' := (if_pos hb).symm.trans z
        cases z'
        subst hb
        exact ⟨ha, by rw [List.length_map]; exact hl, vs, _, rv, ha⟩
      · have z' := (if_neg hb).symm.trans z
        cases z'
    · by_cases hb : b = a
      · exact hb
      · exact absurd (if_neg hb) z
end L2
namespace L2
open PySem PySem.Spec PyProof.Rows
theorem walk_of {l : PySem.W.OpenLaw} {n k : Nat} {q : Program} {loose : List Str} {XP : (Str → Option Value) → Heap → Prop} {YP : World → Heap → Prop} {d : DefRec} {K : Params → PySem.W.Frag} {CX : World → CXT} {sp : World → Sp} {x : Str}
    (hn : l.most = some n) (hn2 : n ≤ sizeLine) (hdf : d.params.defaults = []) (hr : Room k callerA)
    (hY : ∀ (w : World) (h : Heap), YP w h → (K w.params).In h)
    (F : ∀ (w : World) (mg : Str → Option Value) (fa : Addr) (h : Heap), (K w.params).In h → h.Ns mainGlobals mg → mg d.name = some (.ref fa) →
      ∃ fd : FuncData, (∀ (s : Shared) (u : Value), BindsTo s fd ⟨[u], []⟩ [(x, u)]) ∧
        ∀ base : Heap, (K w.params).In base → base.Ns mainGlobals mg → FnOk l.prog w (K w.params) mg base (CX w) k fa fd [x] (sp w))
    (hsp : ∀ (w : World) (H : Hp) (a : Addr) (ns : List Int), ns.length ≤ n → Only H → SqL (K w.params) H a (ns.map V.int) → sp w [.ref a] H (fun v _ => v = .bl true) fun _ _ _ => False)
    (hCX : ∀ (w : World) (H : Hp) (s : Shared) (e : Value) (s' : Shared), CX w [] H s (fun _ _ _ => False) e s' → False) :
    PySem.W.WalkO q loose XP YP l.row.toRowW d [] (fun f vs => PySem.call f vs) := by
  refine Att.attach_call hn hdf fun w s₀ s₁ mg mb fa o pm cd doc a vs ns G Y ho hd hcd hmg hobj hints hlen hg => ?_
  have KX := hY w _ Y
  obtain ⟨fd, hb, hF⟩ := F w mg fa _ KX G.T.g hmg
  exact law_call KX G.T.g G.T.b G.T.builtins G.T.nolimit hg hobj hints (Nat.le_trans hlen hn2) hr hF hb (fun H hO hS => hsp w H a ns hlen hO hS) fun H e s' => hCX w H s₁ e s'
end L2
namespace L2
open PySem PySem.Spec PyProof.Rows
def inClass (s : Stmt) (j : Nat) : Stmt := match s with
  | .ClassDef _ _ _ body _ _ _ _ _ _ _ => body.getD j (.Pass ⟨0, 0, 0, 0⟩)
  | _ => .Pass ⟨0, 0, 0, 0⟩
def defArgs (s : Stmt) : Arguments := match s with
  | .FunctionDef _ a _ _ _ _ _ _ _ _ => a
  | _ => { posonlyargs := [], args := [], vararg := none, kwonlyargs := [], kw_defaults := [], kwarg := none, defaults := [] }
def defBody (s : Stmt) : List Stmt := match s with
  | .FunctionDef _ _ b _ _ _ _ _ _ _ => b
  | _ => []
def defScope (s : Stmt) : Scope := match s with
  | .FunctionDef _ _ _ _ _ _ sc _ _ _ => sc
  | _ => { kind := .function, names := [], isGenerator := false, isCoroutine := false }
abbrev CX0 : CXT := fun _ _ _ _ _ _ => False
abbrev E0 : XK := fun _ _ _ => False
theorem pass0 {X : Cx} : Passes CX0 X E0 := fun _ _ _ _ _ _ _ h => h.elim
structure Fun (K : PySem.W.Frag) (x qual : Str) (st : Stmt) (f : Addr) (fd : FuncData) : Prop where
  ex : ∃ (oc : Value) (od : Option Addr) (kV doc pm : Value) (an : Option Addr) (cdv ct : Value) (osl : Array (Option Value)),
    fd = PySem.W.fnOf x qual (defArgs st) (defBody st) (defScope st) .none kV doc pm an cdv ct ∧ K.lookup f = some ⟨oc, od, .func fd, osl⟩ ∧ PySem.W.codeIn K cdv qual = true
  kp : PySem.W.keepIn K (.ref f) = true
section
variable {P : Program} {w : World} {K : PySem.W.Frag} {mg : Str → Option Value} {base : Heap}
theorem Fun.ok {x qual : Str} {st : Stmt} {f : Addr} {fd : FuncData} {N ps : List Str} {k : Nat} {sp : Sp} (F : Fun K x qual st f fd) (S : FnScope N ps (defScope st)) (len : ∀ vs H Q E, sp vs H Q E → vs.length = ps.length)
    (hbody : ∀ (cdv : Value) (A : Around) (outer : List Env) (s : Shared) (H : Hp) (vs : List V) (Q : VK) (E : XK), Room k (A.deeper (envOfC qual (defScope st) s.heap.objs.size f cdv)) → sp vs H Q E →
      ∃ t, PSs (cxOf CX0 P w K mg base N qual (defScope st) f cdv A outer s H E).nox (defBody st) t ∧ t { nx := fun _ H' => Q .non H', rt := Q } (start N vs) H) : FnOk P w K mg base CX0 (k + 1) f fd ps sp := by
  obtain ⟨oc, od, kV, doc, pm, an, cdv, ct, osl, rfl, lk, hcd⟩ := F.ex
  refine fn_of lk hcd S len fun A outer s H vs Q E hr hsp => ?_
  obtain ⟨t, h, q⟩ := hbody cdv A outer s H vs Q E hr hsp
  exact ⟨t, h.nox, q⟩
theorem Fun.binds {x qual : Str} {st : Stmt} {f : Addr} {fd : FuncData} {ps : List Str} (F : Fun K x qual st f fd)
    (h : ∀ (kV doc pm : Value) (an : Option Addr) (cdv ct : Value) (us : List Value), us.length = ps.length → bindArgs (PySem.W.fnOf x qual (defArgs st) (defBody st) (defScope st) .none kV doc pm an cdv ct) ⟨us, []⟩ = pure (ps.zip us)) : Binds K fd ps [] := by
  obtain ⟨oc, od, kV, doc, pm, an, cdv, ct, osl, rfl, lk, hcd⟩ := F.ex
  exact .all (h kV doc pm an cdv ct)
theorem fun_mk {x qual : Str} {st : Stmt} {f : Addr} {oc : Value} {od an : Option Addr} {osl : Array (Option Value)} {kV doc pm cdv ct : Value} (l : K.lookup f = some ⟨oc, od, .func (PySem.W.fnOf x qual (defArgs st) (defBody st) (defScope st) .none kV doc pm an cdv ct), osl⟩)
    (c : PySem.W.codeIn K cdv qual = true) (k : PySem.W.keepIn K (.ref f) = true) : Fun K x qual st f (PySem.W.fnOf x qual (defArgs st) (defBody st) (defScope st) .none kV doc pm an cdv ct) := ⟨⟨oc, od, kV, doc, pm, an, cdv, ct, osl, rfl, l, c⟩, k⟩
end
theorem small1000 {n : Nat} (h : n ≤ 1000) : n < sizeLine := Nat.lt_of_le_of_lt h (by decide)
section
variable {X : Cx}
theorem pv (i : Nat) {x : Str} {pos : Pos} (hN : X.N[i]? = some x := by rfl) (hv : Vis X.env.scope x := by first | exact Or.inl rfl | exact Or.inr (Or.inl rfl) | exact Or.inr (Or.inr rfl)) (hd : (x == ("__debug__" : Str)) = false := by decide)
    (hcd : (x == ("__classdict__" : Str)) = false := by decide) : PE X (.Name x pos) (tVar i) := pe_var hN hv hd hcd
end
theorem iteF {A B : Prop} (h : B) : if false = true then A else B := by
  rw [if_neg Bool.false_ne_true]
  exact h
theorem iteT {A B : Prop} (h : A) : if true = true then A else B := by
  rw [if_pos rfl]
  exact h
def Same (H H' : Hp) : Prop := ∀ b o, H b = some o → H' b = some o
theorem Same.refl (H : Hp) : Same H H := fun _ _ h => h
theorem Same.trans {H H1 H2 : Hp} (a : Same H H1) (b : Same H1 H2) : Same H H2 := fun c o h => b c o (a c o h)
theorem Same.free {H H' : Hp} (e : Same H H') {l : Addr} (h : H' l = Option.none) : H l = Option.none := by
  cases q : H l with
  | none => rfl
  | some o =>
    rw [e l o q] at h
    cases h
end L2
namespace L2
open PySem PySem.Spec PyProof.Rows
section
variable {X : Cx}
end
section
variable {κ : Type} [DecidableEq κ]
end
end L2
set_option Elab.async false
set_option linter.all false
namespace L2
open PySem
mutual
def dless : PyData → Bool
  | .tuple xs => dlesss xs
  | .list xs => dlesss xs
  | .dict _ => false
  | _ => true
def dlesss : List PyData → Bool
  | [] => true
  | x :: xs => dless x && dlesss xs
end
end L2
namespace Wk
open PySem
abbrev KD := {d : PyData // L2.dless d = true}
inductive MT where
  | num (i : Int) | truth (b : Bool) | nil (k : KD) | name (x : Str) | lam (x : Str) (k : KD) (b : MT)
  | add (a b : MT) | less (a b : MT) | front (a b : MT) | call (a b : MT) | cond (a b c : MT) | case (k : KD) (h t : Str) (a b c : MT)
inductive MV where
  | int (i : Int) | bool (b : Bool) | chain (xs : List MV) | clos (x : Str) (b : MT) (ρ : List (Str × MV))
abbrev MR := List (Str × MV)
def MR.get (x : Str) : MR → Option MV
  | [] => none
  | (y, v) :: r => if y = x then some v else MR.get x r
inductive Task where
  | beg (e : MT) (ρ : MR) | fin (e : MT) (ρ : MR)
inductive Res where
  | val (v : MV) | stuck | tired
structure MS where
  w : List Task
  d : List MV
  n : Nat
def begS (e : MT) (ρ : MR) (w : List Task) (d : List MV) (n : Nat) : MS ⊕ Res := match e with
  | .num i => .inl ⟨w, .int i :: d, n⟩
  | .truth b => .inl ⟨w, .bool b :: d, n⟩
  | .nil _ => .inl ⟨w, .chain [] :: d, n⟩
  | .name x => match ρ.get x with
    | some v => .inl ⟨w, v :: d, n⟩
    | none => .inr .stuck
  | .lam x _ b => .inl ⟨w, .clos x b ρ :: d, n⟩
  | .add a b => .inl ⟨.beg a ρ :: .beg b ρ :: .fin e ρ :: w, d, n⟩
  | .less a b => .inl ⟨.beg a ρ :: .beg b ρ :: .fin e ρ :: w, d, n⟩
  | .front a b => .inl ⟨.beg a ρ :: .beg b ρ :: .fin e ρ :: w, d, n⟩
  | .call a b => .inl ⟨.beg a ρ :: .beg b ρ :: .fin e ρ :: w, d, n⟩
  | .cond a _ _ => .inl ⟨.beg a ρ :: .fin e ρ :: w, d, n⟩
  | .case _ _ _ a _ _ => .inl ⟨.beg a ρ :: .fin e ρ :: w, d, n⟩
def finS (e : MT) (ρ : MR) (l : MV) (w : List Task) (d : List MV) (n : Nat) : MS ⊕ Res := match e with
  | .cond _ b c => match l with
    | .bool true => .inl ⟨.beg b ρ :: w, d, n⟩
    | .bool false => .inl ⟨.beg c ρ :: w, d, n⟩
    | _ => .inr .stuck
  | .case _ h t _ b c => match l with
    | .chain [] => .inl ⟨.beg b ρ :: w, d, n⟩
    | .chain (x :: xs) => .inl ⟨.beg c ((t, .chain xs) :: (h, x) :: ρ) :: w, d, n⟩
    | _ => .inr .stuck
  | .call _ _ => match d with
    | .clos x b ρ' :: d => .inl ⟨.beg b ((x, l) :: ρ') :: w, d, n⟩
    | _ => .inr .stuck
  | .front _ _ => match d, l with
    | m :: d, .chain xs => .inl ⟨w, .chain (m :: xs) :: d, n⟩
    | _, _ => .inr .stuck
  | .add _ _ => match d, l with
    | .int i :: d, .int j => .inl ⟨w, .int (i + j) :: d, n⟩
    | _, _ => .inr .stuck
  | .less _ _ => match d, l with
    | .int i :: d, .int j => .inl ⟨w, .bool (decide (i < j)) :: d, n⟩
    | _, _ => .inr .stuck
  | _ => .inr .stuck
def stepS : MS → MS ⊕ Res
  | ⟨[], v :: _, _⟩ => .inr (.val v)
  | ⟨[], [], _⟩ => .inr .stuck
  | ⟨.beg e ρ :: w, d, n + 1⟩ => begS e ρ w d n
  | ⟨.beg _ _ :: _, _, 0⟩ => .inr .tired
  | ⟨.fin e ρ :: w, l :: d, n⟩ => finS e ρ l w d n
  | ⟨.fin _ _ :: _, [], _⟩ => .inr .stuck
def runS : Nat → MS → Option Res
  | 0, _ => none
  | k + 1, s => match stepS s with
    | .inl s' => runS k s'
    | .inr r => some r
def Ends (s : MS) (r : Res) : Prop := ∃ k, runS k s = some r
theorem Ends.inl {s s' : MS} {r : Res} (h : stepS s = .inl s') (e : Ends s' r) : Ends s r := let ⟨k, q⟩ := e; ⟨k + 1, by rw [runS, h]; exact q⟩
theorem Ends.inr {s : MS} {r : Res} (h : stepS s = .inr r) : Ends s r := ⟨1, by rw [runS, h]⟩
inductive Ev : MR → MT → Nat → Option MV → Prop where
  | num {ρ i} : Ev ρ (.num i) 1 (some (.int i))
  | truth {ρ b} : Ev ρ (.truth b) 1 (some (.bool b))
  | nil {ρ k} : Ev ρ (.nil k) 1 (some (.chain []))
  | name {ρ : MR} {x v} (h : ρ.get x = some v) : Ev ρ (.name x) 1 (some v)
  | nameN {ρ : MR} {x} (h : ρ.get x = none) : Ev ρ (.name x) 1 none
  | lam {ρ x k b} : Ev ρ (.lam x k b) 1 (some (.clos x b ρ))
  | addA {ρ a b m} (h : Ev ρ a m none) : Ev ρ (.add a b) (m + 1) none
  | lessA {ρ a b m} (h : Ev ρ a m none) : Ev ρ (.less a b) (m + 1) none
  | frontA {ρ a b m} (h : Ev ρ a m none) : Ev ρ (.front a b) (m + 1) none
  | callA {ρ a b m} (h : Ev ρ a m none) : Ev ρ (.call a b) (m + 1) none
  | condA {ρ a b c m} (h : Ev ρ a m none) : Ev ρ (.cond a b c) (m + 1) none
  | caseA {ρ k x y a b c m} (h : Ev ρ a m none) : Ev ρ (.case k x y a b c) (m + 1) none
  | addB {ρ a b m n u} (h : Ev ρ a m (some u)) (g : Ev ρ b n none) : Ev ρ (.add a b) (m + n + 1) none
  | lessB {ρ a b m n u} (h : Ev ρ a m (some u)) (g : Ev ρ b n none) : Ev ρ (.less a b) (m + n + 1) none
  | frontB {ρ a b m n u} (h : Ev ρ a m (some u)) (g : Ev ρ b n none) : Ev ρ (.front a b) (m + n + 1) none
  | callB {ρ a b m n u} (h : Ev ρ a m (some u)) (g : Ev ρ b n none) : Ev ρ (.call a b) (m + n + 1) none
  | add {ρ a b m n i j} (h : Ev ρ a m (some (.int i))) (g : Ev ρ b n (some (.int j))) : Ev ρ (.add a b) (m + n + 1) (some (.int (i + j)))
  | addN {ρ a b m n u v} (h : Ev ρ a m (some u)) (g : Ev ρ b n (some v)) (z : ∀ i j, u = .int i → v = .int j → False) : Ev ρ (.add a b) (m + n + 1) none
  | less {ρ a b m n i j} (h : Ev ρ a m (some (.int i))) (g : Ev ρ b n (some (.int j))) : Ev ρ (.less a b) (m + n + 1) (some (.bool (decide (i < j))))
  | lessN {ρ a b m n u v} (h : Ev ρ a m (some u)) (g : Ev ρ b n (some v)) (z : ∀ i j, u = .int i → v = .int j → False) : Ev ρ (.less a b) (m + n + 1) none
  | front {ρ a b m n u xs} (h : Ev ρ a m (some u)) (g : Ev ρ b n (some (.chain xs))) : Ev ρ (.front a b) (m + n + 1) (some (.chain (u :: xs)))
  | frontN {ρ a b m n u v} (h : Ev ρ a m (some u)) (g : Ev ρ b n (some v)) (z : ∀ xs, v = .chain xs → False) : Ev ρ (.front a b) (m + n + 1) none
  | call {ρ a b m n x c ρ' v k r} (h : Ev ρ a m (some (.clos x c ρ'))) (g : Ev ρ b n (some v)) (q : Ev ((x, v) :: ρ') c k r) : Ev ρ (.call a b) (m + n + k + 1) r
  | callN {ρ a b m n u v} (h : Ev ρ a m (some u)) (g : Ev ρ b n (some v)) (z : ∀ x c ρ', u = .clos x c ρ' → False) : Ev ρ (.call a b) (m + n + 1) none
  | condT {ρ a b c m n r} (h : Ev ρ a m (some (.bool true))) (g : Ev ρ b n r) : Ev ρ (.cond a b c) (m + n + 1) r
  | condF {ρ a b c m n r} (h : Ev ρ a m (some (.bool false))) (g : Ev ρ c n r) : Ev ρ (.cond a b c) (m + n + 1) r
  | condN {ρ a b c m u} (h : Ev ρ a m (some u)) (z : ∀ t, u = .bool t → False) : Ev ρ (.cond a b c) (m + 1) none
  | caseE {ρ k x y a b c m n r} (h : Ev ρ a m (some (.chain []))) (g : Ev ρ b n r) : Ev ρ (.case k x y a b c) (m + n + 1) r
  | caseC {ρ k x y a b c m n r u us} (h : Ev ρ a m (some (.chain (u :: us)))) (g : Ev ((y, .chain us) :: (x, u) :: ρ) c n r) : Ev ρ (.case k x y a b c) (m + n + 1) r
  | caseN {ρ k x y a b c m u} (h : Ev ρ a m (some u)) (z : ∀ xs, u = .chain xs → False) : Ev ρ (.case k x y a b c) (m + 1) none
def thenE (w : List Task) (d : List MV) (n : Nat) (r : Res) : Option MV → Prop
  | some v => Ends ⟨w, v :: d, n⟩ r
  | none => r = .stuck
def after (w : List Task) (d : List MV) (n c : Nat) (o : Option MV) (r : Res) : Prop :=
  if n < c then r = .tired else thenE w d (n - c) r o
theorem after.lt {w d n c o r} (h : after w d n c o r) (l : n < c) : r = .tired := by unfold after at h; rwa [if_pos l] at h
theorem after.some {w d n c v r} (h : after w d n c (some v) r) (l : ¬ n < c) : Ends ⟨w, v :: d, n - c⟩ r := by unfold after at h; rwa [if_neg l] at h
theorem after.none {w d n c r} (h : after w d n c none r) (l : ¬ n < c) : r = .stuck := by unfold after at h; rwa [if_neg l] at h
theorem of_after {w d n c o r} (h1 : n < c → r = .tired) (h2 : ¬ n < c → thenE w d (n - c) r o) : after w d n c o r := by
  unfold after
  by_cases l : n < c
  · rw [if_pos l]; exact h1 l
  · rw [if_neg l]; exact h2 l
theorem Ev.pos {ρ e c o} (h : Ev ρ e c o) : 0 < c := by cases h <;> omega
def Goes (ρ : MR) (e : MT) (c : Nat) (o : Option MV) : Prop := ∀ w d n r, after w d n c o r → Ends ⟨.beg e ρ :: w, d, n⟩ r
theorem goes_of {ρ e c o} (hc : 0 < c) (h : ∀ w d n r, (n + 1 < c → r = .tired) → (¬ n + 1 < c → thenE w d (n + 1 - c) r o) → Ends ⟨.beg e ρ :: w, d, n + 1⟩ r) : Goes ρ e c o := by
  intro w d n r a
  cases n with
  | zero => rw [a.lt hc]; exact .inr rfl
  | succ n =>
    refine h w d n r a.lt fun l => ?_
    cases o with
    | some v => exact a.some l
    | none => exact a.none l
theorem goes_one {ρ e v} (h : ∀ w d n, stepS ⟨.beg e ρ :: w, d, n + 1⟩ = .inl ⟨w, v :: d, n⟩) : Goes ρ e 1 (some v) :=
  goes_of (by omega) fun w d n r h1 h2 => .inl (h w d n) (by have := h2 (by omega); simpa [thenE] using this)
theorem goes_A {ρ e a c m} {o : Option MV} {u : Option MV} (ha : Goes ρ a m u) (ws : List Task → List Task) (hs : ∀ w d n, stepS ⟨.beg e ρ :: w, d, n + 1⟩ = .inl ⟨.beg a ρ :: ws w, d, n⟩) (hc : m + 1 ≤ c)
    (h : ∀ w d n r, ¬ n < m → (n + 1 < c → r = .tired) → (¬ n + 1 < c → thenE w d (n + 1 - c) r o) → thenE (ws w) d (n - m) r u) : Goes ρ e c o :=
  goes_of (by omega) fun w d n r h1 h2 => .inl (hs w d n) (ha _ _ _ _ (of_after (fun l => h1 (by omega)) fun l => h w d n r l h1 h2))
theorem goes_AN {ρ e a m} (ha : Goes ρ a m none) (ws : List Task → List Task) (hs : ∀ w d n, stepS ⟨.beg e ρ :: w, d, n + 1⟩ = .inl ⟨.beg a ρ :: ws w, d, n⟩) : Goes ρ e (m + 1) none :=
  goes_A ha ws hs (Nat.le_refl _) fun w d n r l h1 h2 => h2 (by omega)
theorem goes_B {ρ e a b c m k} {o : Option MV} {u : MV} {v : Option MV} (ha : Goes ρ a m (some u)) (hb : Goes ρ b k v) (hs : ∀ w d n, stepS ⟨.beg e ρ :: w, d, n + 1⟩ = .inl ⟨.beg a ρ :: .beg b ρ :: .fin e ρ :: w, d, n⟩) (hc : m + k + 1 ≤ c)
    (h : ∀ w d n r, ¬ n < m + k → (n + 1 < c → r = .tired) → (¬ n + 1 < c → thenE w d (n + 1 - c) r o) → thenE (.fin e ρ :: w) (u :: d) (n - m - k) r v) : Goes ρ e c o :=
  goes_A ha (fun w => .beg b ρ :: .fin e ρ :: w) hs (by omega) fun w d n r l h1 h2 => hb _ _ _ _ (of_after (fun l2 => h1 (by omega)) fun l2 => h w d n r (by omega) h1 h2)
theorem goes_BN {ρ e a b m k} {u : MV} (ha : Goes ρ a m (some u)) (hb : Goes ρ b k none) (hs : ∀ w d n, stepS ⟨.beg e ρ :: w, d, n + 1⟩ = .inl ⟨.beg a ρ :: .beg b ρ :: .fin e ρ :: w, d, n⟩) : Goes ρ e (m + k + 1) none :=
  goes_B ha hb hs (Nat.le_refl _) fun w d n r l h1 h2 => h2 (by omega)
theorem goes_BV {ρ e a b m k} {u v x : MV} (ha : Goes ρ a m (some u)) (hb : Goes ρ b k (some v)) (hs : ∀ w d n, stepS ⟨.beg e ρ :: w, d, n + 1⟩ = .inl ⟨.beg a ρ :: .beg b ρ :: .fin e ρ :: w, d, n⟩)
    (hf : ∀ w d n, stepS ⟨.fin e ρ :: w, v :: u :: d, n⟩ = .inl ⟨w, x :: d, n⟩) : Goes ρ e (m + k + 1) (some x) :=
  goes_B ha hb hs (Nat.le_refl _) fun w d n r l h1 h2 => .inl (hf _ _ _) (by have := h2 (by omega); rwa [show n + 1 - (m + k + 1) = n - m - k from by omega] at this)
theorem goes_BS {ρ e a b m k} {u v : MV} (ha : Goes ρ a m (some u)) (hb : Goes ρ b k (some v)) (hs : ∀ w d n, stepS ⟨.beg e ρ :: w, d, n + 1⟩ = .inl ⟨.beg a ρ :: .beg b ρ :: .fin e ρ :: w, d, n⟩)
    (hf : ∀ w d n, stepS ⟨.fin e ρ :: w, v :: u :: d, n⟩ = .inr .stuck) : Goes ρ e (m + k + 1) none :=
  goes_B ha hb hs (Nat.le_refl _) fun w d n r l h1 h2 => by rw [show r = .stuck from h2 (by omega)]; exact .inr (hf _ _ _)
theorem goes_C {ρ ρ' e a b m k} {u : MV} {o : Option MV} (ha : Goes ρ a m (some u)) (hb : Goes ρ' b k o) (hs : ∀ w d n, stepS ⟨.beg e ρ :: w, d, n + 1⟩ = .inl ⟨.beg a ρ :: .fin e ρ :: w, d, n⟩)
    (hf : ∀ w d n, stepS ⟨.fin e ρ :: w, u :: d, n⟩ = .inl ⟨.beg b ρ' :: w, d, n⟩) : Goes ρ e (m + k + 1) o :=
  goes_A ha (fun w => .fin e ρ :: w) hs (by omega) fun w d n r l h1 h2 => .inl (hf _ _ _) (hb _ _ _ _ (of_after (fun l2 => h1 (by omega)) fun l2 => by
    have := h2 (by omega)
    rw [show n + 1 - (m + k + 1) = n - m - k from by omega] at this
    exact this))
theorem goes_CS {ρ e a m} {u : MV} (ha : Goes ρ a m (some u)) (hs : ∀ w d n, stepS ⟨.beg e ρ :: w, d, n + 1⟩ = .inl ⟨.beg a ρ :: .fin e ρ :: w, d, n⟩) (hf : ∀ w d n, stepS ⟨.fin e ρ :: w, u :: d, n⟩ = .inr .stuck) : Goes ρ e (m + 1) none :=
  goes_A ha (fun w => .fin e ρ :: w) hs (Nat.le_refl _) fun w d n r l h1 h2 => by rw [show r = .stuck from h2 (by omega)]; exact .inr (hf _ _ _)
theorem goes_call {ρ a b m n x c ρ' v k} {o : Option MV} (ha : Goes ρ a m (some (.clos x c ρ'))) (hb : Goes ρ b n (some v)) (hq : Goes ((x, v) :: ρ') c k o) : Goes ρ (.call a b) (m + n + k + 1) o :=
  goes_B ha hb (fun _ _ _ => rfl) (by omega) fun w d n' r l h1 h2 => .inl rfl (hq _ _ _ _ (of_after (fun l2 => h1 (by omega)) fun l2 => by
    have := h2 (by omega)
    rw [show n' + 1 - (m + n + k + 1) = n' - m - n - k from by omega] at this
    exact this))
theorem Ev.goes {ρ e c o} (h : Ev ρ e c o) : Goes ρ e c o := by
  induction h with
  | num => exact goes_one fun _ _ _ => rfl
  | truth => exact goes_one fun _ _ _ => rfl
  | nil => exact goes_one fun _ _ _ => rfl
  | name h => exact goes_one fun _ _ _ => by simp [stepS, begS, h]
  | nameN h => exact goes_of (by omega) fun w d n r h1 h2 => by rw [show r = .stuck from h2 (by omega)]; exact .inr (by simp [stepS, begS, h])
  | lam => exact goes_one fun _ _ _ => rfl
  | addA _ ih => exact goes_AN ih _ fun _ _ _ => rfl
  | lessA _ ih => exact goes_AN ih _ fun _ _ _ => rfl
  | frontA _ ih => exact goes_AN ih _ fun _ _ _ => rfl
  | callA _ ih => exact goes_AN ih _ fun _ _ _ => rfl
  | condA _ ih => exact goes_AN ih _ fun _ _ _ => rfl
  | caseA _ ih => exact goes_AN ih _ fun _ _ _ => rfl
  | addB _ _ ih jh => exact goes_BN ih jh fun _ _ _ => rfl
  | lessB _ _ ih jh => exact goes_BN ih jh fun _ _ _ => rfl
  | frontB _ _ ih jh => exact goes_BN ih jh fun _ _ _ => rfl
  | callB _ _ ih jh => exact goes_BN ih jh fun _ _ _ => rfl
  | add _ _ ih jh => exact goes_BV ih jh (fun _ _ _ => rfl) fun _ _ _ => rfl
  | @addN ρ a b m n u v h g z ih jh => exact goes_BS ih jh (fun _ _ _ => rfl) fun _ _ _ => by cases u <;> cases v <;> first | rfl | exact (z _ _ rfl rfl).elim
  | less _ _ ih jh => exact goes_BV ih jh (fun _ _ _ => rfl) fun _ _ _ => rfl
  | @lessN ρ a b m n u v h g z ih jh => exact goes_BS ih jh (fun _ _ _ => rfl) fun _ _ _ => by cases u <;> cases v <;> first | rfl | exact (z _ _ rfl rfl).elim
  | front _ _ ih jh => exact goes_BV ih jh (fun _ _ _ => rfl) fun _ _ _ => rfl
  | @frontN ρ a b m n u v h g z ih jh => exact goes_BS ih jh (fun _ _ _ => rfl) fun _ _ _ => by cases v <;> first | rfl | exact (z _ rfl).elim
  | call _ _ _ ih jh kh => exact goes_call ih jh kh
  | @callN ρ a b m n u v h g z ih jh => exact goes_BS ih jh (fun _ _ _ => rfl) fun _ _ _ => by cases u <;> first | rfl | exact (z _ _ _ rfl).elim
  | condT _ _ ih jh => exact goes_C ih jh (fun _ _ _ => rfl) fun _ _ _ => rfl
  | condF _ _ ih jh => exact goes_C ih jh (fun _ _ _ => rfl) fun _ _ _ => rfl
  | @condN ρ a b c m u h z ih => exact goes_CS ih (fun _ _ _ => rfl) fun _ _ _ => by cases u <;> first | rfl | exact (z _ rfl).elim
  | caseE _ _ ih jh => exact goes_C ih jh (fun _ _ _ => rfl) fun _ _ _ => rfl
  | caseC _ _ ih jh => exact goes_C ih jh (fun _ _ _ => rfl) fun _ _ _ => rfl
  | @caseN ρ k x y a b c m u h z ih => exact goes_CS ih (fun _ _ _ => rfl) fun _ _ _ => by cases u <;> first | rfl | exact (z _ rfl).elim
theorem Ev.whole {ρ e c o} (h : Ev ρ e c o) (n : Nat) : Ends ⟨[.beg e ρ], [], n⟩ (if n < c then .tired else match o with | some v => .val v | none => .stuck) :=
  h.goes _ _ _ _ (of_after (fun l => if_pos l) fun l => by
    rw [if_neg l]
    cases o with
    | some v => exact .inr rfl
    | none => rfl)
end Wk
set_option Elab.async false
set_option linter.all false
namespace Wk
open PySem
def mtD : MT → PyData
  | .num i => .tuple [.str "num", .tuple [.int i], .tuple []]
  | .truth b => .tuple [.str "truth", .tuple [.bool b], .tuple []]
  | .nil k => .tuple [.str "nil", .tuple [k.1], .tuple []]
  | .name x => .tuple [.str "name", .tuple [.str x], .tuple []]
  | .lam x k b => .tuple [.str "fun", .tuple [.str x, k.1], .tuple [mtD b]]
  | .add a b => .tuple [.str "add", .tuple [], .tuple [mtD a, mtD b]]
  | .less a b => .tuple [.str "less", .tuple [], .tuple [mtD a, mtD b]]
  | .front a b => .tuple [.str "front", .tuple [], .tuple [mtD a, mtD b]]
  | .call a b => .tuple [.str "call", .tuple [], .tuple [mtD a, mtD b]]
  | .cond a b c => .tuple [.str "if", .tuple [], .tuple [mtD a, mtD b, mtD c]]
  | .case k h t a b c => .tuple [.str "case", .tuple [k.1, .str h, .str t], .tuple [mtD a, mtD b, mtD c]]
def insD (C : Nat) (fs : List (Str × PyData)) : PyData := .dict ((.str "", .int (C : Nat)) :: fs.map fun p => (.str p.1, p.2))
structure Cs where
  ch : Nat
  cl : Nat
  kn : Nat
  gv : Nat
mutual
def outD : MV → PyData
  | .int i => .int i
  | .bool b => .bool b
  | .chain xs => .list (outDs xs)
  | .clos x b ρ => .tuple [.str "fun", .str x, mtD b, .list (outKs ρ).reverse]
def outDs : List MV → List PyData
  | [] => []
  | x :: xs => outD x :: outDs xs
def outKs : List (Str × MV) → List PyData
  | [] => []
  | (x, v) :: r => .tuple [.str x, outD v] :: outKs r
end
def gvO : MV → PyData
  | .chain xs => outD (.chain xs)
  | .clos x b ρ => outD (.clos x b ρ)
  | _ => .dict []
mutual
def mvD (c : Cs) : MV → PyData
  | .int i => .int i
  | .bool b => .bool b
  | .chain xs => chD c xs
  | .clos x b ρ => insD c.cl [("name", .str x), ("body", mtD b), ("known", knD c ρ), ("outside", .none)]
def chD (c : Cs) : List MV → PyData
  | [] => insD c.ch [("head", .none), ("rest", .none), ("outside", .none)]
  | v :: r => insD c.ch [("head", .dict [(.str "?", mvD c v), (.str "", .int (c.gv : Nat)), (.str "!", gvO v)]), ("rest", chD c r), ("outside", .none)]
def knD (c : Cs) : List (Str × MV) → PyData
  | [] => .none
  | (x, v) :: r => insD c.kn [("name", .str x), ("value", .dict [(.str "?", mvD c v), (.str "", .int (c.gv : Nat)), (.str "!", gvO v)]), ("others", knD c r)]
end
def eitD (c : Cs) (v : MV) : PyData := .dict [(.str "?", mvD c v), (.str "", .int (c.gv : Nat)), (.str "!", gvO v)]
def taskD (c : Cs) : Task → PyData
  | .beg e ρ => .tuple [.int 0, mtD e, knD c ρ]
  | .fin e ρ => .tuple [.int 1, mtD e, knD c ρ]
example (c : Cs) : mvD c (.chain []) = insD c.ch [("head", .none), ("rest", .none), ("outside", .none)] := by simp [mvD, chD]
end Wk
set_option Elab.async false
set_option linter.all false
set_option maxRecDepth 100000
set_option maxHeartbeats 4000000
namespace L2
open PySem PySem.Spec PyProof.Rows
section
variable {X : Cx} {pins : List (Addr × Obj)} {σ : St} {H : Hp} {s : Shared} {D : Addr} {o : HO}
theorem HOk.adopt {P : Program} {w : World} {h : Heap} (x : HOk P w H h) (hn : H D = none) (new : ObjOk P w (upd H D o) h D o) : HOk P w (upd H D o) h := fun b u e => by
  by_cases hb : b = D
  · subst hb; rw [upd_same] at e; cases e; exact new
  · rw [upd_ne hb] at e
    exact (x b u e).stay (fun c v _ q => q) (fun c q => by rw [upd_ne (ne_of_none q hn)]; exact q) fun c xs q => by rw [upd_ne (ne_of_none q hn)]; exact q
theorem Inv.adopt (I : Inv X pins σ H s) (hf : FpOk X pins H D) (new : ObjOk X.prog X.w (upd H D o) s.heap D o) : Inv X pins σ (upd H D o) s := by
  obtain ⟨f0, f1, f2, f3, f4, f5⟩ := hf
  obtain ⟨hp, g, d, t, os⟩ := s
  refine I.step (h' := hp) (g' := g) (t' := t) (d' := d) (ch := [D]) (fun b hb => ?_) (fun b ob _ _ _ e _ => e) (fun b ob _ _ _ e _ => ⟨ob.slots, e⟩) (fun b ob hb e n => ?_) (fun b ob _ e => ⟨ob, e⟩)
    (fun b xs e => by rw [upd_ne (ne_of_none e f0)]; exact e) (fun b ob u e => by rw [upd_ne (ne_of_none e f0)]; exact e) (fun b ps e => ⟨#[], by rw [upd_ne (ne_of_none e f0), e]; simp⟩) (fun m hm => hm) (I.hok.adopt f0 new) I.bare
  · have e : b = D := by simpa using hb
    subst e
    exact ⟨f3, f1, f4, f5⟩
  · rw [upd_ne (fun z => hb (by simp [z]))]
    exact n
end
section
variable {prog : Program} {w : World} {A : Around} {R : Result → Shared → Prop} {s : Shared}
end
section
variable {N : List Str} {sc scope : Scope} {xs : List Str} {env : Env}
end
section
variable {X : Cx} {pins : List (Addr × Obj)} {σ : St} {H : Hp} {s : Shared} {scope : Scope} {cl : List (Str × Addr)} {xs : List Str} {C : Addr} {fp : List Addr}
end
section
variable {X : Cx} {pins : List (Addr × Obj)} {σ : St} {H : Hp} {s : Shared} {scope : Scope} {xs : List Str} {elt iter tgt : Expr} {ifs : List Expr} {pos cpos : Pos} {wi : TI} {tg : TG} {tc : TT} {te : TE} {use : Option (Value → Sem Unit)} {Q : Value → Shared → Prop} {Fin : List V → Hp → Prop}
end
section
variable {X : Cx} {scope : Scope} {x : Str} {xs : List Str} {elt iter tgt : Expr} {ifs : List Expr} {px pos spos py : Pos} {wi : TI} {tg : TG} {tc : TT} {te : TE}
end
end L2
set_option Elab.async false
set_option linter.all false
set_option maxRecDepth 100000
set_option maxHeartbeats 4000000
namespace L2
open PySem PySem.Spec PyProof.Rows
def refOf : Option (Option Value) → Nat
  | some (some (.ref a)) => a
  | _ => 0
def csOf (K : PySem.W.Frag) : Wk.Cs := ⟨refOf (PySem.W.nsIn K mainGlobals "Chain"), refOf (PySem.W.nsIn K mainGlobals "Closure"), refOf (PySem.W.nsIn K mainGlobals "Known"), refOf (PySem.W.nsIn K mainGlobals "Given")⟩
def isEit (K : PySem.W.Frag) (kvs : List (PyData × PyData)) : Prop := ∃ x : Wk.MV, kvs = [(.str "?", Wk.mvD (csOf K) x), (.str "", .int ((csOf K).gv : Nat)), (.str "!", Wk.gvO x)]
mutual
def Rep (K : PySem.W.Frag) (H : Hp) : PyData → V → Prop
  | .none, v => v = .non
  | .bool b, v => v = .bl b
  | .int i, v => v = .int i
  | .str x, v => v = .str x
  | .tuple ds, v => ∃ a vs, v = .ref a ∧ SqT K H a vs ∧ Reps K H ds vs
  | .list ds, v => ∃ a o vs, v = .ref a ∧ H a = some (.frz o (.lst vs)) ∧ Reps K H ds vs
  | .dict kvs, v => (∃ a C dx fs, v = .ref a ∧ H a = some (.ins C dx fs) ∧ fs.lookup ("inside" : Str) = none ∧ RepF K H kvs ((("" : Str), V.int ((C : Nat) : Int)) :: fs)) ∨ RepG K H kvs v
def Reps (K : PySem.W.Frag) (H : Hp) : List PyData → List V → Prop
  | [], vs => vs = []
  | d :: ds, vs => ∃ v r, vs = v :: r ∧ Rep K H d v ∧ Reps K H ds r
def RepF (K : PySem.W.Frag) (H : Hp) : List (PyData × PyData) → List (Str × V) → Prop
  | [], vs => vs = []
  | (k, d) :: ds, vs => ∃ g v r, vs = (g, v) :: r ∧ k = .str g ∧ Rep K H d v ∧ RepF K H ds r
def RepG (K : PySem.W.Frag) (H : Hp) : List (PyData × PyData) → V → Prop
  | [], _ => False
  | (k, d) :: ds, v => (isEit K ((k, d) :: ds) ∧ v ≠ .non) ∧ (Rep K H d v ∨ ∃ a C dx val w, v = .ref a ∧ H a = some (.ins C dx [(("value" : Str), val), (("inside" : Str), w)]) ∧ RepF K H ds [(("" : Str), V.int ((C : Nat) : Int)), (("!" : Str), val)] ∧ (w = .non ∨ Rep K H d w))
end
structure TupLe (K : PySem.W.Frag) (H H' : Hp) : Prop where
  tup : ∀ a xs, SqT K H a xs → SqT K H' a xs
  frz : ∀ a o xs, H a = some (.frz o (.lst xs)) → H' a = some (.frz o (.lst xs))
  ins : ∀ a C dx fs, H a = some (.ins C dx fs) → H' a = some (.ins C dx fs)
instance {K : PySem.W.Frag} {H H' : Hp} : CoeFun (TupLe K H H') (fun _ => ∀ a xs, SqT K H a xs → SqT K H' a xs) := ⟨TupLe.tup⟩
theorem TupLe.of_keep {K : PySem.W.Frag} {H H' : Hp} (e : ∀ b o, H b = some o → (∀ xs, o ≠ .lst xs) → (∀ kvs, o ≠ .dK kvs) → (∀ kvs, o ≠ .dT kvs) → H' b = some o) : TupLe K H H' :=
  ⟨fun a xs h => by
    rcases h with (h | ⟨o, h⟩) | h
    · exact .inl (.inl (e _ _ h (fun _ z => nomatch z) (fun _ z => nomatch z) (fun _ z => nomatch z)))
    · exact .inl (.inr ⟨o, e _ _ h (fun _ z => nomatch z) (fun _ z => nomatch z) (fun _ z => nomatch z)⟩)
    · exact .inr h, fun a o xs h => e _ _ h (fun _ z => nomatch z) (fun _ z => nomatch z) (fun _ z => nomatch z), fun a C dx fs h => e _ _ h (fun _ z => nomatch z) (fun _ z => nomatch z) (fun _ z => nomatch z)⟩
theorem TupLe.trans {K : PySem.W.Frag} {H H1 H2 : Hp} (a : TupLe K H H1) (b : TupLe K H1 H2) : TupLe K H H2 := ⟨fun c xs h => b.tup c xs (a.tup c xs h), fun c o xs h => b.frz c o xs (a.frz c o xs h), fun c C dx fs h => b.ins c C dx fs (a.ins c C dx fs h)⟩
theorem TupLe.of_same {K : PySem.W.Frag} {H H' : Hp} (e : Same H H') : TupLe K H H' := .of_keep fun b o h _ _ _ => e b o h
def SameBut (p : Addr) (H H' : Hp) : Prop := ∀ b o, b ≠ p → H b = some o → H' b = some o
theorem SameBut.upd {p : Addr} {H : Hp} (o : HO) : SameBut p H (upd H p o) := fun b u n h => by rw [upd_ne n]; exact h
theorem SameBut.tup {K : PySem.W.Frag} {p : Addr} {H H' : Hp} {xs : List V} (e : SameBut p H H') (hp : H p = some (.lst xs)) : TupLe K H H' := .of_keep fun b o h n _ _ => e b o (fun z => by rw [z, hp] at h; cases h; exact n _ rfl) h
theorem same_upd {H : Hp} {p : Addr} (h : H p = none) (o : HO) : Same H (upd H p o) := fun b u q => by rw [upd_ne (ne_of_none q h)]; exact q
section
variable {K : PySem.W.Frag} {H H' : Hp}
mutual
theorem Rep.mono (e : TupLe K H H') : ∀ (d : PyData) (v : V), Rep K H d v → Rep K H' d v
  | .none, v, h => by rw [Rep] at h ⊢; exact h
  | .bool _, v, h => by rw [Rep] at h ⊢; exact h
  | .int _, v, h => by rw [Rep] at h ⊢; exact h
  | .str _, v, h => by rw [Rep] at h ⊢; exact h
  | .tuple ds, v, h => by
    rw [Rep] at h ⊢
    obtain ⟨a, vs, e1, e2, e3⟩ := h
    exact ⟨a, vs, e1, e.tup a vs e2, Reps.mono e ds vs e3⟩
  | .list ds, v, h => by
    rw [Rep] at h ⊢
    obtain ⟨a, o, vs, e1, e2, e3⟩ := h
    exact ⟨a, o, vs, e1, e.frz a o vs e2, Reps.mono e ds vs e3⟩
  | .dict kvs, v, h => by
    rw [Rep] at h ⊢
    rcases h with ⟨a, C, dx, fs, e1, e2, e3, e4⟩ | h
    · exact .inl ⟨a, C, dx, fs, e1, e.ins a C dx fs e2, e3, RepF.mono e kvs _ e4⟩
    · exact .inr (RepG.mono e kvs v h)
theorem Reps.mono (e : TupLe K H H') : ∀ (ds : List PyData) (vs : List V), Reps K H ds vs → Reps K H' ds vs
  | [], vs, h => by rw [Reps] at h ⊢; exact h
  | d :: ds, vs, h => by
    rw [Reps] at h ⊢
    obtain ⟨v, r, e1, e2, e3⟩ := h
    exact ⟨v, r, e1, Rep.mono e d v e2, Reps.mono e ds r e3⟩
theorem RepF.mono (e : TupLe K H H') : ∀ (ds : List (PyData × PyData)) (vs : List (Str × V)), RepF K H ds vs → RepF K H' ds vs
  | [], vs, h => by rw [RepF] at h ⊢; exact h
  | (k, d) :: ds, vs, h => by
    rw [RepF] at h ⊢
    obtain ⟨g, v, r, e1, e2, e3, e4⟩ := h
    exact ⟨g, v, r, e1, e2, Rep.mono e d v e3, RepF.mono e ds r e4⟩
theorem RepG.mono (e : TupLe K H H') : ∀ (ds : List (PyData × PyData)) (v : V), RepG K H ds v → RepG K H' ds v
  | [], v, h => by rw [RepG] at h; exact h.elim
  | (k, d) :: ds, v, h => by
    rw [RepG] at h ⊢
    obtain ⟨h0, h⟩ := h
    refine ⟨h0, ?_⟩
    rcases h with h | ⟨a, C, dx, val, w, e1, e2, e3, e4⟩
    · exact .inl (Rep.mono e d v h)
    · refine .inr ⟨a, C, dx, val, w, e1, e.ins a C dx _ e2, RepF.mono e ds _ e3, ?_⟩
      rcases e4 with e4 | e4
      · exact .inl e4
      · exact .inr (Rep.mono e d w e4)
end
theorem Reps.length : ∀ {ds : List PyData} {vs : List V}, Reps K H ds vs → vs.length = ds.length
  | [], vs, h => by rw [Reps] at h; rw [h]; rfl
  | d :: ds, vs, h => by
    rw [Reps] at h
    obtain ⟨v, r, e1, _, e3⟩ := h
    rw [e1, List.length_cons, List.length_cons, Reps.length e3]
theorem Reps.get : ∀ {ds : List PyData} {vs : List V} {i : Nat} {d : PyData}, Reps K H ds vs → ds[i]? = some d → ∃ v, vs[i]? = some v ∧ Rep K H d v
  | [], vs, i, d, h, e => by simp at e
  | x :: ds, vs, 0, d, h, e => by
    rw [Reps] at h
    obtain ⟨v, r, e1, e2, _⟩ := h
    simp at e
    subst e e1
    exact ⟨v, rfl, e2⟩
  | x :: ds, vs, i + 1, d, h, e => by
    rw [Reps] at h
    obtain ⟨v, r, e1, _, e3⟩ := h
    subst e1
    obtain ⟨u, h1, h2⟩ := Reps.get (i := i) (d := d) e3 (by simpa using e)
    exact ⟨u, by simpa using h1, h2⟩
theorem Reps.append : ∀ {ds es : List PyData} {vs ws : List V}, Reps K H ds vs → Reps K H es ws → Reps K H (ds ++ es) (vs ++ ws)
  | [], es, vs, ws, h, h' => by rw [Reps] at h; rw [h]; exact h'
  | d :: ds, es, vs, ws, h, h' => by
    rw [Reps] at h
    obtain ⟨v, r, e1, e2, e3⟩ := h
    subst e1
    rw [List.cons_append, List.cons_append, Reps]
    exact ⟨v, r ++ ws, rfl, e2, Reps.append e3 h'⟩
theorem Reps.one {d : PyData} {v : V} (h : Rep K H d v) : Reps K H [d] [v] := by
  rw [Reps]; exact ⟨v, [], rfl, h, by rw [Reps]⟩
theorem Reps.nil : Reps K H [] [] := by rw [Reps]
theorem Reps.cons {d : PyData} {ds : List PyData} {v : V} {vs : List V} (h : Rep K H d v) (t : Reps K H ds vs) : Reps K H (d :: ds) (v :: vs) := by
  rw [Reps]; exact ⟨v, vs, rfl, h, t⟩
theorem Reps.split {d : PyData} {ds : List PyData} {vs : List V} (h : Reps K H (d :: ds) vs) : ∃ v r, vs = v :: r ∧ Rep K H d v ∧ Reps K H ds r := by rw [Reps] at h; exact h
theorem Reps.reverse {ds : List PyData} {vs : List V} (h : Reps K H ds vs) : Reps K H ds.reverse vs.reverse := by
  induction ds generalizing vs with
  | nil => rw [Reps] at h; rw [h]; exact .nil
  | cons d ds ih =>
    obtain ⟨v, r, e1, e2, e3⟩ := h.split
    subst e1
    rw [List.reverse_cons, List.reverse_cons]
    exact (ih e3).append (.one e2)
theorem Rep.tuple {ds : List PyData} {a : Addr} {vs : List V} (h : SqT K H a vs) (r : Reps K H ds vs) : Rep K H (.tuple ds) (.ref a) := by
  rw [Rep]; exact ⟨a, vs, rfl, h, r⟩
theorem Rep.untuple {ds : List PyData} {v : V} (h : Rep K H (.tuple ds) v) : ∃ a vs, v = .ref a ∧ SqT K H a vs ∧ Reps K H ds vs := by rw [Rep] at h; exact h
theorem Rep.int (i : Int) : Rep K H (.int i) (.int i) := by rw [Rep]
theorem Rep.str (x : Str) : Rep K H (.str x) (.str x) := by rw [Rep]
theorem Rep.bool (b : Bool) : Rep K H (.bool b) (.bl b) := by rw [Rep]
theorem Rep.non : Rep K H .none .non := by rw [Rep]
theorem Rep.is_int {i : Int} {v : V} (h : Rep K H (.int i) v) : v = .int i := by rw [Rep] at h; exact h
theorem Rep.is_str {x : Str} {v : V} (h : Rep K H (.str x) v) : v = .str x := by rw [Rep] at h; exact h
theorem Rep.is_bool {b : Bool} {v : V} (h : Rep K H (.bool b) v) : v = .bl b := by rw [Rep] at h; exact h
theorem Rep.is_non {v : V} (h : Rep K H .none v) : v = .non := by rw [Rep] at h; exact h
end
section
variable {X : Cx} {pins : List (Addr × Obj)} {σ : St} {H : Hp} {s : Shared}
mutual
theorem Inv.reads (I : Inv X pins σ H s) : ∀ (d : PyData) (v : V) (u : Value), Rep X.K H d v → RelV v u → d.canLay0 = true → ∃ as, Reads s.heap u d as
  | .none, v, u, h, r, _ => by rw [Rep] at h; subst h; cases r; exact ⟨_, .none⟩
  | .bool b, v, u, h, r, _ => by rw [Rep] at h; subst h; cases r; exact ⟨_, .bool b⟩
  | .int i, v, u, h, r, _ => by rw [Rep] at h; subst h; obtain ⟨t, rfl⟩ := r; exact ⟨_, .int i t⟩
  | .str x, v, u, h, r, _ => by rw [Rep] at h; subst h; obtain ⟨t, rfl⟩ := r; exact ⟨_, .str x t⟩
  | .tuple ds, v, u, h, r, c => by
    rw [Rep] at h
    obtain ⟨a, vs, e1, e2, e3⟩ := h
    subst e1
    cases r
    obtain ⟨its, rv, ⟨o, ho, hc, n, hd⟩, _⟩ := I.tuple e2
    obtain ⟨as, ra⟩ := Inv.readsAll I ds vs its e3 rv (by simpa [PyData.canLay0] using c)
    exact ⟨as, .tuple ho hc hd (by simpa using ra)⟩
  | .list ds, v, u, h, r, c => by
    rw [Rep] at h
    obtain ⟨a, o0, vs, e1, e2, e3⟩ := h
    subst e1
    cases r
    obtain ⟨its, rv, ⟨o, n, ho, hc, _, hd⟩, _⟩ := I.list (.inl (.inr ⟨o0, e2⟩))
    obtain ⟨as, ra⟩ := Inv.readsAll I ds vs its e3 rv (by simpa [PyData.canLay0] using c)
    exact ⟨a :: as, .list ho hc hd (by simpa using ra)⟩
  | .dict _, v, u, h, r, c => by simp [PyData.canLay0] at c
theorem Inv.readsAll (I : Inv X pins σ H s) : ∀ (ds : List PyData) (vs : List V) (us : List Value), Reps X.K H ds vs → Vals vs us → PyData.canLayAll0 ds = true → ∃ as, ReadsAll s.heap us ds as
  | [], vs, us, h, r, _ => by rw [Reps] at h; subst h; cases r; exact ⟨_, .nil⟩
  | d :: ds, vs, us, h, r, c => by
    rw [Reps] at h
    obtain ⟨v, w, e1, e2, e3⟩ := h
    subst e1
    rw [PyData.canLayAll0, Bool.and_eq_true] at c
    cases r with
    | cons r1 r2 =>
      obtain ⟨as, ra⟩ := Inv.reads I d v _ e2 r1 c.1
      obtain ⟨bs, rb⟩ := Inv.readsAll I ds w _ e3 r2 c.2
      exact ⟨_, .cons ra rb⟩
end
def RepL (K : PySem.W.Frag) (H : Hp) (d : PyData) (v : V) : Prop := match d with
  | .list ds => ∃ a vs, v = .ref a ∧ SqL K H a vs ∧ Reps K H ds vs
  | d => Rep K H d v
theorem Inv.readsL (I : Inv X pins σ H s) {d : PyData} {v : V} {u : Value} (h : RepL X.K H d v) (r : RelV v u) (c : d.canLay0 = true) : ∃ as, Reads s.heap u d as := by
  cases d with
  | list ds =>
    obtain ⟨a, vs, e1, e2, e3⟩ := h
    subst e1
    cases r
    obtain ⟨its, rv, ⟨o, n, ho, hc, _, hd⟩, _⟩ := I.list e2
    obtain ⟨as, ra⟩ := I.readsAll ds vs its e3 rv (by simpa [PyData.canLay0] using c)
    exact ⟨a :: as, .list ho hc hd (by simpa using ra)⟩
  | _ => exact I.reads _ v u h r c
def rEqD (K : PySem.W.Frag) (n : Nat) : R2 := fun x y H Q => ∃ d e, RepL K H d x ∧ RepL K H e y ∧ d.canLay0 = true ∧ e.canLay0 = true ∧ (d.depth ≤ n ∨ e.depth ≤ n) ∧ Q (.bl (PyData.eqv d e)) H
def rNeD (K : PySem.W.Frag) (n : Nat) : R2 := fun x y H Q => ∃ d e, RepL K H d x ∧ RepL K H e y ∧ d.canLay0 = true ∧ e.canLay0 = true ∧ (d.depth ≤ n ∨ e.depth ≤ n) ∧ Q (.bl (!PyData.eqv d e)) H
theorem op_eqD {n : Nat} (hu : X.A.units + n < cLine) : OpR X (compareOp .Eq) (rEqD X.K n) := by
  intro pins s σ H x y v u Q I rx ry h
  obtain ⟨d, e, hd, he, cd, ce, hn, q⟩ := h
  obtain ⟨as, ra⟩ := I.readsL hd rx cd
  obtain ⟨bs, rb⟩ := I.readsL he ry ce
  exact SeqAt.compareEq_reads ra rb cd ce (by omega) ⟨.bl _, H, I, rfl, q⟩
theorem op_neD {n : Nat} (hu : X.A.units + n < cLine) : OpR X (compareOp .NotEq) (rNeD X.K n) := by
  intro pins s σ H x y v u Q I rx ry h
  obtain ⟨d, e, hd, he, cd, ce, hn, q⟩ := h
  obtain ⟨as, ra⟩ := I.readsL hd rx cd
  obtain ⟨bs, rb⟩ := I.readsL he ry ce
  exact SeqAt.compareNe_reads ra rb cd ce (by omega) ⟨.bl _, H, I, rfl, q⟩
end
section
variable {X : Cx}
theorem op_mulS : OpR X (binaryOp .Mult) (fun x y H Q => ∃ z n, x = .str z ∧ y = .int n ∧ 0 < z.length ∧ 1 < n ∧ n ≤ 1000 ∧ z.length ≤ 1000 ∧ Q (.str (Txt.mul z n)) H) := by
  intro pins s σ H x y v u Q I rx ry h
  obtain ⟨z, n, rfl, rfl, h0, h1, h2, h3, q⟩ := h
  obtain ⟨t, rfl⟩ := rx
  obtain ⟨t', rfl⟩ := ry
  have hb : (z.length : Int) * n ≤ 1000000 := by
    have a1 : (z.length : Int) ≤ 1000 := by omega
    have a2 : (z.length : Int) * n ≤ 1000 * n := Int.mul_le_mul_of_nonneg_right a1 (by omega)
    omega
  refine SB.mul ⟨?_, fun _ _ hh => ?_, fun _ _ => ?_⟩ fun t' k => ⟨.str _, H, I.tok _, ⟨_, rfl⟩, q⟩
  · rw [decide_eq_false (by omega), decide_eq_false (by omega)]; rfl
  · have : (2 ^ 63 - 1 : Int) / n ≥ 1000 := by
      rw [ge_iff_le, Int.le_ediv_iff_mul_le (by omega)]
      omega
    omega
  · show Builtin.Str.tooLong _ = false
    unfold Builtin.Str.tooLong
    refine decide_eq_false ?_
    have e : ((z.length * n.toNat : Nat) : Int) = (z.length : Int) * n := by rw [Int.natCast_mul, Int.toNat_of_nonneg (by omega)]
    have hs : sizeLine = 16777216 := sizeLine_eq
    omega
inductive TyV (K : PySem.W.Frag) (H : Hp) : V → Value → Prop where
  | of {x : V} {t : Value} (h : TyOf K H x t) : TyV K H x t
  | sqT {a : Addr} {xs : List V} (h : SqT K H a xs) : TyV K H (.ref a) (.type "tuple")
  | sqL {a : Addr} {xs : List V} (h : SqL K H a xs) : TyV K H (.ref a) (.type "list")
theorem call_isinst : CallR X (.builtin "isinstance") (fun xs H Q => ∃ x T t b, xs = [x, .ty T] ∧ TyV X.K H x t ∧ PySem.W.kitOne X.K t (.type T) = some b ∧ Q (.bl b) H) := by
  intro pins s σ H xs us Q I r h
  obtain ⟨x, T, t, b, rfl, ty, e, q⟩ := h
  obtain ⟨u, w', rfl, rx, rt⟩ := vals2 r
  cases rt
  cases ty with
  | of ty => exact isinst_ok I rx ty e fun tk => ⟨.bl b, H, I.tok _, rfl, q⟩
  | sqT hq =>
    cases rx
    obtain ⟨its, _, ⟨o, h1, h2, _⟩, _⟩ := I.tuple hq
    exact PySem.W.kia_one PySem.W.kitx_tuple I.kIn ⟨o, h1, h2⟩ e (fun z => nomatch z) fun tk => ⟨.bl b, H, I.tok _, rfl, q⟩
  | sqL hq =>
    cases rx
    obtain ⟨its, _, ⟨o, n, h1, h2, _⟩, _⟩ := I.list hq
    exact PySem.W.kia_one PySem.W.kitx_list I.kIn ⟨o, h1, h2⟩ e (fun z => nomatch z) fun tk => ⟨.bl b, H, I.tok _, rfl, q⟩
def rIsi (K : PySem.W.Frag) : List V → Hp → VK → Prop := fun xs H Q => ∃ x T t b, xs = [x, .ty T] ∧ TyV K H x t ∧ PySem.W.kitOne K t (.type T) = some b ∧ Q (.bl b) H
theorem pe_isinst {e : Expr} {te : TE} {x : Str} {T : String} {p p2 pos : Pos} (hg : Gl X "isinstance") (hm : X.mg "isinstance" = none) (hgT : Gl X x) (hmT : X.mg x = none) (hv : bootBuiltins x = some (.type T)) (he : PE X e te)
    (hn : x ≠ "__name__" := by decide) (hd : (x == ("__debug__" : Str)) = false := by decide)
    (hs : starEach [e, .Name x p2] X.env = (false, eval e X.env) :: starEach [.Name x p2] X.env := by rfl) :
    PE X (.Call (.Name "isinstance" p) [e, .Name x p2] [] pos) (tCB (rIsi X.K) (tCons te (tCons (tC (.ty T)) tNil))) :=
  pe_callB (call_isinst (X := X)) hg hm boot_isinstance (pa_cons he (pa_cons (pe_bltn hgT hmT hv rfl hn hd) pa_nil) hs) (by decide) (by decide) hs
end
end L2
set_option Elab.async false
set_option linter.all false
set_option maxRecDepth 100000
set_option maxHeartbeats 4000000
namespace L2
open PySem PySem.Spec PyProof.Rows
section
variable {prog : Program} {w : World} {A : Around} {E : Value → Shared → Prop} {s : Shared}
open AutoSeq1 (wpAny_loadPart')
end
section
open AutoSeq1 (wpAny_loadPart')
end
def ItEn (src : Hp → List V → Prop) : It :=
  ⟨fun i H => ∃ xs, src H xs ∧ i < xs.length, fun i H v H' => ∃ p x, v = .ref p ∧ H p = none ∧ H' = upd H p (.tup [.int i, x]) ∧ ∀ xs, src H xs → xs[i]? = some x, fun i H => ∃ xs, src H xs ∧ i = xs.length⟩
theorem turn_enum {P : Program} {w : World} {K : PySem.W.Frag} {elts : List Expr} {k : Nat} {pos : Pos} (src : Hp → List V → Prop) (e it t : Addr) (hei : e ≠ it) (hte : t ≠ e) (hti : t ≠ it) (si : Nat → Heap → Prop) (ct : Array Value → Heap → Prop)
    (hsi : ∀ i h, si i h → ∃ o, h.get? it = some o ∧ ∀ v, o.data ≠ .cell v) (hsk : ∀ i h h', si i h → (∀ o, h.get? it = some o → h'.get? it = some o) → si i h')
    (hct : ∀ items h, ct items h → ∃ o, h.get? t = some o) (htk : ∀ items h h', ct items h → (∀ o, h.get? t = some o → h'.get? t = some o) → ct items h')
    (hD : ∀ (A : Around), A.handled = none → ∀ items, Draws P w A it [it, t] items.size (fun i v => items[i]? = some v) (fun i h => si i h ∧ ct items h))
    (hS : ∀ (X : Cx), X.prog = P → X.w = w → X.K = K → ∀ (pins : List (Addr × Obj)) (s : Shared) (σ : St) (H : Hp) xs, Inv X pins σ H s → src H xs → ∃ its : List Value, Vals xs its ∧ ct its.toArray s.heap ∧ xs.length ≤ sizeLine)
    (hI : ∀ (X : Cx), X.prog = P → X.w = w → X.K = K → ∀ (pins : List (Addr × Obj)) (s : Shared) (σ : St) (H : Hp) xs ys, Inv X pins σ H s → src H xs → src H ys → xs = ys) :
    Turn P w K (.Tuple elts k pos) (ItEn src) [e, it] e (fun i h => (∃ old, IsEnum h e it i old) ∧ si i h) where
  mem := by simp
  obj := fun i h st b hb => by
    obtain ⟨⟨old, h1⟩, h2⟩ := st
    rcases List.mem_cons.mp hb with rfl | hb
    · exact ⟨_, h1, fun v z => by cases z⟩
    · have e0 : b = it := by simpa using hb
      rw [e0]; exact hsi i h h2
  keep := fun i h h' st hk => by
    obtain ⟨⟨old, h1⟩, h2⟩ := st
    exact ⟨⟨old, hk e (by simp) _ h1⟩, hsk i h h' h2 fun o q => hk it (by simp) o q⟩
  item := by
    intro X hP hw hK hc i pins s σ H E I hf st hg
    have hP' := hP; have hw' := hw; have hK' := hK
    subst hP hw hK
    obtain ⟨xs, hsrc, hi⟩ := hg
    obtain ⟨its, rv, hct0, hz⟩ := hS X rfl rfl rfl pins s σ H xs I hsrc
    obtain ⟨⟨old, h1⟩, h2⟩ := st
    have D := hD X.A.in1 (I.ok.hd hc) its.toArray
    have WT := WalksT.enumerateD (A := X.A) D e hei (by simp [hei, Ne.symm hte]) (by simp)
    have fE := hf e (by simp)
    have fI := hf it (by simp)
    have hlen := rv.length
    refine WT.item i s _ E (by rw [List.size_toArray]; omega) ⟨⟨old, h1⟩, h2, hct0⟩ fun T vals h' tk hPt hTz hTup hMid hk => ?_
    obtain ⟨tt, xv, hxv, rfl⟩ := hPt
    have hx : xs[i]? = some (xs[i]'hi) := List.getElem?_eq_getElem hi
    obtain ⟨u, hu, ru⟩ := rv.get hx
    have exv : xv = u := by
      have q : its[i]? = some xv := by simpa using hxv
      rw [hu] at q
      exact (Option.some.inj q).symm
    subst exv
    refine ⟨.ref T, rfl, ?_⟩
    have keepB : ∀ b o, b ≠ e → b ≠ it → s.heap.get? b = some o → h'.get? b = some o := fun b o n1 n2 q => hk b o (by simp [n1, n2]) q
    have hTn : H T = none := I.hok.fresh hTz
    have tTup : h'.IsTuple T #[.int i tt, xv] := hTup
    have step : ∀ {h2 : Heap} {tk2 : Nat}, (∀ b o, b ≠ e → b ≠ it → s.heap.get? b = some o → h2.get? b = some o) → h2.IsTuple T #[.int i tt, xv] → Inv X pins σ (upd H T (.tup [.int i, xs[i]'hi])) { s with heap := h2, toks := tk2 } := fun {h2 tk2} kp tp => by
      have n0 : ∀ b u, H b = some u → b ≠ e ∧ b ≠ it := fun b u q => ⟨fun z => (by rw [z, fE.1] at q; cases q), fun z => (by rw [z, fI.1] at q; cases q)⟩
      refine I.step (g' := s.gens) (d' := s.drawn) (ch := [e, it]) (fun b hb => ?_) (fun b o _ _ hb q _ => kp b o (fun z => hb (by simp [z])) (fun z => hb (by simp [z])) q) (fun b o _ _ hb q _ => ⟨o.slots, kp b o (fun z => hb (by simp [z])) (fun z => hb (by simp [z])) q⟩)
        (fun b o hb q n => by rw [upd_ne (Nat.ne_of_lt (Nat.lt_of_lt_of_le (Heap.lt_size q) hTz))]; exact n) (fun b o hb q => ⟨o, kp b o (fun z => hb (by simp [z])) (fun z => hb (by simp [z])) q⟩)
        (fun b ys q => by rw [upd_ne (ne_of_none q hTn)]; exact q) (fun b ob v q => by rw [upd_ne (ne_of_none q hTn)]; exact q) (fun b ps q => ⟨#[], by rw [upd_ne (ne_of_none q hTn), q]; simp⟩) (fun m hm => ?_) (fun b v q => ?_) I.bare
      · rcases List.mem_cons.mp hb with rfl | hb
        · exact ⟨fE.2.2.2.1, fE.2.1, fE.2.2.2.2.1, fE.2.2.2.2.2⟩
        · have e0 : b = it := by simpa using hb
          subst e0
          exact ⟨fI.2.2.2.1, fI.2.1, fI.2.2.2.2.1, fI.2.2.2.2.2⟩
      · obtain ⟨o, es, ep, ho, r⟩ := hm
        exact ⟨o, es, ep, kp _ o (Ne.symm fE.2.1) (Ne.symm fI.2.1) ho, r⟩
      · by_cases hb : b = T
        · subst hb
          rw [upd_same] at q
          cases q
          exact ⟨by show 2 ≤ sizeLine; decide, [.int i tt, xv], .cons ⟨_, rfl⟩ (.cons ru .nil), tp⟩
        · rw [upd_ne hb] at q
          refine (I.hok b v q).stay (fun c w' hc' q' => kp c w' ?_ ?_ q') (fun c q' => by rw [upd_ne (ne_of_none q' hTn)]; exact q') fun c ys q' => by rw [upd_ne (ne_of_none q' hTn)]; exact q'
          · rcases hc' with z | z
            · rw [z]; exact (n0 b v q).1
            · exact (n0 c _ z).1
          · rcases hc' with z | z
            · rw [z]; exact (n0 b v q).2
            · exact (n0 c _ z).2
    refine WT.go elts k pos i T _ _ E hMid fun h2 st2 hk2 => ?_
    have hTe : T ≠ e := Nat.ne_of_gt (Nat.lt_of_lt_of_le (Heap.lt_size h1) hTz)
    have hTi : T ≠ it := by obtain ⟨o, q, _⟩ := hsi _ _ ‹si i s.heap›; exact Nat.ne_of_gt (Nat.lt_of_lt_of_le (Heap.lt_size q) hTz)
    have tp2 : h2.IsTuple T #[.int i tt, xv] := let ⟨o, q, r⟩ := tTup; ⟨o, hk2 T o (by simp [hTe, hTi]) q, r⟩
    have kp2 : ∀ b o, b ≠ e → b ≠ it → s.heap.get? b = some o → h2.get? b = some o := fun b o n1 n2 q => hk2 b o (by simp [n1, n2]) (keepB b o n1 n2 q)
    refine ⟨.ref T, _, step (tk2 := tk) kp2 tp2, rfl, ⟨T, xs[i]'hi, rfl, hTn, rfl, fun ys hy => by rw [hI X rfl rfl rfl pins s σ H ys xs I hy hsrc]; exact hx⟩, ⟨st2.1, st2.2.1⟩, fun b hb => ?_⟩
    rw [upd_ne]
    · exact (hf b hb).1
    · rcases List.mem_cons.mp hb with rfl | hb
      · exact Ne.symm hTe
      · have e0 : b = it := by simpa using hb
        rw [e0]; exact Ne.symm hTi
  done := by
    intro X hP hw hK hc i pins s σ H E I hf st hg
    subst hP hw hK
    obtain ⟨xs, hsrc, hi⟩ := hg
    obtain ⟨its, rv, hct0, hz⟩ := hS X rfl rfl rfl pins s σ H xs I hsrc
    obtain ⟨⟨old, h1⟩, h2⟩ := st
    have D := hD X.A.in1 (I.ok.hd hc) its.toArray
    have WT := WalksT.enumerateD (A := X.A) D e hei (by simp [hei, Ne.symm hte]) (by simp)
    have fE := hf e (by simp)
    have fI := hf it (by simp)
    have hlen := rv.length
    have hin : i = its.toArray.size := by rw [List.size_toArray]; omega
    subst hin
    refine WT.done s _ E ⟨⟨old, h1⟩, h2, hct0⟩ fun h' tk hk => ⟨rfl, ?_⟩
    have n0 : ∀ b u, H b = some u → b ≠ e ∧ b ≠ it := fun b u q => ⟨fun z => (by rw [z, fE.1] at q; cases q), fun z => (by rw [z, fI.1] at q; cases q)⟩
    have kp : ∀ b o, b ≠ e → b ≠ it → s.heap.get? b = some o → h'.get? b = some o := fun b o n1 n2 q => hk b o (by simp [n1, n2]) q
    refine I.step (g' := s.gens) (d' := s.drawn) (ch := [e, it]) (fun b hb => ?_) (fun b o _ _ hb q _ => kp b o (fun z => hb (by simp [z])) (fun z => hb (by simp [z])) q) (fun b o _ _ hb q _ => ⟨o.slots, kp b o (fun z => hb (by simp [z])) (fun z => hb (by simp [z])) q⟩)
      (fun b o hb q n => n) (fun b o hb q => ⟨o, kp b o (fun z => hb (by simp [z])) (fun z => hb (by simp [z])) q⟩) (fun b ys q => q) (fun b ob v q => q) (fun b ps q => ⟨#[], by rw [q]; simp⟩) (fun m hm => ?_) (fun b v q => ?_) I.bare
    · rcases List.mem_cons.mp hb with rfl | hb
      · exact ⟨fE.2.2.2.1, fE.2.1, fE.2.2.2.2.1, fE.2.2.2.2.2⟩
      · have e0 : b = it := by simpa using hb
        subst e0
        exact ⟨fI.2.2.2.1, fI.2.1, fI.2.2.2.2.1, fI.2.2.2.2.2⟩
    · obtain ⟨o, es, ep, ho, r⟩ := hm
      exact ⟨o, es, ep, kp _ o (Ne.symm fE.2.1) (Ne.symm fI.2.1) ho, r⟩
    · refine (I.hok b v q).stay (fun c w' hc' q' => kp c w' ?_ ?_ q') (fun c q' => q') fun c ys q' => q'
      · rcases hc' with z | z
        · rw [z]; exact (n0 b v q).1
        · exact (n0 c _ z).1
      · rcases hc' with z | z
        · rw [z]; exact (n0 b v q).2
        · exact (n0 c _ z).2
  self := fun A i s Q E st h => by
    obtain ⟨⟨old, h1⟩, _⟩ := st
    exact wpAny_pyIter_enum h1 h
section
variable {X : Cx} {l : Expr} {ta : TA} {elts : List Expr} {k : Nat} {p pos pos2 : Pos}
def iEnL (K : PySem.W.Frag) (ta : TA) : TI := fun σ H R => ta σ H fun vs H1 => ∃ a xs, vs = [.ref a] ∧ SqL K H1 a xs ∧ R (ItEn fun H ys => SqL K H a ys) H1
theorem pi_enumL (hg : Gl X "enumerate") (hm : X.mg "enumerate" = none) (ha : PA X [l] ta) (hs : starEach [l] X.env = [(false, eval l X.env)] := by rfl) : PI X (.Tuple elts k pos2) (.Call (.Name "enumerate" p) [l] [] pos) (iEnL X.K ta) := by
  intro pins s σ H R I h
  refine Call_ (ld_blt I hg hm boot_enumerate (PyProof.Rows.callWith_type1 (thn (ha pos pins s σ H _ I h) fun us s1 ⟨vs, H1, I1, r1, q1⟩ => ?_) hs rfl))
  obtain ⟨a, xs, e, hq, q⟩ := q1
  subst e
  obtain ⟨u, rfl, ru⟩ := vals1 r1
  cases ru
  obtain ⟨its, rv, pl, hz⟩ := I1.list hq
  have hal : a < s1.heap.objs.size := let ⟨o, _, e, _⟩ := pl; Heap.lt_size e
  refine call_enumerate_list pl.isList fun h' he hi hz' hk => wpAny_pyIter_enum he ?_
  refine ⟨s1.heap.objs.size + 1, [s1.heap.objs.size + 1, s1.heap.objs.size], _, _, H1, rfl, I1.kept (t' := s1.toks) hk, turn_enum (fun H ys => SqL X.K H a ys) (s1.heap.objs.size + 1) s1.heap.objs.size a (Nat.succ_ne_self _) (Nat.ne_of_lt (Nat.lt_succ_of_lt hal)) (Nat.ne_of_lt hal)
      (fun i h => h.IsListIter s1.heap.objs.size a i) (fun items h => h.IsList a items) (fun i h ⟨o, e1, _, e2⟩ => ⟨o, e1, fun v z => by rw [e2] at z; cases z⟩) (fun i h h' ⟨o, e1, r⟩ k => ⟨o, k o e1, r⟩) (fun items h ⟨o, e1, _⟩ => ⟨o, e1⟩) (fun items h h' ⟨o, e1, r⟩ k => ⟨o, k o e1, r⟩)
      (fun A hh items => Draws.list hh s1.heap.objs.size a (Nat.ne_of_lt hal) items)
      (fun X' hP hw hK pins' s' σ' H' ys I' hy => by
        rw [← hK] at hy
        obtain ⟨its', rv', pl', hz''⟩ := I'.list hy
        exact ⟨its', rv', pl'.isList, hz''⟩)
      (fun X' hP hw hK pins' s' σ' H' ys zs I' hy hzs => by rw [← hK] at hy hzs; exact I'.list_inj hy hzs),
    ⟨⟨_, he⟩, hi⟩, fun b hb => ?_, q⟩
  rcases List.mem_cons.mp hb with rfl | hb
  · exact I1.fpOk (Nat.le_succ _) (I1.hok.fresh (Nat.le_succ _))
  · have e0 : b = s1.heap.objs.size := by simpa using hb
    subst e0
    exact I1.fpOk (Nat.le_refl _) (I1.hok.fresh (Nat.le_refl _))
end
def ItRv (K : PySem.W.Frag) (a : Addr) (n : Nat) : It :=
  ⟨fun i H => i < n ∧ ∃ xs, SqL K H a xs ∧ xs.length = n, fun i H x H' => H' = H ∧ ∀ xs, SqL K H a xs → xs.length = n → xs[n - 1 - i]? = some x, fun i H => i = n ∧ ∃ xs, SqL K H a xs ∧ xs.length = n⟩
theorem turn_rev {P : Program} {w : World} {K : PySem.W.Frag} {tg : Expr} (a it : Addr) (n : Nat) (hne : a ≠ it) : Turn P w K tg (ItRv K a n) [it] it (fun i h => i ≤ n ∧ h.IsRevIter it a ((n : Int) - 1 - (i : Int))) where
  mem := by simp
  obj := fun i h st b hb => by
    have e : b = it := by simpa using hb
    subst e
    obtain ⟨_, o, e, c, d⟩ := st
    exact ⟨o, e, fun v z => by rw [d] at z; cases z⟩
  keep := fun i h h' st k => ⟨st.1, st.2.at fun o e => k it (by simp) o e⟩
  item := by
    intro X hP hw hK hc i pins s σ H E I hf st hg
    subst hP hw hK
    obtain ⟨hi, xs, hq, hlen⟩ := hg
    obtain ⟨its, rv, p, hz⟩ := I.list hq
    have hl := rv.length
    have hx : xs[n - 1 - i]? = some (xs[n - 1 - i]'(by omega)) := List.getElem?_eq_getElem _
    obtain ⟨u, hu, ru⟩ := rv.get hx
    obtain ⟨f0, f1, f2, f3, f4, f5⟩ := hf it (by simp)
    have e1 : (n : Int) - 1 - (i : Int) = ((n - 1 - i : Nat) : Int) := by omega
    have hit := st.2
    rw [e1] at hit
    refine wpAny_pyNext_rev_item hit p.isList (x := u) (by simpa using hu) fun h' hit' sb => ?_
    have e2 : ((n - 1 - i : Nat) : Int) - 1 = (n : Int) - 1 - ((i + 1 : Nat) : Int) := by omega
    rw [e2] at hit'
    have I1 : Inv X pins σ H { s with heap := h' } := I.turned (t' := s.toks) (fun b o hb e => (sb.2 b hb).trans e) f0 f1 f3 f4 f5
    obtain ⟨o, e, c, d⟩ := id hit'
    exact ⟨u, rfl, go_of (s := { s with heap := h' }) e c d (by decide) ⟨xs[n - 1 - i]'(by omega), H, I1, ru, ⟨rfl, fun ys hy _ => by rw [I.list_inj hy hq]; exact hx⟩, ⟨hi, hit'⟩, fun b hb => (hf b hb).1⟩⟩
  done := by
    intro X hP hw hK hc i pins s σ H E I hf st hg
    subst hP hw hK
    obtain ⟨hi, xs, hq, hlen⟩ := hg
    obtain ⟨f0, f1, f2, f3, f4, f5⟩ := hf it (by simp)
    have hit := st.2
    rw [show (n : Int) - 1 - (i : Int) = -1 by omega] at hit
    exact wpAny_pyNext_rev_end (I.ok.hd hc) hit fun h' eb => ⟨rfl, I.turned (t' := s.toks) (fun b o hb e => eb b o hb e) f0 f1 f3 f4 f5⟩
  self := fun _ _ _ _ _ st h => wpAny_pyIter_revIter st.2 h
section
variable {X : Cx} {l tg : Expr} {ta : TA} {p p2 pos pos2 : Pos}
def iRev (K : PySem.W.Frag) (ta : TA) : TI := fun σ H R => ta σ H fun vs H1 => ∃ a xs, vs = [.ref a] ∧ SqL K H1 a xs ∧ R (ItRv K a xs.length) H1
theorem pi_rev (hg : Gl X "reversed") (hm : X.mg "reversed" = none) (ha : PA X [l] ta) (hs : starEach [l] X.env = [(false, eval l X.env)] := by rfl) : PI X tg (.Call (.Name "reversed" p) [l] [] pos) (iRev X.K ta) := by
  intro pins s σ H R I h
  refine Call_ (ld_blt I hg hm boot_reversed (PyProof.Rows.callWith_type1 (thn (ha pos pins s σ H _ I h) fun us s1 ⟨vs, H1, I1, r1, q1⟩ => ?_) hs rfl))
  obtain ⟨a, xs, e, hq, q⟩ := q1
  subst e
  obtain ⟨u, rfl, ru⟩ := vals1 r1
  cases ru
  obtain ⟨its, rv, pl, hz⟩ := I1.list hq
  have hal : a < s1.heap.objs.size := let ⟨o, _, e, _⟩ := pl; Heap.lt_size e
  have hl := rv.length
  have hit : (s1.heap.push (revObj a ((its.toArray.size : Int) - 1))).IsRevIter s1.heap.objs.size a ((xs.length : Int) - 1 - ((0 : Nat) : Int)) := ⟨_, Heap.get?_push_size _ rfl, rfl, by
    have e2 : (xs.length : Int) - 1 - ((0 : Nat) : Int) = (its.toArray.size : Int) - 1 := by rw [List.size_toArray, hl]; simp
    rw [e2]; rfl⟩
  refine call_reversed_list pl.isList (wpAny_pyIter_revIter (s := { s1 with heap := s1.heap.push (revObj a ((its.toArray.size : Int) - 1)) }) hit ?_)
  refine ⟨s1.heap.objs.size, [s1.heap.objs.size], _, _, H1, rfl, I1.kept (t' := s1.toks) fun b o e => Heap.get?_push_of_some _ e, turn_rev a _ xs.length (Nat.ne_of_lt hal), ⟨Nat.zero_le _, hit⟩, fun b hb => ?_, q⟩
  have e0 : b = s1.heap.objs.size := by simpa using hb
  subst e0
  exact I1.fpOk (Nat.le_refl _) (I1.hok.fresh (Nat.le_refl _))
end
section
variable {prog : Program} {w : World} {A : Around} {E : Value → Shared → Prop} {s : Shared}
theorem rev_no_len : typeLookup (.type "list_reverseiterator") "__len__" = pure none := by rw [typeLookup_type, builtinLookup_eq_fast]; kernel_rfl
theorem rev_hint : typeLookup (.type "list_reverseiterator") "__length_hint__" = pure (some (.builtin "list_reverseiterator.__length_hint__")) := by rw [typeLookup_type, builtinLookup_eq_fast]; kernel_rfl
theorem hint_rev {r : Addr} (hT : s.TypeIs (.ref r) "list_reverseiterator") {Q : Bool → Shared → Prop} (h : Q false s) : wpAny (model prog w) A (Builtin.List.listLengthHint (.ref r)) Q E s := by
  unfold Builtin.List.listLengthHint
  refine wpAny_bind (wpAny_specialOf hT rev_no_len ?_)
  show wpAny _ _ (specialOf (Value.ref r) (Str.ofString "__length_hint__") >>= _) _ _ _
  refine wpAny_bind (wpAny_specialOf hT rev_hint ?_)
  generalize hid : ("list_reverseiterator.__length_hint__" : String) = id0
  wp_delta
  rw [show splitId id0 = some ("list_reverseiterator", "__length_hint__") from by subst hid; decide +kernel]
  subst hid
  refine wpAny_bind (wpAny_isInstance (T := "list_reverseiterator") (b := true) hT (by rw [isSubtype_type]; kernel_rfl) ?_)
  refine wpAny_ite_split (fun hab => absurd hab (by decide)) (fun _ => ?_)
  refine wpAny_ite_split (fun _ => ?_) (fun hab => absurd (by decide +kernel) hab)
  refine wpAny_ite_split (fun hab => absurd hab (by decide +kernel)) (fun _ => ?_)
  exact wpAny_pure h
theorem extend_rev {R : Result → Shared → Prop} {r l : Addr} {items : Array Value} (hh : A.handled = none) (hne : l ≠ r) (hit : s.heap.IsRevIter r l ((items.size : Int) - 1)) (hl : s.heap.IsList l items) (hn : items.size ≤ sizeLine) (S : Addr) (hSr : S ≠ r) (hSl : S ≠ l) (res : Value) (c0 : Nat)
    (hS : s.heap.get? S = some { cls := .type "list", data := .seq #[] c0 })
    (hR : ∀ h' tk acc c, (∀ b o, b ≠ S → b ≠ r → s.heap.get? b = some o → h'.get? b = some o) → h'.get? S = some { cls := .type "list", dict := none, data := .seq acc c, slots := #[] } →
      ItemsOf (fun i v => items[items.size - 1 - i]? = some v) acc items.size → R (.ok (.ret res)) { s with heap := h', toks := tk }) :
    wpAny (model prog w) A.in1 (Builtin.List.listExtendWith (.ref S) (.ref r) res)
      (fun fin s' => match fin with | .done f => R (.ok f) s' | .again c' => c'.quiet = true ∧ codeAny (model prog w) A c' R s') (fun e s' => R (.error e) s') s := by
  have W := (Walks.listRev (prog := prog) (w := w) (A := A.in1) hh r l hne items).toS
  have hSf : S ∉ [r, l] := by simp [hSr, hSl]
  have key : ∀ (h : Heap) (c1 tk : Nat), (∀ b o, b ≠ S → s.heap.get? b = some o → h.get? b = some o) → h.get? S = some { cls := .type "list", data := .seq #[] c1 } →
      codeAny (model prog w) A (.builtin "list.extend.loop" ⟨[.ref S, .ref r, res], []⟩) R { s with heap := h, toks := tk } := by
    intro h c1 tk hk hS1
    have st0 : 0 ≤ items.size ∧ h.IsRevIter r l ((items.size : Int) - 1 - ((0 : Nat) : Int)) ∧ h.IsList l items :=
      ⟨Nat.zero_le _, by rw [show (items.size : Int) - 1 - ((0 : Nat) : Int) = (items.size : Int) - 1 by omega]; exact hit.at fun o e => hk r o (Ne.symm hSr) e, let ⟨o, e, q⟩ := hl; ⟨o, hk l o (Ne.symm hSl) e, q⟩⟩
    refine codeAny_extend_loopS W hn S hSf res items.size 0 { s with heap := h, toks := tk } #[] c1 rfl (Nat.zero_le _) st0 hS1 (ItemsOf.nil _) fun s' acc c' hm hS' hacc => ?_
    rw [Moved.eq_with hm]
    exact hR s'.heap s'.toks acc c' (fun b o n1 n2 e => hm.heap b o (by simp [n1, n2]) (hk b o n1 e)) hS' hacc
  have hT : s.TypeIs (.ref r) "list_reverseiterator" := hit.typeIs
  unfold Builtin.List.listExtendWith
  refine wpAny_bind (wpAny_typeOf hT ?_)
  have g1 : Builtin.List.listSameRef (.ref S) (.ref r) = false := by simp [Builtin.List.listSameRef, hSr]
  have g2 : (Value.type "list_reverseiterator" == Value.type "list") = false := by decide
  have g3 : (Value.type "list_reverseiterator" == Value.type "tuple") = false := by decide
  simp only [g1, g2, g3, Bool.or_false, Bool.false_eq_true, if_false]
  refine wpAny_bind (wpAny_pyIter_revIter hit (wpAny_bind (wpAny_holding (hint_rev hT ?_))))
  refine wpAny_ite_split (fun _ => ?_) (fun _ => wpAny_pure ⟨plainId_quiet F.plain_extend_loop _, key _ c0 _ (fun b o _ e => e) hS⟩)
  refine wpAny_bind (wpAny_rule (wpAny_bind ?_))
  show wpAny _ _ (updateSeq S (·.push .none) >>= fun _ => updateSeq S (·.pop)) _ _ _
  refine wpAny_bind (wpAny_updateSeq hS rfl ?_)
  have hS2 := Heap.get?_update_self (Obj.mapSeq (·.push Value.none)) hS rfl
  refine wpAny_updateSeq (hz := by seq_fits) hS2 rfl ?_
  have hS3 := Heap.get?_update_self (Obj.mapSeq (·.pop)) hS2 rfl
  exact wpAny_pure ⟨plainId_quiet F.plain_extend_loop _, key _ _ _ (fun b o hb e => (Heap.get?_update_other _ _ (Ne.symm hb)).trans ((Heap.get?_update_other _ _ (Ne.symm hb)).trans e)) hS3⟩
theorem call_list_rev {Q : Value → Shared → Prop} {r l : Addr} {items : Array Value} (hh : A.handled = none) (hne : l ≠ r) (hit : s.heap.IsRevIter r l ((items.size : Int) - 1)) (hl : s.heap.IsList l items) (hn : items.size ≤ sizeLine)
    (hQ : ∀ h' tk acc c, (∀ b o, b ≠ r → s.heap.get? b = some o → h'.get? b = some o) → h'.get? s.heap.objs.size = some { cls := .type "list", dict := none, data := .seq acc c, slots := #[] } →
      ItemsOf (fun i v => items[items.size - 1 - i]? = some v) acc items.size → Q (.ref s.heap.objs.size) { s with heap := h', toks := tk }) : wpAny (model prog w) A (call (.type "list") [.ref r]) Q E s := by
  refine callType_codes (Q₁ := fun obj s1 => obj = .ref s.heap.objs.size ∧ s1 = { s with heap := s.heap.push { cls := .type "list", data := .seq #[] } }) F.called_list (F.typeCall_list_1 _) F.entry_list_init (code_list_new _ ⟨rfl, rfl⟩) fun obj s1 h1 => ?_
  obtain ⟨rfl, rfl⟩ := h1
  have hS : (s.heap.push { cls := .type "list", data := .seq #[] }).get? s.heap.objs.size = some { cls := .type "list", data := .seq #[] } := Heap.get?_push_size _ rfl
  have hrl : r < s.heap.objs.size := let ⟨o, e, _⟩ := hit; Heap.lt_size e
  have hll : l < s.heap.objs.size := let ⟨o, e, _⟩ := hl; Heap.lt_size e
  refine ⟨⟨_, hS, rfl⟩, F.args_list_init_2 _ _, ?_⟩
  show wpAny _ _ (do let old ← Builtin.List.listItems (.ref s.heap.objs.size); Builtin.List.listUpdate (.ref s.heap.objs.size) (fun _ => #[]); letGo old.toList.reverse; Builtin.List.listExtendWith (.ref s.heap.objs.size) (.ref r) .none) _ _ _
  refine wpAny_bind ?_
  unfold Builtin.List.listItems
  refine wpAny_bind (wpAny_seqItems hS rfl (wpAny_pure ?_))
  show wpAny _ _ (updateSeq s.heap.objs.size (fun _ => #[]) >>= fun _ => letGo (#[] : Array Value).toList.reverse >>= fun _ => Builtin.List.listExtendWith (.ref s.heap.objs.size) (.ref r) .none) _ _ _
  refine wpAny_bind (wpAny_updateSeq hS rfl ?_)
  have hS2 := Heap.get?_update_self (Obj.mapSeq (fun _ => (#[] : Array Value))) hS rfl
  have oth : ∀ b o, s.heap.get? b = some o → ((s.heap.push { cls := .type "list", data := .seq #[] }).update s.heap.objs.size (Obj.mapSeq (fun _ => (#[] : Array Value)))).get? b = some o :=
    fun b o e => (Heap.get?_update_other _ _ (Nat.ne_of_gt (Heap.lt_size e))).trans (Heap.get?_push_of_some _ e)
  refine wpAny_bind (wpAny_letGo ?_)
  refine extend_rev (A := A.in1) hh hne (hit.at fun o e => oth r o e) (let ⟨o, e, q⟩ := hl; ⟨o, oth l o e, q⟩) hn _ (Nat.ne_of_gt hrl) (Nat.ne_of_gt hll) .none _ hS2 fun h' tk acc c hk hS' hacc => ?_
  exact ⟨rfl, hQ h' tk acc c (fun b o n e => hk b o (Nat.ne_of_lt (Heap.lt_size e)) n (oth b o e)) hS' hacc⟩
end
section
variable {X : Cx} {l : Expr} {ta : TA} {p p2 pos pos2 : Pos}
theorem rev_vals {xs : List V} {its : List Value} {acc : Array Value} (rv : Vals xs its) (h : ItemsOf (fun i v => its.toArray[its.toArray.size - 1 - i]? = some v) acc its.toArray.size) : Vals xs.reverse acc.toList := by
  have e : acc.toList = its.reverse := by
    apply List.ext_getElem?
    intro i
    by_cases hi : i < its.length
    · have h1 : acc.toList[i]? = some (acc.toList[i]'(by rw [Array.length_toList, h.1, List.size_toArray]; exact hi)) := List.getElem?_eq_getElem _
      have h2 := h.2 i (acc.toList[i]'(by rw [Array.length_toList, h.1, List.size_toArray]; exact hi)) (by rw [← h1]; simp)
      rw [h1, List.getElem?_reverse hi]
      simpa using h2.symm
    · rw [List.getElem?_eq_none (by rw [Array.length_toList, h.1, List.size_toArray]; omega), List.getElem?_eq_none (by rw [List.length_reverse]; omega)]
  rw [e]
  exact rv.reverse
theorem pe_listRev (hc : X.calm = true) (hgL : Gl X "list") (hmL : X.mg "list" = none) (hgR : Gl X "reversed") (hmR : X.mg "reversed" = none) (ha : PA X [l] ta) (hs : starEach [l] X.env = [(false, eval l X.env)] := by rfl)
    (hs2 : starEach [.Call (.Name "reversed" p2) [l] [] pos2] X.env = [(false, eval (.Call (.Name "reversed" p2) [l] [] pos2) X.env)] := by rfl) :
    PE X (.Call (.Name "list" p) [.Call (.Name "reversed" p2) [l] [] pos2] [] pos) (fun σ H Q => ta σ H fun vs H1 => ∃ a xs, vs = [.ref a] ∧ SqL X.K H1 a xs ∧ ∀ q, H1 q = none → Q (.ref q) (upd H1 q (.lst xs.reverse))) := by
  intro pins s σ H Q I h
  refine Call_ (ld_blt I hgL hmL boot_list (PyProof.Rows.callWith_type1 ?_ hs2 rfl))
  rw [hs2]
  show wpAny _ _ (spliced ((false, eval (.Call (.Name "reversed" p2) [l] [] pos2) X.env) :: [])) _ _ s
  refine Calls.spliced_cons ?_
  refine Call_ (ld_blt I hgR hmR boot_reversed (PyProof.Rows.callWith_type1 (thn (ha pos2 pins s σ H _ I h) fun us s1 ⟨vs, H1, I1, r1, q1⟩ => ?_) hs rfl))
  obtain ⟨a, xs, e, hq, q⟩ := q1
  subst e
  obtain ⟨u, rfl, ru⟩ := vals1 r1
  cases ru
  obtain ⟨its, rv, pl, hz⟩ := I1.list hq
  have hal : a < s1.heap.objs.size := let ⟨o, _, e, _⟩ := pl; Heap.lt_size e
  have hl := rv.length
  refine call_reversed_list pl.isList (Calls.spliced_nil ?_)
  have kp : ∀ b o, s1.heap.get? b = some o → (s1.heap.push (revObj a ((its.toArray.size : Int) - 1))).get? b = some o := fun b o e => Heap.get?_push_of_some _ e
  have I2 : Inv X pins σ H1 { s1 with heap := s1.heap.push (revObj a ((its.toArray.size : Int) - 1)) } := I1.kept (t' := s1.toks) kp
  have fr : FpOk X pins H1 s1.heap.objs.size := I1.fpOk (Nat.le_refl _) (I1.hok.fresh (Nat.le_refl _))
  have hit : (s1.heap.push (revObj a ((its.toArray.size : Int) - 1))).IsRevIter s1.heap.objs.size a ((its.toArray.size : Int) - 1) := ⟨_, Heap.get?_push_size _ rfl, rfl, rfl⟩
  refine call_list_rev (s := { s1 with heap := s1.heap.push (revObj a ((its.toArray.size : Int) - 1)) }) (items := its.toArray) (I1.ok.hd hc) (Nat.ne_of_lt hal) hit (let ⟨o, n, e, c, _, d⟩ := pl; ⟨o, kp a o e, c, n, d⟩) (by rw [List.size_toArray]; omega) fun h' tk acc c hk hD hacc => ?_
  have hz2 : (s1.heap.push (revObj a ((its.toArray.size : Int) - 1))).objs.size = s1.heap.objs.size + 1 := Heap.size_push ..
  have I3 := Inv.turned (s := { s1 with heap := s1.heap.push (revObj a ((its.toArray.size : Int) - 1)) }) (h' := h') (t' := tk) (it := s1.heap.objs.size) I2 (fun b o hb e => hk b o hb e) fr.1 fr.2.1 fr.2.2.2.1 fr.2.2.2.2.1 fr.2.2.2.2.2
  have fD : FpOk X pins H1 (s1.heap.objs.size + 1) := I1.fpOk (Nat.le_succ _) (I1.hok.fresh (Nat.le_succ _))
  rw [hz2] at hD ⊢
  exact ⟨.ref _, _, I3.adopt (o := .lst xs.reverse) fD ⟨by rw [List.length_reverse]; exact hz, acc.toList, c, rev_vals rv hacc, by simpa using hD⟩, rfl, q _ fD.1⟩
end
end L2
set_option Elab.async false
set_option linter.all false
set_option maxRecDepth 100000
set_option maxHeartbeats 4000000
namespace L2
open PySem PySem.Spec PyProof.Rows
section
variable {X : Cx} {e : Expr} {es : List Expr} {σ : St} {H0 : Hp} {d : PyData} {ds : List PyData} {pos : Pos}
end
theorem Reps.snoc {K : PySem.W.Frag} {H : Hp} {ds : List PyData} {d : PyData} {vs : List V} (h : Reps K H (ds ++ [d]) vs) : ∃ ws v, vs = ws ++ [v] ∧ Reps K H ds ws ∧ Rep K H d v := by
  induction ds generalizing vs with
  | nil =>
    obtain ⟨v, r, e1, e2, e3⟩ := h.split
    rw [Reps] at e3
    exact ⟨[], v, by rw [e1, e3]; rfl, .nil, e2⟩
  | cons x ds ih =>
    obtain ⟨v, r, e1, e2, e3⟩ := h.split
    obtain ⟨ws, z, e4, e5, e6⟩ := ih e3
    exact ⟨v :: ws, z, by rw [e1, e4]; rfl, .cons e2 e5, e6⟩
end L2
set_option linter.all false
namespace Wk
variable {α : Type}
end Wk
set_option Elab.async false
set_option linter.all false
set_option maxRecDepth 100000
set_option maxHeartbeats 4000000
namespace Wk
open PySem L2
section
variable {K : PySem.W.Frag} {H H' : Hp}
end
end Wk
set_option Elab.async false
set_option linter.all false
set_option maxRecDepth 100000
set_option maxHeartbeats 4000000
namespace L2
open PySem PySem.Spec PyProof.Rows
def DefOk (P : Program) (w : World) (K : PySem.W.Frag) (mg : Str → Option Value) (base : Heap) (k : Nat) (x : Str) (ps : List Str) (sp : Sp) : Prop :=
  ∃ (f : Addr) (fd : FuncData), FnOk P w K mg base CX0 k f fd ps sp ∧ Binds K fd ps [] ∧ PySem.W.keepIn K (.ref f) = true ∧ mg x = some (.ref f)
section
variable {X : Cx} {k : Nat} {x : Str} {ps : List Str} {sp : Sp} {e : Expr} {es : List Expr} {t : TA} {p pos : Pos}
theorem pe_callD (D : DefOk X.prog X.w X.K X.mg X.base k x ps sp) (hr : Room k X.A) (hg : Gl X x) (ha : PA X (e :: es) t) (hdb : (x == ("__debug__" : Str)) = false := by decide)
    (he : starEach (e :: es) X.env = (false, eval e X.env) :: starEach es X.env := by rfl) (hpl : (backTo pos (starEach es X.env)).any (·.1) = false := by rfl) : PE X (.Call (.Name x p) (e :: es) [] pos) (tCall sp [] E0 t) := by
  obtain ⟨f, fd, G, b, kp, m⟩ := D
  exact pe_call G hr hg m kp b .nil pass0 ha hdb he hpl
theorem pe_callD0 (D : DefOk X.prog X.w X.K X.mg X.base k x ps sp) (hr : Room k X.A) (hg : Gl X x) (hdb : (x == ("__debug__" : Str)) = false := by decide) : PE X (.Call (.Name x p) [] [] pos) (tCall sp [] E0 tNil) := by
  obtain ⟨f, fd, G, b, kp, m⟩ := D
  exact pe_call0 G hr hg m kp b .nil pass0 hdb
end
end L2
set_option Elab.async false
set_option linter.all false
set_option maxRecDepth 100000
set_option maxHeartbeats 4000000
namespace Wk
open PySem L2
section
variable (K : PySem.W.Frag)
end
structure Plain (mg : Str → Option Value) : Prop where
  len : mg "len" = none
  list : mg "list" = none
  tuple : mg "tuple" = none
  int : mg "int" = none
  bool : mg "bool" = none
  range : mg "range" = none
  enumerate : mg "enumerate" = none
  reversed : mg "reversed" = none
  isinstance : mg "isinstance" = none
theorem kit_int_bool (K : PySem.W.Frag) : PySem.W.kitOne K (.type "int") (.type "bool") = some false := by first | rfl | kernel_rfl
end Wk
namespace Wk
open PySem L2
section
variable {X : Cx} {σ : St} {H0 : Hp}
end
end Wk
namespace Wk
open PySem L2
end Wk
set_option Elab.async false
set_option linter.all false
set_option maxRecDepth 100000
set_option maxHeartbeats 4000000
namespace L2
open PySem PySem.Spec PyProof.Rows
section
variable {X : Cx} {pins : List (Addr × Obj)} {σ : St} {H : Hp} {s : Shared} {A' : Around}
end
section
variable {X : Cx} {inner : Expr} {wi : TI} {p pos : Pos}
end
end L2
set_option Elab.async false
set_option linter.all false
set_option maxRecDepth 100000
set_option maxHeartbeats 4000000
namespace L2
open PySem PySem.Spec PyProof.Rows
theorem ObjOk.there {P : Program} {w : World} {H : Hp} {h : Heap} {a : Addr} {o : HO} (x : ObjOk P w H h a o) : ∃ u, h.get? a = some u := by
  cases o with
  | lst xs => obtain ⟨_, _, _, _, e⟩ := x; exact ⟨_, e⟩
  | tup xs => obtain ⟨_, _, _, o, e, _⟩ := x; exact ⟨_, e⟩
  | dK kvs => obtain ⟨_, _, _, _, o, _, _, e, _⟩ := x; exact ⟨_, e⟩
  | dT kvs => obtain ⟨_, _, _, _, o, _, _, e, _⟩ := x; exact ⟨_, e⟩
  | set S n => obtain ⟨o, _, _, _, e, _⟩ := x; exact ⟨_, e⟩
  | ins C dx fs => obtain ⟨_, _, _, e, _⟩ := x; exact ⟨_, e⟩
  | own y => exact x
  | xd fs => obtain ⟨_, ⟨_, _, _, e, _⟩, _⟩ := x; exact ⟨_, e⟩
  | rng lo hi => obtain ⟨_, _, _, e⟩ := x; exact ⟨_, e⟩
  | frz ob u => obtain ⟨e, _⟩ := x; exact ⟨_, e⟩
  | tbl ps => exact ⟨_, (show h.get? a = some _ from x)⟩
  | met f y => exact ⟨_, (show h.get? a = some _ from x)⟩
  | ext φ => obtain ⟨_, e, _⟩ := x; exact e
structure Fl (P : Program) (w : World) (base : Heap) (outer : List Env) (H : Hp) (s : Shared) (ea : Addr) (cls : Value) (H' : Hp) (B : Heap) (s' : Shared) : Prop where
  os : s'.os = s.os
  bare : AllBare s'.gens
  un : Un (frs outer) [] H H' s.heap s'.heap
  hok : HOk P w H' s'.heap
  fly : ∃ a0, Heap.FlyingW B outer ea cls a0 s'.heap
  bs : base.StaysIn B
  trk : ∀ b u, H' b = some u → ∃ o, B.get? b = some o
  old : ∀ b o, s.heap.get? b = some o → H b = none → b ∉ frs outer → B.get? b = some o
  all : ∀ b o, s.heap.get? b = some o → b ∉ frs outer → ∃ o', B.get? b = some o'
def CX1 (P : Program) (w : World) (base : Heap) : CXT := fun outer H s E e s' => ∃ ea cls H' B, e = .ref ea ∧ Fl P w base outer H s ea cls H' B s' ∧ E cls none H'
section
variable {P : Program} {w : World} {base B : Heap} {outer : List Env} {H H' : Hp} {s s' : Shared} {ea : Addr} {cls : Value} {h' : Heap}
theorem Un.dropF {L : Addr} {fs ex : List Addr} {h h1 : Heap} (u : Un (L :: fs) ex H H' h h1) (hL : h.objs.size ≤ L) : Un fs ex H H' h h1 :=
  ⟨fun b o e n hb hx => u.keep b o e n (fun z => (List.mem_cons.mp z).elim (fun q => by subst q; exact absurd (Heap.lt_size e) (Nat.not_lt.mpr hL)) hb) hx, fun b o e n hb hx => u.slot b o e n (List.mem_cons_of_mem _ hb) hx, u.free, u.there, u.tups, u.frzs, u.tbls⟩
theorem Fl.hok_at (F : Fl P w base outer H s ea cls H' B s') (st : B.StaysIn h') : HOk P w H' h' := fun b ob e => by
  obtain ⟨a0, f1, _⟩ := F.fly
  refine (F.hok b ob e).stay (fun c u hc q => ?_) (fun _ z => z) fun _ _ z => z
  have ht : ∃ o, B.get? c = some o := by
    rcases hc with rfl | hc
    · exact F.trk _ _ e
    · exact F.trk _ _ hc
  obtain ⟨o, ho⟩ := ht
  have h2 := f1 c o ho
  rw [q] at h2
  cases h2
  exact st c _ ho
theorem Fl.un_at (F : Fl P w base outer H s ea cls H' B s') (st : B.StaysIn h') (sl : s'.heap.UpToSlots h') : Un (frs outer) [] H H' s.heap h' := by
  obtain ⟨a0, f1, f2, f3, f4⟩ := F.fly
  have slot : ∀ b o, s.heap.get? b = some o → H b = none → b ∈ frs outer → ∃ z, h'.get? b = some { o with slots := z } := fun b o e n hb => by
    obtain ⟨z, e1⟩ := F.un.slot b o e n hb (by simp)
    obtain ⟨_, o', e2, hd⟩ := f3.mem hb
    rw [e1] at e2
    cases e2
    obtain ⟨z2, e3⟩ := sl b _ e1 hd
    exact ⟨z2, e3⟩
  refine ⟨fun b o e n hb _ => st b o (F.old b o e n hb), fun b o e n hb _ => slot b o e n hb, F.un.free, fun b o e hx => ?_, F.un.tups, F.un.frzs, F.un.tbls⟩
  by_cases hb : b ∈ frs outer
  · obtain ⟨_, o', e2, hd⟩ := f3.mem hb
    obtain ⟨z, e3⟩ := sl b o' e2 hd
    exact ⟨_, e3⟩
  · obtain ⟨o', e1⟩ := F.all b o e hb
    exact ⟨o', st b o' e1⟩
theorem Fl.free (F : Fl P w base outer H s ea cls H' B s') : H' ea = none := by
  obtain ⟨a0, _, f2, _⟩ := F.fly
  cases q : H' ea with
  | none => rfl
  | some u => obtain ⟨o, ho⟩ := F.trk _ _ q; rw [f2] at ho; cases ho
end
section
variable {X : Cx} {pins : List (Addr × Obj)} {σ : St} {H H' : Hp} {s s' : Shared} {ea : Addr} {cls : Value} {B : Heap} {M : Model} {E : Value → Shared → Prop}
structure Cx.Body (X : Cx) : Prop where
  stk : X.stack = X.env :: X.outer
  fr : X.env.frame = some X.env.locals
  ex : X.ex = []
theorem Cx.Body.frs (b : X.Body) : L2.frs X.stack = X.env.locals :: X.fs := by
  rw [b.stk]
  unfold L2.frs
  rw [List.filterMap_cons, b.fr]
  rfl
theorem Inv.fl (I : Inv X pins σ H s) (b : X.Body) (os : s'.os = s.os) (bare : AllBare s'.gens) (u : Un (frs X.stack) [] H H' s.heap s'.heap) (hok : HOk X.prog X.w H' s'.heap) (fly : ∃ a0, Heap.FlyingW B X.outer ea cls a0 s'.heap)
    (bs : X.base.StaysIn B) (trk : ∀ b u, H' b = some u → ∃ o, B.get? b = some o) (old : ∀ b o, s.heap.get? b = some o → H b = none → b ∉ frs X.stack → B.get? b = some o)
    (all : ∀ b o, s.heap.get? b = some o → b ∉ frs X.stack → ∃ o', B.get? b = some o') : Fl X.prog X.w X.base X.outer X.H₀ X.s₀ ea cls H' B s' := by
  have ex0 : X.ex = [] := b.ex
  have base := I.base
  rw [ex0] at base
  have neL : ∀ c o, X.s₀.heap.get? c = some o → c ≠ X.env.locals := fun c o e => Nat.ne_of_lt (Nat.lt_of_lt_of_le (Heap.lt_size e) I.ok.above)
  have nst : ∀ c o, X.s₀.heap.get? c = some o → c ∉ X.fs → c ∉ frs X.stack := fun c o e hc hm => by
    rw [b.frs] at hm
    rcases List.mem_cons.mp hm with z | z
    · exact neL c o e z
    · exact hc z
  have u0 : Un (frs X.stack) [] X.H₀ H X.s₀.heap s.heap := base.mono (fun c hc => by rw [b.frs]; exact List.mem_cons_of_mem _ hc) (fun _ z => z)
  have u1 : Un (X.env.locals :: X.fs) [] X.H₀ H' X.s₀.heap s'.heap := by rw [← b.frs]; exact u0.trans u
  refine ⟨os.trans I.os, bare, u1.dropF I.ok.above, hok, fly, bs, trk, fun c o e n hc => ?_, fun c o e hc => ?_⟩
  · exact old c o (base.keep c o e n hc (by simp)) (base.free c o e n (by simp)) (nst c o e hc)
  · obtain ⟨o', e1⟩ := base.there c o e (by simp)
    exact all c o' e1 (nst c o e hc)
theorem Fl.leave (I : Inv X pins σ H s) (b : X.Body) (F : Fl X.prog X.w X.base X.stack H s ea cls H' B s') {Q : Unit → Shared → Prop} (q : ∀ s'', Fl X.prog X.w X.base X.outer X.H₀ X.s₀ ea cls H' B s'' → Q () s'') :
    wpAny M X.A (leaving X.env (.ref ea)) Q E s' := by
  obtain ⟨a0, hfl⟩ := F.fly
  have hfl' := hfl
  rw [b.stk] at hfl'
  have hfr := I.ok.frames
  rw [b.stk] at hfr
  refine wpAny_leaves_onW hfr b.fr hfl' fun h' f sl => q _ ?_
  exact I.fl (s' := { s' with heap := h' }) b F.os F.bare (F.un_at f.1 sl) (F.hok_at f.1) ⟨a0, f⟩ F.bs F.trk F.old F.all
theorem made_leave (I : Inv X pins σ H s) (b : X.Body) {h' : Heap} {vs : List Value} (hx : Heap.MadeExcOf s.heap h' ea cls vs) {Q : Unit → Shared → Prop} (q : ∀ B s'', Fl X.prog X.w X.base X.outer X.H₀ X.s₀ ea cls H B s'' → Q () s'') :
    wpAny M X.A (leaving X.env (.ref ea)) Q E { s with heap := h' } := by
  have hfr := I.ok.frames
  rw [b.stk] at hfr
  have hin : ∀ env ∈ X.stack, ∀ a, env.frame = some a → a ∈ frs X.stack := fun env he a ha => List.mem_filterMap.mpr ⟨env, he, ha⟩
  have hl := PySem.W.funFrames_hide I.stack hin
  have hl' := hl
  rw [b.stk] at hl'
  rw [← b.stk] at hl'
  have hst : (PySem.W.hideAll s.heap (frs X.stack)).StaysIn s.heap := fun c o e => PySem.W.of_hideAll _ e
  refine wpAny_leaves_madeW (base := PySem.W.hideAll s.heap (frs X.stack)) (s := { s with heap := h' }) hfr b.fr hst (by rw [← b.stk]; exact hl) hx fun h2 t f _ _ sl => q (PySem.W.hideAll s.heap (frs X.stack)) _ ?_
  have old : ∀ c o, s.heap.get? c = some o → c ∉ frs X.stack → (PySem.W.hideAll s.heap (frs X.stack)).get? c = some o := fun c o e hc => PySem.W.hideAll_get _ e hc
  have trk : ∀ c u, H c = some u → ∃ o, (PySem.W.hideAll s.heap (frs X.stack)).get? c = some o := fun c u e => by
    have hn : c ∉ frs X.stack := fun z => by have := I.stkFree c z; rw [e] at this; cases this
    have hlt := I.hok.lt e
    obtain ⟨o, ho⟩ : ∃ o, s.heap.get? c = some o := (I.hok c u e).there
    exact ⟨o, old c o ho hn⟩
  have slot : ∀ c o, s.heap.get? c = some o → c ∈ frs X.stack → ∃ z, h2.get? c = some { o with slots := z } := fun c o e hc => by
    obtain ⟨_, o', e2, hd⟩ := I.stack.mem hc
    rw [e] at e2
    cases e2
    exact sl c o (hx.keeps c o e) hd
  refine I.fl (s' := { s with heap := h2 }) b rfl I.bare ⟨fun c o e n hc _ => f.1 c o (old c o e hc), fun c o e n hc _ => slot c o e hc, fun c o e n _ => n, fun c o e _ => ?_, fun _ _ z => z, fun _ _ _ z => z, fun c ps z => ⟨#[], by rw [z]; simp⟩⟩
    (fun c ob e => (I.hok c ob e).stay (fun d u hd z => ?_) (fun _ z => z) fun _ _ z => z) ⟨_, f⟩ (fun c o e => ?_) trk (fun c o e _ hc => old c o e hc) (fun c o e hc => ⟨o, old c o e hc⟩)
  · by_cases hc : c ∈ frs X.stack
    · obtain ⟨z, e2⟩ := slot c o e hc
      exact ⟨_, e2⟩
    · exact ⟨o, f.1 c o (old c o e hc)⟩
  · have ht : ∃ o, (PySem.W.hideAll s.heap (frs X.stack)).get? d = some o := by
      rcases hd with rfl | hd
      · exact trk _ _ e
      · exact trk _ _ hd
    obtain ⟨o, ho⟩ := ht
    have z2 := hst d o ho
    rw [z] at z2
    cases z2
    exact f.1 d _ ho
  · obtain ⟨z1, z2⟩ := I.bs c o e
    exact old c o z1 fun hm => by have := (I.stack.mem hm).1; rw [e] at this; cases this
end
end L2
set_option Elab.async false
set_option linter.all false
set_option maxRecDepth 100000
set_option maxHeartbeats 4000000
namespace L2
open PySem PySem.Spec PyProof.Rows
section
variable {P : Program} {w : World} {K : PySem.W.Frag} {mg : Str → Option Value} {base : Heap}
theorem Fun.okX {x qual : Str} {st : Stmt} {f : Addr} {fd : FuncData} {N ps : List Str} {k : Nat} {sp : Sp} (F : Fun K x qual st f fd) (S : FnScope N ps (defScope st)) (len : ∀ vs H Q E, sp vs H Q E → vs.length = ps.length)
    (hbody : ∀ (cdv : Value) (A : Around) (outer : List Env) (s : Shared) (H : Hp) (vs : List V) (Q : VK) (E : XK), Room k (A.deeper (envOfC qual (defScope st) s.heap.objs.size f cdv)) → sp vs H Q E →
      ∃ t, PSs (cxOf (CX1 P w base) P w K mg base N qual (defScope st) f cdv A outer s H E) (defBody st) t ∧ t { nx := fun _ H' => Q .non H', rt := Q } (start N vs) H) : FnOk P w K mg base (CX1 P w base) (k + 1) f fd ps sp := by
  obtain ⟨oc, od, kV, doc, pm, an, cdv, ct, osl, rfl, lk, hcd⟩ := F.ex
  exact fn_of lk hcd S len fun A outer s H vs Q E hr hsp => hbody cdv A outer s H vs Q E hr hsp
def DefX (P : Program) (w : World) (K : PySem.W.Frag) (mg : Str → Option Value) (base : Heap) (k : Nat) (x : Str) (ps : List Str) (sp : Sp) : Prop :=
  ∃ (f : Addr) (fd : FuncData), FnOk P w K mg base (CX1 P w base) k f fd ps sp ∧ Binds K fd ps [] ∧ PySem.W.keepIn K (.ref f) = true ∧ mg x = some (.ref f)
structure Raising (X : Cx) (E : XK) : Prop where
  body : X.Body
  xe : ∀ (e : Value) (s' : Shared), wpAny (model X.prog X.w) X.A (leaving X.env e) (fun _ s'' => CX1 X.prog X.w X.base X.outer X.H₀ X.s₀ E e s'') (fun e' s'' => CX1 X.prog X.w X.base X.outer X.H₀ X.s₀ E e' s'') s' → X.xe e s'
  own : PassesOwn (model X.prog X.w) X.A X.env X.xe
  hd : X.calm = true
theorem raising {N : List Str} {qual : Str} {scope : Scope} {f : Addr} {cd : Value} {A : Around} {outer : List Env} {s : Shared} {H : Hp} {E : XK} : Raising (cxOf (CX1 P w base) P w K mg base N qual scope f cd A outer s H E) E :=
  ⟨⟨rfl, rfl, rfl⟩, fun _ _ z => z, PassesOwn.leaving, rfl⟩
end
section
variable {X : Cx} {E : XK}
theorem Raising.passes (R : Raising X E) : Passes (CX1 X.prog X.w X.base) X E := by
  rintro pins σ H s e s' I ⟨ea, cls, H', B, rfl, F, q⟩
  exact R.xe _ _ (F.leave I R.body fun s'' F' => ⟨ea, cls, H', B, rfl, F', q⟩)
theorem pe_callX {k : Nat} {x : Str} {ps : List Str} {sp : Sp} {e : Expr} {es : List Expr} {t : TA} {p pos : Pos} (R : Raising X E) (D : DefX X.prog X.w X.K X.mg X.base k x ps sp) (hr : Room k X.A) (hg : Gl X x) (ha : PA X (e :: es) t) (hdb : (x == ("__debug__" : Str)) = false := by decide)
    (he : starEach (e :: es) X.env = (false, eval e X.env) :: starEach es X.env := by rfl) (hpl : (backTo pos (starEach es X.env)).any (·.1) = false := by rfl) : PE X (.Call (.Name x p) (e :: es) [] pos) (tCall sp [] E t) := by
  obtain ⟨f, fd, G, b, kp, m⟩ := D
  exact pe_call G hr hg m kp b .nil R.passes ha hdb he hpl
structure ExcC (K : PySem.W.Frag) (mg : Str → Option Value) (x : Str) (C : Addr) : Prop where
  at_ : mg x = some (.ref C)
  exc : PySem.W.excIn K C [.type "ValueError", .type "Exception", .type "BaseException", .type "object"] "ValueError.__new__" = true
theorem ExcC.own {K : PySem.W.Frag} {mg : Str → Option Value} {x : Str} {C : Addr} {h₀ : Heap} (c : ExcC K mg x C) (X : K.In h₀) : OwnCls x C [.type "ValueError", .type "Exception", .type "BaseException", .type "object"] "ValueError.__new__" mg h₀ := by
  obtain ⟨e, q⟩ := c
  refine ⟨e, ?_⟩
  unfold PySem.W.excIn at q
  split at q
  · rename_i dd cd sl ho
    split at q
    · rename_i C' bm k0 k1 k2 k3 n k5 hm hs
      simp only [Bool.and_eq_true, beq_iff_eq, Bool.not_eq_true'] at q
      obtain ⟨⟨⟨⟨⟨rfl, rfl⟩, hdel⟩, ht⟩, hok⟩, hni⟩ := q
      obtain ⟨nm, bs, mro, ns, qn, hd, sn, sub, ab, col, del⟩ := cd
      dsimp only at hm hdel hok hni
      subst hm hdel
      have hsl : sl = #[k0, k1, k2, k3, some (.builtin "ValueError.__new__"), k5] := by
        obtain ⟨l⟩ := sl
        simp only at hs
        rw [hs]
      subst hsl
      exact ⟨bm, ns, nm, qn, bs, hd, sn, sub, ab, col, dd, k0, k1, k2, k3, k5, _, X _ _ ho, .of_isNs (PySem.W.isNs_of_in X hok), PySem.W.nsMap_none_of_in X hok hni, PySem.W.tail_of_in X ht⟩
    · cases q
  · cases q
def tRaise (C : Addr) (E : XK) (t : TA) : TS := fun _ σ H => t σ H fun vs H1 => vs.length ≤ 1000 ∧ E (.ref C) none H1
theorem ps_raise {x : Str} {C : Addr} {e : Expr} {es : List Expr} {t : TA} {np cpos pos : Pos} (R : Raising X E) (c : ExcC X.K X.mg x C) (hg : Gl X x) (ha : PA X (e :: es) t) (hdb : (x == ("__debug__" : Str)) = false := by decide)
    (he : starEach (e :: es) X.env = (false, eval e X.env) :: starEach es X.env := by rfl) (hpl : (backTo cpos (starEach es X.env)).any (·.1) = false := by rfl) :
    PS X (.Raise (some (.Call (.Name x np) (e :: es) [] cpos)) none pos) (tRaise C E t) := by
  intro pins s σ H D I h
  obtain ⟨tl, N, nm, q, bs, hdct, sn, sub, ab, col, dd, k0, k1, k2, k3, k5, mN, hC, hN, hni, T⟩ := (c.own I.ok.mod.kin).obj
  refine wpAny_Raise_call_subU (C := C) (nm := nm) (q := q) (N := N) (bs := bs) (bm := tl) (hdct := hdct) (sn := sn) (sub := sub) (ab := ab) (col := col) (dd := dd) (k0 := k0) (k1 := k1) (k2 := k2) (k3 := k3) (k5 := k5)
    PySem.F.excBase_ValueError (by decide) PySem.F.excBase_ValueError (mN := mN) (T.hasType (by decide)) (I.ok.hd R.hd) (by rw [he]; show (false || (backTo cpos (starEach es X.env)).any (·.1)) = false; rw [hpl]; rfl) hni (ld_glob I hg c.at_ ⟨rfl, ?_⟩ hdb)
  have go := ha cpos pins s σ H _ I h
  rw [he] at go ⊢
  refine Calls.evalArgs_plain (wpAny_mono go (fun us s2 ⟨vs, H2, I2, r, hz, q2⟩ => ⟨rfl, ?_, I2.bk _ _ hC, hN.keeps I2.bk, T.keeps I2.bk, fun h' ea hx => ?_⟩) fun _ _ z => z)
  · rw [← r.length]; exact Nat.le_of_lt (small1000 hz)
  · exact R.xe _ _ (made_leave I2 R.body hx fun B s'' F => ⟨ea, .ref C, H2, B, rfl, F, q2⟩)
end
end L2
set_option Elab.async false
set_option linter.all false
set_option maxRecDepth 100000
set_option maxHeartbeats 4000000
namespace L2
open PySem PySem.Spec PyProof.Rows
abbrev Cx.caught (X : Cx) (ea : Addr) (oe : Obj) : Cx := { X with A := X.A.mark (some (.ref ea)), calm := false, xe := fun _ _ => False, pn := (ea, oe) :: X.pn }
section
variable {X : Cx} {pins : List (Addr × Obj)} {σ : St} {H : Hp} {s : Shared} {ea : Addr} {oe : Obj}
theorem Inv.caught (I : Inv X pins σ H s) (h : s.heap.get? ea = some oe ∧ H ea = none ∧ ea ≠ X.env.locals ∧ ea ∉ X.fs ∧ ∀ v, oe.data ≠ .cell v) : Inv (X.caught ea oe) pins σ H s := by
  obtain ⟨ok, a1, a2, a3, a4, a5, a6, a7, pin, a8, a9⟩ := I
  refine ⟨⟨ok.mod, ok.kind, ok.glob, ok.blt, ok.above, ok.inj, ok.has, ok.cab, (fun z => nomatch z), ok.frames, ok.stk, ok.exf, ok.bs, ok.bsz, ok.noex, ok.exfs, ok.funs, ok.frf⟩, a1, a2, a3, a4, a5, a6, a7, fun p hp => ?_, a8, a9⟩
  rcases List.mem_cons.mp (show p ∈ (ea, oe) :: (X.pn ++ pins) from hp) with rfl | hp
  · exact h
  · exact pin p hp
theorem Inv.uncaught (ok : X.Ok) (I : Inv (X.caught ea oe) pins σ H s) : Inv X pins σ H s :=
  ⟨ok, I.os, I.bare, I.base, I.loc, I.cell, I.free, I.freeC, fun p hp => I.pin p (show p ∈ (ea, oe) :: (X.pn ++ pins) from List.mem_cons_of_mem _ hp), I.hok, I.len⟩
theorem SP.uncaught {D : Ends} {f : Flow} {s' : Shared} (ok : X.Ok) (h : SP (X.caught ea oe) pins D f s') : SP X pins D f s' := by
  cases f with
  | next => obtain ⟨σ', H', I, q⟩ := h; exact ⟨σ', H', I.uncaught ok, q⟩
  | brk => obtain ⟨σ', H', I, q⟩ := h; exact ⟨σ', H', I.uncaught ok, q⟩
  | cont => obtain ⟨σ', H', I, q⟩ := h; exact ⟨σ', H', I.uncaught ok, q⟩
  | ret u => obtain ⟨v, σ', H', I, r, q⟩ := h; exact ⟨v, σ', H', I.uncaught ok, r, q⟩
theorem Fl.pinned {X : Cx} {H0 H' : Hp} {s0 s' : Shared} {cls a0 : Value} {B h' : Heap} (F : Fl X.prog X.w X.base X.stack H0 s0 ea cls H' B s') (I : Inv X pins σ H0 s0) (b : X.Body) (f : Heap.FlyingW B X.stack ea cls a0 h') :
    ∃ oe, oe.cls = cls ∧ h'.get? ea = some oe ∧ H' ea = none ∧ ea ≠ X.env.locals ∧ ea ∉ X.fs ∧ ∀ v, oe.data ≠ .cell v := by
  obtain ⟨oe, vs, e1, e2, e3, e4⟩ := f.first
  have nf : ea ∉ frs X.stack := fun z => by
    obtain ⟨_, o, ho, hd⟩ := f.2.2.1.mem z
    rw [e1] at ho
    cases ho
    exact hd _ e3
  rw [b.frs] at nf
  exact ⟨oe, e2, e1, F.free, fun z => nf (by rw [z]; exact List.mem_cons_self), fun z => nf (List.mem_cons_of_mem _ z), fun v z => by rw [e3] at z; cases z⟩
theorem Fl.inv {X : Cx} {H0 H' : Hp} {s0 s' : Shared} {cls : Value} {B h' : Heap} (F : Fl X.prog X.w X.base X.stack H0 s0 ea cls H' B s') (I : Inv X pins σ H0 s0) (st : B.StaysIn h') (sl : s'.heap.UpToSlots h') : Inv X pins σ H' { s' with heap := h' } :=
  I.call' (s' := { s' with heap := h' }) (ch := []) F.os (F.un_at st sl) (F.hok_at st) F.bare fun b z => absurd z (by simp)
def tTry (K : PySem.W.Frag) (c : Value) (sp : Sp) (t : TA) (ts : TS) : TS := fun D σ H => t σ H fun vs H1 => sp vs H1 (fun _ H2 => D.nx σ H2) fun cls _ H2 => PySem.W.exmOne K cls c = some true ∧ ts D σ H2
theorem try_call {k : Nat} {x : Str} {ps : List Str} {sp : Sp} {e : Expr} {es : List Expr} {t : TA} {p pos : Pos} {Q : VK} {E : XK} (D : DefX X.prog X.w X.K X.mg X.base k x ps sp) (hr : Room k X.A) (hg : Gl X x) (ha : PA X.nox (e :: es) t)
    (I : Inv X pins σ H s) (h : t σ H fun vs H1 => sp vs H1 Q E) (hdb : (x == ("__debug__" : Str)) = false := by decide)
    (he : starEach (e :: es) X.env = (false, eval e X.env) :: starEach es X.env := by rfl) (hpl : (backTo pos (starEach es X.env)).any (·.1) = false := by rfl) :
    wpAny (model X.prog X.w) X.A (eval (.Call (.Name x p) (e :: es) [] pos) X.env) (EP X pins σ Q) (fun e s' => ∃ H1 s1, Inv X pins σ H1 s1 ∧ CX1 X.prog X.w X.base X.stack H1 s1 E e s') s := by
  obtain ⟨f, fd, F, hb, hk, hm⟩ := D
  refine wpAny_Call_Name_kw (ld_glob I hg hm ?_ hdb)
  refine PySem.W.callWith_K (h₀ := X.base) I.ok.mod.kin hk (wpAny_mono (ha pos pins s σ H _ (I.wish _) h) (fun us s1 ⟨vs, H1, I1, r, q⟩ => ⟨I1.unwish.kIn, ?_⟩) fun _ _ z => z.elim) he hpl
  have I1 := I1.unwish
  have hl : us.length = ps.length := by rw [← r.length]; exact F.len _ _ _ _ q
  have hb1 := hb s1 us I1.kIn (by rw [List.append_nil]; exact hl)
  rw [List.append_nil] at hb1
  refine wpAny_call (codeAny_mono (F.run X.A X.stack s1 H1 ⟨us, []⟩ us vs Q E hr I1.env0 hb1 r q) fun r s' hq => ?_)
  cases r with
  | error e => exact ⟨H1, s1, I1, hq⟩
  | ok fl =>
    cases fl with
    | ret u => exact I1.after hq
    | next => exact False.elim hq
    | brk => exact False.elim hq
    | cont => exact False.elim hq
theorem ps_try {k : Nat} {x y : Str} {c : Value} {ps : List Str} {sp : Sp} {e : Expr} {es : List Expr} {t : TA} {ts : TS} {b₀ : Stmt} {suite : List Stmt} {p pos pos2 np hpos tpos : Pos} (b : X.Body) (D : DefX X.prog X.w X.K X.mg X.base k x ps sp) (hr : Room k X.A) (hg : Gl X x) (ha : PA X.nox (e :: es) t)
    (hgy : Gl X y) (hy : X.mg y = some c) (hs : ∀ ea oe, PSs (X.caught ea oe) (b₀ :: suite) ts) (hdb : (x == ("__debug__" : Str)) = false := by decide) (hdy : (y == ("__debug__" : Str)) = false := by decide)
    (he : starEach (e :: es) X.env = (false, eval e X.env) :: starEach es X.env := by rfl) (hpl : (backTo pos (starEach es X.env)).any (·.1) = false := by rfl)
    (hsw : swapsWith (.Call (.Name x p) (e :: es) [] pos) none pos2.line X.env = pure false := by rfl) :
    PS X (.Try [.Expr (.Call (.Name x p) (e :: es) [] pos) pos2] [.ExceptHandler (some (.Name y np)) none (b₀ :: suite) hpos] [] [] tpos) (tTry X.K c sp t ts) := by
  intro pins s σ H D' I h
  refine wpAny_Try_except (wpAny_execs_cons (wpAny_Expr_any (wpAny_mono (try_call D hr hg ha I h hdb he hpl) (fun v s1 ⟨x1, H1, I1, r1, q1⟩ => wpAny_execs_nil (wpAny_execs_nil ⟨σ, H1, I1, q1⟩)) ?_) I.quiet hsw))
  rintro e1 s1 ⟨H1, s0, I0, ea, cls, H2, B, rfl, F, hm, q⟩
  obtain ⟨a0, hfl⟩ := F.fly
  have hfl' := hfl
  rw [b.stk] at hfl'
  have hfr := I.ok.frames
  rw [b.stk] at hfr
  refine wpAny_looks_onW hfr b.fr hfl' fun h4 f4 sm4 => wpAny_landsW f4 fun h5 f5 sm5 => ?_
  rw [← b.stk] at f5
  have I5 : Inv X pins σ H2 { s1 with heap := h5 } := F.inv I0 f5.1 (sm4.trans sm5)
  obtain ⟨o5, c5, p5⟩ := F.pinned I0 b f5
  have LT : PySem.W.Looks (model X.prog X.w) h5 (typeOf (.ref ea)) cls := by
    rw [← c5]; exact (PySem.W.Looks.ld p5.1).andThen .now
  refine wpAny_handleBy_cons (codeAny_handlers_test (ld_glob (X := X.caught ea o5) (I5.caught p5) hgy hy ((PySem.W.exm_one I5.kIn LT hm).here ?_) hdy)) (by intro z; cases z)
  show codeAny _ _ _ _ _
  refine codeAny_handlers_suite (lands_againW f5 fun h6 f6 sm6 => ?_)
  have I6 : Inv X pins σ H2 { s1 with heap := h6 } := F.inv I0 f6.1 ((sm4.trans sm5).trans sm6)
  obtain ⟨o6, c6, p6⟩ := F.pinned I0 b f6
  exact wpAny_mono (hs ea o6 pins { s1 with heap := h6 } σ H2 D' (I6.caught p6) q) (fun f s2 z => z.uncaught I.ok) fun _ _ z => z.elim
end
end L2
set_option Elab.async false
set_option linter.all false
set_option maxRecDepth 100000
set_option maxHeartbeats 4000000
namespace L2
open PySem PySem.Spec PyProof.Rows
section
variable {K : PySem.W.Frag} {C a : Addr} {o : Obj} {prog : Program} {w : World} {A : Around} {E : Value → Shared → Prop} {h : Heap} {g : Array GenState} {d : Drawn} {t : Nat} {os : OsState}
end
end L2
set_option Elab.async false
set_option linter.all false
set_option maxRecDepth 100000
set_option maxHeartbeats 4000000
namespace L2
open PySem PySem.Spec PyProof.Rows
section
variable {X : Cx} {pins : List (Addr × Obj)} {σ : St} {H : Hp} {s : Shared}
end
end L2
set_option Elab.async false
set_option linter.all false
set_option maxRecDepth 100000
set_option maxHeartbeats 4000000
namespace L2
open PySem PySem.Spec PyProof.Rows
section
variable {prog : Program} {w : World} {A : Around} {E : Value → Shared → Prop} {s : Shared} {zp TI TO i1 i2 t1 t2 : Addr} {i n1 n2 : Nat} {P1 P2 : Nat → Value → Prop} {S1 S2 : Nat → Heap → Prop}
end
end L2
set_option Elab.async false
set_option linter.all false
set_option maxRecDepth 100000
set_option maxHeartbeats 4000000
namespace L2
open PySem PySem.Spec PyProof.Rows
section
variable {X : Cx} {pins : List (Addr × Obj)} {σ : St} {H : Hp} {s : Shared}
end
section
variable {prog : Program} {w : World} {A : Around} {E : Value → Shared → Prop} {s : Shared}
end
section
variable {X : Cx} {e1 e2 : Expr} {ta : TA} {p pos : Pos}
end
section
variable {X : Cx} {e1 e2 : Expr} {ta : TA} {p pos : Pos}
end
end L2
set_option Elab.async false
set_option linter.all false
set_option maxRecDepth 100000
set_option maxHeartbeats 4000000
namespace Wk
open PySem L2
section
variable {K : PySem.W.Frag} {H : Hp}
end
section
variable (K : PySem.W.Frag) (C : Addr)
end
end Wk
set_option Elab.async false
set_option linter.all false
set_option maxRecDepth 100000
set_option maxHeartbeats 4000000
namespace L2
open PySem PySem.Spec PyProof.Rows
section
variable {X : Cx}
end
end L2
set_option Elab.async false
set_option linter.all false
set_option maxRecDepth 100000
set_option maxHeartbeats 4000000
namespace L2
open PySem PySem.Spec PyProof.Rows
section
variable {prog : Program} {w : World} {A : Around} {E : Value → Shared → Prop} {s : Shared}
end
end L2
set_option Elab.async false
set_option linter.all false
set_option maxRecDepth 100000
set_option maxHeartbeats 4000000
namespace L2
open PySem PySem.Spec PyProof.Rows
section
variable {X : Cx}
end
end L2
set_option Elab.async false
set_option linter.all false
set_option maxRecDepth 100000
set_option maxHeartbeats 4000000
namespace L2
open PySem PySem.Spec PyProof.Rows
section
variable {prog : Program} {w : World} {A : Around} {E : Value → Shared → Prop} {s : Shared} {it d : Addr} {i n ep : Nat} {es : Array DictEntry}
end
end L2
set_option Elab.async false
set_option linter.all false
set_option maxRecDepth 100000
set_option maxHeartbeats 4000000
namespace L2
open PySem PySem.Spec PyProof.Rows
section
variable {prog : Program} {w : World} {A : Around} {E : Value → Shared → Prop} {s : Shared} {it d : Addr} {i n ep : Nat} {es : Array DictEntry}
end
end L2
set_option Elab.async false
set_option linter.all false
set_option maxRecDepth 100000
set_option maxHeartbeats 4000000
namespace L2
open PySem PySem.Spec PyProof.Rows
section
variable {X : Cx} {pins : List (Addr × Obj)} {σ : St} {H : Hp} {s : Shared} {d : Addr} {o : Obj} {kvs : List (List Key × V)}
end
section
variable {X : Cx} {o : Expr} {apos cpos : Pos} {td : TE}
end
end L2
set_option Elab.async false
set_option linter.all false
set_option maxRecDepth 100000
set_option maxHeartbeats 4000000
namespace L2
open PySem PySem.Spec PyProof.Rows
end L2
set_option Elab.async false
set_option linter.all false
set_option maxRecDepth 100000
set_option maxHeartbeats 4000000
namespace Wk
open PySem L2
end Wk
set_option Elab.async false
set_option linter.all false
set_option maxRecDepth 100000
set_option maxHeartbeats 4000000
namespace Wk
open PySem L2
end Wk
namespace Wk
open PySem L2
end Wk
set_option Elab.async false
set_option linter.all false
set_option maxRecDepth 100000
set_option maxHeartbeats 4000000
namespace L2
open PySem PySem.Spec PyProof.Rows
def Ext (H H' : Hp) : Prop := ∀ b o, H b = some o → (∀ xs, o ≠ .lst xs) → H' b = some o
theorem Ext.of_same {H H' : Hp} (s : Same H H') : Ext H H' := fun b o h _ => s b o h
theorem Ext.write {H : Hp} {a : Addr} {vs : List V} (h : H a = some (.lst vs)) (o : HO) : Ext H (upd H a o) := fun b u q n => by
  by_cases e : b = a
  · subst e; rw [h] at q; cases q; exact absurd rfl (n vs)
  · rw [upd_ne e]; exact q
theorem TupLe.of_ext {K : PySem.W.Frag} {H H' : Hp} (e : Ext H H') : TupLe K H H' := .of_keep fun b o h n _ _ => e b o h n
structure Per where
  p : Hp → V → Prop
  mono : ∀ H H' v, Ext H H' → p H v → p H' v
inductive Sl where
  | un | d (x : PyData) | l (xs : List PyData) | o (xs : List PyData) | h (P : Per)
def Sl.its : Sl → Option (List PyData)
  | .l xs => some xs
  | .o xs => some xs
  | _ => none
def Sl.rd : Sl → Option Sl
  | .un => none
  | .o xs => some (.l xs)
  | r => some r
def Sl.arg : Sl → Sl
  | .o xs => .l xs
  | r => r
def LsR (K : PySem.W.Frag) (H : Hp) (a : Addr) (xs : List PyData) : Prop := ∃ vs, H a = some (.lst vs) ∧ Reps K H xs vs
def RdR (K : PySem.W.Frag) (H : Hp) : Sl → V → Prop
  | .un, _ => True
  | .d x, v => Rep K H x v
  | .l xs, v => ∃ a, v = .ref a ∧ LsR K H a xs
  | .o xs, v => ∃ a, v = .ref a ∧ LsR K H a xs
  | .h P, v => P.p H v
def RsR (K : PySem.W.Frag) (H H' : Hp) : Sl → V → Prop
  | .un, _ => True
  | .d x, v => Rep K H' x v
  | .l xs, v => ∃ a, v = .ref a ∧ LsR K H' a xs
  | .o xs, v => ∃ a, v = .ref a ∧ H a = none ∧ LsR K H' a xs
  | .h P, v => P.p H' v
section
variable {K : PySem.W.Frag} {H H' H'' : Hp} {a p : Addr} {xs ys : List PyData} {r : Sl} {v : V}
theorem LsR.mono (s : Same H H') (h : LsR K H a xs) : LsR K H' a xs := let ⟨vs, e, q⟩ := h; ⟨vs, s _ _ e, Reps.mono (TupLe.of_same s) _ _ q⟩
theorem LsR.other {vs ws : List V} (h : LsR K H a xs) (hp : H p = some (.lst vs)) (n : a ≠ p) : LsR K (upd H p (.lst ws)) a xs := by
  obtain ⟨us, e, q⟩ := h
  exact ⟨us, by rw [upd_ne n]; exact e, Reps.mono ((SameBut.upd _).tup hp) _ _ q⟩
theorem RsR.rd (h : RsR K H H' r v) : RdR K H' r v := by
  cases r with
  | un => trivial
  | d x => exact h
  | l xs => exact h
  | o xs => obtain ⟨a, e, _, q⟩ := h; exact ⟨a, e, q⟩
  | h P => exact h
theorem RsR.since (s : Same H H') (h : RsR K H' H'' r v) : RsR K H H'' r v := by
  cases r with
  | un => trivial
  | d x => exact h
  | l xs => exact h
  | o xs => obtain ⟨a, e, n, q⟩ := h; exact ⟨a, e, s.free n, q⟩
  | h P => exact h
theorem RdR.mono (s : Same H H') (h : RdR K H r v) : RdR K H' r v := by
  cases r with
  | un => trivial
  | d x => exact Rep.mono (TupLe.of_same s) _ _ h
  | l xs => obtain ⟨a, e, q⟩ := h; exact ⟨a, e, q.mono s⟩
  | o xs => obtain ⟨a, e, q⟩ := h; exact ⟨a, e, q.mono s⟩
  | h P => exact P.mono _ _ _ (Ext.of_same s) h
theorem RdR.lst (h : RdR K H r v) (e : r.its = some xs) : ∃ a vs, v = .ref a ∧ H a = some (.lst vs) ∧ Reps K H xs vs := by
  cases r with
  | un => cases e
  | d x => cases e
  | l ys => cases e; obtain ⟨a, e, vs, q1, q2⟩ := h; exact ⟨a, vs, e, q1, q2⟩
  | o ys => cases e; obtain ⟨a, e, vs, q1, q2⟩ := h; exact ⟨a, vs, e, q1, q2⟩
  | h P => cases e
theorem RsR.int {i : Int} : RsR K H H' (.d (.int i)) (.int i) := @Rep.int K H' i
theorem RsR.str {x : Str} : RsR K H H' (.d (.str x)) (.str x) := @Rep.str K H' x
theorem RsR.bool {b : Bool} : RsR K H H' (.d (.bool b)) (.bl b) := @Rep.bool K H' b
theorem RsR.non : RsR K H H' (.d .none) .non := @Rep.non K H'
theorem RdR.is_int {i : Int} (h : RdR K H (.d (.int i)) v) : v = .int i := Rep.is_int (K := K) (H := H) h
theorem RdR.is_str {x : Str} (h : RdR K H (.d (.str x)) v) : v = .str x := Rep.is_str (K := K) (H := H) h
theorem RdR.is_bool {b : Bool} (h : RdR K H (.d (.bool b)) v) : v = .bl b := Rep.is_bool (K := K) (H := H) h
theorem RdR.is_non (h : RdR K H (.d .none) v) : v = .non := Rep.is_non (K := K) (H := H) h
theorem RsR.is_int {i : Int} (h : RsR K H H' (.d (.int i)) v) : v = .int i := Rep.is_int (K := K) (H := H') h
theorem RsR.is_str {x : Str} (h : RsR K H H' (.d (.str x)) v) : v = .str x := Rep.is_str (K := K) (H := H') h
theorem RsR.is_bool {b : Bool} (h : RsR K H H' (.d (.bool b)) v) : v = .bl b := Rep.is_bool (K := K) (H := H') h
theorem RdR.tup {xs : List PyData} (h : RdR K H (.d (.tuple xs)) v) : ∃ a vs, v = .ref a ∧ SqT K H a vs ∧ Reps K H xs vs := Rep.untuple (K := K) (H := H) h
theorem RsR.tup {xs : List PyData} (h : RsR K H H' (.d (.tuple xs)) v) : ∃ a vs, v = .ref a ∧ SqT K H' a vs ∧ Reps K H' xs vs := Rep.untuple (K := K) (H := H') h
theorem RsR.mk {xs : List PyData} {vs : List V} (h : SqT K H' a vs) (r : Reps K H' xs vs) : RsR K H H' (.d (.tuple xs)) (.ref a) := Rep.tuple (K := K) (H := H') h r
theorem RdR.arg (h : RdR K H r v) : RdR K H r.arg v := by cases r <;> exact h
end
inductive RdRs (K : PySem.W.Frag) (H : Hp) : List Sl → List V → Prop where
  | nil : RdRs K H [] []
  | cons {r : Sl} {v : V} {rs : List Sl} {vs : List V} : RdR K H r v → RdRs K H rs vs → RdRs K H (r :: rs) (v :: vs)
theorem RdRs.mono {K : PySem.W.Frag} {H H' : Hp} (s : Same H H') : ∀ {rs : List Sl} {vs : List V}, RdRs K H rs vs → RdRs K H' rs vs
  | _, _, .nil => .nil
  | _, _, .cons h t => .cons (h.mono s) (t.mono s)
theorem RdRs.arg {K : PySem.W.Frag} {H : Hp} : ∀ {rs : List Sl} {vs : List V}, RdRs K H rs vs → RdRs K H (rs.map Sl.arg) vs
  | _, _, .nil => .nil
  | _, _, .cons h t => .cons h.arg t.arg
theorem RdRs.length {K : PySem.W.Frag} {H : Hp} : ∀ {rs : List Sl} {vs : List V}, RdRs K H rs vs → vs.length = rs.length
  | _, _, .nil => rfl
  | _, _, .cons h t => by rw [List.length_cons, List.length_cons, t.length]
theorem RdRs.get {K : PySem.W.Frag} {H : Hp} : ∀ {rs : List Sl} {vs : List V}, RdRs K H rs vs → ∀ {i : Nat} {r : Sl}, rs[i]? = some r → ∃ v, vs[i]? = some v ∧ RdR K H r v
  | _, _, .nil, i, r, e => by simp at e
  | _, _, .cons h t, 0, r, e => by simp at e; subst e; exact ⟨_, rfl, h⟩
  | _, _, .cons h t, i + 1, r, e => by simpa using t.get (i := i) (r := r) (by simpa using e)
structure ER (K : PySem.W.Frag) (H0 : Hp) (hs : List (V × Sl)) (ρ : List Sl) (σ : St) (H : Hp) : Prop where
  same : Same H0 H
  len : ρ.length = σ.length
  dat : ∀ (i : Nat) x, ρ[i]? = some (.d x) → ∃ v, σ[i]? = some (some v) ∧ Rep K H x v
  lst : ∀ (i : Nat) xs, ρ[i]? = some (.l xs) → ∃ a, σ[i]? = some (some (.ref a)) ∧ LsR K H a xs
  per : ∀ (i : Nat) P, ρ[i]? = some (.h P) → ∃ v, σ[i]? = some (some v) ∧ P.p H v
  own : ∀ (i : Nat) xs, ρ[i]? = some (.o xs) → ∃ a, σ[i]? = some (some (.ref a)) ∧ LsR K H a xs ∧ H0 a = none
  sepL : ∀ (i j : Nat) a xs ys, ρ[i]? = some (.o xs) → ρ[j]? = some (.l ys) → σ[i]? = some (some (.ref a)) → σ[j]? ≠ some (some (.ref a))
  sepO : ∀ (i j : Nat) a xs ys, i ≠ j → ρ[i]? = some (.o xs) → ρ[j]? = some (.o ys) → σ[i]? = some (some (.ref a)) → σ[j]? ≠ some (some (.ref a))
  held : ∀ p ∈ hs, RdR K H p.2 p.1
  sepH : ∀ (i : Nat) xs a, ρ[i]? = some (.o xs) → σ[i]? = some (some (.ref a)) → ∀ p ∈ hs, ∀ ys, p.2.its = some ys → p.1 ≠ .ref a
section
variable {K : PySem.W.Frag} {H0 H H' : Hp} {hs : List (V × Sl)} {ρ : List Sl} {σ : St}
theorem ER.grow (e : ER K H0 hs ρ σ H) (s : Same H H') : ER K H0 hs ρ σ H' :=
  ⟨e.same.trans s, e.len, fun i x h => let ⟨v, h1, h2⟩ := e.dat i x h; ⟨v, h1, Rep.mono (TupLe.of_same s) _ _ h2⟩, fun i x h => let ⟨v, h1, h2⟩ := e.lst i x h; ⟨v, h1, h2.mono s⟩,
    fun i P h => let ⟨v, h1, h2⟩ := e.per i P h; ⟨v, h1, P.mono _ _ _ (Ext.of_same s) h2⟩,
    fun i x h => let ⟨v, h1, h2, h3⟩ := e.own i x h; ⟨v, h1, h2.mono s, h3⟩, e.sepL, e.sepO, fun p hp => (e.held p hp).mono s, e.sepH⟩
theorem set_get {α : Type} {l : List α} {i j : Nat} {x y : α} (h : (l.set i x)[j]? = some y) : (i = j ∧ y = x ∧ i < l.length) ∨ (i ≠ j ∧ l[j]? = some y) := by
  rw [List.getElem?_set] at h
  by_cases e : i = j
  · rw [if_pos e] at h
    by_cases l1 : i < l.length
    · rw [if_pos l1] at h; exact .inl ⟨e, (Option.some.inj h).symm, l1⟩
    · rw [if_neg l1] at h; cases h
  · rw [if_neg e] at h; exact .inr ⟨e, h⟩
theorem set_at {α : Type} {l : List α} {i j : Nat} {x y : α} (e : i ≠ j) (h : l[j]? = some y) : (l.set i x)[j]? = some y := by rw [List.getElem?_set, if_neg e]; exact h
theorem set_eq {α : Type} {l : List α} {i : Nat} {x : α} (h : i < l.length) : (l.set i x)[i]? = some x := by rw [List.getElem?_set, if_pos rfl, if_pos h]
theorem set_unat {α : Type} {l : List α} {i j : Nat} {x y : α} (e : i ≠ j) (h : (l.set i x)[j]? = some y) : l[j]? = some y := by rw [List.getElem?_set, if_neg e] at h; exact h
theorem ER.setR {i : Nat} {r : Sl} {v : V} (e : ER K H0 hs ρ σ H) (h : RdR K H r v) (no : ∀ xs, r ≠ .o xs) (sep : ∀ ys, r = .l ys → ∀ (j : Nat) xs, ρ[j]? = some (.o xs) → σ[j]? ≠ some (some v)) : ER K H0 hs (ρ.set i r) (σ.set i (some v)) H := by
  have ls : i < ρ.length → i < σ.length := fun h => by rw [← e.len]; exact h
  refine ⟨e.same, by rw [List.length_set, List.length_set, e.len], fun j x q => ?_, fun j x q => ?_, fun j x q => ?_, fun j x q => ?_, fun j k a xs ys q1 q2 q3 q4 => ?_, fun j k a xs ys n q1 q2 q3 q4 => ?_, e.held, fun j xs a q1 q2 => ?_⟩
  · rcases set_get q with ⟨rfl, rfl, l1⟩ | ⟨n, q⟩
    · exact ⟨v, set_eq (ls l1), h⟩
    · obtain ⟨u, h1, h2⟩ := e.dat j x q
      exact ⟨u, set_at n h1, h2⟩
  · rcases set_get q with ⟨rfl, rfl, l1⟩ | ⟨n, q⟩
    · obtain ⟨a, rfl, h2⟩ := h
      exact ⟨a, set_eq (ls l1), h2⟩
    · obtain ⟨u, h1, h2⟩ := e.lst j x q
      exact ⟨u, set_at n h1, h2⟩
  · rcases set_get q with ⟨rfl, rfl, l1⟩ | ⟨n, q⟩
    · exact ⟨v, set_eq (ls l1), h⟩
    · obtain ⟨u, h1, h2⟩ := e.per j x q
      exact ⟨u, set_at n h1, h2⟩
  · rcases set_get q with ⟨_, z, _⟩ | ⟨n, q⟩
    · exact absurd z.symm (no x)
    · obtain ⟨u, h1, h2⟩ := e.own j x q
      exact ⟨u, set_at n h1, h2⟩
  · rcases set_get q1 with ⟨_, z, _⟩ | ⟨n1, q1⟩
    · exact absurd z.symm (no xs)
    · have q3 := set_unat n1 q3
      rcases set_get q2 with ⟨rfl, z, l1⟩ | ⟨n2, q2⟩
      · rw [set_eq (ls l1)] at q4
        have e4 : v = .ref a := Option.some.inj (Option.some.inj q4)
        exact sep ys z.symm j xs q1 (by rw [e4]; exact q3)
      · exact e.sepL j k a xs ys q1 q2 q3 (set_unat n2 q4)
  · rcases set_get q1 with ⟨_, z, _⟩ | ⟨n1, q1⟩
    · exact absurd z.symm (no xs)
    rcases set_get q2 with ⟨_, z, _⟩ | ⟨n2, q2⟩
    · exact absurd z.symm (no ys)
    exact e.sepO j k a xs ys n q1 q2 (set_unat n1 q3) (set_unat n2 q4)
  · rcases set_get q1 with ⟨_, z, _⟩ | ⟨n1, q1⟩
    · exact absurd z.symm (no xs)
    · exact e.sepH j xs a q1 (set_unat n1 q2)
theorem ER.setD {i : Nat} {x : PyData} {v : V} (e : ER K H0 hs ρ σ H) (h : Rep K H x v) : ER K H0 hs (ρ.set i (.d x)) (σ.set i (some v)) H := e.setR (r := .d x) h (fun _ z => nomatch z) fun _ z => nomatch z
theorem ER.setO {i : Nat} {xs : List PyData} {a : Addr} (e : ER K H0 hs ρ σ H) (s : Same H H') (n : H a = none) (h : LsR K H' a xs) : ER K H0 hs (ρ.set i (.o xs)) (σ.set i (some (.ref a))) H' := by
  have ls : i < ρ.length → i < σ.length := fun h => by rw [← e.len]; exact h
  have ne : ∀ {b : Addr} {ys : List PyData}, LsR K H b ys → b ≠ a := fun ⟨_, q, _⟩ z => by rw [z, n] at q; cases q
  refine ⟨e.same.trans s, by rw [List.length_set, List.length_set, e.len], fun j x q => ?_, fun j x q => ?_, fun j x q => ?_, fun j x q => ?_, fun j k b xs ys q1 q2 q3 q4 => ?_, fun j k b xs ys n q1 q2 q3 q4 => ?_, fun p hp => (e.held p hp).mono s, fun j xs b q1 q2 p hp ws hw => ?_⟩
  · rcases set_get q with ⟨_, z, _⟩ | ⟨n, q⟩
    · cases z
    · obtain ⟨u, h1, h2⟩ := e.dat j x q
      exact ⟨u, set_at n h1, Rep.mono (TupLe.of_same s) _ _ h2⟩
  · rcases set_get q with ⟨_, z, _⟩ | ⟨n, q⟩
    · cases z
    · obtain ⟨u, h1, h2⟩ := e.lst j x q
      exact ⟨u, set_at n h1, h2.mono s⟩
  · rcases set_get q with ⟨_, z, _⟩ | ⟨n, q⟩
    · cases z
    · obtain ⟨u, h1, h2⟩ := e.per j x q
      exact ⟨u, set_at n h1, x.mono _ _ _ (Ext.of_same s) h2⟩
  · rcases set_get q with ⟨rfl, z, l1⟩ | ⟨n, q⟩
    · cases z; exact ⟨a, set_eq (ls l1), h, e.same.free n⟩
    · obtain ⟨u, h1, h2, h3⟩ := e.own j x q
      exact ⟨u, set_at n h1, h2.mono s, h3⟩
  · rcases set_get q2 with ⟨_, z, _⟩ | ⟨n2, q2⟩
    · cases z
    have q4 := set_unat n2 q4
    rcases set_get q1 with ⟨rfl, z, l1⟩ | ⟨n1, q1⟩
    · rw [set_eq (ls l1)] at q3
      have e3 : V.ref a = V.ref b := Option.some.inj (Option.some.inj q3)
      cases e3
      obtain ⟨c, h1, h2⟩ := e.lst k ys q2
      rw [q4] at h1
      cases h1
      exact ne h2 rfl
    · exact e.sepL j k b xs ys q1 q2 (set_unat n1 q3) q4
  · rcases set_get q1 with ⟨rfl, z, l1⟩ | ⟨n1, q1⟩
    · rw [set_eq (ls l1)] at q3
      have e3 : V.ref a = V.ref b := Option.some.inj (Option.some.inj q3)
      cases e3
      rcases set_get q2 with ⟨z2, _, _⟩ | ⟨n2, q2⟩
      · exact n z2
      · obtain ⟨c, h1, h2, _⟩ := e.own k ys q2
        rw [set_unat n2 q4] at h1
        cases h1
        exact ne h2 rfl
    · have q3 := set_unat n1 q3
      rcases set_get q2 with ⟨rfl, z, l2⟩ | ⟨n2, q2⟩
      · rw [set_eq (ls l2)] at q4
        have e4 : V.ref a = V.ref b := Option.some.inj (Option.some.inj q4)
        cases e4
        obtain ⟨c, h1, h2, _⟩ := e.own j xs q1
        rw [q3] at h1
        cases h1
        exact ne h2 rfl
      · exact e.sepO j k b xs ys n q1 q2 q3 (set_unat n2 q4)
  · rcases set_get q1 with ⟨rfl, z, l1⟩ | ⟨n1, q1⟩
    · rw [set_eq (ls l1)] at q2
      have e3 : V.ref a = V.ref b := Option.some.inj (Option.some.inj q2)
      cases e3
      intro z
      obtain ⟨b, vs, h1, h2, _⟩ := (e.held p hp).lst hw
      rw [z] at h1
      cases h1
      rw [n] at h2
      cases h2
    · exact e.sepH j xs b q1 (set_unat n1 q2) p hp ws hw
theorem ER.write {i : Nat} {xs ys : List PyData} {a : Addr} {vs ws : List V} (e : ER K H0 hs ρ σ H) (hi : ρ[i]? = some (.o xs)) (ha : σ[i]? = some (some (.ref a))) (hv : H a = some (.lst vs)) (hw : Reps K H ys ws) : ER K H0 hs (ρ.set i (.o ys)) σ (upd H a (.lst ws)) := by
  have tl : TupLe K H (upd H a (.lst ws)) := (SameBut.upd _).tup hv
  have li : i < ρ.length := (List.getElem?_eq_some_iff.mp hi).1
  have h0 : H0 a = none := by
    obtain ⟨b, h1, _, h3⟩ := e.own i xs hi
    rw [ha] at h1; cases h1; exact h3
  refine ⟨fun b o q => by rw [upd_ne (ne_of_none q h0)]; exact e.same b o q, by rw [List.length_set, e.len], fun j x q => ?_, fun j x q => ?_, fun j x q => ?_, fun j x q => ?_, fun j k b us zs q1 q2 q3 q4 => ?_, fun j k b us zs n q1 q2 q3 q4 => ?_, fun p hp => ?_, fun j us b q1 q2 => ?_⟩
  · rcases set_get q with ⟨_, z, _⟩ | ⟨n, q⟩
    · cases z
    · obtain ⟨u, h1, h2⟩ := e.dat j x q
      exact ⟨u, h1, Rep.mono tl _ _ h2⟩
  · rcases set_get q with ⟨_, z, _⟩ | ⟨n, q⟩
    · cases z
    · obtain ⟨b, h1, h2⟩ := e.lst j x q
      exact ⟨b, h1, h2.other hv fun z => e.sepL i j a xs x hi q ha (by rw [← z]; exact h1)⟩
  · rcases set_get q with ⟨_, z, _⟩ | ⟨n, q⟩
    · cases z
    · obtain ⟨u, h1, h2⟩ := e.per j x q
      exact ⟨u, h1, x.mono _ _ _ (Ext.write hv _) h2⟩
  · rcases set_get q with ⟨rfl, z, _⟩ | ⟨n, q⟩
    · cases z; exact ⟨a, ha, ⟨ws, upd_same, Reps.mono tl _ _ hw⟩, h0⟩
    · obtain ⟨b, h1, h2, h3⟩ := e.own j x q
      exact ⟨b, h1, h2.other hv fun z => e.sepO i j a xs x n hi q ha (by rw [← z]; exact h1), h3⟩
  · rcases set_get q2 with ⟨_, z, _⟩ | ⟨n2, q2⟩
    · cases z
    rcases set_get q1 with ⟨rfl, _, _⟩ | ⟨n1, q1⟩
    · exact e.sepL i k b xs zs hi q2 q3 q4
    · exact e.sepL j k b us zs q1 q2 q3 q4
  · rcases set_get q1 with ⟨rfl, _, _⟩ | ⟨n1, q1⟩
    · rcases set_get q2 with ⟨z, _, _⟩ | ⟨n2, q2⟩
      · exact n z
      · exact e.sepO i k b xs zs n hi q2 q3 q4
    · rcases set_get q2 with ⟨rfl, _, _⟩ | ⟨n2, q2⟩
      · exact e.sepO j i b us xs n q1 hi q3 q4
      · exact e.sepO j k b us zs n q1 q2 q3 q4
  · have hh := e.held p hp
    obtain ⟨pv, ps⟩ := p
    cases ps with
    | un => trivial
    | d x => exact Rep.mono tl _ _ hh
    | l zs => obtain ⟨b, rfl, q⟩ := hh; exact ⟨b, rfl, q.other hv fun z => e.sepH i xs a hi ha (.ref b, .l zs) hp zs rfl (by rw [z])⟩
    | o zs => obtain ⟨b, rfl, q⟩ := hh; exact ⟨b, rfl, q.other hv fun z => e.sepH i xs a hi ha (.ref b, .o zs) hp zs rfl (by rw [z])⟩
    | h P => exact P.mono _ _ _ (Ext.write hv _) hh
  · rcases set_get q1 with ⟨rfl, _, _⟩ | ⟨n1, q1⟩
    · exact e.sepH i xs b hi q2
    · exact e.sepH j us b q1 q2
theorem ER.hold {v : V} {r : Sl} (e : ER K H0 hs ρ σ H) (h : RdR K H r v) (sep : ∀ ys, r.its = some ys → ∀ (i : Nat) xs a, ρ[i]? = some (.o xs) → σ[i]? = some (some (.ref a)) → v ≠ .ref a) : ER K H0 ((v, r) :: hs) ρ σ H :=
  ⟨e.same, e.len, e.dat, e.lst, e.per, e.own, e.sepL, e.sepO, fun p hp => by
    rcases List.mem_cons.mp hp with rfl | hp
    · exact h
    · exact e.held p hp, fun i xs a q1 q2 p hp ys hy => by
    rcases List.mem_cons.mp hp with rfl | hp
    · exact sep ys hy i xs a q1 q2
    · exact e.sepH i xs a q1 q2 p hp ys hy⟩
theorem ER.unhold {p : V × Sl} (e : ER K H0 (p :: hs) ρ σ H) : ER K H0 hs ρ σ H :=
  ⟨e.same, e.len, e.dat, e.lst, e.per, e.own, e.sepL, e.sepO, fun q hq => e.held q (List.mem_cons_of_mem _ hq), fun i xs a q1 q2 q hq => e.sepH i xs a q1 q2 q (List.mem_cons_of_mem _ hq)⟩
theorem ER.down {i : Nat} {xs : List PyData} (e : ER K H0 hs ρ σ H) (hi : ρ[i]? = some (.o xs)) : ER K H0 hs (ρ.set i (.l xs)) σ H := by
  obtain ⟨a, ha, hl, h0⟩ := e.own i xs hi
  refine ⟨e.same, by rw [List.length_set, e.len], fun j x q => ?_, fun j x q => ?_, fun j x q => ?_, fun j x q => ?_, fun j k b us zs q1 q2 q3 q4 => ?_, fun j k b us zs n q1 q2 q3 q4 => ?_, e.held, fun j us b q1 q2 => ?_⟩
  · rcases set_get q with ⟨_, z, _⟩ | ⟨n, q⟩
    · cases z
    · exact e.dat j x q
  · rcases set_get q with ⟨rfl, z, _⟩ | ⟨n, q⟩
    · cases z; exact ⟨a, ha, hl⟩
    · exact e.lst j x q
  · rcases set_get q with ⟨_, z, _⟩ | ⟨n, q⟩
    · cases z
    · exact e.per j x q
  · rcases set_get q with ⟨_, z, _⟩ | ⟨n, q⟩
    · cases z
    · exact e.own j x q
  · rcases set_get q1 with ⟨_, z, _⟩ | ⟨n1, q1⟩
    · cases z
    rcases set_get q2 with ⟨rfl, _, _⟩ | ⟨n2, q2⟩
    · exact e.sepO j i b us xs (Ne.symm n1) q1 hi q3 q4
    · exact e.sepL j k b us zs q1 q2 q3 q4
  · rcases set_get q1 with ⟨_, z, _⟩ | ⟨n1, q1⟩
    · cases z
    rcases set_get q2 with ⟨_, z, _⟩ | ⟨n2, q2⟩
    · cases z
    exact e.sepO j k b us zs n q1 q2 q3 q4
  · rcases set_get q1 with ⟨_, z, _⟩ | ⟨n1, q1⟩
    · cases z
    exact e.sepH j us b q1 q2
end
end L2
set_option Elab.async false
set_option linter.all false
set_option maxRecDepth 100000
set_option maxHeartbeats 4000000
namespace L2
open PySem PySem.Spec PyProof.Rows
def tR (K : PySem.W.Frag) (ρ : List Sl) (r : Sl) : TE := fun σ H Q => (∃ H0 hs, ER K H0 hs ρ σ H) ∧ ∀ v H', Same H H' → RsR K H H' r v → Q v H'
def tRT (K : PySem.W.Frag) (ρ : List Sl) (b : Bool) : TT := fun σ H Q => (∃ H0 hs, ER K H0 hs ρ σ H) ∧ ∀ H', Same H H' → Q b H'
def tRD (K : PySem.W.Frag) (ρ : List Sl) (ds : List PyData) : TA := fun σ H Q => (∃ H0 hs, ER K H0 hs ρ σ H) ∧ ∀ vs H', Same H H' → Reps K H' ds vs → Q vs H'
def tRA (K : PySem.W.Frag) (ρ : List Sl) (rs : List Sl) : TA := fun σ H Q => (∃ H0 hs, ER K H0 hs ρ σ H) ∧ ∀ vs H', Same H H' → RdRs K H' rs vs → Q vs H'
def VE (X : Cx) (ρ : List Sl) (e : Expr) (r : Sl) : Prop := PE X e (tR X.K ρ r)
def VT (X : Cx) (ρ : List Sl) (e : Expr) (b : Bool) : Prop := PT X e (tRT X.K ρ b)
def VW (X : Cx) (ρ : List Sl) (e : Expr) (b : Bool) : Prop := PW X e (tRT X.K ρ b)
def VD (X : Cx) (ρ : List Sl) (es : List Expr) (ds : List PyData) : Prop := PA X es (tRD X.K ρ ds)
def VA (X : Cx) (ρ : List Sl) (es : List Expr) (rs : List Sl) : Prop := PA X es (tRA X.K ρ rs)
section
variable {X : Cx} {ρ : List Sl} {e a b c : Expr} {es : List Expr} {r ra rb : Sl} {pos : Pos} {d : PyData} {ds : List PyData} {rs : List Sl}
theorem PE.weak {t t' : TE} (h : PE X e t) (w : ∀ σ H Q, t' σ H Q → t σ H Q) : PE X e t' := fun pins s σ H Q I q => h pins s σ H Q I (w σ H Q q)
theorem PT.weak {t t' : TT} (h : PT X e t) (w : ∀ σ H Q, t' σ H Q → t σ H Q) : PT X e t' := fun pins s σ H Q I q => h pins s σ H Q I (w σ H Q q)
theorem PW.weak {t t' : TT} (h : PW X e t) (w : ∀ σ H Q, t' σ H Q → t σ H Q) : PW X e t' := fun wh pins s σ H Q I q => h wh pins s σ H Q I (w σ H Q q)
theorem PA.weak {t t' : TA} (h : PA X es t) (w : ∀ σ H Q, t' σ H Q → t σ H Q) : PA X es t' := fun ps pins s σ H Q I q => h ps pins s σ H Q I (w σ H Q q)
theorem er_grow {K : PySem.W.Frag} {σ : St} {H H' : Hp} (h : ∃ H0 hs, ER K H0 hs ρ σ H) (s : Same H H') : ∃ H0 hs, ER K H0 hs ρ σ H' := let ⟨a, b, e⟩ := h; ⟨a, b, e.grow s⟩
def ixA (x : Str) : List Str → Nat → Option Nat
  | [], _ => none
  | y :: r, k => if y = x then some k else ixA x r (k + 1)
theorem ixA_get {x : Str} : ∀ {l : List Str} {k i : Nat}, ixA x l k = some i → k ≤ i ∧ l[i - k]? = some x
  | [], k, i, h => nomatch h
  | y :: r, k, i, h => by
    rw [ixA] at h
    by_cases e : y = x
    · rw [if_pos e] at h; cases h; exact ⟨Nat.le_refl _, by rw [Nat.sub_self, e]; rfl⟩
    · rw [if_neg e] at h
      obtain ⟨h1, h2⟩ := ixA_get h
      refine ⟨by omega, ?_⟩
      rw [show i - k = (i - (k + 1)) + 1 from by omega, List.getElem?_cons_succ]
      exact h2
theorem ixA_N {x : Str} {i : Nat} {N : List Str} (h : ixA x N 0 = some i) : N[i]? = some x := by
  have := (ixA_get h).2
  rwa [Nat.sub_zero] at this
theorem ve_name {i : Nat} {x : Str} (hi : ixA x X.N 0 = some i) (hr : (ρ[i]?).bind Sl.rd = some r) (hv : Vis X.env.scope x := by first | exact Or.inl rfl | exact Or.inr (Or.inl rfl) | exact Or.inr (Or.inr rfl)) (hd : (x == ("__debug__" : Str)) = false := by decide)
    (hcd : (x == ("__classdict__" : Str)) = false := by decide) : VE X ρ (.Name x pos) r := by
  refine (pe_var (ixA_N hi) hv hd hcd).weak fun σ H Q ⟨⟨H0, hs, e⟩, q⟩ => ?_
  cases h : ρ[i]? with
  | none => rw [h] at hr; cases hr
  | some s =>
    rw [h] at hr
    cases s with
    | un => cases hr
    | d x => cases hr; obtain ⟨v, h1, h2⟩ := e.dat i x h; exact ⟨v, h1, q v H (Same.refl H) h2⟩
    | l x => cases hr; obtain ⟨a, h1, h2⟩ := e.lst i x h; exact ⟨_, h1, q _ H (Same.refl H) ⟨a, rfl, h2⟩⟩
    | o x => cases hr; obtain ⟨a, h1, h2, _⟩ := e.own i x h; exact ⟨_, h1, q _ H (Same.refl H) ⟨a, rfl, h2⟩⟩
    | h P => cases hr; obtain ⟨v, h1, h2⟩ := e.per i P h; exact ⟨v, h1, q v H (Same.refl H) h2⟩
theorem ve_int {i : Int} {j : Nat} : VE X ρ (.Constant (.int i) j pos) (.d (.int i)) := pe_int.weak fun σ H Q ⟨_, q⟩ => q _ H (Same.refl H) RsR.int
theorem ve_str {x : Str} {j : Nat} : VE X ρ (.Constant (.str x) j pos) (.d (.str x)) := pe_str.weak fun σ H Q ⟨_, q⟩ => q _ H (Same.refl H) RsR.str
theorem ve_bl {b : Bool} {j : Nat} : VE X ρ (.Constant (.bool b) j pos) (.d (.bool b)) := pe_bl.weak fun σ H Q ⟨_, q⟩ => q _ H (Same.refl H) RsR.bool
theorem ve_non {j : Nat} : VE X ρ (.Constant .none j pos) (.d .none) := pe_non.weak fun σ H Q ⟨_, q⟩ => q _ H (Same.refl H) RsR.non
theorem ve_glob {x : Str} {v : V} {u : Value} (hg : Gl X x) (hm : X.mg x = some u) (rv : RelV v u) (h : ∀ H, Rep X.K H d v) (hd : (x == ("__debug__" : Str)) = false := by decide) : VE X ρ (.Name x pos) (.d d) :=
  (pe_glob hg hm rv hd).weak fun σ H Q ⟨_, q⟩ => q _ H (Same.refl H) (h H)
theorem vd_nil : VD X ρ [] [] := pa_nil.weak fun σ H Q ⟨_, q⟩ => q [] H (Same.refl H) .nil
theorem vd_cons (h : VE X ρ e (.d d)) (t : VD X ρ es ds) (hs : starEach (e :: es) X.env = (false, eval e X.env) :: starEach es X.env := by rfl) : VD X ρ (e :: es) (d :: ds) :=
  PA.weak (pa_cons h t hs) fun σ H Q ⟨er, q⟩ => ⟨er, fun v H1 s1 r1 => ⟨er_grow er s1, fun vs H2 s2 r2 => q (v :: vs) H2 (s1.trans s2) (.cons (Rep.mono (TupLe.of_same s2) _ _ r1) r2)⟩⟩
theorem va_nil : VA X ρ [] [] := pa_nil.weak fun σ H Q ⟨_, q⟩ => q [] H (Same.refl H) .nil
theorem va_cons (h : VE X ρ e r) (t : VA X ρ es rs) (hs : starEach (e :: es) X.env = (false, eval e X.env) :: starEach es X.env := by rfl) : VA X ρ (e :: es) (r :: rs) :=
  PA.weak (pa_cons h t hs) fun σ H Q ⟨er, q⟩ => ⟨er, fun v H1 s1 r1 => ⟨er_grow er s1, fun vs H2 s2 r2 => q (v :: vs) H2 (s1.trans s2) (.cons (r1.rd.mono s2) r2)⟩⟩
theorem ve_tup {k : Nat} (h : VD X ρ es ds) (hz : ds.length ≤ sizeLine := by first | decide | exact Nat.le_of_ble_eq_true rfl) : VE X ρ (.Tuple es k pos) (.d (.tuple ds)) :=
  PE.weak (pe_tup h) fun σ H Q ⟨er, q⟩ => ⟨er, fun vs H1 s1 r1 => ⟨by rw [r1.length]; exact hz, fun p np => q _ _ (s1.trans (same_upd np _)) (RsR.mk (SqT.of upd_same) (Reps.mono (TupLe.of_same (same_upd np _)) _ _ r1))⟩⟩
theorem ve_lst (h : VD X ρ es ds) (hz : ds.length ≤ sizeLine := by first | decide | exact Nat.le_of_ble_eq_true rfl) : VE X ρ (.List es pos) (.o ds) :=
  PE.weak (pe_lst h) fun σ H Q ⟨er, q⟩ => ⟨er, fun vs H1 s1 r1 => ⟨by rw [r1.length]; exact hz, fun p np => q _ _ (s1.trans (same_upd np _)) ⟨p, rfl, s1.free np, vs, upd_same, Reps.mono (TupLe.of_same (same_upd np _)) _ _ r1⟩⟩⟩
theorem ve_op {op : Operator} {r2 : R2} (ho : OpR X (binaryOp op) r2) (ha : VE X ρ a ra) (hb : VE X ρ b rb) (h : ∀ H x y Q, RdR X.K H ra x → RdR X.K H rb y → (∀ z H', Same H H' → RsR X.K H H' r z → Q z H') → r2 x y H Q) : VE X ρ (.BinOp a op b pos) r :=
  PE.weak (pe_op ho ha hb) fun σ H Q ⟨er, q⟩ => ⟨er, fun x H1 s1 r1 => ⟨er_grow er s1, fun y H2 s2 r2 => h H2 x y _ (r1.rd.mono s2) r2.rd fun z H3 s3 r3 => q z H3 ((s1.trans s2).trans s3) (r3.since (s1.trans s2))⟩⟩
theorem ve_cmp {op : CmpOp} {r2 : R2} (ho : OpR X (compareOp op) r2) (ha : VE X ρ a ra) (hb : VE X ρ b rb) (h : ∀ H x y Q, RdR X.K H ra x → RdR X.K H rb y → (∀ z H', Same H H' → RsR X.K H H' r z → Q z H') → r2 x y H Q) (hm : behindInMarks op b = false) : VE X ρ (.Compare a [op] [b] pos) r :=
  PE.weak (pe_cmpR ho ha hb hm) fun σ H Q ⟨er, q⟩ => ⟨er, fun x H1 s1 r1 => ⟨er_grow er s1, fun y H2 s2 r2 => h H2 x y _ (r1.rd.mono s2) r2.rd fun z H3 s3 r3 => q z H3 ((s1.trans s2).trans s3) (r3.since (s1.trans s2))⟩⟩
theorem vt_cmp {op : CmpOp} {r2 : R2} {k : Bool} (ho : OpR X (compareOp op) r2) (ha : VE X ρ a ra) (hb : VE X ρ b rb) (h : ∀ H x y Q, RdR X.K H ra x → RdR X.K H rb y → Q (.bl k) H → r2 x y H Q) (hm : behindInMarks op b = false) : VT X ρ (.Compare a [op] [b] pos) k :=
  PT.weak (pt_cmpR ho ha hb hm) fun σ H Q ⟨er, q⟩ => ⟨er, fun x H1 s1 r1 => ⟨er_grow er s1, fun y H2 s2 r2 => h H2 x y _ (r1.rd.mono s2) r2.rd ⟨k, rfl, q H2 (s1.trans s2)⟩⟩⟩
theorem ve_addI {i j : Int} (ha : VE X ρ a (.d (.int i))) (hb : VE X ρ b (.d (.int j))) : VE X ρ (.BinOp a .Add b pos) (.d (.int (i + j))) :=
  ve_op op_add ha hb fun H x y Q rx ry q => ⟨i, j, RdR.is_int rx, RdR.is_int ry, q _ H (Same.refl H) RsR.int⟩
theorem ve_subI {i j : Int} (ha : VE X ρ a (.d (.int i))) (hb : VE X ρ b (.d (.int j))) : VE X ρ (.BinOp a .Sub b pos) (.d (.int (i - j))) :=
  ve_op op_sub ha hb fun H x y Q rx ry q => ⟨i, j, RdR.is_int rx, RdR.is_int ry, q _ H (Same.refl H) RsR.int⟩
theorem ve_mulI {i j : Int} (ha : VE X ρ a (.d (.int i))) (hb : VE X ρ b (.d (.int j))) (h : CMul i j) : VE X ρ (.BinOp a .Mult b pos) (.d (.int (i * j))) :=
  ve_op op_mul ha hb fun H x y Q rx ry q => ⟨i, j, RdR.is_int rx, RdR.is_int ry, h, q _ H (Same.refl H) RsR.int⟩
theorem ve_modI {i j : Int} (ha : VE X ρ a (.d (.int i))) (hb : VE X ρ b (.d (.int j))) (h : 0 < j := by decide) : VE X ρ (.BinOp a .Mod b pos) (.d (.int (i % j))) :=
  ve_op op_mod ha hb fun H x y Q rx ry q => ⟨i, j, RdR.is_int rx, RdR.is_int ry, h, q _ H (Same.refl H) RsR.int⟩
theorem ve_addS {i j : Str} (ha : VE X ρ a (.d (.str i))) (hb : VE X ρ b (.d (.str j))) (h : i.length + j.length ≤ sizeLine) : VE X ρ (.BinOp a .Add b pos) (.d (.str (i ++ j))) :=
  ve_op op_add_str ha hb fun H x y Q rx ry q => ⟨i, j, RdR.is_str rx, RdR.is_str ry, h, q _ H (Same.refl H) RsR.str⟩
theorem ve_addL {xs ys : List PyData} (ha : VE X ρ a ra) (hb : VE X ρ b rb) (ea : ra.its = some xs) (eb : rb.its = some ys) (h : xs.length + ys.length ≤ sizeLine) : VE X ρ (.BinOp a .Add b pos) (.o (xs ++ ys)) :=
  ve_op op_cat ha hb fun H x y Q rx ry q => by
    obtain ⟨p, vs, rfl, hq, rp⟩ := rx.lst ea
    obtain ⟨p2, ws, rfl, hq2, rp2⟩ := ry.lst eb
    refine ⟨p, p2, vs, ws, rfl, rfl, hq, hq2, by rw [rp.length, rp2.length]; exact h, fun c hc => q _ _ (same_upd hc _) ⟨c, rfl, hc, _, upd_same, ?_⟩⟩
    exact (Reps.mono (TupLe.of_same (same_upd hc _)) _ _ rp).append (Reps.mono (TupLe.of_same (same_upd hc _)) _ _ rp2)
theorem ve_ixT {xs : List PyData} {i : Int} (ha : VE X ρ a (.d (.tuple xs))) (hb : VE X ρ b (.d (.int i))) (h : atI xs i = some d) (hs : PlainIx b := by exact fun _ _ => rfl) : VE X ρ (.Subscript a b pos) (.d d) :=
  PE.weak (pe_ix ix_tup ha hb hs) fun σ H Q ⟨er, q⟩ => ⟨er, fun x H1 s1 r1 => ⟨er_grow er s1, fun y H2 s2 r2 => by
    obtain ⟨p, vs, rfl, hq, rp⟩ := RdR.tup (r1.rd.mono s2)
    obtain rfl := RsR.is_int r2
    obtain ⟨j, h1, h2, h3, h4, h5⟩ := atI_get h
    obtain ⟨z, hz, rz⟩ := rp.get h2
    refine ⟨p, vs, i, z, rfl, rfl, hq, ?_, q z H2 (s1.trans s2) rz⟩
    unfold atI at h ⊢
    rw [rp.length]
    cases q : ixN xs.length i with
    | none => rw [q] at h; cases h
    | some k =>
      have hk := (ixN_seq q).1
      rw [h1] at hk
      cases hk
      exact hz⟩⟩
theorem ve_ixL {xs : List PyData} {i : Int} (ha : VE X ρ a ra) (hb : VE X ρ b (.d (.int i))) (ea : ra.its = some xs) (h : atI xs i = some d) (hs : PlainIx b := by exact fun _ _ => rfl) : VE X ρ (.Subscript a b pos) (.d d) :=
  PE.weak (pe_ix ix_list ha hb hs) fun σ H Q ⟨er, q⟩ => ⟨er, fun x H1 s1 r1 => ⟨er_grow er s1, fun y H2 s2 r2 => by
    obtain ⟨p, vs, rfl, hq, rp⟩ := (r1.rd.mono s2).lst ea
    obtain rfl := RsR.is_int r2
    obtain ⟨j, h1, h2, h3, h4, h5⟩ := atI_get h
    obtain ⟨z, hz, rz⟩ := rp.get h2
    refine ⟨p, vs, i, z, rfl, rfl, SqL.of hq, ?_, q z H2 (s1.trans s2) rz⟩
    unfold atI at h ⊢
    rw [rp.length]
    cases q : ixN xs.length i with
    | none => rw [q] at h; cases h
    | some k =>
      have hk := (ixN_seq q).1
      rw [h1] at hk
      cases hk
      exact hz⟩⟩
def Sl.dat : Sl → Option PyData
  | .d x => some x
  | .l xs => some (.list xs)
  | .o xs => some (.list xs)
  | .un => none
  | .h _ => none
theorem RdR.repL {K : PySem.W.Frag} {H : Hp} {v : V} (h : RdR K H r v) (e : r.dat = some d) : RepL K H d v := by
  cases r with
  | un => cases e
  | d x =>
    cases e
    have h' : Rep K H d v := h
    cases d with
    | list xs => rw [Rep] at h'; obtain ⟨a, o, vs, rfl, h1, h2⟩ := h'; exact ⟨a, vs, rfl, .inl (.inr ⟨o, h1⟩), h2⟩
    | _ => exact h'
  | l xs => cases e; obtain ⟨a, rfl, vs, h1, h2⟩ := h; exact ⟨a, vs, rfl, SqL.of h1, h2⟩
  | o xs => cases e; obtain ⟨a, rfl, vs, h1, h2⟩ := h; exact ⟨a, vs, rfl, SqL.of h1, h2⟩
  | h P => cases e
theorem vt_neD {n : Nat} {d' : PyData} (hu : X.A.units + n < cLine) (ha : VE X ρ a ra) (hb : VE X ρ b rb) (ea : ra.dat = some d) (eb : rb.dat = some d') (ca : d.canLay0 = true) (cb : d'.canLay0 = true) (hn : d.depth ≤ n ∨ d'.depth ≤ n) : VT X ρ (.Compare a [.NotEq] [b] pos) (!PyData.eqv d d') :=
  vt_cmp (op_neD hu) ha hb (fun H x y Q rx ry q => ⟨d, d', rx.repL ea, ry.repL eb, ca, cb, hn, q⟩) (nomark _)
theorem vt_eqS {x y : Str} (ha : VE X ρ a (.d (.str x))) (hb : VE X ρ b (.d (.str y))) : VT X ρ (.Compare a [.Eq] [b] pos) (decide (x = y)) :=
  vt_cmp op_eq ha hb (fun H u w Q rx ry q => by
    obtain rfl := RdR.is_str rx
    obtain rfl := RdR.is_str ry
    refine ⟨rfl, ?_⟩
    rw [show decide (V.str x = V.str y) = decide (x = y) from by simp]; exact q) (nomark _)
theorem vt_neS {x y : Str} (ha : VE X ρ a (.d (.str x))) (hb : VE X ρ b (.d (.str y))) : VT X ρ (.Compare a [.NotEq] [b] pos) (!decide (x = y)) :=
  vt_cmp op_ne ha hb (fun H u w Q rx ry q => by
    obtain rfl := RdR.is_str rx
    obtain rfl := RdR.is_str ry
    refine ⟨rfl, ?_⟩
    rw [show decide (V.str x = V.str y) = decide (x = y) from by simp]; exact q) (nomark _)
theorem vt_eqI {x y : Int} (ha : VE X ρ a (.d (.int x))) (hb : VE X ρ b (.d (.int y))) : VT X ρ (.Compare a [.Eq] [b] pos) (decide (x = y)) :=
  vt_cmp op_eq ha hb (fun H u w Q rx ry q => by
    obtain rfl := RdR.is_int rx
    obtain rfl := RdR.is_int ry
    refine ⟨rfl, ?_⟩
    rw [show decide (V.int x = V.int y) = decide (x = y) from by simp]; exact q) (nomark _)
theorem vt_neI {x y : Int} (ha : VE X ρ a (.d (.int x))) (hb : VE X ρ b (.d (.int y))) : VT X ρ (.Compare a [.NotEq] [b] pos) (!decide (x = y)) :=
  vt_cmp op_ne ha hb (fun H u w Q rx ry q => by
    obtain rfl := RdR.is_int rx
    obtain rfl := RdR.is_int ry
    refine ⟨rfl, ?_⟩
    rw [show decide (V.int x = V.int y) = decide (x = y) from by simp]; exact q) (nomark _)
theorem vt_ltI {x y : Int} (ha : VE X ρ a (.d (.int x))) (hb : VE X ρ b (.d (.int y))) : VT X ρ (.Compare a [.Lt] [b] pos) (decide (x < y)) :=
  vt_cmp op_lt ha hb (fun H u w Q rx ry q => ⟨x, y, RdR.is_int rx, RdR.is_int ry, q⟩) (nomark _)
def Sl.isN : Sl → Bool
  | .d .none => true
  | _ => false
theorem nun_d {x : PyData} : Sl.d x ≠ .un ∧ ∀ P, Sl.d x ≠ .h P := ⟨(by intro z; cases z), (by intro _ z; cases z)⟩
theorem rep_non {K : PySem.W.Frag} {H : Hp} {v : V} (h : RdR K H r v) (hu : r ≠ .un ∧ ∀ P, r ≠ .h P) : decide (v = V.non) = r.isN := by
  cases r with
  | un => exact absurd rfl hu.1
  | h P => exact absurd rfl (hu.2 P)
  | d x =>
    have h : Rep K H x v := h
    cases x with
    | none => rw [Rep] at h; subst h; rfl
    | bool b => rw [Rep] at h; subst h; rfl
    | int b => rw [Rep] at h; subst h; rfl
    | str b => rw [Rep] at h; subst h; rfl
    | tuple b => rw [Rep] at h; obtain ⟨a, vs, rfl, _⟩ := h; rfl
    | list b => rw [Rep] at h; obtain ⟨a, o, vs, rfl, _⟩ := h; rfl
    | dict b =>
      rw [Rep] at h
      rcases h with ⟨a, o, dx, vs, rfl, _⟩ | h
      · rfl
      · have hn : v ≠ .non := by
          cases b with
          | nil => rw [RepG] at h; exact h.elim
          | cons p b => rw [RepG] at h; exact h.1.2
        exact decide_eq_false hn
  | l xs => obtain ⟨a, rfl, _⟩ := h; rfl
  | o xs => obtain ⟨a, rfl, _⟩ := h; rfl
theorem vt_isN {j : Nat} {p2 : Pos} (ha : VE X ρ a ra) (hu : ra ≠ .un ∧ ∀ P, ra ≠ .h P := by first | exact nun_d | exact nun_l | exact nun_o) : VT X ρ (.Compare a [.Is] [.Constant .none j p2] pos) ra.isN :=
  vt_cmp op_isN ha (ve_non (j := j) (pos := p2)) (fun H x y Q rx ry q => ⟨RdR.is_non ry, by rw [rep_non rx hu]; exact q⟩) (nomark _)
theorem vt_notN {j : Nat} {p2 : Pos} (ha : VE X ρ a ra) (hu : ra ≠ .un ∧ ∀ P, ra ≠ .h P := by first | exact nun_d | exact nun_l | exact nun_o) : VT X ρ (.Compare a [.IsNot] [.Constant .none j p2] pos) (!ra.isN) :=
  vt_cmp op_notN ha (ve_non (j := j) (pos := p2)) (fun H x y Q rx ry q => ⟨RdR.is_non ry, by rw [rep_non rx hu]; exact q⟩) (nomark _)
theorem vt_not {k : Bool} (h : VT X ρ a k) : VT X ρ (.UnaryOp .Not a pos) (!k) := PT.weak (pt_not h) fun σ H Q ⟨er, q⟩ => ⟨er, fun H1 s1 => q H1 s1⟩
theorem vt_eq {k k' : Bool} (h : VT X ρ a k) (e : k = k') : VT X ρ a k' := by rw [← e]; exact h
theorem vt_w {k : Bool} (h : VW X ρ e k) : VT X ρ e k := PW.pt h
theorem vw_and1 {k : Bool} (h : VT X ρ a k) : VW X ρ (.BoolOp .And [a] pos) k := pw_and1 h
theorem vw_or1 {k : Bool} (h : VT X ρ a k) : VW X ρ (.BoolOp .Or [a] pos) k := pw_or1 h
theorem vw_andT {k : Bool} (h : VT X ρ a true) (t : VW X ρ (.BoolOp .And (b :: es) pos) k) : VW X ρ (.BoolOp .And (a :: b :: es) pos) k :=
  PW.weak (pw_and h t) fun σ H Q ⟨er, q⟩ => ⟨er, fun H1 s1 => iteT ⟨er_grow er s1, fun H2 s2 => q H2 (s1.trans s2)⟩⟩
theorem vw_andF (h : VT X ρ a false) : VW X ρ (.BoolOp .And (a :: b :: es) pos) false :=
  PW.weak (pw_and (tB' := fun _ _ _ => False) h fun _ _ _ _ _ _ _ z => z.elim) fun σ H Q ⟨er, q⟩ => ⟨er, fun H1 s1 => iteF <| q H1 s1⟩
theorem vw_orT (h : VT X ρ a true) : VW X ρ (.BoolOp .Or (a :: b :: es) pos) true :=
  PW.weak (pw_or (tB' := fun _ _ _ => False) h fun _ _ _ _ _ _ _ z => z.elim) fun σ H Q ⟨er, q⟩ => ⟨er, fun H1 s1 => iteT <| q H1 s1⟩
theorem vw_orF {k : Bool} (h : VT X ρ a false) (t : VW X ρ (.BoolOp .Or (b :: es) pos) k) : VW X ρ (.BoolOp .Or (a :: b :: es) pos) k :=
  PW.weak (pw_or h t) fun σ H Q ⟨er, q⟩ => ⟨er, fun H1 s1 => iteF ⟨er_grow er s1, fun H2 s2 => q H2 (s1.trans s2)⟩⟩
theorem vw_or {j k : Bool} (h : VT X ρ a j) (t : j = false → VW X ρ (.BoolOp .Or (b :: es) pos) k) : VW X ρ (.BoolOp .Or (a :: b :: es) pos) (j || k) := by
  cases j with
  | true => exact vw_orT h
  | false => exact vw_orF h (t rfl)
theorem vt_bool {k : Bool} (h : VE X ρ e (.d (.bool k))) (he : ∀ whole, isTrue e X.env whole = (do let v ← whole; standAt e.pos; holding [v] (truthy v)) := by intro _; rfl) : VT X ρ e k :=
  PT.weak (pt_val h he) fun σ H Q ⟨er, q⟩ => ⟨er, fun v H1 s1 r1 => ⟨k, RsR.is_bool r1, q H1 s1⟩⟩
theorem vt_lst {xs : List PyData} (h : VE X ρ e r) (hr : r.its = some xs) (he : ∀ whole, isTrue e X.env whole = (do let v ← whole; standAt e.pos; holding [v] (truthy v)) := by intro _; rfl) : VT X ρ e (!xs.isEmpty) :=
  PT.weak (pt_truth h he) fun σ H Q ⟨er, q⟩ => ⟨er, fun v H1 s1 r1 => by
    obtain ⟨a, vs, rfl, h1, h2⟩ := r1.rd.lst hr
    refine ⟨_, .inl ⟨vs, SqL.of h1, rfl⟩, ?_⟩
    have : vs.isEmpty = xs.isEmpty := by
      have := h2.length
      cases vs <;> cases xs <;> simp_all
    rw [this]
    exact q H1 s1⟩
theorem ve_not {k : Bool} (h : VE X ρ a (.d (.bool k))) : VE X ρ (.UnaryOp .Not a pos) (.d (.bool (!k))) := PE.weak (pe_not h) fun σ H Q ⟨er, q⟩ => ⟨er, fun v H1 s1 r1 => ⟨k, RsR.is_bool r1, q _ H1 s1 RsR.bool⟩⟩
theorem ve_one {op : BoolOp} (h : VE X ρ a r) : VE X ρ (.BoolOp op [a] pos) r := pe_one h
theorem ve_and {j k : Bool} (h : VE X ρ a (.d (.bool j))) (t : j = true → VE X ρ (.BoolOp .And (b :: es) pos) (.d (.bool k))) : VE X ρ (.BoolOp .And (a :: b :: es) pos) (.d (.bool (j && k))) := by
  cases j with
  | true => exact PE.weak (pe_and h (t rfl)) fun σ H Q ⟨er, q⟩ => ⟨er, fun v H1 s1 r1 => ⟨true, RsR.is_bool r1, iteT ⟨er_grow er s1, fun u H2 s2 r2 => q u H2 (s1.trans s2) r2⟩⟩⟩
  | false => exact PE.weak (pe_and (tb := fun _ _ _ => False) h fun _ _ _ _ _ _ z => z.elim) fun σ H Q ⟨er, q⟩ => ⟨er, fun v H1 s1 r1 => ⟨false, RsR.is_bool r1, iteF <| q _ H1 s1 RsR.bool⟩⟩
end
end L2
set_option Elab.async false
set_option linter.all false
set_option maxRecDepth 100000
set_option maxHeartbeats 4000000
namespace L2
open PySem PySem.Spec PyProof.Rows
def spV (K : PySem.W.Frag) (R : List Sl → Sl → Prop) : Sp := fun vs H Q _ => ∃ as r, RdRs K H as vs ∧ R as r ∧ ∀ v H', Same H H' → RsR K H H' r v → Q v H'
section
variable {X : Cx} {ρ : List Sl} {e a b c : Expr} {es : List Expr} {r ra rb : Sl} {p p2 pos : Pos} {d : PyData} {ds : List PyData} {rs : List Sl}
theorem ve_call {k : Nat} {x : Str} {ps : List Str} {R : List Sl → Sl → Prop} (D : DefOk X.prog X.w X.K X.mg X.base k x ps (spV X.K R)) (hr : Room k X.A) (ha : VA X ρ (e :: es) rs) (h : R (rs.map Sl.arg) r) (hg : Gl X x := by rfl) (hdb : (x == ("__debug__" : Str)) = false := by decide)
    (he : starEach (e :: es) X.env = (false, eval e X.env) :: starEach es X.env := by rfl) (hpl : (backTo pos (starEach es X.env)).any (·.1) = false := by rfl) : VE X ρ (.Call (.Name x p) (e :: es) [] pos) r :=
  PE.weak (pe_callD D hr hg ha hdb he hpl) fun σ H Q ⟨er, q⟩ => ⟨er, fun vs H1 s1 r1 => by
    show spV X.K R (vs ++ []) H1 Q E0
    rw [List.append_nil]
    exact ⟨rs.map Sl.arg, r, r1.arg, h, fun v H2 s2 r2 => q v H2 (s1.trans s2) (r2.since s1)⟩⟩
theorem ve_call0 {k : Nat} {x : Str} {ps : List Str} {R : List Sl → Sl → Prop} (D : DefOk X.prog X.w X.K X.mg X.base k x ps (spV X.K R)) (hr : Room k X.A) (h : R [] r) (hg : Gl X x := by rfl) (hdb : (x == ("__debug__" : Str)) = false := by decide) : VE X ρ (.Call (.Name x p) [] [] pos) r :=
  PE.weak (pe_callD0 D hr hg hdb) fun σ H Q ⟨er, q⟩ => ⟨[], r, .nil, h, fun v H2 s2 r2 => q v H2 s2 r2⟩
def Sl.tyN : Sl → Option String
  | .d .none => some "NoneType"
  | .d (.bool _) => some "bool"
  | .d (.int _) => some "int"
  | .d (.str _) => some "str"
  | .d (.tuple _) => some "tuple"
  | .l _ => some "list"
  | .o _ => some "list"
  | _ => none
theorem RdR.ty {K : PySem.W.Frag} {H : Hp} {v : V} {T : String} (h : RdR K H r v) (e : r.tyN = some T) : TyV K H v (.type T) := by
  cases r with
  | un => cases e
  | d x =>
    have h : Rep K H x v := h
    cases x with
    | none => rw [Rep] at h; subst h; cases e; exact .of .non
    | bool b => rw [Rep] at h; subst h; cases e; exact .of (.bl b)
    | int b => rw [Rep] at h; subst h; cases e; exact .of (.int b)
    | str b => rw [Rep] at h; subst h; cases e; exact .of (.str b)
    | tuple b => rw [Rep] at h; obtain ⟨a, vs, rfl, hq, _⟩ := h; cases e; exact .sqT hq
    | list b => cases e
    | dict b => cases e
  | l xs => cases e; obtain ⟨a, rfl, vs, h1, _⟩ := h; exact .sqL (SqL.of h1)
  | o xs => cases e; obtain ⟨a, rfl, vs, h1, _⟩ := h; exact .sqL (SqL.of h1)
  | h P => cases e
theorem ve_isinst {x : Str} {T T2 : String} {k : Bool} (hm : X.mg "isinstance" = none) (hmT : X.mg x = none) (hv : bootBuiltins x = some (.type T)) (he : VE X ρ e ra) (ht : ra.tyN = some T2) (hk : PySem.W.kitOne X.K (.type T2) (.type T) = some k) (hg : Gl X "isinstance" := by rfl) (hgT : Gl X x := by rfl)
    (hn : x ≠ "__name__" := by decide) (hd : (x == ("__debug__" : Str)) = false := by decide) (hs : starEach [e, .Name x p2] X.env = (false, eval e X.env) :: starEach [.Name x p2] X.env := by rfl) : VE X ρ (.Call (.Name "isinstance" p) [e, .Name x p2] [] pos) (.d (.bool k)) :=
  PE.weak (pe_isinst hg hm hgT hmT hv he hn hd hs) fun σ H Q ⟨er, q⟩ => ⟨er, fun v H1 s1 r1 => ⟨v, T, .type T2, k, rfl, r1.rd.ty ht, hk, q _ H1 s1 RsR.bool⟩⟩
theorem ve_lenT {xs : List PyData} (hm : X.mg "len" = none) (he : VE X ρ e (.d (.tuple xs))) (hg : Gl X "len" := by rfl) (hs : starEach [e] X.env = [(false, eval e X.env)] := by rfl) : VE X ρ (.Call (.Name "len" p) [e] [] pos) (.d (.int (xs.length : Nat))) :=
  PE.weak (pe_callB call_len_seq hg hm PySem.boot_len (pa_cons he pa_nil hs) (by decide) (by decide) hs) fun σ H Q ⟨er, q⟩ => ⟨er, fun v H1 s1 r1 => by
    obtain ⟨a, vs, rfl, hq, rp⟩ := RsR.tup r1
    exact ⟨a, vs, rfl, .inr hq, by rw [rp.length]; exact q _ H1 s1 RsR.int⟩⟩
end
end L2
set_option Elab.async false
set_option linter.all false
set_option maxRecDepth 100000
set_option maxHeartbeats 4000000
namespace L2
open PySem PySem.Spec PyProof.Rows
inductive Out where
  | nx (ρ : List Sl) | rt (r : Sl) | bk (ρ : List Sl) | ct (ρ : List Sl)
def DE (K : PySem.W.Frag) (H0 : Hp) (hs : List (V × Sl)) (Q : Out → Prop) : Ends where
  nx := fun σ H => ∃ ρ, Q (.nx ρ) ∧ ER K H0 hs ρ σ H
  bk := fun σ H => ∃ ρ, Q (.bk ρ) ∧ ER K H0 hs ρ σ H
  ct := fun σ H => ∃ ρ, Q (.ct ρ) ∧ ER K H0 hs ρ σ H
  rt := fun v H => ∃ r, Q (.rt r) ∧ Same H0 H ∧ RsR K H0 H r v
structure Ends.le (D D' : Ends) : Prop where
  nx : ∀ σ H, D.nx σ H → D'.nx σ H
  rt : ∀ v H, D.rt v H → D'.rt v H
  bk : ∀ σ H, D.bk σ H → D'.bk σ H
  ct : ∀ σ H, D.ct σ H → D'.ct σ H
def tRS (K : PySem.W.Frag) (ρ : List Sl) (Q : Out → Prop) : TS := fun D σ H => ∃ H0 hs, ER K H0 hs ρ σ H ∧ (DE K H0 hs Q).le D
def VS (X : Cx) (ss : List Stmt) (ρ : List Sl) (Q : Out → Prop) : Prop := PSs X ss (tRS X.K ρ Q)
section
variable {X : Cx} {ρ : List Sl} {e a b c : Expr} {es : List Expr} {r ra rb : Sl} {pos p2 p3 : Pos} {d : PyData} {ds : List PyData} {rs : List Sl} {Q Q' : Out → Prop} {rest : List Stmt} {st : Stmt}
theorem PSs.weak {ss : List Stmt} {t t' : TS} (h : PSs X ss t) (w : ∀ D σ H, t' D σ H → t D σ H) : PSs X ss t' := fun pins s σ H D I q => h pins s σ H D I (w D σ H q)
theorem VS.mono {ss : List Stmt} (h : VS X ss ρ Q) (w : ∀ o, Q o → Q' o) : VS X ss ρ Q' :=
  PSs.weak h fun D σ H ⟨H0, hs, er, l⟩ => ⟨H0, hs, er, ⟨fun σ H ⟨ρ, q, e⟩ => l.nx _ _ ⟨ρ, w _ q, e⟩, fun v H ⟨r, q, e⟩ => l.rt _ _ ⟨r, w _ q, e⟩, fun σ H ⟨ρ, q, e⟩ => l.bk _ _ ⟨ρ, w _ q, e⟩, fun σ H ⟨ρ, q, e⟩ => l.ct _ _ ⟨ρ, w _ q, e⟩⟩⟩
def thenS (X : Cx) (rest : List Stmt) (Q : Out → Prop) : Out → Prop
  | .nx ρ => VS X rest ρ Q
  | o => Q o
theorem vs_nil (h : Q (.nx ρ)) : VS X [] ρ Q := PSs.weak pss_nil fun D σ H ⟨H0, hs, er, l⟩ => l.nx σ H ⟨ρ, h, er⟩
theorem vs_of {t : TS} (h : PS X st t) (w : ∀ H0 hs D σ H, ER X.K H0 hs ρ σ H → (DE X.K H0 hs (thenS X rest Q)).le D → t D σ H) : VS X (st :: rest) ρ Q := by
  refine PSs.weak (pss_cons (u := fun D σ H => ∃ ρ' H0 hs, ER X.K H0 hs ρ' σ H ∧ (DE X.K H0 hs Q).le D ∧ VS X rest ρ' Q) h ?_) fun D σ H ⟨H0, hs, er, l⟩ => w H0 hs _ σ H er ⟨?_, fun v H q => l.rt v H q, fun σ H q => l.bk σ H q, fun σ H q => l.ct σ H q⟩
  · intro pins s σ H D I ⟨ρ', H0, hs, er, l, v⟩
    exact v pins s σ H D I ⟨H0, hs, er, l⟩
  · rintro σ' H' ⟨ρ', q, e⟩
    exact ⟨ρ', H0, hs, e, l, q⟩
theorem vs_ret (h : VE X ρ e r) (q : Q (.rt r)) : VS X (.Return (some e) pos :: rest) ρ Q :=
  vs_of (ps_ret h) fun H0 hs D σ H er l => ⟨⟨H0, hs, er⟩, fun v H' s rv => l.rt v H' ⟨r, q, er.same.trans s, rv.since er.same⟩⟩
theorem vs_retO {i : Nat} {x : Str} {xs : List PyData} (hi : ixA x X.N 0 = some i) (hr : ρ[i]? = some (.o xs)) (q : Q (.rt (.o xs))) (hv : Vis X.env.scope x := by first | exact Or.inl rfl | exact Or.inr (Or.inl rfl) | exact Or.inr (Or.inr rfl)) (hd : (x == ("__debug__" : Str)) = false := by decide)
    (hcd : (x == ("__classdict__" : Str)) = false := by decide) : VS X (.Return (some (.Name x p2)) pos :: rest) ρ Q :=
  vs_of (ps_ret (pe_var (ixA_N hi) hv hd hcd)) fun H0 hs D σ H er l => by
    obtain ⟨a, h1, h2, h3⟩ := er.own i xs hr
    exact ⟨_, h1, l.rt _ _ ⟨.o xs, q, er.same, a, rfl, h3, h2⟩⟩
theorem vs_if {A B : List Stmt} {k : Bool} (hc : VT X ρ c k) (ha : k = true → VS X A ρ (thenS X rest Q)) (hb : k = false → VS X B ρ (thenS X rest Q)) : VS X (.If c A B pos :: rest) ρ Q := by
  cases k with
  | true => exact vs_of (ps_if (u := tNever) hc (ha rfl) pss_never) fun H0 hs D σ H er l => ⟨⟨H0, hs, er⟩, fun H' s => iteT ⟨H0, hs, er.grow s, l⟩⟩
  | false => exact vs_of (ps_if (t := tNever) hc pss_never (hb rfl)) fun H0 hs D σ H er l => ⟨⟨H0, hs, er⟩, fun H' s => iteF ⟨H0, hs, er.grow s, l⟩⟩
theorem vs_set {i : Nat} {x : Str} (nd : X.N.Nodup) (hi : ixA x X.N 0 = some i) (h : VE X ρ e (.d d)) (k : VS X rest (ρ.set i (.d d)) Q) (hx : Loc X.env.scope x := by exact Or.inl rfl) (hs : swapsWith e (some (.Name x p2)) pos.line X.env = pure false := by rfl)
    (hf : X.fn x = true ∨ X.env.scope.names.lookup x = some .local := by first | exact .inl rfl | exact .inr rfl | assumption) : VS X (.Assign [.Name x p2] e pos :: rest) ρ Q :=
  vs_of (ps_set nd (ixA_N hi) hx h hs hf) fun H0 hs D σ H er l => ⟨⟨H0, hs, er⟩, fun v H' s rv => l.nx _ _ ⟨_, k, (er.grow s).setD rv⟩⟩
theorem vs_setO {i : Nat} {x : Str} {xs : List PyData} (nd : X.N.Nodup) (hi : ixA x X.N 0 = some i) (h : VE X ρ e (.o xs)) (k : VS X rest (ρ.set i (.o xs)) Q) (hx : Loc X.env.scope x := by exact Or.inl rfl) (hs : swapsWith e (some (.Name x p2)) pos.line X.env = pure false := by rfl)
    (hf : X.fn x = true ∨ X.env.scope.names.lookup x = some .local := by first | exact .inl rfl | exact .inr rfl | assumption) : VS X (.Assign [.Name x p2] e pos :: rest) ρ Q :=
  vs_of (ps_set nd (ixA_N hi) hx h hs hf) fun H0 hs D σ H er l => ⟨⟨H0, hs, er⟩, fun v H' s rv => by
    obtain ⟨a, rfl, n, q⟩ := rv
    exact l.nx _ _ ⟨_, k, er.setO s n q⟩⟩
theorem vs_append {i : Nat} {x : Str} {xs : List PyData} {apos cpos : Pos} (hi : ixA x X.N 0 = some i) (hr : ρ[i]? = some (.o xs)) (h : VE X ρ e (.d d)) (hz : xs.length < sizeLine) (k : VS X rest (ρ.set i (.o (xs ++ [d]))) Q)
    (hv : Vis X.env.scope x := by first | exact Or.inl rfl | exact Or.inr (Or.inl rfl) | exact Or.inr (Or.inr rfl)) (hd : (x == ("__debug__" : Str)) = false := by decide) (hcd : (x == ("__classdict__" : Str)) = false := by decide)
    (hbase : attributeBase (.Name x p2) "append" X.env (eval (.Name x p2) X.env) = eval (.Name x p2) X.env := by rfl)
    (hfew : ((backTo cpos (starEach [e] X.env)).all (fun x => !x.1) && (backToKw cpos (keywordEach [] X.env)).all (fun x => x.1.isSome) && decide ([e].length + ([] : List Keyword).length + (if ([] : List Keyword).isEmpty then 0 else 1) < 30)) = true := by rfl)
    (hline : (apos.endLine == cpos.line) = true := by rfl) (hs : starEach [e] X.env = [(false, eval e X.env)] := by rfl) (hplain : (backTo cpos (starEach [] X.env)).any (·.1) = false := by rfl)
    (hsw : swapsWith (.Call (.Attribute (.Name x p2) "append" apos) [e] [] cpos) none pos.line X.env = pure false := by rfl) : VS X (.Expr (.Call (.Attribute (.Name x p2) "append" apos) [e] [] cpos) pos :: rest) ρ Q :=
  vs_of (ps_expr (pe_bm PySem.F.plainAttrs_list PySem.F.slot_list_append PySem.F.type_list_append mt_append (pe_var (ixA_N hi) hv hd hcd) (pa_cons h pa_nil hs) hbase hfew hline hs hplain) hsw) fun H0 hs D σ H er l => by
    obtain ⟨a, h1, ⟨vs, h2, h3⟩, h4⟩ := er.own i xs hr
    refine ⟨_, h1, .inl ⟨rfl, vs, SqL.of h2⟩, ⟨H0, hs, er⟩, fun v H' s rv => ?_⟩
    have e2 := er.grow s
    have h2' := s _ _ h2
    have h3' := Reps.mono (TupLe.of_same (K := X.K) s) _ _ h3
    exact ⟨a, vs, v, rfl, rfl, h2', by rw [h3.length]; exact hz, l.nx _ _ ⟨_, k, e2.write hr h1 h2' (h3'.append (.one rv))⟩⟩
theorem vs_down {i : Nat} {xs : List PyData} {ss : List Stmt} (hr : ρ[i]? = some (.o xs)) (k : VS X ss (ρ.set i (.l xs)) Q) : VS X ss ρ Q :=
  PSs.weak k fun D σ H ⟨H0, hs, er, l⟩ => ⟨H0, hs, er.down hr, l⟩
def loopQ (X : Cx) (rest : List Stmt) (Q : Out → Prop) (J : List Sl → Prop) : Out → Prop
  | .nx ρ => J ρ
  | .ct ρ => J ρ
  | .bk ρ => VS X rest ρ Q
  | .rt r => Q (.rt r)
end
end L2
set_option Elab.async false
set_option linter.all false
set_option maxRecDepth 100000
set_option maxHeartbeats 4000000
namespace L2
open PySem PySem.Spec PyProof.Rows
structure ItOk (K : PySem.W.Frag) (J : It) (h : V × Sl) (xs : List PyData) : Prop where
  go : ∀ (i : Nat) H, RdR K H h.2 h.1 → i < xs.length → J.go i H
  yld : ∀ (i : Nat) H v H', RdR K H h.2 h.1 → i < xs.length → J.yld i H v H' → Same H H' ∧ ∃ d, xs[i]? = some d ∧ Rep K H' d v
  stop : ∀ H, RdR K H h.2 h.1 → J.stop xs.length H
def VI (X : Cx) (ρ : List Sl) (tg iter : Expr) (xs : List PyData) : Prop := ∃ wi, PI X tg iter wi ∧ ∀ H0 hs σ H R, ER X.K H0 hs ρ σ H →
  (∀ J H1 h, Same H H1 → RdR X.K H1 h.2 h.1 → (∀ ys, h.2.its = some ys → ∀ (i : Nat) zs a, ρ[i]? = some (.o zs) → σ[i]? = some (some (.ref a)) → h.1 ≠ .ref a) → ItOk X.K J h xs → R J H1) → wi σ H R
def VG (X : Cx) (tg : Expr) (bind : PyData → List Sl → Option (List Sl)) : Prop := ∃ g, PG X tg g ∧ ∀ H0 hs ρ ρ2 d v σ H Q, ER X.K H0 hs ρ σ H → Rep X.K H d v → bind d ρ = some ρ2 → (∀ σ2, ER X.K H0 hs ρ2 σ2 H → Q σ2 H) → g v σ H Q
section
variable {X : Cx} {ρ : List Sl} {e a b c tg iter : Expr} {es : List Expr} {r ra rb : Sl} {p pos p2 p3 : Pos} {d : PyData} {ds xs : List PyData} {rs : List Sl} {Q Q' : Out → Prop} {rest : List Stmt} {st : Stmt}
theorem itok_list {K : PySem.W.Frag} {a : Addr} : ItOk K (Itl K a) (.ref a, .l xs) xs where
  go := fun i H ⟨b, e, vs, h1, h2⟩ hi => by
    cases e
    have hv : i < vs.length := by rw [h2.length]; exact hi
    exact ⟨vs, vs[i], SqL.of h1, List.getElem?_eq_getElem hv⟩
  yld := fun i H v H' ⟨b, e, vs, h1, h2⟩ hi ⟨e2, y⟩ => by
    cases e
    subst e2
    obtain ⟨u, hu, ru⟩ := h2.get (List.getElem?_eq_getElem hi)
    have := y vs (SqL.of h1)
    rw [hu] at this
    cases this
    exact ⟨Same.refl _, _, List.getElem?_eq_getElem hi, ru⟩
  stop := fun H ⟨b, e, vs, h1, h2⟩ => by cases e; exact ⟨vs, SqL.of h1, by rw [h2.length]; exact Nat.le_refl _⟩
def rngD (lo : Int) (n : Nat) : List PyData := (List.range n).map fun i => .int (lo + (i : Nat))
theorem itok_rng {K : PySem.W.Frag} {lo : Int} {n : Nat} : ItOk K (Itr lo n) (.non, .un) (rngD lo n) where
  go := fun i H _ hi => by
    have hn : i < n := by simpa [rngD] using hi
    exact hn
  yld := fun i H v H' _ hi ⟨e1, e2⟩ => by
    subst e1 e2
    have hn : i < n := by simpa [rngD] using hi
    exact ⟨Same.refl _, _, by simp [rngD, hn], Rep.int _⟩
  stop := fun H _ => by show n ≤ (rngD lo n).length; simp [rngD]
theorem itok_rev {K : PySem.W.Frag} {a : Addr} : ItOk K (ItRv K a xs.length) (.ref a, .l xs) xs.reverse where
  go := fun i H ⟨b, e, vs, h1, h2⟩ hi => by cases e; exact ⟨by simpa using hi, vs, SqL.of h1, h2.length⟩
  yld := fun i H v H' ⟨b, e, vs, h1, h2⟩ hi ⟨e2, y⟩ => by
    cases e
    subst e2
    have hi' : i < xs.length := by simpa using hi
    have hj : xs.length - 1 - i < xs.length := by omega
    obtain ⟨u, hu, ru⟩ := h2.get (List.getElem?_eq_getElem hj)
    have := y vs (SqL.of h1) h2.length
    rw [hu] at this
    cases this
    refine ⟨Same.refl _, _, ?_, ru⟩
    rw [List.getElem?_reverse hi']
    exact List.getElem?_eq_getElem hj
  stop := fun H ⟨b, e, vs, h1, h2⟩ => by cases e; exact ⟨by simp, vs, SqL.of h1, h2.length⟩
theorem vi_name {i : Nat} {x : Str} (hi : ixA x X.N 0 = some i) (hr : ρ[i]? = some (.l xs)) (hv : Vis X.env.scope x := by first | exact Or.inl rfl | exact Or.inr (Or.inl rfl) | exact Or.inr (Or.inr rfl)) (hd : (x == ("__debug__" : Str)) = false := by decide)
    (hcd : (x == ("__classdict__" : Str)) = false := by decide) : VI X ρ tg (.Name x p) xs :=
  ⟨_, pi_list (pe_var (ixA_N hi) hv hd hcd), fun H0 hs σ H R er k => by
    obtain ⟨a, h1, vs, h2, h3⟩ := er.lst i xs hr
    exact ⟨_, h1, a, rfl, ⟨vs, SqL.of h2⟩, k _ H (.ref a, .l xs) (Same.refl H) ⟨a, rfl, vs, h2, h3⟩ (fun _ _ j zs b q1 q2 z => er.sepL j i b zs xs q1 hr q2 (by rw [← z]; exact h1)) itok_list⟩⟩
theorem vi_range {n : Nat} (hm : X.mg "range" = none) (h : VE X ρ e (.d (.int n))) (hz : n < 2 ^ 62) (hg : Gl X "range" := by rfl) (hs : starEach [e] X.env = [(false, eval e X.env)] := by rfl) : VI X ρ tg (.Call (.Name "range" p) [e] [] pos) (rngD 0 n) :=
  ⟨_, pi_range1 hg hm (pa_cons h pa_nil hs) hs, fun H0 hs σ H R er k => ⟨⟨H0, hs, er⟩, fun v H1 s1 q => by
    obtain rfl := RsR.is_int q
    refine ⟨n, rfl, by omega, by omega, ?_⟩
    rw [Int.toNat_natCast]
    exact k _ H1 (.non, .un) s1 trivial (fun _ z => nomatch z) itok_rng⟩⟩
theorem vi_revN {i : Nat} {x : Str} (hm : X.mg "reversed" = none) (hi : ixA x X.N 0 = some i) (hr : ρ[i]? = some (.l xs)) (hv : Vis X.env.scope x := by first | exact Or.inl rfl | exact Or.inr (Or.inl rfl) | exact Or.inr (Or.inr rfl)) (hd : (x == ("__debug__" : Str)) = false := by decide)
    (hcd : (x == ("__classdict__" : Str)) = false := by decide) (hg : Gl X "reversed" := by rfl) (hs : starEach [.Name x p3] X.env = [(false, eval (.Name x p3) X.env)] := by rfl) : VI X ρ tg (.Call (.Name "reversed" p) [.Name x p3] [] pos) xs.reverse :=
  ⟨_, pi_rev hg hm (pa_cons (pe_var (ixA_N hi) hv hd hcd) pa_nil hs) hs, fun H0 hs σ H R er k => by
    obtain ⟨a, h1, vs, h2, h3⟩ := er.lst i xs hr
    refine ⟨_, h1, a, vs, rfl, SqL.of h2, ?_⟩
    rw [h3.length]
    exact k _ H (.ref a, .l xs) (Same.refl H) ⟨a, rfl, vs, h2, h3⟩ (fun _ _ j zs b q1 q2 z => er.sepL j i b zs xs q1 hr q2 (by rw [← z]; exact h1)) itok_rev⟩
theorem vg_name {i : Nat} {x : Str} (nd : X.N.Nodup) (hi : ixA x X.N 0 = some i) (hx : Loc X.env.scope x := by exact Or.inl rfl) (hf : X.fn x = true ∨ X.env.scope.names.lookup x = some .local := by first | exact .inl rfl | exact .inr rfl | assumption) : VG X (.Name x pos) (fun d ρ => some (ρ.set i (.d d))) :=
  ⟨_, pg_name nd (ixA_N hi) hx hf, fun H0 hs ρ ρ2 d v σ H Q er rv hb k => by cases hb; exact k _ (er.setD rv)⟩
def bind2 (i j : Nat) : PyData → List Sl → Option (List Sl)
  | .tuple [x, y], ρ => some ((ρ.set i (.d x)).set j (.d y))
  | _, _ => none
theorem vg_pair {i j : Nat} {x y : Str} {k : Nat} (nd : X.N.Nodup) (hc : X.calm = true) (hi : ixA x X.N 0 = some i) (hj : ixA y X.N 0 = some j) (hx : Loc X.env.scope x := by exact Or.inl rfl) (hy : Loc X.env.scope y := by exact Or.inl rfl)
    (hf : X.fn x = true ∨ X.env.scope.names.lookup x = some .local := by first | exact .inl rfl | exact .inr rfl | assumption) (hf2 : X.fn y = true ∨ X.env.scope.names.lookup y = some .local := by first | exact .inl rfl | exact .inr rfl | assumption) : VG X (.Tuple [.Name x p2, .Name y p3] k pos) (bind2 i j) :=
  ⟨_, pg_tup hc (pgs_cons (pg_name nd (ixA_N hi) hx hf) (pgs_cons (pg_name nd (ixA_N hj) hy hf2) pgs_nil)), fun H0 hs ρ ρ2 d v σ H Q er rv hb k => by
    have hd : ∃ x y, d = .tuple [x, y] ∧ ρ2 = (ρ.set i (.d x)).set j (.d y) := by
      unfold bind2 at hb
      split at hb
      · exact ⟨_, _, rfl, (Option.some.inj hb).symm⟩
      · cases hb
    obtain ⟨dx, dy, rfl, rfl⟩ := hd
    obtain ⟨a, vs, rfl, h1, h2⟩ := Rep.untuple rv
    obtain ⟨v1, r1, rfl, q1, h2⟩ := h2.split
    obtain ⟨v2, r2, rfl, q2, h2⟩ := h2.split
    rw [Reps] at h2
    subst h2
    exact ⟨a, _, rfl, h1, rfl, v1, _, rfl, v2, _, rfl, rfl, k _ ((er.setD q1).setD q2)⟩⟩
theorem vs_for {body : List Stmt} {bind : PyData → List Sl → Option (List Sl)} (hp : PassesOwn (model X.prog X.w) X.A X.env X.xe) (hc : X.calm = true) (hi : VI X ρ tg iter xs) (hg : VG X tg bind) (J : Nat → List Sl → Prop) (h0 : J 0 ρ)
    (step : ∀ (i : Nat) d ρ', xs[i]? = some d → J i ρ' → ∃ ρ2, bind d ρ' = some ρ2 ∧ VS X body ρ2 (loopQ X rest Q (J (i + 1)))) (fin : ∀ ρ', J xs.length ρ' → VS X rest ρ' Q)
    (hs : ∀ x, foldedSetIterable iter X.env x = pure x := by intro _; rfl) : VS X (.For tg iter body [] pos :: rest) ρ Q := by
  obtain ⟨wi, pi, hwi⟩ := hi
  obtain ⟨g, pg, hgg⟩ := hg
  have hb : PSs X body (fun D σ H => ∃ ρ' Q', VS X body ρ' Q' ∧ tRS X.K ρ' Q' D σ H) := by
    rintro pins s σ H D I ⟨ρ', Q', v, q⟩
    exact v pins s σ H D I q
  refine vs_of (ps_for hp hc pi pg hb hs) fun H0 hs D σ H er l => ?_
  refine hwi H0 hs σ H _ er fun It H1 h s1 hh sep ok => ?_
  refine ⟨fun i m σ H => m = xs.length - i ∧ i ≤ xs.length ∧ ∃ ρ', J i ρ' ∧ ER X.K H0 (h :: hs) ρ' σ H, ⟨_, rfl, Nat.zero_le _, ρ, h0, (er.grow s1).hold hh sep⟩, ?_⟩
  rintro i m σ H ⟨rfl, hi, ρ', j, er⟩
  have hh := er.held h List.mem_cons_self
  by_cases hlt : i < xs.length
  · obtain ⟨d, hd⟩ : ∃ d, xs[i]? = some d := ⟨_, List.getElem?_eq_getElem hlt⟩
    obtain ⟨ρ2, hb2, hv⟩ := step i d ρ' hd j
    refine .inr ⟨ok.go i H hh hlt, fun σ' H' => ∃ ρ3, J (i + 1) ρ3 ∧ ER X.K H0 (h :: hs) ρ3 σ' H', fun σ' H' ⟨ρ3, j3, e3⟩ => ⟨xs.length - (i + 1), by omega, rfl, hlt, ρ3, j3, e3⟩, fun v H' y => ?_⟩
    obtain ⟨sy, d', hd', rd⟩ := ok.yld i H v H' hh hlt y
    rw [hd] at hd'
    cases hd'
    refine hgg H0 (h :: hs) ρ' ρ2 d v σ H' _ (er.grow sy) rd hb2 fun σ2 e2 => ⟨ρ2, _, hv, H0, h :: hs, e2, ?_⟩
    exact ⟨fun σ H ⟨ρ3, q, e⟩ => ⟨ρ3, q, e⟩, fun v H ⟨r, q, e⟩ => l.rt v H ⟨r, q, e⟩, fun σ H ⟨ρ3, q, e⟩ => l.nx σ H ⟨ρ3, q, e.unhold⟩, fun σ H ⟨ρ3, q, e⟩ => ⟨ρ3, q, e⟩⟩
  · have e : i = xs.length := by omega
    subst e
    exact .inl ⟨ok.stop H hh, l.nx _ _ ⟨ρ', fin ρ' j, er.unhold⟩⟩
end
theorem er_start {K : PySem.W.Frag} {H : Hp} {as : List Sl} {vs : List V} {N : List Str} (h : RdRs K H as vs) (no : ∀ r ∈ as, ∀ xs, r ≠ .o xs) : ER K H [] (as ++ List.replicate (N.length - as.length) .un) (start N vs) H := by
  have hl := h.length
  have no' : ∀ {i : Nat} {xs : List PyData}, (as ++ List.replicate (N.length - as.length) Sl.un)[i]? ≠ some (.o xs) := by
    intro i xs q
    rcases List.mem_append.mp (List.mem_of_getElem? q) with m | m
    · exact no _ m xs rfl
    · cases (List.mem_replicate.mp m).2
  have at' : ∀ {i : Nat} {r : Sl}, (as ++ List.replicate (N.length - as.length) Sl.un)[i]? = some r → r ≠ .un → ∃ v, (start N vs)[i]? = some (some v) ∧ RdR K H r v := by
    intro i r q nu
    by_cases hi : i < as.length
    · rw [List.getElem?_append_left hi] at q
      obtain ⟨v, h1, h2⟩ := h.get q
      refine ⟨v, ?_, h2⟩
      unfold start
      rw [List.getElem?_append_left (by rw [List.length_map, hl]; exact hi), List.getElem?_map, h1]
      rfl
    · rw [List.getElem?_append_right (by omega)] at q
      exact absurd (List.mem_replicate.mp (List.mem_of_getElem? q)).2 nu
  refine ⟨Same.refl H, by unfold start; simp [hl], fun i x q => at' q (fun z => nomatch z), fun i xs q => ?_, fun i P q => at' q (fun z => nomatch z), fun i xs q => absurd q no', fun i j a xs ys q => absurd q no', fun i j a xs ys _ q => absurd q no', fun p hp => (nomatch hp), fun i xs a q => absurd q no'⟩
  obtain ⟨v, h1, a, rfl, h2⟩ := at' q (fun z => nomatch z)
  exact ⟨a, h1, h2⟩
section
variable {P : Program} {w : World} {K : PySem.W.Frag} {mg : Str → Option Value} {base : Heap}
theorem Fun.okV {x qual : Str} {st : Stmt} {f : Addr} {fd : FuncData} {N ps : List Str} {k : Nat} {R : List Sl → Sl → Prop} (F : Fun K x qual st f fd) (S : FnScope N ps (defScope st)) (len : ∀ as r, R as r → as.length = ps.length ∧ ∀ q ∈ as, ∀ xs, q ≠ .o xs)
    (hbody : ∀ (cdv : Value) (A : Around) (outer : List Env) (s : Shared) (H : Hp) (E : XK) (as : List Sl) (r : Sl), Room k (A.deeper (envOfC qual (defScope st) s.heap.objs.size f cdv)) → R as r →
      VS (cxOf CX0 P w K mg base N qual (defScope st) f cdv A outer s H E).nox (defBody st) (as ++ List.replicate (N.length - as.length) .un) fun o => o = .rt r ∨ (r = .d .none ∧ ∃ ρ, o = .nx ρ)) : FnOk P w K mg base CX0 (k + 1) f fd ps (spV K R) := by
  refine F.ok S (fun vs H Q E h => ?_) (fun cdv A outer s H vs Q E hr h => ?_)
  · obtain ⟨as, r, h1, h2, _⟩ := h
    rw [h1.length]; exact (len as r h2).1
  obtain ⟨as, r, h1, h2, q⟩ := h
  refine ⟨_, hbody cdv A outer s H E as r hr h2, H, [], er_start h1 (len as r h2).2, ?_⟩
  refine ⟨fun σ H' ⟨ρ, z, e⟩ => ?_, fun v H' ⟨r', z, e1, e2⟩ => ?_, fun σ H' ⟨ρ, z, e⟩ => ?_, fun σ H' ⟨ρ, z, e⟩ => ?_⟩
  · rcases z with z | ⟨rfl, _⟩
    · cases z
    · exact q _ H' e.same RsR.non
  · rcases z with z | ⟨_, _, z⟩
    · cases z
      exact q v H' e1 e2
    · cases z
  · rcases z with z | ⟨_, _, z⟩ <;> cases z
  · rcases z with z | ⟨_, _, z⟩ <;> cases z
end
end L2
set_option Elab.async false
set_option linter.all false
set_option maxRecDepth 100000
set_option maxHeartbeats 4000000
namespace Wk
open PySem L2
end Wk
set_option Elab.async false
set_option linter.all false
set_option maxRecDepth 100000
set_option maxHeartbeats 4000000
namespace L2
open PySem PySem.Spec PyProof.Rows
section
variable {X : Cx} {ρ : List Sl} {e a b c : Expr} {es : List Expr} {r ra rb : Sl} {pos p2 p3 : Pos} {d : PyData} {Q : Out → Prop} {rest : List Stmt}
theorem vs_ifT {A B : List Stmt} {k : Bool} (hc : VT X ρ c k) (hk : k = true) (h : VS X A ρ (thenS X rest Q)) : VS X (.If c A B pos :: rest) ρ Q := vs_if hc (fun _ => h) fun z => by rw [hk] at z; cases z
theorem vs_ifF {A B : List Stmt} {k : Bool} (hc : VT X ρ c k) (hk : k = false) (h : VS X B ρ (thenS X rest Q)) : VS X (.If c A B pos :: rest) ρ Q := vs_if hc (fun z => by rw [hk] at z; cases z) fun _ => h
theorem vs_ifN {A : List Stmt} {k : Bool} (hc : VT X ρ c k) (hk : k = false) (h : VS X rest ρ Q) : VS X (.If c A [] pos :: rest) ρ Q := vs_ifF hc hk (vs_nil h)
end
end L2
namespace Wk
open PySem L2 PySem.Spec PyProof.Rows
section
variable {X : Cx} {ρ : List Sl} {a b : Expr} {pos p2 : Pos} {sc : Sc} {x : Str} {k : Kd}
end
end Wk
namespace Wk
open PySem L2 PySem.Spec PyProof.Rows
section
variable {K : PySem.W.Frag} {H H' : Hp} {xs ys : List (List Nat × Ex)} {vs ws : List V} {x : List Nat × Ex} {v : V}
end
end Wk
namespace Wk
open PySem L2
end Wk
namespace Wk
open PySem L2
end Wk
namespace Wk
end Wk
set_option Elab.async false
set_option linter.all false
namespace Wk
variable {α : Type}
end Wk
set_option Elab.async false
set_option linter.all false
set_option maxRecDepth 100000
set_option maxHeartbeats 4000000
namespace L2
open PySem PySem.Spec PyProof.Rows
theorem DefOk.imp {P : Program} {w : World} {K : PySem.W.Frag} {mg : Str → Option Value} {base : Heap} {k : Nat} {x : Str} {ps : List Str} {sp sp' : Sp} (D : DefOk P w K mg base k x ps sp) (h : ∀ vs H Q E, sp' vs H Q E → sp vs H Q E) : DefOk P w K mg base k x ps sp' :=
  let ⟨f, fd, F, r⟩ := D; ⟨f, fd, F.imp h, r⟩
theorem RdRs.one {K : PySem.W.Frag} {H : Hp} {r : Sl} {vs : List V} (h : RdRs K H [r] vs) : ∃ v, vs = [v] ∧ RdR K H r v := by
  cases h with | cons a t => cases t; exact ⟨_, rfl, a⟩
section
variable {X : Cx} {ρ : List Sl} {e a b c : Expr} {r ra rb : Sl} {pos p2 p3 : Pos} {d : PyData} {Q : Out → Prop} {rest : List Stmt}
theorem ve_mulS {z : Str} {n : Int} (ha : VE X ρ a (.d (.str z))) (hb : VE X ρ b (.d (.int n))) (h0 : 0 < z.length) (h1 : 1 < n) (h2 : n ≤ 1000) (h3 : z.length ≤ 1000) : VE X ρ (.BinOp a .Mult b pos) (.d (.str (Txt.mul z n))) :=
  ve_op op_mulS ha hb fun H x y Q rx ry q => ⟨z, n, RdR.is_str rx, RdR.is_int ry, h0, h1, h2, h3, q _ H (Same.refl H) RsR.str⟩
theorem ve_eq {r' : Sl} (h : VE X ρ e r) (q : r = r') : VE X ρ e r' := by rw [← q]; exact h
end
end L2
namespace Wk
open PySem L2 PySem.Spec PyProof.Rows
section
variable {K : PySem.W.Frag} {vs : List V} {H : Hp} {Q : VK} {E : XK}
end
end Wk
set_option Elab.async false
set_option linter.all false
set_option maxRecDepth 100000
set_option maxHeartbeats 4000000
namespace Wk
open PySem L2 PySem.Spec PyProof.Rows
end Wk
set_option Elab.async false
set_option linter.all false
set_option maxRecDepth 100000
set_option maxHeartbeats 4000000
namespace Wk
open PySem L2 PySem.Spec PyProof.Rows
section
variable {K : PySem.W.Frag} {H H' : Hp} {acc : Nts} {kvs : List (List Key × V)}
end
end Wk
set_option Elab.async false
set_option linter.all false
set_option maxRecDepth 100000
set_option maxHeartbeats 4000000
namespace Wk
open PySem L2 PySem.Spec PyProof.Rows
section
variable {X : Cx} {ρ : List Sl} {a b : Expr} {pos : Pos} {ra rb : Sl}
end
end Wk
set_option Elab.async false
set_option linter.all false
set_option maxRecDepth 100000
set_option maxHeartbeats 4000000
namespace L2
open PySem PySem.Spec PyProof.Rows
def SqS (K : PySem.W.Frag) (H : Hp) (a : Addr) (xs : List V) : Prop :=
  (∃ o, H a = some (.frz o (.lst xs))) ∨ ∃ (o : Obj) (its : Array Value) (n : Nat), K.lookup a = some o ∧ o.cls = .type "list" ∧ o.dict = none ∧ o.data = .seq its n ∧ its.size ≤ sizeLine ∧ Vals xs its.toList
theorem SqS.sq {K : PySem.W.Frag} {H : Hp} {a : Addr} {xs : List V} (h : SqS K H a xs) : SqL K H a xs := by
  rcases h with h | h
  · exact .inl (.inr h)
  · exact .inr h
theorem SqS.of {K : PySem.W.Frag} {H : Hp} {a : Addr} {xs : List V} (h : SqL K H a xs) (o : Only H) : SqS K H a xs := by
  rcases h with (h | h) | h
  · rcases o a with z | ⟨ob, ys, z⟩
    · rw [h] at z; cases z
    · rw [h] at z; cases z
  · exact .inl h
  · exact .inr h
def scrPer (K : PySem.W.Frag) (ns : List Int) : Per := ⟨fun H v => ∃ a, v = .ref a ∧ SqS K H a (ns.map V.int), fun _ _ _ e ⟨a, h1, h2⟩ => ⟨a, h1, by
  rcases h2 with ⟨o, h2⟩ | h2
  · exact .inl ⟨o, e _ _ h2 (fun _ z => nomatch z)⟩
  · exact .inr h2⟩⟩
section
variable {X : Cx} {ρ : List Sl} {e : Expr} {pos p2 : Pos} {Q : Out → Prop} {rest : List Stmt}
end
end L2
namespace Wk
open PySem L2 PySem.Spec PyProof.Rows
def RLaw (K : PySem.W.Frag) : List Sl → Sl → Prop := fun as r => ∃ ns : List Int, as = [.h (scrPer K ns)] ∧ ns.length ≤ 63 ∧ r = .d (.bool true)
theorem law_of {K : PySem.W.Frag} {H : Hp} {a : Addr} {ns : List Int} {E : XK} (hl : ns.length ≤ 63) (ho : Only H) (hs : SqL K H a (ns.map V.int)) : spV K (RLaw K) [.ref a] H (fun v _ => v = .bl true) E :=
  ⟨[.h (scrPer K ns)], .d (.bool true), .cons (r := .h (scrPer K ns)) ⟨a, rfl, SqS.of hs ho⟩ .nil, ⟨ns, rfl, hl, rfl⟩, fun _ _ _ r => RsR.is_bool r⟩
end Wk
set_option Elab.async false
set_option linter.all false
set_option maxRecDepth 100000
set_option maxHeartbeats 4000000
namespace Wk
open PySem L2
end Wk
set_option Elab.async false
set_option linter.all false
set_option maxRecDepth 100000
set_option maxHeartbeats 4000000
namespace Wk
open PySem L2
end Wk
set_option Elab.async false
set_option linter.all false
set_option maxRecDepth 100000
set_option maxHeartbeats 4000000
namespace Wk
open PySem L2
end Wk
set_option Elab.async false
set_option linter.all false
set_option maxRecDepth 100000
set_option maxHeartbeats 4000000
namespace Wk
open PySem L2
end Wk
set_option Elab.async false
set_option linter.all false
set_option maxRecDepth 100000
set_option maxHeartbeats 4000000
namespace L2
open PySem PySem.Spec PyProof.Rows PySem.W
section
variable {X : Cx} {tg : Expr}
end
section
variable {X : Cx} {ρ : List Sl} {e a b c tg : Expr} {r ra rb : Sl} {p pos p2 p3 : Pos} {d : PyData} {xs : List PyData} {Q : Out → Prop} {rest : List Stmt}
def dictPer (kvs : List (Key × V)) : Per := ⟨fun H v => ∃ a, v = .ref a ∧ H a = some (.dK kvs), fun _ _ _ e ⟨a, h1, h2⟩ => ⟨a, h1, e _ _ h2 (fun _ z => nomatch z)⟩⟩
end
end L2
set_option Elab.async false
set_option linter.all false
set_option maxRecDepth 100000
set_option maxHeartbeats 4000000
namespace Wk
open PySem L2
end Wk
set_option Elab.async false
set_option linter.all false
set_option maxRecDepth 100000
set_option maxHeartbeats 4000000
namespace L2
open PySem PySem.Spec PyProof.Rows
section
variable {prog : Program} {w : World} {A : Around} {E : Value → Shared → Prop} {s : Shared} {a : Addr} {o : Obj} {items : Array Value} {n : Nat} {ts : List Str}
end
section
variable {X : Cx}
end
end L2
set_option Elab.async false
set_option linter.all false
set_option maxRecDepth 100000
set_option maxHeartbeats 4000000
namespace Wk
open PySem L2 PySem.Spec PyProof.Rows
section
variable {X : Cx} {ρ : List Sl} {a b : Expr} {pos : Pos}
end
section
variable {X : Cx} {ρ : List Sl} {a : Expr} {ra : Sl} {pos : Pos}
end
end Wk
set_option Elab.async false
set_option linter.all false
set_option maxRecDepth 100000
set_option maxHeartbeats 4000000
namespace L2
open PySem PySem.Spec PyProof.Rows
section
variable {X : Cx} {pins : List (Addr × Obj)} {σ : St} {H : Hp} {s : Shared}
end
end L2
set_option Elab.async false
set_option linter.all false
set_option maxRecDepth 100000
set_option maxHeartbeats 4000000
namespace L2
open PySem PySem.Spec PyProof.Rows
section
variable {X : Cx}
def rIsiT (K : PySem.W.Frag) : List V → Hp → VK → Prop := fun xs H Q => ∃ (a tp : Addr) (ys : List V) (T U : String) (b : Bool), xs = [.ref a, .ref tp] ∧ SqT K H a ys ∧ SqT K H tp [.ty T, .ty U] ∧ PySem.W.kitAny K (.type "tuple") [.type T, .type U] = some b ∧ Q (.bl b) H
theorem call_isinstT : CallR X (.builtin "isinstance") (rIsiT X.K) := by
  intro pins s σ H xs us Q I r h
  obtain ⟨a, tp, ys, T, U, b, rfl, ha, ht, e, q⟩ := h
  obtain ⟨u, w', rfl, rx, rt⟩ := vals2 r
  cases rx
  cases rt
  obtain ⟨its, _, ⟨o, h1, h2, _⟩, _⟩ := I.tuple ha
  obtain ⟨its2, r2, ⟨⟨cls, dd, data, sl⟩, g1, g2, n, g3⟩, _⟩ := I.tuple ht
  simp only at g2 g3
  subst g2 g3
  obtain ⟨v1, v2, rfl, e1, e2⟩ := r2.two
  cases e1
  cases e2
  exact PySem.W.kia_tup PySem.W.kitx_tuple I.kIn ⟨o, h1, h2⟩ g1 e (fun z => nomatch z) fun tk => ⟨.bl b, H, I.tok _, rfl, q⟩
theorem pe_isinstT {e : Expr} {te : TE} {x y : Str} {T U : String} {p p2 p3 p4 pos : Pos} {j : Nat} (hg : Gl X "isinstance") (hm : X.mg "isinstance" = none) (hgT : Gl X x) (hmT : X.mg x = none) (hv : bootBuiltins x = some (.type T)) (hgU : Gl X y) (hmU : X.mg y = none) (hvU : bootBuiltins y = some (.type U)) (he : PE X e te)
    (hn : x ≠ "__name__" := by decide) (hd : (x == ("__debug__" : Str)) = false := by decide) (hnU : y ≠ "__name__" := by decide) (hdU : (y == ("__debug__" : Str)) = false := by decide)
    (hs2 : starEach [.Name x p2, .Name y p3] X.env = (false, eval (.Name x p2) X.env) :: starEach [.Name y p3] X.env := by rfl)
    (hs : starEach [e, .Tuple [.Name x p2, .Name y p3] j p4] X.env = (false, eval e X.env) :: starEach [.Tuple [.Name x p2, .Name y p3] j p4] X.env := by rfl) :
    PE X (.Call (.Name "isinstance" p) [e, .Tuple [.Name x p2, .Name y p3] j p4] [] pos) (tCB (rIsiT X.K) (tCons te (tCons (tTup (tCons (tC (.ty T)) (tCons (tC (.ty U)) tNil))) tNil))) :=
  pe_callB (call_isinstT (X := X)) hg hm boot_isinstance (pa_cons he (pa_cons (pe_tup (pa_cons (pe_bltn hgT hmT hv rfl hn hd) (pa_cons (pe_bltn hgU hmU hvU rfl hnU hdU) pa_nil) hs2)) pa_nil) hs) (by decide) (by decide) hs
variable {ρ : List Sl}
theorem ve_isinstT {e : Expr} {x y : Str} {T U : String} {p p2 p3 p4 pos : Pos} {j : Nat} {ds : List PyData} {b : Bool} (hm : X.mg "isinstance" = none) (hmT : X.mg x = none) (hv : bootBuiltins x = some (.type T)) (hmU : X.mg y = none) (hvU : bootBuiltins y = some (.type U)) (he : VE X ρ e (.d (.tuple ds)))
    (hk : PySem.W.kitAny X.K (.type "tuple") [.type T, .type U] = some b) (hg : Gl X "isinstance" := by rfl) (hgT : Gl X x := by rfl) (hgU : Gl X y := by rfl)
    (hn : x ≠ "__name__" := by decide) (hd : (x == ("__debug__" : Str)) = false := by decide) (hnU : y ≠ "__name__" := by decide) (hdU : (y == ("__debug__" : Str)) = false := by decide)
    (hs2 : starEach [.Name x p2, .Name y p3] X.env = (false, eval (.Name x p2) X.env) :: starEach [.Name y p3] X.env := by rfl)
    (hs : starEach [e, .Tuple [.Name x p2, .Name y p3] j p4] X.env = (false, eval e X.env) :: starEach [.Tuple [.Name x p2, .Name y p3] j p4] X.env := by rfl) :
    VE X ρ (.Call (.Name "isinstance" p) [e, .Tuple [.Name x p2, .Name y p3] j p4] [] pos) (.d (.bool b)) :=
  PE.weak (pe_isinstT hg hm hgT hmT hv hgU hmU hvU he hn hd hnU hdU hs2 hs) fun σ H Q ⟨er, q⟩ => ⟨er, fun v H1 s1 r1 => by
    obtain ⟨a, vs, rfl, hq, rp⟩ := RsR.tup r1
    refine ⟨by show 2 ≤ sizeLine; decide, fun tp np => ?_⟩
    have s2 := same_upd np (.tup [.ty T, .ty U])
    exact ⟨a, tp, vs, T, U, b, rfl, TupLe.of_same s2 _ _ hq, SqT.of upd_same, hk, q _ _ (s1.trans s2) RsR.bool⟩⟩
theorem ve_eqSb {a b : Expr} {x y : Str} {pos : Pos} (ha : VE X ρ a (.d (.str x))) (hb : VE X ρ b (.d (.str y))) : VE X ρ (.Compare a [.Eq] [b] pos) (.d (.bool (decide (x = y)))) :=
  ve_cmp op_eq ha hb (fun H u w Q rx ry q => by
    obtain rfl := RdR.is_str rx
    obtain rfl := RdR.is_str ry
    refine ⟨rfl, ?_⟩
    rw [show decide (V.str x = V.str y) = decide (x = y) from by simp]; exact q _ H (Same.refl H) RsR.bool) (nomark _)
end
end L2
namespace Wk
open PySem L2 PySem.Spec PyProof.Rows
end Wk
set_option Elab.async false
set_option linter.all false
namespace Wk
open PySem
def kNum : KD := ⟨.tuple [.str "num"], by decide⟩
def kTo : KD := ⟨.tuple [.str "to", .tuple [.str "num"], .tuple [.str "num"]], by decide⟩
end Wk
set_option Elab.async false
set_option linter.all false
set_option maxRecDepth 100000
set_option maxHeartbeats 4000000
namespace L2
open PySem PySem.Spec PyProof.Rows
inductive FldR (K : PySem.W.Frag) (H : Hp) : List (Str × PyData) → List (Str × V) → Prop where
  | nil : FldR K H [] []
  | cons {f : Str} {d : PyData} {v : V} {ds : List (Str × PyData)} {vs : List (Str × V)} : Rep K H d v → FldR K H ds vs → FldR K H ((f, d) :: ds) ((f, v) :: vs)
theorem FldR.get {K : PySem.W.Frag} {H : Hp} : ∀ {ds : List (Str × PyData)} {vs : List (Str × V)}, FldR K H ds vs → ∀ {f : Str} {d : PyData}, ds.lookup f = some d → ∃ v, vs.lookup f = some v ∧ Rep K H d v
  | _, _, .nil, f, d, e => by cases e
  | _, _, .cons (f := g) h t, f, d, e => by
    rw [List.lookup_cons] at e ⊢
    cases q : f == g with
    | true => rw [q] at e; cases e; exact ⟨_, rfl, h⟩
    | false => rw [q] at e; exact t.get e
theorem FldR.of {K : PySem.W.Frag} {H : Hp} : ∀ {ds : List (Str × PyData)} {vs : List (Str × V)}, RepF K H (ds.map fun p => (.str p.1, p.2)) vs → FldR K H ds vs
  | [], vs, h => by rw [List.map_nil, RepF] at h; rw [h]; exact .nil
  | (f, d) :: ds, vs, h => by
    rw [List.map_cons, RepF] at h
    obtain ⟨g, v, r, rfl, e, h1, h2⟩ := h
    cases e
    exact .cons h1 (FldR.of h2)
theorem FldR.to {K : PySem.W.Frag} {H : Hp} : ∀ {ds : List (Str × PyData)} {vs : List (Str × V)}, FldR K H ds vs → RepF K H (ds.map fun p => (.str p.1, p.2)) vs
  | _, _, .nil => by rw [List.map_nil, RepF]
  | _, _, .cons h t => by rw [List.map_cons, RepF]; exact ⟨_, _, _, rfl, rfl, h, t.to⟩
section
variable {K : PySem.W.Frag} {H H' : Hp} {C : Addr} {fds : List (Str × PyData)} {v : V}
theorem Rep.ins_open (h : Rep K H (Wk.insD C fds) v) : ∃ a dx fs, v = .ref a ∧ H a = some (.ins C dx fs) ∧ FldR K H fds fs := by
  unfold Wk.insD at h
  rw [Rep] at h
  rcases h with ⟨a, C', dx, fs, rfl, ha, _, hf⟩ | h
  · rw [RepF] at hf
    obtain ⟨g, u, r, e1, e2, e3, e4⟩ := hf
    cases e1
    obtain e5 := e3.is_int
    have e6 : C' = C := by
      have := (V.int.inj e5 : ((C' : Nat) : Int) = ((C : Nat) : Int))
      exact Int.ofNat.inj this
    subst e6
    exact ⟨a, dx, _, rfl, ha, .of e4⟩
  · rw [RepG] at h
    obtain ⟨⟨⟨x, e⟩, _⟩, _⟩ := h
    injection e with e _
    injection e with e _
    exact absurd (PyData.str.inj e) (by decide)
theorem FldR.noIn {fs : List (Str × V)} (h : FldR K H fds fs) {f : Str} (n : fds.lookup f = none) : fs.lookup f = none := by
  induction h with
  | nil => rfl
  | @cons g d u ds us _ t ih =>
    rw [List.lookup_cons] at n ⊢
    cases q : f == g with
    | true => rw [q] at n; cases n
    | false => rw [q] at n; exact ih n
theorem Rep.ins_mk {a dx : Addr} {fs : List (Str × V)} (ha : H a = some (.ins C dx fs)) (h : FldR K H fds fs) (n : fds.lookup ("inside" : Str) = none := by rfl) : Rep K H (Wk.insD C fds) (.ref a) := by
  unfold Wk.insD
  rw [Rep]
  exact .inl ⟨a, C, dx, fs, rfl, ha, h.noIn n, by rw [RepF]; exact ⟨_, _, _, rfl, rfl, .int _, h.to⟩⟩
theorem mv_nonN (c : Wk.Cs) (x : Wk.MV) : (Sl.d (Wk.mvD c x)).isN = false := by
  cases x with
  | int i => simp [Wk.mvD, Sl.isN]
  | bool b => simp [Wk.mvD, Sl.isN]
  | clos x b ρ => simp [Wk.mvD, Wk.insD, Sl.isN]
  | chain xs => cases xs <;> simp [Wk.mvD, Wk.chD, Wk.insD, Sl.isN]
theorem Rep.eit {c : Wk.Cs} {x : Wk.MV} (hc : c = csOf K) (h : Rep K H (Wk.mvD c x) v) : Rep K H (Wk.eitD c x) v := by
  have hn : v ≠ .non := fun z => by
    have := rep_non (r := .d (Wk.mvD c x)) h nun_d
    rw [mv_nonN, z] at this
    simp at this
  unfold Wk.eitD
  rw [Rep]
  right
  rw [RepG]
  exact ⟨⟨⟨x, by rw [hc]⟩, hn⟩, .inl h⟩
theorem Rep.eit_gv {c : Wk.Cs} {x : Wk.MV} {a dx : Addr} {val u : V} (hc : c = csOf K) (ha : H a = some (.ins c.gv dx [("value", val), ("inside", u)])) (h : Rep K H (Wk.gvO x) val) (hu : u = .non ∨ Rep K H (Wk.mvD c x) u) : Rep K H (Wk.eitD c x) (.ref a) := by
  unfold Wk.eitD
  rw [Rep]
  right
  rw [RepG]
  refine ⟨⟨⟨x, by rw [hc]⟩, fun z => nomatch z⟩, .inr ⟨a, c.gv, dx, val, u, rfl, ha, ?_, hu⟩⟩
  rw [RepF]
  refine ⟨_, _, _, rfl, rfl, .int _, ?_⟩
  rw [RepF]
  exact ⟨_, _, _, rfl, rfl, h, by rw [RepF]⟩
theorem Rep.eit_open {c : Wk.Cs} {x : Wk.MV} (h : Rep K H (Wk.eitD c x) v) : Rep K H (Wk.mvD c x) v ∨ ∃ (a dx : Addr) (val u : V), v = .ref a ∧ H a = some (.ins c.gv dx [("value", val), ("inside", u)]) ∧ Rep K H (Wk.gvO x) val ∧ (u = .non ∨ Rep K H (Wk.mvD c x) u) := by
  unfold Wk.eitD at h
  rw [Rep] at h
  rcases h with ⟨a, C', dx, fs, rfl, ha, _, hf⟩ | h
  · rw [RepF] at hf
    obtain ⟨g, u, r, e1, e2, _⟩ := hf
    cases e1
    exact absurd (PyData.str.inj e2) (by decide)
  · rw [RepG] at h
    rcases h.2 with h | ⟨a, C, dx, val, w, e1, e2, e3, e4⟩
    · exact .inl h
    · right
      rw [RepF] at e3
      obtain ⟨g, u, r, f1, f2, f3, f4⟩ := e3
      cases f1
      rw [RepF] at f4
      obtain ⟨g2, u2, r2, g1, g2', g3, g4⟩ := f4
      cases g1
      have e6 : C = c.gv := by
        have := (V.int.inj f3.is_int : ((C : Nat) : Int) = ((c.gv : Nat) : Int))
        exact Int.ofNat.inj this
      subst e6
      exact ⟨a, dx, _, w, e1, e2, g3, e4⟩
end
section
variable {X : Cx} {ρ : List Sl} {e : Expr} {es : List Expr} {pos p p2 : Pos} {d : PyData} {ds : List PyData} {C : Addr} {fds : List (Str × PyData)} {f : Str}
theorem ve_fld (cl : Cls X.K C) (n : NoAttr X.K C f) (he : VE X ρ e (.d (Wk.insD C fds))) (hl : fds.lookup f = some d) (hb : attributeBase e f X.env (eval e X.env) = eval e X.env := by rfl) : VE X ρ (.Attribute e f pos) (.d d) :=
  PE.weak (pe_fld he hb) fun σ H Q ⟨er, q⟩ => ⟨er, fun v H1 s1 r1 => by
    obtain ⟨a, dx, fs, rfl, ha, hf⟩ := Rep.ins_open (K := X.K) (H := H1) r1
    obtain ⟨u, l, ru⟩ := hf.get hl
    exact ⟨a, C, dx, fs, u, rfl, ha, cl, n, l, q u H1 s1 ru⟩⟩
def spIni (C : Addr) (n : Nat) (mk : List V → List (Str × V)) : Sp := fun vs H Q _ => ∃ x dx us, vs = .ref x :: us ∧ us.length = n ∧ H x = some (.ins C dx []) ∧ Q .non (upd H x (.ins C dx (mk us)))
theorem upd_twice {H : Hp} {x : Addr} {o o' : HO} : upd (upd H x o) x o' = upd H x o' := by
  funext b
  unfold upd
  by_cases h : b = x
  · rw [if_pos h, if_pos h]
  · rw [if_neg h, if_neg h, if_neg h]
theorem ve_make {k n : Nat} {g : Addr} {fd : FuncData} {x : Str} {ps : List Str} {mk : List V → List (Str × V)} (M : Mk X.K C g) (F : FnOk X.prog X.w X.K X.mg X.base CX0 k g fd ps (spIni C n mk)) (hb : Binds X.K fd ps []) (hm : X.mg x = some (.ref C)) (hr : Room (k + 1) X.A)
    (ha : VD X ρ (e :: es) ds) (hn : ds.length = n) (hmk : ∀ H us, Reps X.K H ds us → FldR X.K H fds (mk us)) (hni : fds.lookup ("inside" : Str) = none := by rfl) (hg : Gl X x := by rfl) (hdb : (x == ("__debug__" : Str)) = false := by decide)
    (he : starEach (e :: es) X.env = (false, eval e X.env) :: starEach es X.env := by rfl) (hpl : (backTo pos (starEach es X.env)).any (·.1) = false := by rfl) : VE X ρ (.Call (.Name x p) (e :: es) [] pos) (.d (Wk.insD C fds)) :=
  PE.weak (pe_make M F hr hg hm hb .nil pass0 ha hdb he hpl) fun σ H Q ⟨er, q⟩ => ⟨er, fun vs H1 s1 r1 x dx nx ndx ne => by
    have s2 : Same H1 (upd (upd (upd H1 dx (.own x)) x (.ins C dx [])) x (.ins C dx (mk vs))) := by
      rw [upd_twice]
      exact (same_upd ndx _).trans (same_upd (by rw [upd_ne (Ne.symm ne)]; exact nx) _)
    refine ⟨x, dx, vs, by rw [List.append_nil], by rw [r1.length]; exact hn, upd_same, rfl, ?_⟩
    exact q _ _ (s1.trans s2) (Rep.ins_mk (K := X.K) upd_same (hmk _ _ (Reps.mono (TupLe.of_same s2) _ _ r1)) hni)⟩
def DTy (K : PySem.W.Frag) (d : PyData) (t : Value) : Prop := ∀ H v, Rep K H d v → TyV K H v t
theorem dty_bool {K : PySem.W.Frag} {b : Bool} : DTy K (.bool b) (.type "bool") := fun H v h => by rw [Rep] at h; subst h; exact .of (.bl b)
theorem dty_int {K : PySem.W.Frag} {i : Int} : DTy K (.int i) (.type "int") := fun H v h => by rw [Rep] at h; subst h; exact .of (.int i)
theorem dty_lst {K : PySem.W.Frag} {xs : List PyData} : DTy K (.list xs) (.type "list") := fun H v h => by rw [Rep] at h; obtain ⟨a, o, vs, rfl, hq, _⟩ := h; exact .sqL (.inl (.inr ⟨o, hq⟩))
structure ClsT (K : PySem.W.Frag) (C : Addr) : Prop where
  cl : Cls K C
  ha : PySem.W.findIn K (.ref C) "__class__" = some (some (.builtin "object.__class__"))
  hn : PySem.W.specialIn K (.builtin "object.__class__") "__get__" = some (some (.builtin "getset_descriptor.__get__"))
  htk : PySem.W.takesIn K (.builtin "object.__class__") = some true
  hm : PySem.W.mroIn K C (.type "object") = some true
theorem dty_ins {K : PySem.W.Frag} (T : ClsT K C) : DTy K (Wk.insD C fds) (.ref C) := fun H v h => by
  obtain ⟨a, dx, fs, rfl, ha, _⟩ := h.ins_open
  exact .of (.ins ha T.cl T.ha T.hn T.htk T.hm)
theorem call_isinstC : CallR X (.builtin "isinstance") (fun xs H Q => ∃ x C t b, xs = [x, .ref C] ∧ TyV X.K H x t ∧ PySem.W.kitOne X.K t (.ref C) = some b ∧ Q (.bl b) H) := by
  intro pins s σ H xs us Q I r h
  obtain ⟨x, T, t, b, rfl, ty, e, q⟩ := h
  obtain ⟨u, w', rfl, rx, rt⟩ := vals2 r
  cases rt
  cases ty with
  | of ty => exact isinst_ok I rx ty e fun tk => ⟨.bl b, H, I.tok _, rfl, q⟩
  | sqT hq =>
    cases rx
    obtain ⟨its, _, ⟨o, h1, h2, _⟩, _⟩ := I.tuple hq
    exact PySem.W.kia_one PySem.W.kitx_tuple I.kIn ⟨o, h1, h2⟩ e (fun z => nomatch z) fun tk => ⟨.bl b, H, I.tok _, rfl, q⟩
  | sqL hq =>
    cases rx
    obtain ⟨its, _, ⟨o, n, h1, h2, _⟩, _⟩ := I.list hq
    exact PySem.W.kia_one PySem.W.kitx_list I.kIn ⟨o, h1, h2⟩ e (fun z => nomatch z) fun tk => ⟨.bl b, H, I.tok _, rfl, q⟩
theorem ve_isinstC {x : Str} {t : Value} {k : Bool} (hm : X.mg "isinstance" = none) (hmC : X.mg x = some (.ref C)) (ty : DTy X.K d t) (hk : PySem.W.kitOne X.K t (.ref C) = some k) (he : VE X ρ e (.d d)) (hg : Gl X "isinstance" := by rfl) (hgC : Gl X x := by rfl) (hd : (x == ("__debug__" : Str)) = false := by decide)
    (hs : starEach [e, .Name x p2] X.env = (false, eval e X.env) :: starEach [.Name x p2] X.env := by rfl) : VE X ρ (.Call (.Name "isinstance" p) [e, .Name x p2] [] pos) (.d (.bool k)) :=
  PE.weak (pe_callB (call_isinstC (X := X)) hg hm boot_isinstance (pa_cons he (pa_cons (pe_glob hgC hmC (show RelV (.ref C) (.ref C) from rfl) hd) pa_nil) hs) (by decide) (by decide) hs) fun σ H Q ⟨er, q⟩ => ⟨er, fun v H1 s1 r1 => ⟨v, C, t, k, rfl, ty H1 v r1, hk, q _ H1 s1 RsR.bool⟩⟩
theorem ve_isinstD {x : Str} {T : String} {t : Value} {k : Bool} (hm : X.mg "isinstance" = none) (hmT : X.mg x = none) (hv : bootBuiltins x = some (.type T)) (ty : DTy X.K d t) (hk : PySem.W.kitOne X.K t (.type T) = some k) (he : VE X ρ e (.d d)) (hg : Gl X "isinstance" := by rfl) (hgT : Gl X x := by rfl)
    (hn : x ≠ "__name__" := by decide) (hd : (x == ("__debug__" : Str)) = false := by decide) (hs : starEach [e, .Name x p2] X.env = (false, eval e X.env) :: starEach [.Name x p2] X.env := by rfl) : VE X ρ (.Call (.Name "isinstance" p) [e, .Name x p2] [] pos) (.d (.bool k)) :=
  PE.weak (pe_isinst hg hm hgT hmT hv he hn hd hs) fun σ H Q ⟨er, q⟩ => ⟨er, fun v H1 s1 r1 => ⟨v, T, t, k, rfl, ty H1 v r1, hk, q _ H1 s1 RsR.bool⟩⟩
theorem call_isinstC2 : CallR X (.builtin "isinstance") (fun xs H Q => ∃ x tp C D t b, xs = [x, .ref tp] ∧ TyOf X.K H x t ∧ (t = .type "int" ∨ t = .type "bool") ∧ SqT X.K H tp [.ref C, .ref D] ∧ PySem.W.kitAny X.K t [.ref C, .ref D] = some b ∧ Q (.bl b) H) := by
  intro pins s σ H xs us Q I r h
  obtain ⟨x, tp, C, D, t, b, rfl, ty, ht, hq, e, q⟩ := h
  obtain ⟨u, w', rfl, rx, rt⟩ := vals2 r
  cases rt
  obtain ⟨its2, r2, ⟨⟨cls, dd, data, sl⟩, g1, g2, n, g3⟩, _⟩ := I.tuple hq
  simp only at g2 g3
  subst g2 g3
  obtain ⟨v1, v2, rfl, e1, e2⟩ := r2.two
  cases e1
  cases e2
  cases ty with
  | int i => obtain ⟨t, rfl⟩ := rx; exact PySem.W.kia_tup PySem.W.kitx_int I.kIn True.intro g1 e (fun z => nomatch z) fun tk => ⟨.bl b, H, I.tok _, rfl, q⟩
  | bl i => cases rx; exact PySem.W.kia_tup PySem.W.kitx_bool I.kIn True.intro g1 e (fun z => nomatch z) fun tk => ⟨.bl b, H, I.tok _, rfl, q⟩
  | _ => rcases ht with z | z <;> simp at z
def isQ : PyData → Bool
  | .dict ((.str q, _) :: _) => q == "?"
  | _ => false
theorem RepG.isQ {K : PySem.W.Frag} {H : Hp} {kvs : List (PyData × PyData)} {x : V} (h : RepG K H kvs x) : L2.isQ (.dict kvs) = true := by
  cases kvs with
  | nil => rw [RepG] at h; exact h.elim
  | cons p r => obtain ⟨k, d⟩ := p; rw [RepG] at h; obtain ⟨⟨⟨x, e⟩, _⟩, _⟩ := h; injection e with e _; injection e with e _; rw [e]; rfl
theorem mv_isQ (c : Wk.Cs) (x : Wk.MV) : isQ (Wk.mvD c x) = false := by
  cases x with
  | int i => simp [Wk.mvD, isQ]
  | bool b => simp [Wk.mvD, isQ]
  | clos x b ρ => simp [Wk.mvD, Wk.insD, isQ]; decide
  | chain xs => cases xs <;> simp [Wk.mvD, Wk.chD, Wk.insD, isQ] <;> decide
theorem op_isB : OpR X (compareOp .Is) (fun x y H Q => ∃ d c, Rep X.K H d x ∧ isQ d = false ∧ y = .bl c ∧ Q (.bl (decide (x = .bl c))) H) := by
  intro pins s σ H x y v u Q I rx ry h
  obtain ⟨d, c, hd, nq, rfl, q⟩ := h
  cases ry
  cases d with
  | none => rw [Rep] at hd; subst hd; cases rx; exact wpAny_pure (fin_bl I q (by simp))
  | bool b => rw [Rep] at hd; subst hd; cases rx; exact is_bool (fin_bl I q (by cases b <;> cases c <;> rfl))
  | int i => rw [Rep] at hd; subst hd; obtain ⟨t, rfl⟩ := rx; exact wpAny_pure (fin_bl I q (by simp))
  | str i => rw [Rep] at hd; subst hd; obtain ⟨t, rfl⟩ := rx; exact wpAny_pure (fin_bl I q (by simp))
  | tuple i => rw [Rep] at hd; obtain ⟨a, vs, rfl, _⟩ := hd; cases rx; exact wpAny_pure (fin_bl I q (by simp))
  | list i => rw [Rep] at hd; obtain ⟨a, o, vs, rfl, _⟩ := hd; cases rx; exact wpAny_pure (fin_bl I q (by simp))
  | dict i =>
    rw [Rep] at hd
    rcases hd with ⟨a, o, dx, vs, rfl, _⟩ | hd
    · cases rx; exact wpAny_pure (fin_bl I q (by simp))
    · rw [hd.isQ] at nq; cases nq
def isBD (c : Bool) : PyData → Bool
  | .bool b => b == c
  | _ => false
theorem rep_isB {K : PySem.W.Frag} {H : Hp} {x : V} {c : Bool} (h : Rep K H d x) (nq : isQ d = false) : decide (x = V.bl c) = isBD c d := by
  cases d with
  | none => rw [Rep] at h; subst h; rfl
  | bool b => rw [Rep] at h; subst h; cases b <;> cases c <;> rfl
  | int i => rw [Rep] at h; subst h; rfl
  | str i => rw [Rep] at h; subst h; rfl
  | tuple i => rw [Rep] at h; obtain ⟨a, vs, rfl, _⟩ := h; rfl
  | list i => rw [Rep] at h; obtain ⟨a, o, vs, rfl, _⟩ := h; rfl
  | dict i =>
    rw [Rep] at h
    rcases h with ⟨a, o, dx, vs, rfl, _⟩ | h
    · rfl
    · rw [h.isQ] at nq; cases nq
theorem vt_isB {a : Expr} {c : Bool} {j : Nat} (ha : VE X ρ a (.d d)) (nq : isQ d = false := by first | rfl | exact mv_isQ _ _) : VT X ρ (.Compare a [.Is] [.Constant (.bool c) j p2] pos) (isBD c d) :=
  vt_cmp op_isB ha (ve_bl (b := c) (j := j) (pos := p2)) (fun H x y Q rx ry q => ⟨d, c, rx, nq, RdR.is_bool ry, by rw [rep_isB rx nq]; exact q⟩) (nomark _)
end
end L2
set_option Elab.async false
set_option linter.all false
set_option maxRecDepth 100000
set_option maxHeartbeats 4000000
namespace L2
open PySem PySem.Spec PyProof.Rows
def DX (K : PySem.W.Frag) (Φ : Hp → List (V × Sl) → St → Prop) (H0 : Hp) (hs : List (V × Sl)) (Q : Out → Prop) : Ends where
  nx := fun σ H => ∃ ρ, Q (.nx ρ) ∧ Φ H0 hs σ ∧ ER K H0 hs ρ σ H
  bk := fun σ H => ∃ ρ, Q (.bk ρ) ∧ Φ H0 hs σ ∧ ER K H0 hs ρ σ H
  ct := fun σ H => ∃ ρ, Q (.ct ρ) ∧ Φ H0 hs σ ∧ ER K H0 hs ρ σ H
  rt := fun v H => ∃ r, Q (.rt r) ∧ Same H0 H ∧ RsR K H0 H r v ∧ ∀ p ∈ hs, RdR K H p.2 p.1
def tXS (K : PySem.W.Frag) (Φ : Hp → List (V × Sl) → St → Prop) (ρ : List Sl) (Q : Out → Prop) : TS := fun D σ H => ∃ H0 hs, Φ H0 hs σ ∧ ER K H0 hs ρ σ H ∧ (DX K Φ H0 hs Q).le D
def VX (X : Cx) (Φ : Hp → List (V × Sl) → St → Prop) (ss : List Stmt) (ρ : List Sl) (Q : Out → Prop) : Prop := PSs X ss (tXS X.K Φ ρ Q)
def thenX (X : Cx) (Φ : Hp → List (V × Sl) → St → Prop) (rest : List Stmt) (Q : Out → Prop) : Out → Prop
  | .nx ρ => VX X Φ rest ρ Q
  | o => Q o
def VEX (X : Cx) (Φ : Hp → List (V × Sl) → St → Prop) (ρ : List Sl) (e : Expr) (o : Sl ⊕ Addr) : Prop := PE X e fun σ H Q => ∃ H0 hs, Φ H0 hs σ ∧ ER X.K H0 hs ρ σ H ∧ ∀ r, o = .inl r → ∀ v H', Same H H' → RsR X.K H H' r v → Q v H'
def spVX (K : PySem.W.Frag) (R : List Sl → Sl ⊕ Addr → Prop) : Sp := fun vs H Q E => ∃ as o, RdRs K H as vs ∧ R as o ∧ (∀ r, o = .inl r → ∀ v H', Same H H' → RsR K H H' r v → Q v H') ∧ ∀ C, o = .inr C → ∀ H', Same H H' → E (.ref C) none H'
section
variable {X : Cx} {Φ : Hp → List (V × Sl) → St → Prop} {E : XK} {ρ ρ' : List Sl} {e a b c : Expr} {es : List Expr} {r ra rb : Sl} {pos p p2 p3 : Pos} {d : PyData} {ds : List PyData} {rs : List Sl} {Q Q' : Out → Prop} {rest : List Stmt} {st : Stmt} {o : Sl ⊕ Addr}
theorem vx_nil (h : Q (.nx ρ)) : VX X Φ [] ρ Q := PSs.weak pss_nil fun D σ H ⟨H0, hs, φ, er, l⟩ => l.nx σ H ⟨ρ, h, φ, er⟩
theorem vx_of {t : TS} (h : PS X st t) (w : ∀ H0 hs D σ H, Φ H0 hs σ → ER X.K H0 hs ρ σ H → (DX X.K Φ H0 hs (thenX X Φ rest Q)).le D → t D σ H) : VX X Φ (st :: rest) ρ Q := by
  refine PSs.weak (pss_cons (u := fun D σ H => ∃ ρ' H0 hs, Φ H0 hs σ ∧ ER X.K H0 hs ρ' σ H ∧ (DX X.K Φ H0 hs Q).le D ∧ VX X Φ rest ρ' Q) h ?_) fun D σ H ⟨H0, hs, φ, er, l⟩ => w H0 hs _ σ H φ er ⟨?_, fun v H q => l.rt v H q, fun σ H q => l.bk σ H q, fun σ H q => l.ct σ H q⟩
  · intro pins s σ H D I ⟨ρ', H0, hs, φ, er, l, v⟩
    exact v pins s σ H D I ⟨H0, hs, φ, er, l⟩
  · rintro σ' H' ⟨ρ', q, φ', e⟩
    exact ⟨ρ', H0, hs, φ', e, l, q⟩
theorem vx_ret (h : VE X ρ e r) (q : Q (.rt r)) : VX X Φ (.Return (some e) pos :: rest) ρ Q :=
  vx_of (ps_ret h) fun H0 hs D σ H φ er l => ⟨⟨H0, hs, er⟩, fun v H' s rv => l.rt v H' ⟨r, q, er.same.trans s, rv.since er.same, (er.grow s).held⟩⟩
theorem vx_if {A B : List Stmt} {k : Bool} (hc : VT X ρ c k) (ha : k = true → VX X Φ A ρ (thenX X Φ rest Q)) (hb : k = false → VX X Φ B ρ (thenX X Φ rest Q)) : VX X Φ (.If c A B pos :: rest) ρ Q := by
  cases k with
  | true => exact vx_of (ps_if (u := tNever) hc (ha rfl) pss_never) fun H0 hs D σ H φ er l => ⟨⟨H0, hs, er⟩, fun H' s => iteT ⟨H0, hs, φ, er.grow s, l⟩⟩
  | false => exact vx_of (ps_if (t := tNever) hc pss_never (hb rfl)) fun H0 hs D σ H φ er l => ⟨⟨H0, hs, er⟩, fun H' s => iteF ⟨H0, hs, φ, er.grow s, l⟩⟩
def Kept (Φ : Hp → List (V × Sl) → St → Prop) (i : Nat) : Prop := ∀ H0 hs σ v, Φ H0 hs σ → Φ H0 hs (σ.set i (some v))
theorem vx_set {i : Nat} {x : Str} (nd : X.N.Nodup) (hi : ixA x X.N 0 = some i) (kp : Kept Φ i) (h : VE X ρ e (.d d)) (k : VX X Φ rest (ρ.set i (.d d)) Q) (hx : Loc X.env.scope x := by exact Or.inl rfl) (hs : swapsWith e (some (.Name x p2)) pos.line X.env = pure false := by rfl)
    (hf : X.fn x = true ∨ X.env.scope.names.lookup x = some .local := by first | exact .inl rfl | exact .inr rfl | assumption) : VX X Φ (.Assign [.Name x p2] e pos :: rest) ρ Q :=
  vx_of (ps_set nd (ixA_N hi) hx h hs hf) fun H0 hs D σ H φ er l => ⟨⟨H0, hs, er⟩, fun v H' s rv => l.nx _ _ ⟨_, k, kp _ _ _ _ φ, (er.grow s).setD rv⟩⟩
theorem vx_setO {i : Nat} {x : Str} {xs : List PyData} (nd : X.N.Nodup) (hi : ixA x X.N 0 = some i) (kp : Kept Φ i) (h : VE X ρ e (.o xs)) (k : VX X Φ rest (ρ.set i (.o xs)) Q) (hx : Loc X.env.scope x := by exact Or.inl rfl) (hs : swapsWith e (some (.Name x p2)) pos.line X.env = pure false := by rfl)
    (hf : X.fn x = true ∨ X.env.scope.names.lookup x = some .local := by first | exact .inl rfl | exact .inr rfl | assumption) : VX X Φ (.Assign [.Name x p2] e pos :: rest) ρ Q :=
  vx_of (ps_set nd (ixA_N hi) hx h hs hf) fun H0 hs D σ H φ er l => ⟨⟨H0, hs, er⟩, fun v H' s rv => by
    obtain ⟨a, rfl, n, q⟩ := rv
    exact l.nx _ _ ⟨_, k, kp _ _ _ _ φ, er.setO s n q⟩⟩
theorem vx_aug {i : Nat} {x : Str} {m n : Int} (nd : X.N.Nodup) (hi : ixA x X.N 0 = some i) (kp : Kept Φ i) (hr : ρ[i]? = some (.d (.int m))) (h : VE X ρ e (.d (.int n))) (k : VX X Φ rest (ρ.set i (.d (.int (m + n)))) Q) (hx : Loc X.env.scope x := by exact Or.inl rfl)
    (hf : X.fn x = true ∨ X.env.scope.names.lookup x = some .local := by first | exact .inl rfl | exact .inr rfl | assumption) : VX X Φ (.AugAssign (.Name x p2) .Add e pos :: rest) ρ Q :=
  vx_of (ps_aug nd (ixA_N hi) hx h ip_add hf) fun H0 hs D σ H φ er l => by
    obtain ⟨v, h1, h2⟩ := er.dat i _ hr
    obtain rfl := h2.is_int
    refine ⟨_, h1, ⟨H0, hs, er⟩, fun y H' s rv => ?_⟩
    obtain rfl := RsR.is_int rv
    exact ⟨m, n, rfl, rfl, l.nx _ _ ⟨_, k, kp _ _ _ _ φ, (er.grow s).setD (.int _)⟩⟩
theorem vx_appendX {i : Nat} {x : Str} {xs : List PyData} {apos cpos : Pos} (hi : ixA x X.N 0 = some i) (hr : ρ[i]? = some (.o xs)) (h : VEX X Φ ρ e o) (ho : ∀ r, o = .inl r → ∃ d, r = .d d) (hz : xs.length < sizeLine) (k : ∀ d, o = .inl (.d d) → VX X Φ rest (ρ.set i (.o (xs ++ [d]))) Q)
    (hv : Vis X.env.scope x := by first | exact Or.inl rfl | exact Or.inr (Or.inl rfl) | exact Or.inr (Or.inr rfl)) (hd : (x == ("__debug__" : Str)) = false := by decide) (hcd : (x == ("__classdict__" : Str)) = false := by decide)
    (hbase : attributeBase (.Name x p2) "append" X.env (eval (.Name x p2) X.env) = eval (.Name x p2) X.env := by rfl)
    (hfew : ((backTo cpos (starEach [e] X.env)).all (fun x => !x.1) && (backToKw cpos (keywordEach [] X.env)).all (fun x => x.1.isSome) && decide ([e].length + ([] : List Keyword).length + (if ([] : List Keyword).isEmpty then 0 else 1) < 30)) = true := by rfl)
    (hline : (apos.endLine == cpos.line) = true := by rfl) (hs : starEach [e] X.env = [(false, eval e X.env)] := by rfl) (hplain : (backTo cpos (starEach [] X.env)).any (·.1) = false := by rfl)
    (hsw : swapsWith (.Call (.Attribute (.Name x p2) "append" apos) [e] [] cpos) none pos.line X.env = pure false := by rfl) : VX X Φ (.Expr (.Call (.Attribute (.Name x p2) "append" apos) [e] [] cpos) pos :: rest) ρ Q :=
  vx_of (ps_expr (pe_bm PySem.F.plainAttrs_list PySem.F.slot_list_append PySem.F.type_list_append mt_append (pe_var (ixA_N hi) hv hd hcd) (pa_cons h pa_nil hs) hbase hfew hline hs hplain) hsw) fun H0 hs D σ H φ er l => by
    obtain ⟨a, h1, ⟨vs, h2, h3⟩, h4⟩ := er.own i xs hr
    refine ⟨_, h1, .inl ⟨rfl, vs, SqL.of h2⟩, H0, hs, φ, er, fun r z v H' s rv => ?_⟩
    obtain ⟨d, rfl⟩ := ho r z
    have e2 := er.grow s
    have h2' := s _ _ h2
    have h3' := Reps.mono (TupLe.of_same (K := X.K) s) _ _ h3
    exact ⟨a, vs, v, rfl, rfl, h2', by rw [h3.length]; exact hz, l.nx _ _ ⟨_, k d z, φ, e2.write hr h1 h2' (h3'.append (.one rv))⟩⟩
theorem vex_ve (h : VE X ρ e r) : VEX X Φ ρ e (.inl r) := PE.weak h fun σ H Q ⟨H0, hs, φ, er, q⟩ => ⟨⟨H0, hs, er⟩, fun v H' s rv => q r rfl v H' s rv⟩
theorem vx_append {i : Nat} {x : Str} {xs : List PyData} {apos cpos : Pos} (hi : ixA x X.N 0 = some i) (hr : ρ[i]? = some (.o xs)) (h : VE X ρ e (.d d)) (hz : xs.length < sizeLine) (k : VX X Φ rest (ρ.set i (.o (xs ++ [d]))) Q)
    (hv : Vis X.env.scope x := by first | exact Or.inl rfl | exact Or.inr (Or.inl rfl) | exact Or.inr (Or.inr rfl)) (hd : (x == ("__debug__" : Str)) = false := by decide) (hcd : (x == ("__classdict__" : Str)) = false := by decide)
    (hbase : attributeBase (.Name x p2) "append" X.env (eval (.Name x p2) X.env) = eval (.Name x p2) X.env := by rfl)
    (hfew : ((backTo cpos (starEach [e] X.env)).all (fun x => !x.1) && (backToKw cpos (keywordEach [] X.env)).all (fun x => x.1.isSome) && decide ([e].length + ([] : List Keyword).length + (if ([] : List Keyword).isEmpty then 0 else 1) < 30)) = true := by rfl)
    (hline : (apos.endLine == cpos.line) = true := by rfl) (hs : starEach [e] X.env = [(false, eval e X.env)] := by rfl) (hplain : (backTo cpos (starEach [] X.env)).any (·.1) = false := by rfl)
    (hsw : swapsWith (.Call (.Attribute (.Name x p2) "append" apos) [e] [] cpos) none pos.line X.env = pure false := by rfl) : VX X Φ (.Expr (.Call (.Attribute (.Name x p2) "append" apos) [e] [] cpos) pos :: rest) ρ Q :=
  vx_appendX hi hr (vex_ve h) (fun r z => ⟨d, by cases z; rfl⟩) hz (fun d' z => by cases z; exact k) hv hd hcd hbase hfew hline hs hplain hsw
theorem vx_pop {i j : Nat} {x y : Str} {xs : List PyData} {apos cpos : Pos} (nd : X.N.Nodup) (hi : ixA x X.N 0 = some i) (hj : ixA y X.N 0 = some j) (kp : Kept Φ j) (hr : ρ[i]? = some (.o (xs ++ [d]))) (k : VX X Φ rest ((ρ.set i (.o xs)).set j (.d d)) Q)
    (hv : Vis X.env.scope x := by first | exact Or.inl rfl | exact Or.inr (Or.inl rfl) | exact Or.inr (Or.inr rfl)) (hd : (x == ("__debug__" : Str)) = false := by decide) (hcd : (x == ("__classdict__" : Str)) = false := by decide)
    (hbase : attributeBase (.Name x p2) "pop" X.env (eval (.Name x p2) X.env) = eval (.Name x p2) X.env := by rfl) (hline : (apos.endLine == cpos.line) = true := by rfl)
    (hx : Loc X.env.scope y := by exact Or.inl rfl) (hs : swapsWith (.Call (.Attribute (.Name x p2) "pop" apos) [] [] cpos) (some (.Name y p3)) pos.line X.env = pure false := by rfl)
    (hf : X.fn y = true ∨ X.env.scope.names.lookup y = some .local := by first | exact .inl rfl | exact .inr rfl | assumption) : VX X Φ (.Assign [.Name y p3] (.Call (.Attribute (.Name x p2) "pop" apos) [] [] cpos) pos :: rest) ρ Q :=
  vx_of (ps_set nd (ixA_N hj) hx (pe_bm0 PySem.F.plainAttrs_list PySem.F.slot_list_pop PySem.F.type_list_pop mt_pop (pe_var (ixA_N hi) hv hd hcd) hbase hline) hs hf) fun H0 hs D σ H φ er l => by
    obtain ⟨a, h1, ⟨vs, h2, h3⟩, h4⟩ := er.own i _ hr
    obtain ⟨ws, v, rfl, h5, h6⟩ := h3.snoc
    refine ⟨_, h1, .inl ⟨rfl, _, SqL.of h2⟩, a, _, v, rfl, rfl, h2, by simp, ?_⟩
    rw [List.dropLast_concat]
    have e2 := er.write hr h1 h2 h5
    exact l.nx _ _ ⟨_, k, kp _ _ _ _ φ, e2.setD (Rep.mono ((SameBut.upd _).tup h2) _ _ h6)⟩
theorem vx_raise {C : Addr} {x : Str} {cpos : Pos} {y : Str} {j : Nat} (R : Raising X E) (cx : ExcC X.K X.mg x C) (hE : ∀ H0 hs σ, Φ H0 hs σ → ∀ H', Same H0 H' → E (.ref C) none H') (hg : Gl X x := by rfl) (hdb : (x == ("__debug__" : Str)) = false := by decide)
    (he : starEach [.Constant (.str y) j p3] X.env = (false, eval (.Constant (.str y) j p3) X.env) :: starEach [] X.env := by rfl) (hpl : (backTo cpos (starEach [] X.env)).any (·.1) = false := by rfl) :
    VX X Φ (.Raise (some (.Call (.Name x p) [.Constant (.str y) j p3] [] cpos)) none pos :: rest) ρ Q :=
  vx_of (ps_raise R cx hg (pa_cons pe_str pa_nil he) hdb he hpl) fun H0 hs D σ H φ er l => ⟨by show 1 ≤ 1000; decide, hE H0 hs σ φ H er.same⟩
theorem vex_call {k : Nat} {x : Str} {ps : List Str} {Rl : List Sl → Sl ⊕ Addr → Prop} (R : Raising X E) (D : DefX X.prog X.w X.K X.mg X.base k x ps (spVX X.K Rl)) (hr : Room k X.A) (ha : VA X ρ (e :: es) rs) (h : Rl (rs.map Sl.arg) o) (hE : ∀ C, o = .inr C → ∀ H0 hs σ, Φ H0 hs σ → ∀ H', Same H0 H' → E (.ref C) none H')
    (hg : Gl X x := by rfl) (hdb : (x == ("__debug__" : Str)) = false := by decide) (he : starEach (e :: es) X.env = (false, eval e X.env) :: starEach es X.env := by rfl) (hpl : (backTo pos (starEach es X.env)).any (·.1) = false := by rfl) : VEX X Φ ρ (.Call (.Name x p) (e :: es) [] pos) o :=
  PE.weak (pe_callX R D hr hg ha hdb he hpl) fun σ H Q ⟨H0, hs, φ, er, q⟩ => ⟨⟨H0, hs, er⟩, fun vs H1 s1 r1 => by
    show spVX X.K Rl (vs ++ []) H1 Q E
    rw [List.append_nil]
    exact ⟨rs.map Sl.arg, o, r1.arg, h, fun r z v H2 s2 r2 => q r z v H2 (s1.trans s2) (r2.since s1), fun C z H2 s2 => hE C z H0 hs σ φ H2 (er.same.trans (s1.trans s2))⟩⟩
theorem vex_tup2 {d1 d3 : PyData} {k : Nat} {o2 : Sl ⊕ Addr} (h1 : VE X ρ a (.d d1)) (h2 : VEX X Φ ρ b o2) (ho : ∀ r, o2 = .inl r → ∃ d, r = .d d) (h3 : VE X ρ c (.d d3)) (hs1 : starEach [a, b, c] X.env = (false, eval a X.env) :: starEach [b, c] X.env := by rfl)
    (hs2 : starEach [b, c] X.env = (false, eval b X.env) :: starEach [c] X.env := by rfl) (hs3 : starEach [c] X.env = (false, eval c X.env) :: starEach [] X.env := by rfl) : VEX X Φ ρ (.Tuple [a, b, c] k pos) (match o2 with | .inl (.d d) => .inl (.d (.tuple [d1, d, d3])) | .inl r => .inl r | .inr C => .inr C) :=
  PE.weak (pe_tup (pa_cons h1 (pa_cons h2 (pa_cons h3 pa_nil hs3) hs2) hs1)) fun σ H Q ⟨H0, hs, φ, er, q⟩ => ⟨⟨H0, hs, er⟩, fun v1 H1 s1 r1 => ⟨H0, hs, φ, er.grow s1, fun r z v2 H2 s2 r2 => ⟨⟨H0, hs, (er.grow s1).grow s2⟩, fun v3 H3 s3 r3 => by
    subst z
    obtain ⟨d, rfl⟩ := ho r rfl
    refine ⟨by show 3 ≤ sizeLine; decide, fun t ht => ?_⟩
    have s4 := same_upd ht (.tup [v1, v2, v3])
    refine q _ rfl _ _ (((s1.trans s2).trans s3).trans s4) (RsR.mk (SqT.of upd_same) ?_)
    exact .cons (Rep.mono (TupLe.of_same ((s2.trans s3).trans s4)) _ _ r1) (.cons (Rep.mono (TupLe.of_same (s3.trans s4)) _ _ r2) (.cons (Rep.mono (TupLe.of_same s4) _ _ r3) .nil))⟩⟩⟩
def loopX (X : Cx) (Φ : Hp → List (V × Sl) → St → Prop) (rest : List Stmt) (Q : Out → Prop) (J : List Sl → Prop) : Out → Prop
  | .nx ρ => J ρ
  | .ct ρ => J ρ
  | .bk ρ => VX X Φ rest ρ Q
  | .rt r => Q (.rt r)
theorem vx_while {body : List Stmt} (hp : PassesOwn (model X.prog X.w) X.A X.env X.xe) (W : Nat → List Sl → Prop) (h0 : ∃ m, W m ρ)
    (turn : ∀ m ρ', W m ρ' → ∃ k, VT X ρ' c k ∧ (k = true → VX X Φ body ρ' (loopX X Φ rest Q fun ρ2 => ∃ m', m' < m ∧ W m' ρ2)) ∧ (k = false → VX X Φ rest ρ' Q)) : VX X Φ (.While c body [] pos :: rest) ρ Q := by
  have hc : PT X c (fun σ H R => ∃ m ρ', W m ρ' ∧ ∃ k, VT X ρ' c k ∧ (∃ H0 hs, ER X.K H0 hs ρ' σ H) ∧ ∀ H', Same H H' → R k H') := by
    rintro pins s σ H R I ⟨m, ρ', w, k, v, er, q⟩
    exact v pins s σ H R I ⟨er, q⟩
  have hb : PSs X body (fun D σ H => ∃ ρ' Q', VX X Φ body ρ' Q' ∧ tXS X.K Φ ρ' Q' D σ H) := by
    rintro pins s σ H D I ⟨ρ', Q', v, q⟩
    exact v pins s σ H D I q
  refine vx_of (ps_while hp hc hb) fun H0 hs D σ H φ er l => ?_
  obtain ⟨m0, w0⟩ := h0
  refine ⟨fun m σ H => ∃ ρ', W m ρ' ∧ Φ H0 hs σ ∧ ER X.K H0 hs ρ' σ H, ⟨m0, ρ, w0, φ, er⟩, ?_⟩
  rintro m σ H ⟨ρ', w, φ, er⟩
  obtain ⟨k, v, yes, no⟩ := turn m ρ' w
  refine ⟨m, ρ', w, k, v, ⟨H0, hs, er⟩, fun H' s => ?_⟩
  cases k with
  | true =>
    rw [if_pos rfl]
    refine ⟨fun σ' H' => ∃ m', m' < m ∧ ∃ ρ2, W m' ρ2 ∧ Φ H0 hs σ' ∧ ER X.K H0 hs ρ2 σ' H', fun σ' H' ⟨m', lt, ρ2, w2, f2, e2⟩ => ⟨m', lt, ρ2, w2, f2, e2⟩, ρ', _, yes rfl, H0, hs, φ, er.grow s, ?_⟩
    exact ⟨fun σ H ⟨ρ2, ⟨m', lt, w2⟩, f, e⟩ => ⟨m', lt, ρ2, w2, f, e⟩, fun v H ⟨r, q, e⟩ => l.rt v H ⟨r, q, e⟩, fun σ H ⟨ρ2, q, f, e⟩ => l.nx σ H ⟨ρ2, q, f, e⟩, fun σ H ⟨ρ2, ⟨m', lt, w2⟩, f, e⟩ => ⟨m', lt, ρ2, w2, f, e⟩⟩
  | false =>
    refine iteF ?_
    exact l.nx _ _ ⟨ρ', no rfl, φ, er.grow s⟩
def tMA (K : PySem.W.Frag) (Φ : Hp → List (V × Sl) → St → Prop) (ρ ρ' : List Sl) (ds : List PyData) : TA := fun σ H Q => ∃ H0 hs, Φ H0 hs σ ∧ ER K H0 hs ρ σ H ∧ ∀ vs H', TupLe K H H' → ER K H0 hs ρ' σ H' → Reps K H' ds vs → Q vs H'
def VMA (X : Cx) (Φ : Hp → List (V × Sl) → St → Prop) (ρ : List Sl) (es : List Expr) (ds : List PyData) (ρ' : List Sl) : Prop := PA X es (tMA X.K Φ ρ ρ' ds)
theorem vma_cons (h : VE X ρ e (.d d)) (t : VMA X Φ ρ es ds ρ') (hs : starEach (e :: es) X.env = (false, eval e X.env) :: starEach es X.env := by rfl) : VMA X Φ ρ (e :: es) (d :: ds) ρ' :=
  PA.weak (pa_cons h t hs) fun σ H Q ⟨H0, hs, φ, er, q⟩ => ⟨⟨H0, hs, er⟩, fun v H1 s1 r1 => ⟨H0, hs, φ, er.grow s1, fun vs H2 t2 e2 r2 => q (v :: vs) H2 ((TupLe.of_same s1).trans t2) e2 (.cons (Rep.mono t2 _ _ r1) r2)⟩⟩
theorem vma_pop {i : Nat} {x : Str} {xs : List PyData} {apos cpos : Pos} (hi : ixA x X.N 0 = some i) (hr : ρ[i]? = some (.o (xs ++ [d]))) (t : VD X (ρ.set i (.o xs)) es ds)
    (hv : Vis X.env.scope x := by first | exact Or.inl rfl | exact Or.inr (Or.inl rfl) | exact Or.inr (Or.inr rfl)) (hd : (x == ("__debug__" : Str)) = false := by decide) (hcd : (x == ("__classdict__" : Str)) = false := by decide)
    (hbase : attributeBase (.Name x p2) "pop" X.env (eval (.Name x p2) X.env) = eval (.Name x p2) X.env := by rfl) (hline : (apos.endLine == cpos.line) = true := by rfl)
    (hs : starEach (.Call (.Attribute (.Name x p2) "pop" apos) [] [] cpos :: es) X.env = (false, eval (.Call (.Attribute (.Name x p2) "pop" apos) [] [] cpos) X.env) :: starEach es X.env := by rfl) : VMA X Φ ρ (.Call (.Attribute (.Name x p2) "pop" apos) [] [] cpos :: es) (d :: ds) (ρ.set i (.o xs)) :=
  PA.weak (pa_cons (pe_bm0 PySem.F.plainAttrs_list PySem.F.slot_list_pop PySem.F.type_list_pop mt_pop (pe_var (ixA_N hi) hv hd hcd) hbase hline) t hs) fun σ H Q ⟨H0, hs, φ, er, q⟩ => by
    obtain ⟨a, h1, ⟨vs, h2, h3⟩, h4⟩ := er.own i _ hr
    obtain ⟨ws, v, rfl, h5, h6⟩ := h3.snoc
    refine ⟨_, h1, .inl ⟨rfl, _, SqL.of h2⟩, a, _, v, rfl, rfl, h2, by simp, ?_⟩
    rw [List.dropLast_concat]
    have e2 := er.write hr h1 h2 h5
    have tl : TupLe X.K H (upd H a (.lst ws)) := (SameBut.upd _).tup h2
    exact ⟨⟨H0, hs, e2⟩, fun us H2 s2 r2 => q (v :: us) H2 (tl.trans (TupLe.of_same s2)) (e2.grow s2) (.cons (Rep.mono (tl.trans (TupLe.of_same s2)) _ _ h6) r2)⟩
theorem Reps.rd {K : PySem.W.Frag} {H : Hp} : ∀ {ds : List PyData} {us : List V}, Reps K H ds us → RdRs K H (ds.map Sl.d) us
  | [], us, r => by rw [Reps] at r; subst r; exact .nil
  | d :: ds, us, r => by obtain ⟨v, w, rfl, q1, q2⟩ := r.split; exact .cons q1 q2.rd
theorem vx_appendM {i : Nat} {k : Nat} {x f : Str} {ps : List Str} {xs : List PyData} {Rl : List Sl → Sl ⊕ Addr → Prop} {apos cpos fpos : Pos} (R : Raising X E) (D : DefX X.prog X.w X.K X.mg X.base k f ps (spVX X.K Rl)) (hrm : Room k X.A) (hi : ixA x X.N 0 = some i)
    (hr0 : ∃ ys, ρ[i]? = some (.o ys)) (hr : ρ'[i]? = some (.o xs)) (ha : VMA X Φ ρ (e :: es) ds ρ') (h : Rl (ds.map Sl.d) o) (ho : ∀ r, o = .inl r → ∃ d, r = .d d) (hz : xs.length < sizeLine) (hE : ∀ C, o = .inr C → ∀ H0 hs σ, Φ H0 hs σ → ∀ H', Same H0 H' → E (.ref C) none H')
    (kk : ∀ d, o = .inl (.d d) → VX X Φ rest (ρ'.set i (.o (xs ++ [d]))) Q)
    (hv : Vis X.env.scope x := by first | exact Or.inl rfl | exact Or.inr (Or.inl rfl) | exact Or.inr (Or.inr rfl)) (hd : (x == ("__debug__" : Str)) = false := by decide) (hcd : (x == ("__classdict__" : Str)) = false := by decide)
    (hbase : attributeBase (.Name x p2) "append" X.env (eval (.Name x p2) X.env) = eval (.Name x p2) X.env := by rfl)
    (hfew : ((backTo cpos (starEach [.Call (.Name f p) (e :: es) [] fpos] X.env)).all (fun x => !x.1) && (backToKw cpos (keywordEach [] X.env)).all (fun x => x.1.isSome) && decide ([Expr.Call (.Name f p) (e :: es) [] fpos].length + ([] : List Keyword).length + (if ([] : List Keyword).isEmpty then 0 else 1) < 30)) = true := by rfl)
    (hline : (apos.endLine == cpos.line) = true := by rfl) (hs : starEach [.Call (.Name f p) (e :: es) [] fpos] X.env = [(false, eval (.Call (.Name f p) (e :: es) [] fpos) X.env)] := by rfl) (hplain : (backTo cpos (starEach [] X.env)).any (·.1) = false := by rfl)
    (hsw : swapsWith (.Call (.Attribute (.Name x p2) "append" apos) [.Call (.Name f p) (e :: es) [] fpos] [] cpos) none pos.line X.env = pure false := by rfl)
    (hg : Gl X f := by rfl) (hdb : (f == ("__debug__" : Str)) = false := by decide) (he : starEach (e :: es) X.env = (false, eval e X.env) :: starEach es X.env := by rfl) (hpl : (backTo fpos (starEach es X.env)).any (·.1) = false := by rfl) :
    VX X Φ (.Expr (.Call (.Attribute (.Name x p2) "append" apos) [.Call (.Name f p) (e :: es) [] fpos] [] cpos) pos :: rest) ρ Q :=
  vx_of (ps_expr (pe_bm PySem.F.plainAttrs_list PySem.F.slot_list_append PySem.F.type_list_append mt_append (pe_var (ixA_N hi) hv hd hcd) (pa_cons (pe_callX R D hrm hg ha hdb he hpl) pa_nil hs) hbase hfew hline hs hplain) hsw) fun H0 hs D σ H φ er l => by
    obtain ⟨ys, hy⟩ := hr0
    obtain ⟨a, h1, ⟨vs, h2, h3⟩, h4⟩ := er.own i ys hy
    refine ⟨_, h1, .inl ⟨rfl, vs, SqL.of h2⟩, H0, hs, φ, er, fun us H1 t1 e1 r1 => ?_⟩
    show spVX X.K Rl (us ++ []) H1 _ E
    rw [List.append_nil]
    refine ⟨ds.map Sl.d, o, r1.rd, h, fun r z v H2 s2 r2 => ?_, fun C z H2 s2 => hE C z H0 hs σ φ H2 (e1.same.trans s2)⟩
    obtain ⟨d, rfl⟩ := ho r z
    obtain ⟨a', g1, ⟨ws, g2, g3⟩, _⟩ := e1.own i xs hr
    rw [h1] at g1
    cases g1
    have g2' := s2 _ _ g2
    exact ⟨a, ws, v, rfl, rfl, g2', by rw [g3.length]; exact hz, l.nx _ _ ⟨_, kk d z, φ, (e1.grow s2).write hr h1 g2' ((Reps.mono (TupLe.of_same (K := X.K) s2) _ _ g3).append (.one r2))⟩⟩
end
section
variable {P : Program} {w : World} {K : PySem.W.Frag} {mg : Str → Option Value} {base : Heap}
theorem Fun.okVX {x qual : Str} {st : Stmt} {f : Addr} {fd : FuncData} {N ps : List Str} {k : Nat} {R : List Sl → Sl ⊕ Addr → Prop} (F : Fun K x qual st f fd) (S : FnScope N ps (defScope st)) (len : ∀ as o, R as o → as.length = ps.length ∧ ∀ q ∈ as, ∀ xs, q ≠ .o xs)
    (hbody : ∀ (cdv : Value) (A : Around) (outer : List Env) (s : Shared) (H : Hp) (E : XK) (as : List Sl) (o : Sl ⊕ Addr), Room k (A.deeper (envOfC qual (defScope st) s.heap.objs.size f cdv)) → R as o →
      (∀ C, o = .inr C → ∀ H0 (hs : List (V × Sl)) (σ : St), H0 = H → ∀ H', Same H0 H' → E (.ref C) none H') →
      VX (cxOf (CX1 P w base) P w K mg base N qual (defScope st) f cdv A outer s H E) (fun H0 _ _ => H0 = H) (defBody st) (as ++ List.replicate (N.length - as.length) .un) fun t => ∃ r, o = .inl r ∧ (t = .rt r ∨ (r = .d .none ∧ ∃ ρ, t = .nx ρ))) :
    FnOk P w K mg base (CX1 P w base) (k + 1) f fd ps (spVX K R) := by
  refine F.okX S (fun vs H Q E h => ?_) (fun cdv A outer s H vs Q E hr h => ?_)
  · obtain ⟨as, o, h1, h2, _⟩ := h
    rw [h1.length]; exact (len as o h2).1
  obtain ⟨as, o, h1, h2, q, qE⟩ := h
  refine ⟨_, hbody cdv A outer s H E as o hr h2 (fun C z H0 hs σ e H' s' => by subst e; exact qE C z H' s'), H, [], rfl, er_start h1 (len as o h2).2, ?_⟩
  refine ⟨fun σ H' ⟨ρ, ⟨r, zo, z⟩, _, e⟩ => ?_, fun v H' ⟨r', ⟨r, zo, z⟩, e1, e2, _⟩ => ?_, fun σ H' ⟨ρ, ⟨r, zo, z⟩, e⟩ => ?_, fun σ H' ⟨ρ, ⟨r, zo, z⟩, e⟩ => ?_⟩
  · rcases z with z | ⟨rfl, _⟩
    · cases z
    · exact q _ zo _ H' e.same RsR.non
  · rcases z with z | ⟨_, _, z⟩
    · cases z
      exact q _ zo v H' e1 e2
    · cases z
  · rcases z with z | ⟨_, _, z⟩ <;> cases z
  · rcases z with z | ⟨_, _, z⟩ <;> cases z
end
def Off2 (wa da : Addr) (H H' : Hp) : Prop := ∀ b o, b ≠ wa → b ≠ da → H b = some o → H' b = some o
def hid2 (wa da : Addr) (H : Hp) : Hp := fun b => if b = wa ∨ b = da then none else H b
theorem hid2_same {wa da : Addr} {H : Hp} : Same (hid2 wa da H) H := fun b o h => by
  unfold hid2 at h
  by_cases z : b = wa ∨ b = da
  · rw [if_pos z] at h; cases h
  · rwa [if_neg z] at h
theorem off2_of {wa da : Addr} {H H' : Hp} (s : Same (hid2 wa da H) H') : Off2 wa da H H' := fun b o n1 n2 h => s b o (by unfold hid2; rw [if_neg (by rintro (z | z); exact n1 z; exact n2 z)]; exact h)
def spP (K : PySem.W.Frag) (R : PyData → PyData → List PyData → List PyData → (List PyData × List PyData) ⊕ Addr → Prop) : Sp := fun vs H Q E => ∃ v u wa da d1 d2 xs ys o, vs = [v, u, .ref wa, .ref da] ∧ Rep K H d1 v ∧ Rep K H d2 u ∧ LsR K H wa xs ∧ LsR K H da ys ∧ wa ≠ da ∧ R d1 d2 xs ys o ∧
  (∀ x, o = .inl x → ∀ H', Off2 wa da H H' → LsR K H' wa x.1 → LsR K H' da x.2 → Q .non H') ∧ ∀ C, o = .inr C → ∀ H', Off2 wa da H H' → E (.ref C) none H'
section
variable {K : PySem.W.Frag} {H0 H H' : Hp} {hs : List (V × Sl)} {ρ : List Sl} {σ : St} {wa da : Addr} {i j : Nat} {xs ys xs' ys' : List PyData}
theorem ER.lent (er : ER K H0 hs ρ σ H) (hi : ρ[i]? = some (.o xs)) (hj : ρ[j]? = some (.o ys)) (hij : i ≠ j) (ha : σ[i]? = some (some (.ref wa))) (hb : σ[j]? = some (some (.ref da))) (off : Off2 wa da H H') (h1 : LsR K H' wa xs') (h2 : LsR K H' da ys') :
    ER K H0 hs ((ρ.set i (.o xs')).set j (.o ys')) σ H' := by
  obtain ⟨ws, g1, g2⟩ := h1
  obtain ⟨ds, k1, k2⟩ := h2
  obtain ⟨a, e1, ⟨ws0, l1, _⟩, n1⟩ := er.own i xs hi
  rw [ha] at e1; cases e1
  obtain ⟨a, e2, ⟨ds0, l2, _⟩, n2⟩ := er.own j ys hj
  rw [hb] at e2; cases e2
  have ne : wa ≠ da := fun z => er.sepO i j wa xs ys hij hi hj ha (by rw [hb, z])
  let H2 : Hp := fun b => if b = wa ∨ b = da then H b else H' b
  have s2 : Same H H2 := fun b o h => by
    show (if b = wa ∨ b = da then H b else H' b) = some o
    by_cases z : b = wa ∨ b = da
    · rw [if_pos z]; exact h
    · rw [if_neg z]; exact off b o (fun q => z (.inl q)) (fun q => z (.inr q)) h
  have tl : TupLe K H' H2 := by
    have key : ∀ b o, (∀ zs, o ≠ .lst zs) → H' b = some o → H2 b = some o := fun b o n h => by
      show (if b = wa ∨ b = da then H b else H' b) = some o
      rw [if_neg]
      · exact h
      · rintro (rfl | rfl)
        · rw [g1] at h; cases h; exact n _ rfl
        · rw [k1] at h; cases h; exact n _ rfl
    exact TupLe.of_ext fun b o h n => key b o n h
  have w1 : H2 wa = some (.lst ws0) := by show (if wa = wa ∨ wa = da then H wa else H' wa) = _; rw [if_pos (.inl rfl)]; exact l1
  have w2 : H2 da = some (.lst ds0) := by show (if da = wa ∨ da = da then H da else H' da) = _; rw [if_pos (.inr rfl)]; exact l2
  have er2 := (er.grow s2).write hi ha w1 (Reps.mono tl _ _ g2)
  have tl3 : TupLe K H2 (upd H2 wa (.lst ws)) := (SameBut.upd _).tup w1
  have er3 := er2.write (i := j) (xs := ys) (by rw [List.getElem?_set, if_neg hij]; exact hj) hb (by rw [upd_ne (Ne.symm ne)]; exact w2) (Reps.mono (tl.trans tl3) _ _ k2)
  have eq : upd (upd H2 wa (.lst ws)) da (.lst ds) = H' := by
    funext b
    by_cases z1 : b = da
    · subst z1; rw [upd_same, k1]
    · rw [upd_ne z1]
      by_cases z2 : b = wa
      · subst z2; rw [upd_same, g1]
      · rw [upd_ne z2]
        show (if b = wa ∨ b = da then H b else H' b) = _
        rw [if_neg (by rintro (q | q); exact z2 q; exact z1 q)]
  rw [eq] at er3
  exact er3
theorem er_start2 {N : List Str} {v u : V} {d1 d2 : PyData} (hN : 4 ≤ N.length) (r1 : Rep K H d1 v) (r2 : Rep K H d2 u) (l1 : LsR K H wa xs) (l2 : LsR K H da ys) (ne : wa ≠ da) :
    ER K (hid2 wa da H) [] ([.d d1, .d d2, .o xs, .o ys] ++ List.replicate (N.length - 4) .un) (start N [v, u, .ref wa, .ref da]) H := by
  have un4 : ∀ {n : Nat} {r : Sl}, ([.d d1, .d d2, .o xs, .o ys] ++ List.replicate (N.length - 4) Sl.un)[n + 4]? = some r → r = .un := by
    intro n r h
    have h : (List.replicate (N.length - 4) Sl.un)[n]? = some r := by simpa using h
    exact (List.mem_replicate.mp (List.mem_of_getElem? h)).2
  have hw : hid2 wa da H wa = none := by unfold hid2; rw [if_pos (.inl rfl)]
  have hd : hid2 wa da H da = none := by unfold hid2; rw [if_pos (.inr rfl)]
  have own : ∀ (i : Nat) zs, ([.d d1, .d d2, .o xs, .o ys] ++ List.replicate (N.length - 4) Sl.un)[i]? = some (.o zs) → (i = 2 ∧ zs = xs) ∨ (i = 3 ∧ zs = ys) := by
    intro i zs h
    match i with
    | 0 => cases h
    | 1 => cases h
    | 2 => cases h; exact .inl ⟨rfl, rfl⟩
    | 3 => cases h; exact .inr ⟨rfl, rfl⟩
    | n + 4 => have := un4 h; cases this
  have nol : ∀ (i : Nat) zs, ([.d d1, .d d2, .o xs, .o ys] ++ List.replicate (N.length - 4) Sl.un)[i]? ≠ some (.l zs) := by
    intro i zs h
    match i with
    | 0 => cases h
    | 1 => cases h
    | 2 => cases h
    | 3 => cases h
    | n + 4 => have := un4 h; cases this
  refine ⟨hid2_same, by unfold start; simp <;> omega, fun i x h => ?_, fun i x h => absurd h (nol i x), fun i x h => ?_, fun i x h => ?_, fun i k a x y _ h => absurd h (nol k y), fun i k a x y n h h' e e' => ?_, fun p hp => (nomatch hp), fun i x a h e p hp => (nomatch hp)⟩
  · match i with
    | 0 => cases h; exact ⟨v, rfl, r1⟩
    | 1 => cases h; exact ⟨u, rfl, r2⟩
    | 2 => cases h
    | 3 => cases h
    | n + 4 => have := un4 h; cases this
  · match i with
    | 0 => cases h
    | 1 => cases h
    | 2 => cases h
    | 3 => cases h
    | n + 4 => have := un4 h; cases this
  · rcases own i x h with ⟨rfl, rfl⟩ | ⟨rfl, rfl⟩
    · exact ⟨wa, rfl, l1, hw⟩
    · exact ⟨da, rfl, l2, hd⟩
  · rcases own i x h with ⟨rfl, rfl⟩ | ⟨rfl, rfl⟩ <;> rcases own k y h' with ⟨rfl, rfl⟩ | ⟨rfl, rfl⟩
    · exact n rfl
    · cases e; cases e'; exact ne rfl
    · cases e; cases e'; exact ne rfl
    · exact n rfl
end
def Lent (wa da : Addr) (H : Hp) : Hp → List (V × Sl) → St → Prop := fun H0 _ σ => H0 = hid2 wa da H ∧ σ[2]? = some (some (.ref wa)) ∧ σ[3]? = some (some (.ref da))
theorem Lent.kept {wa da : Addr} {H : Hp} {i : Nat} (h2 : i ≠ 2) (h3 : i ≠ 3) : Kept (Lent wa da H) i := fun H0 _ σ v ⟨a, b, c⟩ => ⟨a, by rw [List.getElem?_set, if_neg h2]; exact b, by rw [List.getElem?_set, if_neg h3]; exact c⟩
section
variable {P : Program} {w : World} {K : PySem.W.Frag} {mg : Str → Option Value} {base : Heap}
theorem Fun.okP {x qual : Str} {st : Stmt} {f : Addr} {fd : FuncData} {N ps : List Str} {k : Nat} {R : PyData → PyData → List PyData → List PyData → (List PyData × List PyData) ⊕ Addr → Prop} (F : Fun K x qual st f fd) (S : FnScope N ps (defScope st)) (hN : 4 ≤ N.length) (hp : ps.length = 4)
    (hbody : ∀ (cdv : Value) (A : Around) (outer : List Env) (s : Shared) (H : Hp) (E : XK) (wa da : Addr) (d1 d2 : PyData) (xs ys : List PyData) (o : (List PyData × List PyData) ⊕ Addr), Room k (A.deeper (envOfC qual (defScope st) s.heap.objs.size f cdv)) → R d1 d2 xs ys o →
      (∀ C, o = .inr C → ∀ H0 (hs : List (V × Sl)) (σ : St), Lent wa da H H0 hs σ → ∀ H', Same H0 H' → E (.ref C) none H') →
      VX (cxOf (CX1 P w base) P w K mg base N qual (defScope st) f cdv A outer s H E) (Lent wa da H) (defBody st) ([.d d1, .d d2, .o xs, .o ys] ++ List.replicate (N.length - 4) .un) fun t => ∃ x ρ, o = .inl x ∧ t = .nx ρ ∧ ρ[2]? = some (.o x.1) ∧ ρ[3]? = some (.o x.2)) :
    FnOk P w K mg base (CX1 P w base) (k + 1) f fd ps (spP K R) := by
  refine F.okX S (fun vs H Q E h => ?_) (fun cdv A outer s H vs Q E hr h => ?_)
  · obtain ⟨v, u, wa, da, d1, d2, xs, ys, o, rfl, _⟩ := h
    rw [hp]; rfl
  obtain ⟨v, u, wa, da, d1, d2, xs, ys, o, rfl, r1, r2, l1, l2, ne, hR, q, qE⟩ := h
  refine ⟨_, hbody cdv A outer s H E wa da d1 d2 xs ys o hr hR (fun C z H0 hs σ e H' s' => by obtain ⟨rfl, _⟩ := e; exact qE C z H' (off2_of s')), hid2 wa da H, [], ⟨rfl, rfl, rfl⟩, er_start2 hN r1 r2 l1 l2 ne, ?_⟩
  refine ⟨fun σ H' ⟨ρ, ⟨x, ρ', zo, z, z1, z2⟩, ⟨_, f2, f3⟩, e⟩ => ?_, fun v H' ⟨r', ⟨x, ρ', zo, z, _⟩, _⟩ => ?_, fun σ H' ⟨ρ, ⟨x, ρ', zo, z, _⟩, _⟩ => ?_, fun σ H' ⟨ρ, ⟨x, ρ', zo, z, _⟩, _⟩ => ?_⟩
  · cases z
    obtain ⟨a, g1, g2, _⟩ := e.own 2 _ z1
    rw [f2] at g1; cases g1
    obtain ⟨b, k1, k2, _⟩ := e.own 3 _ z2
    rw [f3] at k1; cases k1
    exact q x zo H' (off2_of e.same) g2 k2
  · cases z
  · cases z
  · cases z
end
section
variable {X : Cx} {Φ : Hp → List (V × Sl) → St → Prop} {E : XK} {ρ : List Sl} {a b : Expr} {pos p p2 p3 cpos : Pos} {Q : Out → Prop} {rest : List Stmt}
theorem vx_callP {k i j : Nat} {f x y : Str} {ps : List Str} {xs ys : List PyData} {d1 d2 : PyData} {o : (List PyData × List PyData) ⊕ Addr} {R : PyData → PyData → List PyData → List PyData → (List PyData × List PyData) ⊕ Addr → Prop} (Rz : Raising X E) (D : DefX X.prog X.w X.K X.mg X.base k f ps (spP X.K R)) (hr : Room k X.A)
    (ha : VE X ρ a (.d d1)) (hb : VE X ρ b (.d d2)) (hi : ixA x X.N 0 = some i) (hj : ixA y X.N 0 = some j) (hij : i ≠ j) (hx : ρ[i]? = some (.o xs)) (hy : ρ[j]? = some (.o ys)) (h : R d1 d2 xs ys o) (hE : ∀ C, o = .inr C → ∀ H0 hs σ, Φ H0 hs σ → ∀ H', Same H0 H' → E (.ref C) none H')
    (kk : ∀ z, o = .inl z → VX X Φ rest ((ρ.set i (.o z.1)).set j (.o z.2)) Q)
    (hvx : Vis X.env.scope x := by first | exact Or.inl rfl | exact Or.inr (Or.inl rfl) | exact Or.inr (Or.inr rfl)) (hdx : (x == ("__debug__" : Str)) = false := by decide) (hcx : (x == ("__classdict__" : Str)) = false := by decide)
    (hvy : Vis X.env.scope y := by first | exact Or.inl rfl | exact Or.inr (Or.inl rfl) | exact Or.inr (Or.inr rfl)) (hdy : (y == ("__debug__" : Str)) = false := by decide) (hcy : (y == ("__classdict__" : Str)) = false := by decide)
    (hg : Gl X f := by rfl) (hdb : (f == ("__debug__" : Str)) = false := by decide) (h1 : starEach [a, b, .Name x p2, .Name y p3] X.env = (false, eval a X.env) :: starEach [b, .Name x p2, .Name y p3] X.env := by rfl)
    (h2 : starEach [b, .Name x p2, .Name y p3] X.env = (false, eval b X.env) :: starEach [.Name x p2, .Name y p3] X.env := by rfl) (h3 : starEach [.Name x p2, .Name y p3] X.env = (false, eval (.Name x p2) X.env) :: starEach [.Name y p3] X.env := by rfl)
    (h4 : starEach [.Name y p3] X.env = (false, eval (.Name y p3) X.env) :: starEach [] X.env := by rfl) (hpl : (backTo cpos (starEach [b, .Name x p2, .Name y p3] X.env)).any (·.1) = false := by rfl)
    (hsw : swapsWith (.Call (.Name f p) [a, b, .Name x p2, .Name y p3] [] cpos) none pos.line X.env = pure false := by rfl) :
    VX X Φ (.Expr (.Call (.Name f p) [a, b, .Name x p2, .Name y p3] [] cpos) pos :: rest) ρ Q :=
  vx_of (ps_expr (pe_callX Rz D hr hg (pa_cons ha (pa_cons hb (pa_cons (pe_var (ixA_N hi) hvx hdx hcx) (pa_cons (pe_var (ixA_N hj) hvy hdy hcy) pa_nil h4) h3) h2) h1) hdb h1 hpl) hsw) fun H0 hs D σ H φ er l => by
    refine ⟨⟨H0, hs, er⟩, fun v H1 s1 r1 => ⟨⟨H0, hs, er.grow s1⟩, fun u H2 s2 r2 => ?_⟩⟩
    have er2 := (er.grow s1).grow s2
    obtain ⟨wa, g1, g2, g3⟩ := er2.own i xs hx
    obtain ⟨da, k1, k2, k3⟩ := er2.own j ys hy
    refine ⟨_, g1, _, k1, ?_⟩
    refine ⟨v, u, wa, da, d1, d2, xs, ys, o, rfl, Rep.mono (TupLe.of_same s2) _ _ r1, r2, g2, k2, fun z => er2.sepO i j wa xs ys hij hx hy g1 (by rw [k1, z]), h, fun z e H' off l1 l2 => ?_, fun C e H' off => ?_⟩
    · exact l.nx _ _ ⟨_, kk z e, φ, er2.lent hx hy hij g1 k1 off l1 l2⟩
    · exact hE C e H0 hs σ φ H' fun b o hb => off b o (ne_of_none hb g3) (ne_of_none hb k3) (er2.same b o hb)
end
end L2
set_option Elab.async false
set_option linter.all false
set_option maxRecDepth 100000
set_option maxHeartbeats 4000000
namespace Wk
open PySem L2 PySem.Spec PyProof.Rows
def mkCh : List V → List (Str × V)
  | [a, b] => [("head", a), ("rest", b), ("outside", .non)]
  | _ => []
def mkCl : List V → List (Str × V)
  | [a, b, c] => [("name", a), ("body", b), ("known", c), ("outside", .non)]
  | _ => []
def mkKn : List V → List (Str × V)
  | [a, b, c] => [("name", a), ("value", b), ("others", c)]
  | _ => []
def mkGv : List V → List (Str × V)
  | [a] => [("value", a), ("inside", .non)]
  | _ => []
def Made (P : Program) (w : World) (K : PySem.W.Frag) (mg : Str → Option Value) (base : Heap) (x : Str) (C : Addr) (n : Nat) (mk : List V → List (Str × V)) : Prop :=
  ∃ g fd ps, Mk K C g ∧ FnOk P w K mg base CX0 1 g fd ps (spIni C n mk) ∧ Binds K fd ps [] ∧ mg x = some (.ref C)
structure MKit (K : PySem.W.Frag) (mg : Str → Option Value) (c : Cs) (CS CT : Addr) : Prop where
  cs : c = csOf K
  cC : ClsT K c.ch
  cL : ClsT K c.cl
  cN : ClsT K c.kn
  cG : ClsT K c.gv
  mC : mg "Chain" = some (.ref c.ch)
  mL : mg "Closure" = some (.ref c.cl)
  mN : mg "Known" = some (.ref c.kn)
  mG : mg "Given" = some (.ref c.gv)
  aC : NoAttr K c.ch "head" ∧ NoAttr K c.ch "rest" ∧ NoAttr K c.ch "outside"
  aL : NoAttr K c.cl "name" ∧ NoAttr K c.cl "body" ∧ NoAttr K c.cl "known" ∧ NoAttr K c.cl "outside"
  aN : NoAttr K c.kn "name" ∧ NoAttr K c.kn "value" ∧ NoAttr K c.kn "others"
  aG : NoAttr K c.gv "value" ∧ NoAttr K c.gv "inside"
  kC : PySem.W.kitOne K (.type "int") (.ref c.ch) = some false ∧ PySem.W.kitOne K (.type "bool") (.ref c.ch) = some false ∧ PySem.W.kitOne K (.ref c.ch) (.ref c.ch) = some true ∧ PySem.W.kitOne K (.ref c.cl) (.ref c.ch) = some false
  kL : PySem.W.kitOne K (.type "int") (.ref c.cl) = some false ∧ PySem.W.kitOne K (.type "bool") (.ref c.cl) = some false ∧ PySem.W.kitOne K (.ref c.ch) (.ref c.cl) = some false ∧ PySem.W.kitOne K (.ref c.cl) (.ref c.cl) = some true
  kG : PySem.W.kitOne K (.type "int") (.ref c.gv) = some false ∧ PySem.W.kitOne K (.type "bool") (.ref c.gv) = some false ∧ PySem.W.kitOne K (.ref c.ch) (.ref c.gv) = some false ∧ PySem.W.kitOne K (.ref c.cl) (.ref c.gv) = some false ∧ PySem.W.kitOne K (.ref c.gv) (.ref c.gv) = some true
  kI : PySem.W.kitOne K (.ref c.ch) (.type "int") = some false ∧ PySem.W.kitOne K (.ref c.cl) (.type "int") = some false
  kA : PySem.W.kitAny K (.type "int") [.ref c.ch, .ref c.cl] = some false ∧ PySem.W.kitAny K (.type "bool") [.ref c.ch, .ref c.cl] = some false
  eS : ExcC K mg "Stuck" CS
  eT : ExcC K mg "Tired" CT
  beg : ∃ t, mg "BEGIN" = some (.int 0 t)
  fin : ∃ t, mg "END" = some (.int 1 t)
section
variable {K : PySem.W.Frag} {mg : Str → Option Value} {c : Cs} {CS CT : Addr}
def tyMV (c : Cs) : MV → Value
  | .int _ => .type "int"
  | .bool _ => .type "bool"
  | .chain _ => .ref c.ch
  | .clos .. => .ref c.cl
theorem chain_ins (c : Cs) (xs : List MV) : ∃ h r, mvD c (.chain xs) = insD c.ch [("head", h), ("rest", r), ("outside", .none)] ∧ (xs = [] → r = .none) ∧ ∀ y ys, xs = y :: ys → h = eitD c y ∧ r = mvD c (.chain ys) := by
  cases xs with
  | nil => exact ⟨.none, .none, by simp [mvD, chD], (fun _ => rfl), fun y ys z => by cases z⟩
  | cons y ys => exact ⟨eitD c y, mvD c (.chain ys), by simp [mvD, chD, eitD], (fun z => by cases z), fun y' ys' z => by cases z; exact ⟨rfl, rfl⟩⟩
theorem clos_ins (c : Cs) (x : Str) (b : MT) (ρ : MR) : mvD c (.clos x b ρ) = insD c.cl [("name", .str x), ("body", mtD b), ("known", knD c ρ), ("outside", .none)] := by simp [mvD]
theorem kn_ins (c : Cs) (x : Str) (v : MV) (ρ : MR) : knD c ((x, v) :: ρ) = insD c.kn [("name", .str x), ("value", eitD c v), ("others", knD c ρ)] := by simp [knD, eitD]
theorem kn_nil (c : Cs) : knD c [] = .none := by simp [knD]
theorem mv_int (c : Cs) (i : Int) : mvD c (.int i) = .int i := by simp [mvD]
theorem mv_bool (c : Cs) (b : Bool) : mvD c (.bool b) = .bool b := by simp [mvD]
theorem MKit.dty (M : MKit K mg c CS CT) (v : MV) : DTy K (mvD c v) (tyMV c v) := by
  cases v with
  | int i => rw [mv_int]; exact dty_int
  | bool b => rw [mv_bool]; exact dty_bool
  | chain xs => obtain ⟨h, r, e, _⟩ := chain_ins c xs; rw [e]; exact dty_ins M.cC
  | clos x b ρ => rw [clos_ins]; exact dty_ins M.cL
def MV.isC : MV → Bool
  | .chain _ => true
  | _ => false
def MV.isL : MV → Bool
  | .clos .. => true
  | _ => false
def MV.isI : MV → Bool
  | .int _ => true
  | _ => false
theorem MKit.is_C (M : MKit K mg c CS CT) (v : MV) : PySem.W.kitOne K (tyMV c v) (.ref c.ch) = some v.isC := by cases v; exact M.kC.1; exact M.kC.2.1; exact M.kC.2.2.1; exact M.kC.2.2.2
theorem MKit.is_L (M : MKit K mg c CS CT) (v : MV) : PySem.W.kitOne K (tyMV c v) (.ref c.cl) = some v.isL := by cases v; exact M.kL.1; exact M.kL.2.1; exact M.kL.2.2.1; exact M.kL.2.2.2
theorem MKit.is_G (M : MKit K mg c CS CT) (v : MV) : PySem.W.kitOne K (tyMV c v) (.ref c.gv) = some false := by cases v; exact M.kG.1; exact M.kG.2.1; exact M.kG.2.2.1; exact M.kG.2.2.2.1
end
section
variable {K : PySem.W.Frag}
theorem ve_BEGIN {X : Cx} {c : Cs} {CS CT : Addr} {ρ : List Sl} {pos : Pos} (M : MKit X.K X.mg c CS CT) (hg : Gl X "BEGIN" := by rfl) : VE X ρ (.Name "BEGIN" pos) (.d (.int 0)) := let ⟨t, e⟩ := M.beg; ve_glob (v := .int 0) hg e ⟨t, rfl⟩ fun H => .int 0
theorem ve_END {X : Cx} {c : Cs} {CS CT : Addr} {ρ : List Sl} {pos : Pos} (M : MKit X.K X.mg c CS CT) (hg : Gl X "END" := by rfl) : VE X ρ (.Name "END" pos) (.d (.int 1)) := let ⟨t, e⟩ := M.fin; ve_glob (v := .int 1) hg e ⟨t, rfl⟩ fun H => .int 1
theorem kn_flds {H : Hp} {us : List V} {a b d : PyData} (r : Reps K H [a, b, d] us) : FldR K H [("name", a), ("value", b), ("others", d)] (mkKn us) := by
  obtain ⟨v1, r1, rfl, e1, r⟩ := r.split
  obtain ⟨v2, r2, rfl, e2, r⟩ := r.split
  obtain ⟨v3, r3, rfl, e3, r⟩ := r.split
  rw [Reps] at r
  subst r
  exact .cons e1 (.cons e2 (.cons e3 .nil))
theorem kn_fldsE {H : Hp} {us : List V} {a d : PyData} {c : Cs} {v : MV} (hc : c = csOf K) (r : Reps K H [a, mvD c v, d] us) : FldR K H [("name", a), ("value", eitD c v), ("others", d)] (mkKn us) := by
  obtain ⟨v1, r1, rfl, e1, r⟩ := r.split
  obtain ⟨v2, r2, rfl, e2, r⟩ := r.split
  obtain ⟨v3, r3, rfl, e3, r⟩ := r.split
  rw [Reps] at r
  subst r
  exact .cons e1 (.cons (e2.eit hc) (.cons e3 .nil))
theorem cl_flds {H : Hp} {us : List V} {a b d : PyData} (r : Reps K H [a, b, d] us) : FldR K H [("name", a), ("body", b), ("known", d), ("outside", .none)] (mkCl us) := by
  obtain ⟨v1, r1, rfl, e1, r⟩ := r.split
  obtain ⟨v2, r2, rfl, e2, r⟩ := r.split
  obtain ⟨v3, r3, rfl, e3, r⟩ := r.split
  rw [Reps] at r
  subst r
  exact .cons e1 (.cons e2 (.cons e3 (.cons .non .nil)))
theorem ch_flds {H : Hp} {us : List V} {a b : PyData} (r : Reps K H [a, b] us) : FldR K H [("head", a), ("rest", b), ("outside", .none)] (mkCh us) := by
  obtain ⟨v1, r1, rfl, e1, r⟩ := r.split
  obtain ⟨v2, r2, rfl, e2, r⟩ := r.split
  rw [Reps] at r
  subst r
  exact .cons e1 (.cons e2 (.cons .non .nil))
end
def RWholeM (c : Cs) : List Sl → Sl → Prop := fun as r => ∃ v : MV, as = [.d (mvD c v)] ∧ r = .d (.bool v.isI)
def RValueOf (c : Cs) (CS : Addr) : List Sl → Sl ⊕ Addr → Prop := fun as o => ∃ (x : Str) (ρ : MR), as = [.d (.str x), .d (knD c ρ)] ∧ o = match ρ.get x with
  | some v => .inl (.d (mvD c v))
  | none => .inr CS
def RChosen (c : Cs) (CS : Addr) : List Sl → Sl ⊕ Addr → Prop := fun as o => ∃ (a b e : MT) (l : MV), as = [.d (mtD (.cond a b e)), .d (mvD c l)] ∧ o = match l with
  | .bool true => .inl (.d (mtD b))
  | .bool false => .inl (.d (mtD e))
  | _ => .inr CS
def RParted (c : Cs) (CS : Addr) : List Sl → Sl ⊕ Addr → Prop := fun as o => ∃ (k : KD) (h t : Str) (a b e : MT) (l : MV) (ρ : MR), as = [.d (mtD (.case k h t a b e)), .d (mvD c l), .d (knD c ρ)] ∧ o = match l with
  | .chain [] => .inl (.d (taskD c (.beg b ρ)))
  | .chain (x :: xs) => .inl (.d (taskD c (.beg e ((t, .chain xs) :: (h, x) :: ρ))))
  | _ => .inr CS
def RCalled (c : Cs) (CS : Addr) : List Sl → Sl ⊕ Addr → Prop := fun as o => ∃ (f v : MV), as = [.d (mvD c f), .d (mvD c v)] ∧ o = match f with
  | .clos x b ρ => .inl (.d (taskD c (.beg b ((x, v) :: ρ))))
  | _ => .inr CS
def RFront (c : Cs) (CS : Addr) : List Sl → Sl ⊕ Addr → Prop := fun as o => ∃ (m l : MV), as = [.d (mvD c m), .d (mvD c l)] ∧ o = match l with
  | .chain xs => .inl (.d (mvD c (.chain (m :: xs))))
  | _ => .inr CS
def RReck (c : Cs) (CS : Addr) : List Sl → Sl ⊕ Addr → Prop := fun as o => ∃ (ad : Bool) (m l : MV), as = [.d (.str (if ad then "add" else "less")), .d (mvD c m), .d (mvD c l)] ∧ o = match m, l with
  | .int i, .int j => .inl (.d (if ad then .int (i + j) else .bool (decide (i < j))))
  | _, _ => .inr CS
def wl (c : Cs) (w : List Task) : List PyData := (w.map (taskD c)).reverse
def dl (c : Cs) (d : List MV) : List PyData := (d.map (mvD c)).reverse
theorem wl_cons (c : Cs) (t : Task) (w : List Task) : wl c (t :: w) = wl c w ++ [taskD c t] := by simp [wl]
theorem dl_cons (c : Cs) (v : MV) (d : List MV) : dl c (v :: d) = dl c d ++ [mvD c v] := by simp [dl]
theorem wl_len (c : Cs) (w : List Task) : (wl c w).length = w.length := by simp [wl]
theorem dl_len (c : Cs) (d : List MV) : (dl c d).length = d.length := by simp [dl]
def outP (c : Cs) (CS : Addr) : MS ⊕ Res → (List PyData × List PyData) ⊕ Addr
  | .inl s => .inl (wl c s.w, dl c s.d)
  | .inr _ => .inr CS
def RBeg (c : Cs) (CS : Addr) : PyData → PyData → List PyData → List PyData → (List PyData × List PyData) ⊕ Addr → Prop := fun d1 d2 xs ys o => ∃ (e : MT) (ρ : MR) (w : List Task) (d : List MV), d1 = mtD e ∧ d2 = knD c ρ ∧ xs = wl c w ∧ ys = dl c d ∧ w.length ≤ 1000000 ∧ d.length ≤ 1000000 ∧ o = outP c CS (begS e ρ w d 0)
def MT.ar : MT → Nat
  | .add .. | .less .. | .front .. | .call .. => 2
  | .cond .. | .case .. => 1
  | _ => 0
def RFin (c : Cs) (CS : Addr) : PyData → PyData → List PyData → List PyData → (List PyData × List PyData) ⊕ Addr → Prop := fun d1 d2 xs ys o => ∃ (e : MT) (ρ : MR) (w : List Task) (l : MV) (d : List MV), d1 = mtD e ∧ d2 = knD c ρ ∧ xs = wl c w ∧ ys = dl c (l :: d) ∧ 0 < e.ar ∧ e.ar ≤ d.length + 1 ∧ w.length ≤ 1000000 ∧ d.length ≤ 1000000 ∧ o = outP c CS (finS e ρ l w d 0)
def okW : List Task → Nat → Prop
  | [], n => n = 1
  | .beg _ _ :: w, n => okW w (n + 1)
  | .fin e _ :: w, n => 0 < e.ar ∧ e.ar ≤ n ∧ okW w (n - e.ar + 1)
theorem outP_beg (c : Cs) (CS : Addr) (e : MT) (ρ : MR) (w : List Task) (d : List MV) (n : Nat) : outP c CS (begS e ρ w d n) = outP c CS (begS e ρ w d 0) := by
  cases e <;> try rfl
  rename_i x
  cases q : ρ.get x <;> simp [begS, q, outP]
theorem beg_stuck {e : MT} {ρ : MR} {w : List Task} {d : List MV} {n : Nat} {r : Res} (h : begS e ρ w d n = .inr r) : r = .stuck := by
  cases e <;> try (cases h)
  rename_i x
  cases q : ρ.get x <;> simp [begS, q] at h
  exact h.symm
theorem outP_fin (c : Cs) (CS : Addr) (e : MT) (ρ : MR) (l : MV) (w : List Task) (d : List MV) (n : Nat) : outP c CS (finS e ρ l w d n) = outP c CS (finS e ρ l w d 0) := by
  unfold finS
  repeat' split
  all_goals first | rfl | simp_all [outP]
theorem fin_stuck {e : MT} {ρ : MR} {l : MV} {w : List Task} {d : List MV} {n : Nat} {r : Res} (h : finS e ρ l w d n = .inr r) : r = .stuck := by
  unfold finS at h
  repeat' split at h
  all_goals first | (cases h; done) | (cases h; rfl)
theorem beg_n {e : MT} {ρ : MR} {w : List Task} {d : List MV} {n : Nat} {s : MS} (h : begS e ρ w d n = .inl s) : s.n = n ∧ s.w.length ≤ w.length + 3 ∧ s.d.length ≤ d.length + 1 ∧ (okW w (d.length + 1) → okW s.w s.d.length) := by
  cases e with
  | name x => cases q : ρ.get x <;> simp [begS, q] at h; subst h; exact ⟨rfl, by simp, by simp, fun z => z⟩
  | num i => cases h; exact ⟨rfl, by simp, by simp, fun z => z⟩
  | truth i => cases h; exact ⟨rfl, by simp, by simp, fun z => z⟩
  | nil i => cases h; exact ⟨rfl, by simp, by simp, fun z => z⟩
  | lam x k b => cases h; exact ⟨rfl, by simp, by simp, fun z => z⟩
  | add a b => cases h; exact ⟨rfl, by simp, by simp, fun z => ⟨by simp [MT.ar], by simp [MT.ar], by simpa [MT.ar] using z⟩⟩
  | less a b => cases h; exact ⟨rfl, by simp, by simp, fun z => ⟨by simp [MT.ar], by simp [MT.ar], by simpa [MT.ar] using z⟩⟩
  | front a b => cases h; exact ⟨rfl, by simp, by simp, fun z => ⟨by simp [MT.ar], by simp [MT.ar], by simpa [MT.ar] using z⟩⟩
  | call a b => cases h; exact ⟨rfl, by simp, by simp, fun z => ⟨by simp [MT.ar], by simp [MT.ar], by simpa [MT.ar] using z⟩⟩
  | cond a b e => cases h; exact ⟨rfl, by simp, by simp, fun z => ⟨by simp [MT.ar], by simp [MT.ar], by simpa [MT.ar] using z⟩⟩
  | case k x y a b e => cases h; exact ⟨rfl, by simp, by simp, fun z => ⟨by simp [MT.ar], by simp [MT.ar], by simpa [MT.ar] using z⟩⟩
theorem fin_n {e : MT} {ρ : MR} {l : MV} {w : List Task} {d : List MV} {n : Nat} {s : MS} (h : finS e ρ l w d n = .inl s) (z : okW w (d.length + 1 - e.ar + 1)) : s.n = n ∧ s.w.length ≤ w.length + 1 ∧ s.d.length ≤ d.length + 1 ∧ okW s.w s.d.length := by
  unfold finS at h
  split at h
  · split at h <;> cases h <;> exact ⟨rfl, by simp, by simp, by simpa [MT.ar, okW] using z⟩
  · split at h <;> cases h <;> exact ⟨rfl, by simp, by simp, by simpa [MT.ar, okW] using z⟩
  · split at h <;> cases h; exact ⟨rfl, by simp, by simp; omega, by simpa [MT.ar, okW] using z⟩
  · split at h <;> cases h; exact ⟨rfl, by simp, by simp, by simpa [MT.ar, okW] using z⟩
  · split at h <;> cases h; exact ⟨rfl, by simp, by simp, by simpa [MT.ar, okW] using z⟩
  · split at h <;> cases h; exact ⟨rfl, by simp, by simp, by simpa [MT.ar, okW] using z⟩
  · cases h
end Wk
set_option Elab.async false
set_option linter.all false
set_option maxRecDepth 100000
set_option maxHeartbeats 4000000
namespace L2
open PySem PySem.Spec PyProof.Rows
theorem Rep.unlist {K : PySem.W.Frag} {H : Hp} {ds : List PyData} {v : V} (h : Rep K H (.list ds) v) : ∃ a o vs, v = .ref a ∧ H a = some (.frz o (.lst vs)) ∧ Reps K H ds vs := by rw [Rep] at h; exact h
theorem Rep.list {K : PySem.W.Frag} {H : Hp} {ds : List PyData} {a : Addr} {o : Obj} {vs : List V} (h : H a = some (.frz o (.lst vs))) (r : Reps K H ds vs) : Rep K H (.list ds) (.ref a) := by rw [Rep]; exact ⟨a, o, vs, rfl, h, r⟩
section
variable {X : Cx} {pins : List (Addr × Obj)} {σ : St} {H : Hp} {s : Shared}
theorem Inv.freezeL {a : Addr} {vs : List V} (I : Inv X pins σ H s) (h : H a = some (.lst vs)) : ∃ o, Inv X pins σ (upd H a (.frz o (.lst vs))) s := by
  have hx := I.hok a _ h
  obtain ⟨z, its, n, r, e⟩ := id hx
  refine ⟨{ cls := .type "list", data := .seq its.toArray n }, ?_⟩
  have := I.un (h' := s.heap) (t' := s.toks) (H' := upd H a (.frz { cls := .type "list", data := .seq its.toArray n } (.lst vs))) ⟨fun b o q _ _ _ => q, fun b o q _ _ _ => ⟨o.slots, q⟩, fun b o q hb _ => by rw [upd_ne (fun z => by rw [z, h] at hb; cases hb)]; exact hb, fun b o q _ => ⟨o, q⟩,
    fun b xs q => by rw [upd_ne (ne_of q h (by intro z; cases z))]; exact q, fun b o u q => by rw [upd_ne (ne_of q h (by intro z; cases z))]; exact q, fun b ps q => ⟨#[], by rw [upd_ne (ne_of q h (by intro z; cases z)), q]; simp⟩⟩ ?_
  · exact this
  · intro b o q
    have key : ∀ {b o}, H b = some o → ObjOk X.prog X.w (upd H a (.frz { cls := .type "list", data := .seq its.toArray n } (.lst vs))) s.heap b o := fun {b o} q =>
      (I.hok b o q).stay (fun _ _ _ q => q) (fun c q => by rw [upd_ne (ne_of q h (by intro z; cases z))]; exact q) fun c xs q => by rw [upd_ne (ne_of q h (by intro z; cases z))]; exact q
    by_cases hb : b = a
    · subst hb
      rw [upd_same] at q
      cases q
      exact ⟨e, key h⟩
    · rw [upd_ne hb] at q
      exact key q
variable {ρ : List Sl} {e : Expr} {es : List Expr} {r : Sl} {pos p p2 p3 : Pos} {d : PyData} {ds xs : List PyData} {rs : List Sl} {tg : Expr}
theorem itok_revF {K : PySem.W.Frag} {a : Addr} : ItOk K (ItRv K a xs.length) (.ref a, .d (.list xs)) xs.reverse where
  go := fun i H h hi => by
    obtain ⟨b, o, vs, e, h1, h2⟩ := Rep.unlist h
    cases e
    exact ⟨by simpa using hi, vs, .inl (.inr ⟨o, h1⟩), h2.length⟩
  yld := fun i H v H' h hi ⟨e2, y⟩ => by
    obtain ⟨b, o, vs, e, h1, h2⟩ := Rep.unlist h
    cases e
    subst e2
    have hi' : i < xs.length := by simpa using hi
    have hj : xs.length - 1 - i < xs.length := by omega
    obtain ⟨u, hu, ru⟩ := h2.get (List.getElem?_eq_getElem hj)
    have := y vs (.inl (.inr ⟨o, h1⟩)) h2.length
    rw [hu] at this
    cases this
    refine ⟨Same.refl _, _, ?_, ru⟩
    rw [List.getElem?_reverse hi']
    exact List.getElem?_eq_getElem hj
  stop := fun H h => by
    obtain ⟨b, o, vs, e, h1, h2⟩ := Rep.unlist h
    cases e
    exact ⟨by simp, vs, .inl (.inr ⟨o, h1⟩), h2.length⟩
theorem vi_revF (hm : X.mg "reversed" = none) (he : VE X ρ e (.d (.list xs))) (hg : Gl X "reversed" := by rfl) (hs : starEach [e] X.env = [(false, eval e X.env)] := by rfl) : VI X ρ tg (.Call (.Name "reversed" p) [e] [] pos) xs.reverse :=
  ⟨_, pi_rev hg hm (pa_cons he pa_nil hs) hs, fun H0 hs σ H R er k => ⟨⟨H0, hs, er⟩, fun v H1 s1 r1 => by
    obtain ⟨a, o, vs, rfl, h1, h2⟩ := Rep.unlist (K := X.K) (H := H1) r1
    refine ⟨a, vs, rfl, .inl (.inr ⟨o, h1⟩), ?_⟩
    rw [h2.length]
    exact k _ H1 (.ref a, .d (.list xs)) s1 (Rep.list h1 h2) (fun _ z => nomatch z) itok_revF⟩⟩
theorem ve_callX {k : Nat} {x : Str} {ps : List Str} {Rl : List Sl → Sl ⊕ Addr → Prop} (D : DefX X.prog X.w X.K X.mg X.base k x ps (spVX X.K Rl)) (hr : Room k X.A) (ha : VA X ρ (e :: es) rs) (h : Rl (rs.map Sl.arg) (.inl r)) (hg : Gl X x := by rfl) (hdb : (x == ("__debug__" : Str)) = false := by decide)
    (he : starEach (e :: es) X.env = (false, eval e X.env) :: starEach es X.env := by rfl) (hpl : (backTo pos (starEach es X.env)).any (·.1) = false := by rfl) : VE X ρ (.Call (.Name x p) (e :: es) [] pos) r := by
  obtain ⟨f, fd, G, b, kp, m⟩ := D
  refine PE.weak (pe_call (E := E0) G hr hg m kp b .nil (fun _ _ _ _ _ _ _ ⟨_, _, _, _, _, _, q⟩ => q.elim) ha hdb he hpl) fun σ H Q ⟨er, q⟩ => ⟨er, fun vs H1 s1 r1 => ?_⟩
  show spVX X.K Rl (vs ++ []) H1 Q E0
  rw [List.append_nil]
  exact ⟨rs.map Sl.arg, .inl r, r1.arg, h, fun r' z v H2 s2 r2 => by cases z; exact q v H2 (s1.trans s2) (r2.since s1), fun C z => nomatch z⟩
theorem ve_raw (h : VE X ρ e r) : PE X e (tR X.K ρ r) := h
theorem vx_raw {Φ : Hp → List (V × Sl) → St → Prop} {ss : List Stmt} {Q : Out → Prop} (h : VX X Φ ss ρ Q) : PSs X ss (tXS X.K Φ ρ Q) := h
variable {Q : Out → Prop} {rest : List Stmt}
theorem vs_tryX {k : Nat} {x y : Str} {c : Value} {C : Addr} {ps : List Str} {Rl : List Sl → Sl ⊕ Addr → Prop} {b₀ : Stmt} {suite : List Stmt} {pos2 np hpos tpos : Pos} (b : X.Body) (D : DefX X.prog X.w X.K X.mg X.base k x ps (spVX X.K Rl)) (hr : Room k X.A) (ha : VA X.nox ρ (e :: es) rs) (h : Rl (rs.map Sl.arg) (.inr C))
    (hm : PySem.W.exmOne X.K (.ref C) c = some true) (hy : X.mg y = some c) (hs : ∀ ea oe, VS (X.caught ea oe) (b₀ :: suite) ρ (thenS X rest Q)) (hg : Gl X x := by rfl) (hgy : Gl X y := by rfl) (hdb : (x == ("__debug__" : Str)) = false := by decide) (hdy : (y == ("__debug__" : Str)) = false := by decide)
    (he : starEach (e :: es) X.env = (false, eval e X.env) :: starEach es X.env := by rfl) (hpl : (backTo pos (starEach es X.env)).any (·.1) = false := by rfl)
    (hsw : swapsWith (.Call (.Name x p) (e :: es) [] pos) none pos2.line X.env = pure false := by rfl) :
    VS X (.Try [.Expr (.Call (.Name x p) (e :: es) [] pos) pos2] [.ExceptHandler (some (.Name y np)) none (b₀ :: suite) hpos] [] [] tpos :: rest) ρ Q :=
  vs_of (ps_try (ts := tRS X.K ρ (thenS X rest Q)) b D hr hg ha hgy hy hs hdb hdy he hpl hsw) fun H0 hs D σ H er l => ⟨⟨H0, hs, er⟩, fun vs H1 s1 r1 => ⟨rs.map Sl.arg, .inr C, r1.arg, h, (fun r z => nomatch z), fun C' z H2 s2 => by cases z; exact ⟨hm, H0, hs, er.grow (s1.trans s2), l⟩⟩⟩
end
end L2
set_option Elab.async false
set_option linter.all false
set_option maxRecDepth 100000
set_option maxHeartbeats 4000000
namespace L2
open PySem PySem.Spec PyProof.Rows
section
variable {X : Cx} {ρ : List Sl} {a e c : Expr} {pos p p2 : Pos} {Q : Out → Prop} {rest : List Stmt}
theorem ve_lenScr {ns : List Int} (hm : X.mg "len" = none) (he : VE X ρ e (.h (scrPer X.K ns))) (hg : Gl X "len" := by rfl) (hs : starEach [e] X.env = [(false, eval e X.env)] := by rfl) : VE X ρ (.Call (.Name "len" p) [e] [] pos) (.d (.int (ns.length : Nat))) :=
  PE.weak (pe_callB call_len_seq hg hm PySem.boot_len (pa_cons he pa_nil hs) (by decide) (by decide) hs) fun σ H Q ⟨er, q⟩ => ⟨er, fun v H1 s1 r1 => by
    obtain ⟨a, rfl, hq⟩ := (r1.rd : RdR X.K H1 (.h (scrPer X.K ns)) v)
    exact ⟨a, _, rfl, .inl hq.sq, by rw [List.length_map]; exact q _ H1 s1 RsR.int⟩⟩
end
end L2
namespace Wk
open PySem L2 PySem.Spec PyProof.Rows
def RWhI : List Sl → Sl → Prop := fun as r => ∃ i : Int, as = [.d (.int i)] ∧ r = .d (.bool true)
end Wk
set_option Elab.async false
set_option linter.all false
set_option maxRecDepth 100000
set_option maxHeartbeats 4000000
namespace L2
open PySem PySem.Spec PyProof.Rows
def vis : HO → Bool
  | .lst _ => true
  | .tup _ => true
  | .frz _ (.lst _) => true
  | .frz _ (.tup _) => true
  | .tbl _ => true
  | _ => false
def visH (H : Hp) : Hp := fun b => match H b with
  | some o => if vis o then some o else none
  | none => none
def overH (H H' : Hp) : Hp := fun b => match H b with
  | some o => if vis o then H' b else some o
  | none => H' b
section
variable {P : Program} {w : World} {H H' : Hp} {h h' : Heap} {b : Addr} {o : HO} {fs : List Addr}
theorem visH_of (e : H b = some o) (v : vis o = true) : visH H b = some o := by unfold visH; rw [e]; simp [v]
theorem visH_inv (e : visH H b = some o) : H b = some o ∧ vis o = true := by
  unfold visH at e
  cases q : H b with
  | none => rw [q] at e; cases e
  | some u =>
    rw [q] at e
    simp only at e
    by_cases v : vis u = true
    · rw [if_pos v] at e; cases e; exact ⟨rfl, v⟩
    · rw [if_neg v] at e; cases e
theorem visH_none (e : H b = none) : visH H b = none := by unfold visH; rw [e]
theorem visH_hid (e : H b = some o) (v : vis o = false) : visH H b = none := by unfold visH; rw [e]; simp [v]
theorem overH_none (e : H b = none) : overH H H' b = H' b := by unfold overH; rw [e]
theorem overH_vis (e : H b = some o) (v : vis o = true) : overH H H' b = H' b := by unfold overH; rw [e]; simp [v]
theorem overH_hid (e : H b = some o) (v : vis o = false) : overH H H' b = some o := by unfold overH; rw [e]; simp [v]
theorem visH_same : Same (visH H) H := fun b o e => (visH_inv e).1
theorem over_same (u : Un fs [] (visH H) H' h h') (k : HOk P w H h) : Same H' (overH H H') := fun b o e => by
  cases q : H b with
  | none => rw [overH_none q]; exact e
  | some x =>
    cases v : vis x with
    | true => rw [overH_vis q v]; exact e
    | false =>
      obtain ⟨ob, p⟩ := (k b x q).there
      rw [u.free b ob p (visH_hid q v) (by simp)] at e
      cases e
theorem over_back (s : Same (visH H) H') : Same H (overH H H') := fun b o e => by
  cases v : vis o with
  | true => rw [overH_vis e v]; exact s b o (visH_of e v)
  | false => exact overH_hid e v
theorem Un.over (u : Un fs [] (visH H) H' h h') : Un fs [] H (overH H H') h h' where
  keep := fun b o e n hb hx => u.keep b o e (visH_none n) hb hx
  slot := fun b o e n hb hx => u.slot b o e (visH_none n) hb hx
  free := fun b o e n hx => by rw [overH_none n]; exact u.free b o e (visH_none n) hx
  there := u.there
  tups := fun b xs e => by rw [overH_vis e rfl]; exact u.tups b xs (visH_of e rfl)
  frzs := fun b ob x e => by
    cases v : vis (.frz ob x) with
    | true => rw [overH_vis e v]; exact u.frzs b ob x (visH_of e v)
    | false => exact overH_hid e v
  tbls := fun b ps e => by rw [overH_vis e rfl]; exact u.tbls b ps (visH_of e rfl)
theorem HOk.over (u : Un fs [] (visH H) H' h h') (k : HOk P w H h) (k' : HOk P w H' h') (nf : ∀ b ∈ fs, H b = none) : HOk P w (overH H H') h' := fun b o e => by
  have sm := over_same u k
  have stay : H' b = some o → ObjOk P w (overH H H') h' b o := fun e' => (k' b o e').stay (fun _ _ _ z => z) (fun c z => sm c _ z) fun c xs z => sm c _ z
  have keep : ∀ c x, H c = some x → vis x = false → ∀ ob, h.get? c = some ob → h'.get? c = some ob := fun c x q v ob p =>
    u.keep c ob p (visH_hid q v) (fun z => by rw [nf c z] at q; cases q) (by simp)
  cases q : H b with
  | none => rw [overH_none q] at e; exact stay e
  | some x =>
    cases v : vis x with
    | true => rw [overH_vis q v] at e; exact stay e
    | false =>
      rw [overH_hid q v] at e
      cases e
      refine (k b o q).stay (fun c ob hc p => ?_) (fun c z => overH_hid z rfl) fun c xs z => by rw [overH_vis z rfl]; exact u.tups c xs (visH_of z rfl)
      rcases hc with rfl | hc
      · exact keep c o q v ob p
      · exact keep c _ hc rfl ob p
theorem vis_sub (k : HOk P w H h) : HOk P w (visH H) h := fun b o e => by
  obtain ⟨e1, v⟩ := visH_inv e
  have x := k b o e1
  cases o with
  | lst xs => exact x
  | tup xs => exact x
  | tbl ps => exact x
  | frz ob u =>
    cases u with
    | lst xs => exact x
    | tup xs => exact x
    | _ => cases v
  | _ => cases v
end
def spOver (sp : Sp) : Sp := fun vs H Q E => sp vs (visH H) (fun v H' => ∀ H2, Same H' H2 → (Same (visH H) H' → Same H H2) → Q v H2) (fun c e H' => ∀ H2, Same H' H2 → (Same (visH H) H' → Same H H2) → E c e H2)
section
variable {P : Program} {w : World} {K : PySem.W.Frag} {mg : Str → Option Value} {base : Heap} {k : Nat} {f : Addr} {fd : FuncData} {ps : List Str} {sp : Sp}
theorem Env0.vis {A : Around} {outer : List Env} {s : Shared} {H : Hp} (e : Env0 P w K mg base A outer s H) : Env0 P w K mg base A outer s (visH H) :=
  ⟨e.frames, e.mod, fun b o q => ⟨(e.bs b o q).1, visH_none (e.bs b o q).2⟩, e.bsz, e.funs, fun b hb => visH_none (e.frf b hb), vis_sub e.hok, e.bare⟩
theorem FnOk.overX (F : FnOk P w K mg base (CX1 P w base) k f fd ps sp) : FnOk P w K mg base (CX1 P w base) k f fd ps (spOver sp) := by
  refine ⟨fun vs H Q E h => F.len _ _ _ _ h, fun A outer s H args us vs Q E hr he hb hv hs => ?_⟩
  refine codeAny_mono (F.run A outer s (visH H) args us vs _ _ hr he.vis hb hv hs) fun r s' z => ?_
  cases r with
  | error e =>
    obtain ⟨ea, cls, H', B, rfl, G, q⟩ := z
    refine ⟨ea, cls, overH H H', B, rfl, ⟨G.os, G.bare, G.un.over, HOk.over G.un he.hok G.hok he.frf, G.fly, G.bs, fun b u e => ?_, fun b o e n hb => G.old b o e (visH_none n) hb, G.all⟩, q _ (over_same G.un he.hok) over_back⟩
    cases x : H b with
    | none => rw [overH_none x] at e; exact G.trk b u e
    | some y =>
      cases v : vis y with
      | true => rw [overH_vis x v] at e; exact G.trk b u e
      | false =>
        obtain ⟨ob, p⟩ := (he.hok b y x).there
        exact ⟨ob, G.old b ob p (visH_hid x v) (fun z => by rw [he.frf b z] at x; cases x)⟩
  | ok r =>
    cases r with
    | ret u =>
      obtain ⟨v, H', h1, h2, h3, h4, h5, h6⟩ := z
      exact ⟨v, overH H H', h1, h2, h3.over, HOk.over h3 he.hok h4 he.frf, h5, h6 _ (over_same h3 he.hok) over_back⟩
    | _ => exact z
end
end L2
set_option Elab.async false
set_option linter.all false
set_option maxRecDepth 100000
set_option maxHeartbeats 4000000
namespace L2
open PySem PySem.Spec PyProof.Rows
def Sl.itsF : Sl → Option (List PyData)
  | .l xs => some xs
  | .o xs => some xs
  | .d (.list xs) => some xs
  | _ => none
theorem RdR.lstF {K : PySem.W.Frag} {H : Hp} {r : Sl} {v : V} {xs : List PyData} (h : RdR K H r v) (e : r.itsF = some xs) : ∃ a vs, v = .ref a ∧ Rd H a (.lst vs) ∧ Reps K H xs vs := by
  cases r with
  | un => cases e
  | d x =>
    cases x with
    | list ys => cases e; obtain ⟨a, o, vs, rfl, h1, h2⟩ := Rep.unlist (K := K) (H := H) h; exact ⟨a, vs, rfl, .inr ⟨o, h1⟩, h2⟩
    | _ => cases e
  | l ys => cases e; obtain ⟨a, e, vs, q1, q2⟩ := h; exact ⟨a, vs, e, .inl q1, q2⟩
  | o ys => cases e; obtain ⟨a, e, vs, q1, q2⟩ := h; exact ⟨a, vs, e, .inl q1, q2⟩
  | h P => cases e
section
variable {X : Cx} {ρ : List Sl} {a b e : Expr} {ra rb : Sl} {pos p p2 : Pos} {d : PyData} {xs ys : List PyData}
theorem ve_freeze (h : VE X ρ e (.o xs)) : VE X ρ e (.d (.list xs)) := by
  intro pins s σ H Q I ⟨er, q⟩
  refine thn (h pins s σ H (fun v H' => Same H H' ∧ RsR X.K H H' (.o xs) v) I ⟨er, fun v H' s' r => ⟨s', r⟩⟩) fun u s1 ⟨v, H1, I1, r1, s', r⟩ => ?_
  obtain ⟨c, rfl, n, vs, h1, h2⟩ := r
  obtain ⟨o, I2⟩ := I1.freezeL h1
  have sb : TupLe X.K H1 (upd H1 c (.frz o (.lst vs))) := (SameBut.upd _).tup h1
  exact ⟨_, _, I2, r1, q _ _ (fun b u z => by rw [upd_ne (ne_of_none z n)]; exact s' b u z) (Rep.list (K := X.K) upd_same (Reps.mono sb _ _ h2))⟩
def rCatF : R2 := fun x y H Q => ∃ l b xs zs, x = .ref l ∧ y = .ref b ∧ Rd H l (.lst xs) ∧ Rd H b (.lst zs) ∧ xs.length + zs.length ≤ sizeLine ∧ ∀ p, H p = none → Q (.ref p) (upd H p (.lst (xs ++ zs)))
theorem op_catF : OpR X (binaryOp .Add) rCatF := by
  intro pins s σ H x y v u Q I rx ry h
  obtain ⟨l, b, xs, zs, rfl, rfl, hH, hB, hz, q⟩ := h
  cases rx
  cases ry
  obtain ⟨z, its, n, r, e⟩ := hH.ok I.hok
  obtain ⟨z2, its2, n2, r2, e2⟩ := hB.ok I.hok
  have hl := r.length
  have hl2 := r2.length
  refine PySem.P.add_list e e2 ?_ (by rw [List.size_toArray, List.size_toArray]; omega)
  have ea : its.toArray ++ its2.toArray = (its ++ its2).toArray := by simp
  rw [ea]
  exact ⟨.ref _, _, I.lnew (t' := s.toks) (r.append r2) (by rw [List.length_append]; omega), rfl, q _ I.fresh⟩
theorem ve_addF (ha : VE X ρ a ra) (hb : VE X ρ b rb) (ea : ra.itsF = some xs) (eb : rb.itsF = some ys) (h : xs.length + ys.length ≤ sizeLine) : VE X ρ (.BinOp a .Add b pos) (.o (xs ++ ys)) :=
  ve_op op_catF ha hb fun H x y Q rx ry q => by
    obtain ⟨p, vs, rfl, hq, rp⟩ := rx.lstF ea
    obtain ⟨p2, ws, rfl, hq2, rp2⟩ := ry.lstF eb
    refine ⟨p, p2, vs, ws, rfl, rfl, hq, hq2, by rw [rp.length, rp2.length]; exact h, fun c hc => q _ _ (same_upd hc _) ⟨c, rfl, hc, _, upd_same, ?_⟩⟩
    exact (Reps.mono (TupLe.of_same (same_upd hc _)) _ _ rp).append (Reps.mono (TupLe.of_same (same_upd hc _)) _ _ rp2)
theorem ve_ixF {i : Int} (ha : VE X ρ a ra) (hb : VE X ρ b (.d (.int i))) (ea : ra.itsF = some xs) (h : atI xs i = some d) (hs : PlainIx b := by exact fun _ _ => rfl) : VE X ρ (.Subscript a b pos) (.d d) :=
  PE.weak (pe_ix ix_list ha hb hs) fun σ H Q ⟨er, q⟩ => ⟨er, fun x H1 s1 r1 => ⟨er_grow er s1, fun y H2 s2 r2 => by
    obtain ⟨p, vs, rfl, hq, rp⟩ := (r1.rd.mono s2).lstF ea
    obtain rfl := RsR.is_int r2
    obtain ⟨j, h1, h2, h3, h4, h5⟩ := atI_get h
    obtain ⟨z, hz, rz⟩ := rp.get h2
    refine ⟨p, vs, i, z, rfl, rfl, .inl hq, ?_, q z H2 (s1.trans s2) rz⟩
    unfold atI at h ⊢
    rw [rp.length]
    cases q : ixN xs.length i with
    | none => rw [q] at h; cases h
    | some k =>
      have hk := (ixN_seq q).1
      rw [h1] at hk
      cases hk
      exact hz⟩⟩
theorem ve_lenF (hm : X.mg "len" = none) (he : VE X ρ e ra) (ea : ra.itsF = some xs) (hg : Gl X "len" := by rfl) (hs : starEach [e] X.env = [(false, eval e X.env)] := by rfl) : VE X ρ (.Call (.Name "len" p) [e] [] pos) (.d (.int (xs.length : Nat))) :=
  PE.weak (pe_callB call_len_seq hg hm PySem.boot_len (pa_cons he pa_nil hs) (by decide) (by decide) hs) fun σ H Q ⟨er, q⟩ => ⟨er, fun v H1 s1 r1 => by
    obtain ⟨a, vs, rfl, hq, rp⟩ := r1.rd.lstF ea
    exact ⟨a, vs, rfl, .inl (.inl hq), by rw [rp.length]; exact q _ H1 s1 RsR.int⟩⟩
theorem ve_isinstF {x : Str} {T : String} {k : Bool} (hm : X.mg "isinstance" = none) (hmT : X.mg x = none) (hv : bootBuiltins x = some (.type T)) (he : VE X ρ e (.d (.list xs))) (hk : PySem.W.kitOne X.K (.type "list") (.type T) = some k) (hg : Gl X "isinstance" := by rfl) (hgT : Gl X x := by rfl)
    (hn : x ≠ "__name__" := by decide) (hd : (x == ("__debug__" : Str)) = false := by decide) (hs : starEach [e, .Name x p2] X.env = (false, eval e X.env) :: starEach [.Name x p2] X.env := by rfl) : VE X ρ (.Call (.Name "isinstance" p) [e, .Name x p2] [] pos) (.d (.bool k)) :=
  ve_isinstD hm hmT hv dty_lst hk he hg hgT hn hd hs
end
end L2
set_option Elab.async false
set_option linter.all false
set_option maxRecDepth 100000
set_option maxHeartbeats 4000000
namespace L2
open PySem PySem.Spec PyProof.Rows
def NI (H H' : Hp) : Prop := Same (visH H) H'
theorem NI.of_same {H H' : Hp} (s : Same H H') : NI H H' := fun b o e => s b o (visH_inv e).1
theorem NI.refl (H : Hp) : NI H H := NI.of_same (Same.refl H)
theorem NI.lst {H H' : Hp} {a : Addr} {xs : List V} (n : NI H H') (e : H a = some (.lst xs)) : H' a = some (.lst xs) := n a _ (visH_of e rfl)
def spE (K : PySem.W.Frag) (R : List Sl → Sl ⊕ Addr → Prop) : Sp := fun vs H Q E => ∃ as o, ∃ ws : List (V × PyData), RdRs K H as vs ∧ R as o ∧ (∀ p ∈ ws, Rep K H p.2 p.1) ∧
  (∀ r, o = .inl r → ∀ v H', NI H H' → (∀ p ∈ ws, Rep K H' p.2 p.1) → RdR K H' r v → Q v H') ∧ ∀ C, o = .inr C → ∀ H', NI H H' → E (.ref C) none H'
section
variable {K : PySem.W.Frag} {H H' H0 : Hp} {hs : List (V × Sl)} {ρ : List Sl} {σ : St}
theorem Reps.zip : ∀ {xs : List PyData} {vs : List V}, Reps K H xs vs → ∀ p ∈ vs.zip xs, Rep K H p.2 p.1
  | [], vs, _, p, hp => by rw [List.zip_nil_right] at hp; cases hp
  | x :: xs, vs, h, p, hp => by
    obtain ⟨v, r, rfl, h1, h2⟩ := h.split
    rw [List.zip_cons_cons] at hp
    rcases List.mem_cons.mp hp with rfl | hp
    · exact h1
    · exact h2.zip p hp
theorem Reps.ofZip : ∀ {xs : List PyData} {vs : List V}, vs.length = xs.length → (∀ p ∈ vs.zip xs, Rep K H p.2 p.1) → Reps K H xs vs
  | [], [], _, _ => .nil
  | x :: xs, v :: vs, hl, h => .cons (h (v, x) (by rw [List.zip_cons_cons]; exact List.mem_cons_self)) (Reps.ofZip (Nat.succ.inj hl) fun p hp => h p (by rw [List.zip_cons_cons]; exact List.mem_cons_of_mem _ hp))
  | [], _ :: _, hl, _ => nomatch hl
  | _ :: _, [], hl, _ => nomatch hl
def slW (v : Option (Option V)) (H : Hp) : Sl → List (V × PyData)
  | .d x => match v with
    | some (some v) => [(v, x)]
    | _ => []
  | .l xs => match v with
    | some (some (.ref a)) => (match H a with | some (.lst vs) => vs.zip xs | _ => [])
    | _ => []
  | .o xs => match v with
    | some (some (.ref a)) => (match H a with | some (.lst vs) => vs.zip xs | _ => [])
    | _ => []
  | _ => []
def erW (ρ : List Sl) (σ : St) (H : Hp) (hs : List (V × Sl)) : List (V × PyData) :=
  (List.range ρ.length).flatMap (fun i => match ρ[i]? with | some r => slW σ[i]? H r | none => []) ++ hs.flatMap fun p => slW (some (some p.1)) H p.2
theorem erW_slot {i : Nat} {r : Sl} (h : ρ[i]? = some r) {p : V × PyData} (hp : p ∈ slW σ[i]? H r) : p ∈ erW ρ σ H hs :=
  List.mem_append_left _ (List.mem_flatMap.mpr ⟨i, List.mem_range.mpr (List.getElem?_eq_some_iff.mp h).1, by rw [h]; exact hp⟩)
theorem slW_rep {r : Sl} {v : V} (h : RdR K H r v) : ∀ p ∈ slW (some (some v)) H r, Rep K H p.2 p.1 := by
  intro p hp
  cases r with
  | un => cases hp
  | h P => cases hp
  | d x => obtain rfl := List.mem_singleton.mp (show p ∈ [(v, x)] from hp); exact h
  | l xs =>
    obtain ⟨a, rfl, vs, e, q⟩ := h
    simp only [slW, e] at hp
    exact q.zip p hp
  | o xs =>
    obtain ⟨a, rfl, vs, e, q⟩ := h
    simp only [slW, e] at hp
    exact q.zip p hp
theorem slW_back {r : Sl} {v : V} (h : RdR K H r v) (np : ∀ P, r ≠ .h P) (n : NI H H') (w : ∀ p ∈ slW (some (some v)) H r, Rep K H' p.2 p.1) : RdR K H' r v := by
  cases r with
  | un => trivial
  | h P => exact absurd rfl (np P)
  | d x => exact w (v, x) List.mem_cons_self
  | l xs =>
    obtain ⟨a, rfl, vs, e, q⟩ := h
    simp only [slW, e] at w
    exact ⟨a, rfl, vs, n.lst e, Reps.ofZip q.length w⟩
  | o xs =>
    obtain ⟨a, rfl, vs, e, q⟩ := h
    simp only [slW, e] at w
    exact ⟨a, rfl, vs, n.lst e, Reps.ofZip q.length w⟩
theorem ER.data (er : ER K H0 hs ρ σ H) (nh : ∀ r ∈ ρ, ∀ P, r ≠ .h P) (nhs : ∀ p ∈ hs, ∀ P, p.2 ≠ .h P) (v0 : ∀ b o, H0 b = some o → vis o = true) :
    (∀ p ∈ erW ρ σ H hs, Rep K H p.2 p.1) ∧ ∀ H', NI H H' → (∀ p ∈ erW ρ σ H hs, Rep K H' p.2 p.1) → ER K H0 hs ρ σ H' := by
  have at_ : ∀ {i : Nat} {r : Sl}, ρ[i]? = some r → r ≠ .un → ∃ v, σ[i]? = some (some v) ∧ RdR K H r v := fun {i r} h nu => by
    cases r with
    | un => exact absurd rfl nu
    | h P => exact absurd rfl (nh _ (List.mem_of_getElem? h) P)
    | d x => exact er.dat i x h
    | l xs => obtain ⟨a, h1, h2⟩ := er.lst i xs h; exact ⟨_, h1, a, rfl, h2⟩
    | o xs => obtain ⟨a, h1, h2, _⟩ := er.own i xs h; exact ⟨_, h1, a, rfl, h2⟩
  refine ⟨fun p hp => ?_, fun H' n w => ?_⟩
  · rcases List.mem_append.mp hp with hp | hp
    · obtain ⟨i, _, hp⟩ := List.mem_flatMap.mp hp
      cases q : ρ[i]? with
      | none => rw [q] at hp; cases hp
      | some r =>
        rw [q] at hp
        by_cases nu : r = .un
        · subst nu; cases hp
        · obtain ⟨v, h1, h2⟩ := at_ q nu
          rw [h1] at hp
          exact slW_rep h2 p hp
    · obtain ⟨u, hu, hp⟩ := List.mem_flatMap.mp hp
      exact slW_rep (er.held u hu) p hp
  · have sl : ∀ {i : Nat} {r : Sl}, ρ[i]? = some r → r ≠ .un → ∃ v, σ[i]? = some (some v) ∧ RdR K H' r v := fun {i r} h nu => by
      obtain ⟨v, h1, h2⟩ := at_ h nu
      exact ⟨v, h1, slW_back h2 (nh _ (List.mem_of_getElem? h)) n fun p hp => w p (erW_slot h (by rw [h1]; exact hp))⟩
    refine ⟨fun b o e => n b o (visH_of (er.same b o e) (v0 b o e)), er.len, fun i x q => sl q (fun z => nomatch z), fun i xs q => ?_, fun i P q => absurd rfl (nh _ (List.mem_of_getElem? q) P), fun i xs q => ?_, er.sepL, er.sepO, fun p hp => ?_, er.sepH⟩
    · obtain ⟨v, h1, a, rfl, h2⟩ := sl q (fun z => nomatch z); exact ⟨a, h1, h2⟩
    · obtain ⟨a, h1, h2, h3⟩ := er.own i xs q
      obtain ⟨v, g1, a', rfl, g2⟩ := sl q (fun z => nomatch z)
      rw [h1] at g1
      cases g1
      exact ⟨a, h1, g2, h3⟩
    · exact slW_back (er.held p hp) (nhs p hp) n fun u hu => w u (List.mem_append_right _ (List.mem_flatMap.mpr ⟨p, hp, hu⟩))
end
def EvoOk (Φ : Hp → List (V × Sl) → St → Prop) : Prop := ∀ H0 hs σ, Φ H0 hs σ → (∀ b o, H0 b = some o → vis o = true) ∧ ∀ p ∈ hs, ∃ d, p.2 = .d d
theorem noP {hs : List (V × Sl)} (h : ∀ p ∈ hs, ∃ d, p.2 = .d d) : ∀ p ∈ hs, ∀ P, p.2 ≠ .h P := fun p hp P z => by obtain ⟨d, e⟩ := h p hp; rw [e] at z; cases z
def noH (ρ : List Sl) : Bool := ρ.all fun r => match r with | .h _ => false | _ => true
theorem noH_of {ρ : List Sl} (h : noH ρ = true) : ∀ r ∈ ρ, ∀ P, r ≠ .h P := fun r hr P z => by
  have := List.all_eq_true.mp h r hr
  rw [z] at this
  cases this
def PhiE (H : Hp) : Hp → List (V × Sl) → St → Prop := fun H0 hs _ => H0 = visH H ∧ ∀ p ∈ hs, ∃ d, p.2 = .d d
theorem PhiE.ev (H : Hp) : EvoOk (PhiE H) := fun H0 hs σ ⟨e, h⟩ => ⟨fun b o q => by rw [e] at q; exact (visH_inv q).2, h⟩
theorem PhiE.kept {H : Hp} {i : Nat} : Kept (PhiE H) i := fun _ _ _ _ h => h
section
variable {X : Cx} {Φ : Hp → List (V × Sl) → St → Prop} {E : XK} {ρ : List Sl} {e : Expr} {es : List Expr} {rs : List Sl} {pos p p2 : Pos} {Q : Out → Prop} {rest : List Stmt} {o : Sl ⊕ Addr}
theorem vx_retE0 {k : Nat} {x : Str} {ps : List Str} {Rl : List Sl → Sl ⊕ Addr → Prop} {d : PyData} (D : DefOk X.prog X.w X.K X.mg X.base k x ps (spE X.K Rl)) (hr : Room k X.A) (ev : EvoOk Φ) (ha : VA X ρ (e :: es) rs) (h : Rl (rs.map Sl.arg) (.inl (.d d))) (q : Q (.rt (.d d)))
    (nh : noH ρ = true := by rfl) (hg : Gl X x := by rfl) (hdb : (x == ("__debug__" : Str)) = false := by decide)
    (he : starEach (e :: es) X.env = (false, eval e X.env) :: starEach es X.env := by rfl) (hpl : (backTo pos (starEach es X.env)).any (·.1) = false := by rfl) : VX X Φ (.Return (some (.Call (.Name x p) (e :: es) [] pos)) p2 :: rest) ρ Q :=
  vx_of (ps_ret (pe_callD D hr hg ha hdb he hpl)) fun H0 hs D σ H φ er l => ⟨⟨H0, hs, er⟩, fun vs H1 s1 r1 => by
    show spE X.K Rl (vs ++ []) H1 _ E0
    rw [List.append_nil]
    obtain ⟨v0, nhs⟩ := ev H0 hs σ φ
    obtain ⟨w1, w2⟩ := (er.grow s1).data (noH_of nh) (noP nhs) v0
    refine ⟨rs.map Sl.arg, .inl (.d d), _, r1.arg, h, w1, fun r z v H2 n w rv => ?_, fun C z => nomatch z⟩
    cases z
    have er2 := w2 H2 n w
    exact l.rt v H2 ⟨.d d, q, er2.same, rv, er2.held⟩⟩
theorem vx_appendE {i k : Nat} {x f : Str} {ps : List Str} {xs : List PyData} {Rl : List Sl → Sl ⊕ Addr → Prop} {apos cpos fpos : Pos} (R : Raising X E) (D : DefX X.prog X.w X.K X.mg X.base k f ps (spE X.K Rl)) (hrm : Room k X.A) (ev : EvoOk Φ) (hi : ixA x X.N 0 = some i) (hr : ρ[i]? = some (.o xs)) (ha : VA X ρ (e :: es) rs)
    (h : Rl (rs.map Sl.arg) o) (ho : ∀ r, o = .inl r → ∃ d, r = .d d) (hz : xs.length < sizeLine) (hE : ∀ C, o = .inr C → ∀ H0 hs σ, Φ H0 hs σ → ∀ H', Same H0 H' → E (.ref C) none H') (kk : ∀ d, o = .inl (.d d) → VX X Φ rest (ρ.set i (.o (xs ++ [d]))) Q) (nh : noH ρ = true := by rfl)
    (hv : Vis X.env.scope x := by first | exact Or.inl rfl | exact Or.inr (Or.inl rfl) | exact Or.inr (Or.inr rfl)) (hd : (x == ("__debug__" : Str)) = false := by decide) (hcd : (x == ("__classdict__" : Str)) = false := by decide)
    (hbase : attributeBase (.Name x p2) "append" X.env (eval (.Name x p2) X.env) = eval (.Name x p2) X.env := by rfl)
    (hfew : ((backTo cpos (starEach [.Call (.Name f p) (e :: es) [] fpos] X.env)).all (fun x => !x.1) && (backToKw cpos (keywordEach [] X.env)).all (fun x => x.1.isSome) && decide ([Expr.Call (.Name f p) (e :: es) [] fpos].length + ([] : List Keyword).length + (if ([] : List Keyword).isEmpty then 0 else 1) < 30)) = true := by rfl)
    (hline : (apos.endLine == cpos.line) = true := by rfl) (hs : starEach [.Call (.Name f p) (e :: es) [] fpos] X.env = [(false, eval (.Call (.Name f p) (e :: es) [] fpos) X.env)] := by rfl) (hplain : (backTo cpos (starEach [] X.env)).any (·.1) = false := by rfl)
    (hsw : swapsWith (.Call (.Attribute (.Name x p2) "append" apos) [.Call (.Name f p) (e :: es) [] fpos] [] cpos) none pos.line X.env = pure false := by rfl)
    (hg : Gl X f := by rfl) (hdb : (f == ("__debug__" : Str)) = false := by decide) (he : starEach (e :: es) X.env = (false, eval e X.env) :: starEach es X.env := by rfl) (hpl : (backTo fpos (starEach es X.env)).any (·.1) = false := by rfl) :
    VX X Φ (.Expr (.Call (.Attribute (.Name x p2) "append" apos) [.Call (.Name f p) (e :: es) [] fpos] [] cpos) pos :: rest) ρ Q :=
  vx_of (ps_expr (pe_bm PySem.F.plainAttrs_list PySem.F.slot_list_append PySem.F.type_list_append mt_append (pe_var (ixA_N hi) hv hd hcd) (pa_cons (pe_callX R D hrm hg ha hdb he hpl) pa_nil hs) hbase hfew hline hs hplain) hsw) fun H0 hs D σ H φ er l => by
    obtain ⟨a, h1, ⟨vs, h2, h3⟩, h4⟩ := er.own i xs hr
    refine ⟨_, h1, .inl ⟨rfl, vs, SqL.of h2⟩, ⟨H0, hs, er⟩, fun us H1 s1 r1 => ?_⟩
    show spE X.K Rl (us ++ []) H1 _ E
    rw [List.append_nil]
    obtain ⟨v0, nhs⟩ := ev H0 hs σ φ
    obtain ⟨w1, w2⟩ := (er.grow s1).data (noH_of nh) (noP nhs) v0
    refine ⟨rs.map Sl.arg, o, _, r1.arg, h, w1, fun r z v H2 n w rv => ?_, fun C z H2 n => hE C z H0 hs σ φ H2 fun b o e => n b o (visH_of (s1 b o (er.same b o e)) (v0 b o e))⟩
    obtain ⟨d, rfl⟩ := ho r z
    have er2 := w2 H2 n w
    obtain ⟨a', g1, ⟨ws, g2, g3⟩, _⟩ := er2.own i xs hr
    rw [h1] at g1
    cases g1
    exact ⟨a, ws, v, rfl, rfl, g2, by rw [g3.length]; exact hz, l.nx _ _ ⟨_, kk d z, φ, er2.write hr h1 g2 (g3.append (.one rv))⟩⟩
end
section
variable {P : Program} {w : World} {K : PySem.W.Frag} {mg : Str → Option Value} {base : Heap}
theorem ER.rebase {H0 H0' H : Hp} {hs' : List (V × Sl)} {ρ : List Sl} {σ : St} (er : ER K H0 [] ρ σ H) (s : Same H0' H) (no : ∀ r ∈ ρ, ∀ xs, r ≠ .o xs) (hh : ∀ p ∈ hs', RdR K H p.2 p.1) : ER K H0' hs' ρ σ H :=
  ⟨s, er.len, er.dat, er.lst, er.per, fun i xs q => absurd rfl (no _ (List.mem_of_getElem? q) xs), er.sepL, er.sepO, hh, fun i xs a q => absurd rfl (no _ (List.mem_of_getElem? q) xs)⟩
theorem Fun.okE {x qual : Str} {st : Stmt} {f : Addr} {fd : FuncData} {N ps : List Str} {k : Nat} {R : List Sl → Sl ⊕ Addr → Prop} (F : Fun K x qual st f fd) (S : FnScope N ps (defScope st)) (len : ∀ as o, R as o → as.length = ps.length ∧ ∀ q ∈ as, ∀ xs, q ≠ .o xs)
    (hbody : ∀ (cdv : Value) (A : Around) (outer : List Env) (s : Shared) (H : Hp) (E : XK) (as : List Sl) (o : Sl ⊕ Addr), Room k (A.deeper (envOfC qual (defScope st) s.heap.objs.size f cdv)) → R as o → (∀ C, o = .inr C → ∀ H0 (hs : List (V × Sl)) (σ : St), PhiE H H0 hs σ → ∀ H', Same H0 H' → E (.ref C) none H') →
      VX (cxOf (CX1 P w base) P w K mg base N qual (defScope st) f cdv A outer s H E) (PhiE H) (defBody st) (as ++ List.replicate (N.length - as.length) .un) fun t => ∃ d, o = .inl (.d d) ∧ t = .rt (.d d)) :
    FnOk P w K mg base (CX1 P w base) (k + 1) f fd ps (spE K R) := by
  refine F.okX S (fun vs H Q E h => ?_) (fun cdv A outer s H vs Q E hr h => ?_)
  · obtain ⟨as, o, ws, h1, h2, _⟩ := h
    rw [h1.length]; exact (len as o h2).1
  obtain ⟨as, o, ws, h1, h2, w1, q, qE⟩ := h
  refine ⟨_, hbody cdv A outer s H E as o hr h2 (fun C z H0 hs σ e H' s' => by obtain ⟨rfl, _⟩ := e; exact qE C z H' s'), visH H, ws.map (fun p => (p.1, Sl.d p.2)), ⟨rfl, fun p hp => ?_⟩, (er_start h1 (len as o h2).2).rebase visH_same (fun r hr xs => ?_) (fun p hp => ?_), ?_⟩
  · obtain ⟨u, _, rfl⟩ := List.mem_map.mp hp; exact ⟨u.2, rfl⟩
  · rcases List.mem_append.mp hr with m | m
    · exact (len as o h2).2 r m xs
    · rw [(List.mem_replicate.mp m).2]; intro z; cases z
  · obtain ⟨u, hu, rfl⟩ := List.mem_map.mp hp; exact w1 u hu
  · refine ⟨fun σ H' ⟨ρ, ⟨d, _, z⟩, _⟩ => (nomatch z), fun v H' ⟨r', ⟨d, zo, z⟩, e1, e2, e3⟩ => ?_, fun σ H' ⟨ρ, ⟨d, _, z⟩, _⟩ => (nomatch z), fun σ H' ⟨ρ, ⟨d, _, z⟩, _⟩ => (nomatch z)⟩
    cases z
    exact q _ zo v H' e1 (fun p hp => e3 (p.1, .d p.2) (List.mem_map.mpr ⟨p, hp, rfl⟩)) e2
end
end L2
namespace Wk
open PySem L2 PySem.Spec PyProof.Rows
def ROpnE (c : Cs) : List Sl → Sl ⊕ Addr → Prop := fun as o => ∃ v : MV, as = [.d (eitD c v)] ∧ o = .inl (.d (mvD c v))
def RTakE (c : Cs) : List Sl → Sl → Prop := fun as r => ∃ v : MV, as = [.d (outD v)] ∧ r = .d (eitD c v)
def RIsF : List Sl → Sl → Prop := fun as r => ∃ v : MV, as = [.d (outD v)] ∧ r = .d (.bool v.isL)
def RKnL (c : Cs) : List Sl → Sl → Prop := fun as r => ∃ ρ : MR, as = [.l (outKs ρ).reverse] ∧ r = .d (knD c ρ)
def RKnF (c : Cs) : List Sl → Sl → Prop := fun as r => ∃ ρ : MR, as = [.d (.list (outKs ρ).reverse)] ∧ r = .d (knD c ρ)
def RLookE (c : Cs) : List Sl → Sl → Prop := fun as r => ∃ v : MV, as = [.d (outD v)] ∧ (v.isC = true ∨ v.isL = true) ∧ r = .d (mvD c v)
end Wk
set_option Elab.async false
set_option linter.all false
set_option maxRecDepth 100000
set_option maxHeartbeats 4000000
namespace L2
open PySem PySem.Spec PyProof.Rows
section
variable {X : Cx} {ρ : List Sl} {e : Expr} {pos p : Pos}
theorem ve_makeG {k : Nat} {g : Addr} {fd : FuncData} {x : Str} {ps : List Str} {c : Wk.Cs} {v : Wk.MV} (hc : c = csOf X.K) (M : Mk X.K c.gv g) (F : FnOk X.prog X.w X.K X.mg X.base CX0 k g fd ps (spIni c.gv 1 Wk.mkGv)) (hb : Binds X.K fd ps []) (hm : X.mg x = some (.ref c.gv)) (hr : Room (k + 1) X.A)
    (ha : VE X ρ e (.d (Wk.gvO v))) (hg : Gl X x := by rfl) (hdb : (x == ("__debug__" : Str)) = false := by decide) (he : starEach [e] X.env = (false, eval e X.env) :: starEach [] X.env := by rfl) (hpl : (backTo pos (starEach [] X.env)).any (·.1) = false := by rfl) : VE X ρ (.Call (.Name x p) [e] [] pos) (.d (Wk.eitD c v)) :=
  PE.weak (pe_make M F hr hg hm hb .nil pass0 (vd_cons ha vd_nil he) hdb he hpl) fun σ H Q ⟨er, q⟩ => ⟨er, fun vs H1 s1 r1 x dx nx ndx ne => by
    obtain ⟨u, us, rfl, r2, r3⟩ := r1.split
    rw [Reps] at r3
    subst r3
    have s2 : Same H1 (upd (upd (upd H1 dx (.own x)) x (.ins c.gv dx [])) x (.ins c.gv dx (Wk.mkGv [u]))) := by
      rw [upd_twice]
      exact (same_upd ndx _).trans (same_upd (by rw [upd_ne (Ne.symm ne)]; exact nx) _)
    refine ⟨x, dx, [u], by rw [List.append_nil], rfl, upd_same, rfl, ?_⟩
    exact q _ _ (s1.trans s2) (Rep.eit_gv (K := X.K) (val := u) (u := .non) hc upd_same (Rep.mono (TupLe.of_same s2) _ _ r2) (.inl rfl))⟩
end
def NI2 (wa da : Addr) (H H' : Hp) : Prop := ∀ b o, b ≠ wa → b ≠ da → visH H b = some o → H' b = some o
def spPE (K : PySem.W.Frag) (R : PyData → PyData → List PyData → List PyData → (List PyData × List PyData) ⊕ Addr → Prop) : Sp := fun vs H Q E => ∃ v u wa da d1 d2 xs ys o, ∃ ws : List (V × PyData), vs = [v, u, .ref wa, .ref da] ∧ Rep K H d1 v ∧ Rep K H d2 u ∧ LsR K H wa xs ∧ LsR K H da ys ∧ wa ≠ da ∧ R d1 d2 xs ys o ∧ (∀ p ∈ ws, Rep K H p.2 p.1) ∧
  (∀ x, o = .inl x → ∀ H', NI2 wa da H H' → (∀ p ∈ ws, Rep K H' p.2 p.1) → LsR K H' wa x.1 → LsR K H' da x.2 → Q .non H') ∧ ∀ C, o = .inr C → ∀ H', NI2 wa da H H' → E (.ref C) none H'
def LentE (wa da : Addr) (H : Hp) : Hp → List (V × Sl) → St → Prop := fun H0 hs σ => (H0 = hid2 wa da (visH H) ∧ ∀ p ∈ hs, ∃ d, p.2 = .d d) ∧ σ[2]? = some (some (.ref wa)) ∧ σ[3]? = some (some (.ref da))
theorem LentE.kept {wa da : Addr} {H : Hp} {i : Nat} (h2 : i ≠ 2) (h3 : i ≠ 3) : Kept (LentE wa da H) i := fun H0 _ σ v ⟨a, b, c⟩ => ⟨a, by rw [List.getElem?_set, if_neg h2]; exact b, by rw [List.getElem?_set, if_neg h3]; exact c⟩
theorem LentE.ev (wa da : Addr) (H : Hp) : EvoOk (LentE wa da H) := fun H0 hs σ ⟨⟨e, h⟩, _⟩ => ⟨fun b o q => by rw [e] at q; exact (visH_inv (hid2_same b o q)).2, h⟩
theorem ni2_of {wa da : Addr} {H H' : Hp} (s : Same (hid2 wa da (visH H)) H') : NI2 wa da H H' := off2_of s
section
variable {K : PySem.W.Frag} {H H' H0 H0' : Hp} {hs hs' : List (V × Sl)} {ρ : List Sl} {σ : St}
theorem ER.rebase2 (er : ER K H0 [] ρ σ H) (s : Same H0' H) (n0 : ∀ (i : Nat) xs a, ρ[i]? = some (.o xs) → σ[i]? = some (some (.ref a)) → H0' a = none) (hh : ∀ p ∈ hs', RdR K H p.2 p.1) (hd : ∀ p ∈ hs', ∃ d, p.2 = .d d) : ER K H0' hs' ρ σ H :=
  ⟨s, er.len, er.dat, er.lst, er.per, fun i xs q => let ⟨a, h1, h2, _⟩ := er.own i xs q; ⟨a, h1, h2, n0 i xs a q h1⟩, er.sepL, er.sepO, hh, fun i xs a q1 q2 p hp zs hz => by obtain ⟨d, e⟩ := hd p hp; rw [e] at hz; cases hz⟩
theorem ER.dataP {i j : Nat} {wa da : Addr} {xs ys : List PyData} (er : ER K H0 hs ρ σ H) (nh : ∀ r ∈ ρ, ∀ P, r ≠ .h P) (nhs : ∀ p ∈ hs, ∃ d, p.2 = .d d) (v0 : ∀ b o, H0 b = some o → vis o = true) (hi : ρ[i]? = some (.o xs)) (hj : ρ[j]? = some (.o ys)) (hij : i ≠ j) (ha : σ[i]? = some (some (.ref wa))) (hb : σ[j]? = some (some (.ref da))) :
    (∀ p ∈ erW ((ρ.set i .un).set j .un) σ H hs, Rep K H p.2 p.1) ∧ ∀ H' xs' ys', NI2 wa da H H' → (∀ p ∈ erW ((ρ.set i .un).set j .un) σ H hs, Rep K H' p.2 p.1) → LsR K H' wa xs' → LsR K H' da ys' → ER K H0 hs ((ρ.set i (.o xs')).set j (.o ys')) σ H' := by
  have li : i < ρ.length := (List.getElem?_eq_some_iff.mp hi).1
  have lj : j < ρ.length := (List.getElem?_eq_some_iff.mp hj).1
  have nw : H0 wa = none := by obtain ⟨a, h1, _, h3⟩ := er.own i xs hi; rw [ha] at h1; cases h1; exact h3
  have nd : H0 da = none := by obtain ⟨a, h1, _, h3⟩ := er.own j ys hj; rw [hb] at h1; cases h1; exact h3
  have nwd : wa ≠ da := fun z => er.sepO i j wa xs ys hij hi hj ha (by rw [z]; exact hb)
  have oth : ∀ {k : Nat}, k ≠ i → k ≠ j → ∀ (s t : Sl), ((ρ.set i s).set j t)[k]? = ρ[k]? := fun {k} n1 n2 s t => by rw [List.getElem?_set_ne (Ne.symm n2), List.getElem?_set_ne (Ne.symm n1)]
  have at_ : ∀ {k : Nat} {r : Sl}, ρ[k]? = some r → r ≠ .un → ∃ v, σ[k]? = some (some v) ∧ RdR K H r v := fun {k r} h nu => by
    cases r with
    | un => exact absurd rfl nu
    | h P => exact absurd rfl (nh _ (List.mem_of_getElem? h) P)
    | d x => exact er.dat k x h
    | l xs => obtain ⟨a, h1, h2⟩ := er.lst k xs h; exact ⟨_, h1, a, rfl, h2⟩
    | o xs => obtain ⟨a, h1, h2, _⟩ := er.own k xs h; exact ⟨_, h1, a, rfl, h2⟩
  refine ⟨fun p hp => ?_, fun H' xs' ys' n w l1 l2 => ?_⟩
  · rcases List.mem_append.mp hp with hp | hp
    · obtain ⟨k, _, hp⟩ := List.mem_flatMap.mp hp
      by_cases kj : k = j
      · subst kj
        rw [set_eq (by simpa using lj)] at hp
        cases hp
      by_cases ki : k = i
      · subst ki
        rw [List.getElem?_set_ne (Ne.symm kj), set_eq li] at hp
        cases hp
      rw [oth ki kj] at hp
      cases q : ρ[k]? with
      | none => rw [q] at hp; cases hp
      | some r =>
        rw [q] at hp
        by_cases nu : r = .un
        · subst nu; cases hp
        · obtain ⟨v, h1, h2⟩ := at_ q nu
          rw [h1] at hp
          exact slW_rep h2 p hp
    · obtain ⟨u, hu, hp⟩ := List.mem_flatMap.mp hp
      exact slW_rep (er.held u hu) p hp
  · have lst' : ∀ {a : Addr} {vs : List V}, a ≠ wa → a ≠ da → H a = some (.lst vs) → H' a = some (.lst vs) := fun n1 n2 e => n _ _ n1 n2 (visH_of e rfl)
    have sl : ∀ {k : Nat} {r : Sl}, k ≠ i → k ≠ j → ρ[k]? = some r → r ≠ .un → ∃ v, σ[k]? = some (some v) ∧ RdR K H' r v := fun {k r} n1 n2 h nu => by
      obtain ⟨v, h1, h2⟩ := at_ h nu
      refine ⟨v, h1, ?_⟩
      have ww : ∀ p ∈ slW (some (some v)) H r, Rep K H' p.2 p.1 := fun p hp => w p (erW_slot (i := k) (r := r) (by rw [oth n1 n2]; exact h) (by rw [h1]; exact hp))
      cases r with
      | un => trivial
      | h P => exact absurd rfl (nh _ (List.mem_of_getElem? h) P)
      | d x => exact ww (v, x) List.mem_cons_self
      | l zs =>
        obtain ⟨a, rfl, vs, e, q⟩ := h2
        simp only [slW, e] at ww
        refine ⟨a, rfl, vs, lst' (fun z => ?_) (fun z => ?_) e, Reps.ofZip q.length ww⟩
        · subst z; exact er.sepL i k a xs zs hi h ha h1
        · subst z; exact er.sepL j k a ys zs hj h hb h1
      | o zs =>
        obtain ⟨a, rfl, vs, e, q⟩ := h2
        simp only [slW, e] at ww
        refine ⟨a, rfl, vs, lst' (fun z => ?_) (fun z => ?_) e, Reps.ofZip q.length ww⟩
        · subst z; exact er.sepO i k a xs zs (Ne.symm n1) hi h ha h1
        · subst z; exact er.sepO j k a ys zs (Ne.symm n2) hj h hb h1
    have gi : ((ρ.set i (.o xs')).set j (.o ys'))[i]? = some (.o xs') := by rw [List.getElem?_set_ne (Ne.symm hij)]; exact set_eq li
    have gj : ((ρ.set i (.o xs')).set j (.o ys'))[j]? = some (.o ys') := set_eq (by simpa using lj)
    have back : ∀ {k : Nat} {r : Sl}, ((ρ.set i (.o xs')).set j (.o ys'))[k]? = some r → (k = i ∧ r = .o xs') ∨ (k = j ∧ r = .o ys') ∨ (k ≠ i ∧ k ≠ j ∧ ρ[k]? = some r) := fun {k r} h => by
      by_cases ki : k = i
      · subst ki; rw [gi] at h; cases h; exact .inl ⟨rfl, rfl⟩
      by_cases kj : k = j
      · subst kj; rw [gj] at h; cases h; exact .inr (.inl ⟨rfl, rfl⟩)
      rw [oth ki kj] at h
      exact .inr (.inr ⟨ki, kj, h⟩)
    have oo : ∀ {k : Nat} {zs : List PyData}, ((ρ.set i (.o xs')).set j (.o ys'))[k]? = some (.o zs) → ∃ zs', ρ[k]? = some (.o zs') := fun {k zs} h => by
      rcases back h with ⟨rfl, _⟩ | ⟨rfl, _⟩ | ⟨_, _, h⟩
      · exact ⟨_, hi⟩
      · exact ⟨_, hj⟩
      · exact ⟨_, h⟩
    refine ⟨fun b o e => n b o (fun z => by rw [z, nw] at e; cases e) (fun z => by rw [z, nd] at e; cases e) (visH_of (er.same b o e) (v0 b o e)), by simpa using er.len, fun k x q => ?_, fun k zs q => ?_, fun k P q => ?_, fun k zs q => ?_, fun k m a zs us q1 q2 q3 => ?_, fun k m a zs us nkm q1 q2 q3 => ?_, fun p hp => ?_, fun k zs a q1 q2 p hp us hu => ?_⟩
    · rcases back q with ⟨_, z⟩ | ⟨_, z⟩ | ⟨n1, n2, q⟩
      · cases z
      · cases z
      · exact sl n1 n2 q (fun z => nomatch z)
    · rcases back q with ⟨_, z⟩ | ⟨_, z⟩ | ⟨n1, n2, q⟩
      · cases z
      · cases z
      · obtain ⟨v, h1, a, rfl, h2⟩ := sl n1 n2 q (fun z => nomatch z); exact ⟨a, h1, h2⟩
    · rcases back q with ⟨_, z⟩ | ⟨_, z⟩ | ⟨n1, n2, q⟩
      · cases z
      · cases z
      · exact absurd rfl (nh _ (List.mem_of_getElem? q) P)
    · rcases back q with ⟨rfl, z⟩ | ⟨rfl, z⟩ | ⟨n1, n2, q⟩
      · cases z; exact ⟨wa, ha, l1, nw⟩
      · cases z; exact ⟨da, hb, l2, nd⟩
      · obtain ⟨v, h1, a, rfl, h2⟩ := sl n1 n2 q (fun z => nomatch z)
        obtain ⟨a', g1, _, g3⟩ := er.own k zs q
        rw [h1] at g1
        cases g1
        exact ⟨a, h1, h2, g3⟩
    · obtain ⟨zs', e1⟩ := oo q1
      rcases back q2 with ⟨_, z⟩ | ⟨_, z⟩ | ⟨_, _, q2⟩
      · cases z
      · cases z
      · exact er.sepL k m a zs' us e1 q2 q3
    · obtain ⟨zs', e1⟩ := oo q1
      obtain ⟨us', e2⟩ := oo q2
      exact er.sepO k m a zs' us' nkm e1 e2 q3
    · obtain ⟨d, hd⟩ := nhs p hp
      have := w (p.1, d) (List.mem_append_right _ (List.mem_flatMap.mpr ⟨p, hp, by rw [hd]; exact List.mem_cons_self⟩))
      rw [hd]
      exact this
    · obtain ⟨d, hd⟩ := nhs p hp
      rw [hd] at hu
      cases hu
end
section
variable {P : Program} {w : World} {K : PySem.W.Frag} {mg : Str → Option Value} {base : Heap}
theorem Fun.okPE {x qual : Str} {st : Stmt} {f : Addr} {fd : FuncData} {N ps : List Str} {k : Nat} {R : PyData → PyData → List PyData → List PyData → (List PyData × List PyData) ⊕ Addr → Prop} (F : Fun K x qual st f fd) (S : FnScope N ps (defScope st)) (hN : 4 ≤ N.length) (hp : ps.length = 4)
    (hbody : ∀ (cdv : Value) (A : Around) (outer : List Env) (s : Shared) (H : Hp) (E : XK) (wa da : Addr) (d1 d2 : PyData) (xs ys : List PyData) (o : (List PyData × List PyData) ⊕ Addr), Room k (A.deeper (envOfC qual (defScope st) s.heap.objs.size f cdv)) → R d1 d2 xs ys o →
      (∀ C, o = .inr C → ∀ H0 (hs : List (V × Sl)) (σ : St), LentE wa da H H0 hs σ → ∀ H', Same H0 H' → E (.ref C) none H') →
      VX (cxOf (CX1 P w base) P w K mg base N qual (defScope st) f cdv A outer s H E) (LentE wa da H) (defBody st) ([.d d1, .d d2, .o xs, .o ys] ++ List.replicate (N.length - 4) .un) fun t => ∃ x ρ, o = .inl x ∧ t = .nx ρ ∧ ρ[2]? = some (.o x.1) ∧ ρ[3]? = some (.o x.2)) :
    FnOk P w K mg base (CX1 P w base) (k + 1) f fd ps (spPE K R) := by
  refine F.okX S (fun vs H Q E h => ?_) (fun cdv A outer s H vs Q E hr h => ?_)
  · obtain ⟨v, u, wa, da, d1, d2, xs, ys, o, ws, rfl, _⟩ := h
    rw [hp]; rfl
  obtain ⟨v, u, wa, da, d1, d2, xs, ys, o, ws, rfl, r1, r2, l1, l2, ne, hR, w1, q, qE⟩ := h
  have er0 := er_start2 (K := K) (H := H) hN r1 r2 l1 l2 ne
  refine ⟨_, hbody cdv A outer s H E wa da d1 d2 xs ys o hr hR (fun C z H0 hs σ e H' s' => by obtain ⟨⟨rfl, _⟩, _⟩ := e; exact qE C z H' (ni2_of s')), hid2 wa da (visH H), ws.map (fun p => (p.1, Sl.d p.2)), ⟨⟨rfl, fun p hp => ?_⟩, rfl, rfl⟩, er0.rebase2 (fun b o e => visH_same b o (hid2_same b o e)) (fun i zs a q1 q2 => ?_) (fun p hp => ?_) (fun p hp => ?_), ?_⟩
  · obtain ⟨u, _, rfl⟩ := List.mem_map.mp hp; exact ⟨u.2, rfl⟩
  · obtain ⟨b, g1, _, g3⟩ := er0.own i zs q1
    rw [q2] at g1
    cases g1
    unfold hid2 at g3 ⊢
    by_cases z : a = wa ∨ a = da
    · rw [if_pos z]
    · rw [if_neg z] at g3 ⊢; exact visH_none g3
  · obtain ⟨u, hu, rfl⟩ := List.mem_map.mp hp; exact w1 u hu
  · obtain ⟨u, _, rfl⟩ := List.mem_map.mp hp; exact ⟨u.2, rfl⟩
  refine ⟨fun σ H' ⟨ρ, ⟨x, ρ', zo, z, z1, z2⟩, ⟨_, f2, f3⟩, e⟩ => ?_, fun v H' ⟨r', ⟨x, ρ', zo, z, _⟩, _⟩ => ?_, fun σ H' ⟨ρ, ⟨x, ρ', zo, z, _⟩, _⟩ => ?_, fun σ H' ⟨ρ, ⟨x, ρ', zo, z, _⟩, _⟩ => ?_⟩
  · cases z
    obtain ⟨a, g1, g2, _⟩ := e.own 2 _ z1
    rw [f2] at g1; cases g1
    obtain ⟨b, k1, k2, _⟩ := e.own 3 _ z2
    rw [f3] at k1; cases k1
    exact q x zo H' (ni2_of e.same) (fun p hp => e.held (p.1, .d p.2) (List.mem_map.mpr ⟨p, hp, rfl⟩)) g2 k2
  · cases z
  · cases z
  · cases z
end
section
variable {X : Cx} {Φ : Hp → List (V × Sl) → St → Prop} {E : XK} {ρ : List Sl} {a b : Expr} {pos p p2 p3 cpos : Pos} {Q : Out → Prop} {rest : List Stmt}
theorem vx_callPE {k i j : Nat} {f x y : Str} {ps : List Str} {xs ys : List PyData} {d1 d2 : PyData} {o : (List PyData × List PyData) ⊕ Addr} {R : PyData → PyData → List PyData → List PyData → (List PyData × List PyData) ⊕ Addr → Prop} (Rz : Raising X E) (D : DefX X.prog X.w X.K X.mg X.base k f ps (spPE X.K R)) (hr : Room k X.A) (ev : EvoOk Φ)
    (ha : VE X ρ a (.d d1)) (hb : VE X ρ b (.d d2)) (hi : ixA x X.N 0 = some i) (hj : ixA y X.N 0 = some j) (hij : i ≠ j) (hx : ρ[i]? = some (.o xs)) (hy : ρ[j]? = some (.o ys)) (h : R d1 d2 xs ys o) (hE : ∀ C, o = .inr C → ∀ H0 hs σ, Φ H0 hs σ → ∀ H', Same H0 H' → E (.ref C) none H')
    (kk : ∀ z, o = .inl z → VX X Φ rest ((ρ.set i (.o z.1)).set j (.o z.2)) Q) (nh : noH ρ = true := by rfl)
    (hvx : Vis X.env.scope x := by first | exact Or.inl rfl | exact Or.inr (Or.inl rfl) | exact Or.inr (Or.inr rfl)) (hdx : (x == ("__debug__" : Str)) = false := by decide) (hcx : (x == ("__classdict__" : Str)) = false := by decide)
    (hvy : Vis X.env.scope y := by first | exact Or.inl rfl | exact Or.inr (Or.inl rfl) | exact Or.inr (Or.inr rfl)) (hdy : (y == ("__debug__" : Str)) = false := by decide) (hcy : (y == ("__classdict__" : Str)) = false := by decide)
    (hg : Gl X f := by rfl) (hdb : (f == ("__debug__" : Str)) = false := by decide) (h1 : starEach [a, b, .Name x p2, .Name y p3] X.env = (false, eval a X.env) :: starEach [b, .Name x p2, .Name y p3] X.env := by rfl)
    (h2 : starEach [b, .Name x p2, .Name y p3] X.env = (false, eval b X.env) :: starEach [.Name x p2, .Name y p3] X.env := by rfl) (h3 : starEach [.Name x p2, .Name y p3] X.env = (false, eval (.Name x p2) X.env) :: starEach [.Name y p3] X.env := by rfl)
    (h4 : starEach [.Name y p3] X.env = (false, eval (.Name y p3) X.env) :: starEach [] X.env := by rfl) (hpl : (backTo cpos (starEach [b, .Name x p2, .Name y p3] X.env)).any (·.1) = false := by rfl)
    (hsw : swapsWith (.Call (.Name f p) [a, b, .Name x p2, .Name y p3] [] cpos) none pos.line X.env = pure false := by rfl) :
    VX X Φ (.Expr (.Call (.Name f p) [a, b, .Name x p2, .Name y p3] [] cpos) pos :: rest) ρ Q :=
  vx_of (ps_expr (pe_callX Rz D hr hg (pa_cons ha (pa_cons hb (pa_cons (pe_var (ixA_N hi) hvx hdx hcx) (pa_cons (pe_var (ixA_N hj) hvy hdy hcy) pa_nil h4) h3) h2) h1) hdb h1 hpl) hsw) fun H0 hs D σ H φ er l => by
    refine ⟨⟨H0, hs, er⟩, fun v H1 s1 r1 => ⟨⟨H0, hs, er.grow s1⟩, fun u H2 s2 r2 => ?_⟩⟩
    have er2 := (er.grow s1).grow s2
    obtain ⟨wa, g1, l1, _⟩ := er2.own i xs hx
    obtain ⟨da, g2, l2, _⟩ := er2.own j ys hy
    have ne : wa ≠ da := fun z => er2.sepO i j wa xs ys hij hx hy g1 (by rw [z]; exact g2)
    obtain ⟨v0, nhs⟩ := ev H0 hs σ φ
    obtain ⟨w1, w2⟩ := er2.dataP (noH_of nh) nhs v0 hx hy hij g1 g2
    have nw : H0 wa = none := by obtain ⟨a, q1, _, q3⟩ := er2.own i xs hx; rw [g1] at q1; cases q1; exact q3
    have nd : H0 da = none := by obtain ⟨a, q1, _, q3⟩ := er2.own j ys hy; rw [g2] at q1; cases q1; exact q3
    refine ⟨_, g1, _, g2, ?_⟩
    exact ⟨v, u, wa, da, d1, d2, xs, ys, o, _, rfl, Rep.mono (TupLe.of_same s2) _ _ r1, r2, l1, l2, ne, h, w1, fun z e H3 n w k1 k2 => l.nx _ _ ⟨_, kk z e, φ, w2 H3 _ _ n w k1 k2⟩,
      fun C e H3 n => hE C e H0 hs σ φ H3 fun b o q => n b o (fun z => by rw [z, nw] at q; cases q) (fun z => by rw [z, nd] at q; cases q) (visH_of (er2.same b o q) (v0 b o q))⟩
end
end L2
namespace Wk
open PySem L2 PySem.Spec PyProof.Rows
end Wk
set_option Elab.async false
set_option linter.all false
set_option maxRecDepth 100000
set_option maxHeartbeats 4000000
namespace Wk
open PySem L2 PySem.Spec PyProof.Rows
theorem mtD_inj : ∀ (a b : MT), mtD a = mtD b → a = b := by
  intro a
  induction a with
  | num i => intro b h; cases b <;> simp [mtD] at h <;> first | (exact absurd h (by decide)) | (exact absurd h.1 (by decide)) | rw [h]
  | truth i => intro b h; cases b <;> simp [mtD] at h <;> first | (exact absurd h (by decide)) | (exact absurd h.1 (by decide)) | rw [h]
  | nil k => intro b h; cases b <;> simp [mtD] at h <;> first | (exact absurd h (by decide)) | (exact absurd h.1 (by decide)) | rw [Subtype.ext h]
  | name i => intro b h; cases b <;> simp [mtD] at h <;> first | (exact absurd h (by decide)) | (exact absurd h.1 (by decide)) | rw [h]
  | lam x k b ih => intro b h; cases b <;> simp [mtD] at h <;> first | (exact absurd h (by decide)) | (exact absurd h.1 (by decide)) | (obtain ⟨⟨h1, h2⟩, h3⟩ := h; rw [h1, Subtype.ext h2, ih _ h3])
  | add a b h1 h2 => intro b h; cases b <;> simp [mtD] at h <;> first | (exact absurd h (by decide)) | (exact absurd h.1 (by decide)) | rw [h1 _ h.1, h2 _ h.2]
  | less a b h1 h2 => intro b h; cases b <;> simp [mtD] at h <;> first | (exact absurd h (by decide)) | (exact absurd h.1 (by decide)) | rw [h1 _ h.1, h2 _ h.2]
  | front a b h1 h2 => intro b h; cases b <;> simp [mtD] at h <;> first | (exact absurd h (by decide)) | (exact absurd h.1 (by decide)) | rw [h1 _ h.1, h2 _ h.2]
  | call a b h1 h2 => intro b h; cases b <;> simp [mtD] at h <;> first | (exact absurd h (by decide)) | (exact absurd h.1 (by decide)) | rw [h1 _ h.1, h2 _ h.2]
  | cond a b c h1 h2 h3 => intro b h; cases b <;> simp [mtD] at h <;> first | (exact absurd h (by decide)) | (exact absurd h.1 (by decide)) | rw [h1 _ h.1, h2 _ h.2.1, h3 _ h.2.2]
  | case k x y a b c h1 h2 h3 => intro b h; cases b <;> simp [mtD] at h <;> first | (exact absurd h (by decide)) | (exact absurd h.1 (by decide)) | (obtain ⟨⟨e1, e2, e3⟩, e4, e5, e6⟩ := h; rw [Subtype.ext e1, e2, e3, h1 _ e4, h2 _ e5, h3 _ e6])
theorem mtD_dless : ∀ a : MT, dless (mtD a) = true := by
  intro a
  induction a with
  | nil k => simp [mtD, dless, dlesss, k.2]
  | lam x k b ih => simp [mtD, dless, dlesss, k.2, ih]
  | case k x y a b c h1 h2 h3 => simp [mtD, dless, dlesss, k.2, h1, h2, h3]
  | _ => simp [mtD, dless, dlesss, *]
theorem dlesss_append (xs ys : List PyData) : dlesss (xs ++ ys) = (dlesss xs && dlesss ys) := by
  induction xs with
  | nil => simp [dlesss]
  | cons x xs ih => simp [dlesss, ih, Bool.and_assoc]
theorem dlesss_reverse (xs : List PyData) : dlesss xs.reverse = dlesss xs := by
  induction xs with
  | nil => rfl
  | cons x xs ih => rw [List.reverse_cons, dlesss_append, ih]; simp [dlesss, Bool.and_comm]
mutual
theorem outD_dless : ∀ v : MV, dless (outD v) = true
  | .int _ => by simp [outD, dless]
  | .bool _ => by simp [outD, dless]
  | .chain xs => by simp only [outD, dless]; exact outDs_dless xs
  | .clos x b ρ => by
    have := outKs_dless ρ
    simp [outD, dless, dlesss, mtD_dless, dlesss_reverse, this]
theorem outDs_dless : ∀ xs : List MV, dlesss (outDs xs) = true
  | [] => rfl
  | x :: xs => by rw [outDs, dlesss, outD_dless x, outDs_dless xs]; rfl
theorem outKs_dless : ∀ ρ : List (Str × MV), dlesss (outKs ρ) = true
  | [] => rfl
  | (x, v) :: r => by rw [outKs, dlesss]; simp [dless, dlesss, outD_dless v, outKs_dless r]
end
mutual
theorem outD_inj : ∀ (v u : MV), outD v = outD u → v = u
  | .int i, u, h => by cases u <;> simp [outD] at h; rw [h]
  | .bool i, u, h => by cases u <;> simp [outD] at h; rw [h]
  | .chain xs, u, h => by
    cases u <;> simp [outD] at h
    rw [outDs_inj xs _ h]
  | .clos x b ρ, u, h => by
    cases u with
    | clos x' b' ρ' =>
      simp [outD] at h
      rw [h.1, mtD_inj _ _ h.2.1, outKs_inj ρ ρ' h.2.2]
    | _ => simp [outD] at h
theorem outDs_inj : ∀ (xs ys : List MV), outDs xs = outDs ys → xs = ys
  | [], ys, h => by cases ys <;> simp [outDs] at h; rfl
  | x :: xs, ys, h => by
    cases ys with
    | nil => simp [outDs] at h
    | cons y ys => simp [outDs] at h; rw [outD_inj x y h.1, outDs_inj xs ys h.2]
theorem outKs_inj : ∀ (xs ys : List (Str × MV)), outKs xs = outKs ys → xs = ys
  | [], ys, h => by
    cases ys with
    | nil => rfl
    | cons y ys => obtain ⟨a, b⟩ := y; simp [outKs] at h
  | (a, b) :: xs, ys, h => by
    cases ys with
    | nil => simp [outKs] at h
    | cons y ys => obtain ⟨a', b'⟩ := y; simp [outKs] at h; rw [h.1.1, outD_inj b b' h.1.2, outKs_inj xs ys h.2]
end
theorem gvO_out {K : PySem.W.Frag} {H : Hp} {x : MV} {v : V} (h : Rep K H (gvO x) v) : gvO x = outD x ∧ (x.isC = true ∨ x.isL = true) := by
  cases x with
  | int i =>
    have h : Rep K H (.dict []) v := h
    rw [Rep] at h
    rcases h with ⟨_, _, _, _, _, _, _, h⟩ | h
    · rw [RepF] at h; cases h
    · rw [RepG] at h; exact h.elim
  | bool i =>
    have h : Rep K H (.dict []) v := h
    rw [Rep] at h
    rcases h with ⟨_, _, _, _, _, _, _, h⟩ | h
    · rw [RepF] at h; cases h
    · rw [RepG] at h; exact h.elim
  | chain xs => exact ⟨rfl, .inl rfl⟩
  | clos x b ρ => exact ⟨rfl, .inr rfl⟩
end Wk
namespace L2
open PySem PySem.Spec PyProof.Rows
structure Uq (K : PySem.W.Frag) (H : Hp) : Prop where
  tt : ∀ a xs ys, SqT K H a xs → SqT K H a ys → xs = ys
  tl : ∀ a xs o ys, SqT K H a xs → H a = some (.frz o (.lst ys)) → False
section
variable {X : Cx} {pins : List (Addr × Obj)} {σ : St} {H : Hp} {s : Shared}
theorem Inv.uq (I : Inv X pins σ H s) : Uq X.K H := ⟨fun a xs ys h h' => I.tuple_inj h h', fun a xs o ys h h' => by
  obtain ⟨its, _, ⟨ob, e, c, _⟩, _⟩ := I.tuple h
  obtain ⟨its', _, ⟨ob', n, e', c', _⟩, _⟩ := I.list (.inl (.inr ⟨o, h'⟩))
  rw [e] at e'
  cases e'
  rw [c] at c'
  simp at c'⟩
theorem pe_uqP {e : Expr} {t : TE} (h : PE X e t) : PE X e (fun σ H Q => t σ H (fun v H' => Uq X.K H' → Q v H')) := fun pins s σ H Q I q =>
  thn (h pins s σ H _ I q) fun u s1 ⟨v, H1, I1, r1, q1⟩ => ⟨v, H1, I1, r1, q1 I1.uq⟩
end
section
variable {K : PySem.W.Frag} {H H' : Hp}
mutual
theorem Rep.uniq (u : Uq K H) : ∀ (d d' : PyData) (v : V), dless d = true → dless d' = true → Rep K H d v → Rep K H d' v → d = d'
  | .none, d', v, _, n', h, h' => by
    rw [Rep] at h
    subst h
    cases d' with
    | none => rfl
    | bool b => have z := h'.is_bool; cases z
    | int b => have z := h'.is_int; cases z
    | str b => have z := h'.is_str; cases z
    | tuple _ => obtain ⟨_, _, z, _⟩ := h'.untuple; cases z
    | list _ => obtain ⟨_, _, _, z, _⟩ := Rep.unlist h'; cases z
    | dict _ => rw [dless] at n'; cases n'
  | .bool b, d', v, _, n', h, h' => by
    rw [Rep] at h
    subst h
    cases d' with
    | none => have z := h'.is_non; cases z
    | bool b => have z := h'.is_bool; cases z; rfl
    | int b => have z := h'.is_int; cases z
    | str b => have z := h'.is_str; cases z
    | tuple _ => obtain ⟨_, _, z, _⟩ := h'.untuple; cases z
    | list _ => obtain ⟨_, _, _, z, _⟩ := Rep.unlist h'; cases z
    | dict _ => rw [dless] at n'; cases n'
  | .int b, d', v, _, n', h, h' => by
    rw [Rep] at h
    subst h
    cases d' with
    | none => have z := h'.is_non; cases z
    | bool b => have z := h'.is_bool; cases z
    | int b => have z := h'.is_int; cases z; rfl
    | str b => have z := h'.is_str; cases z
    | tuple _ => obtain ⟨_, _, z, _⟩ := h'.untuple; cases z
    | list _ => obtain ⟨_, _, _, z, _⟩ := Rep.unlist h'; cases z
    | dict _ => rw [dless] at n'; cases n'
  | .str b, d', v, _, n', h, h' => by
    rw [Rep] at h
    subst h
    cases d' with
    | none => have z := h'.is_non; cases z
    | bool b => have z := h'.is_bool; cases z
    | int b => have z := h'.is_int; cases z
    | str b => have z := h'.is_str; cases z; rfl
    | tuple _ => obtain ⟨_, _, z, _⟩ := h'.untuple; cases z
    | list _ => obtain ⟨_, _, _, z, _⟩ := Rep.unlist h'; cases z
    | dict _ => rw [dless] at n'; cases n'
  | .tuple ds, d', v, n, n', h, h' => by
    rw [Rep] at h
    obtain ⟨a, vs, rfl, e2, e3⟩ := h
    cases d' with
    | tuple ds' =>
      rw [Rep] at h'
      obtain ⟨a', vs', z, g2, g3⟩ := h'
      cases z
      obtain rfl := u.tt a _ _ e2 g2
      rw [dless] at n n'
      rw [Reps.uniq u ds ds' vs n n' e3 g3]
    | list ds' =>
      rw [Rep] at h'
      obtain ⟨a', o, vs', z, g2, g3⟩ := h'
      cases z
      exact (u.tl a _ _ _ e2 g2).elim
    | dict => rw [dless] at n'; cases n'
    | _ => rw [Rep] at h'; cases h'
  | .list ds, d', v, n, n', h, h' => by
    rw [Rep] at h
    obtain ⟨a, o, vs, rfl, e2, e3⟩ := h
    cases d' with
    | tuple ds' =>
      rw [Rep] at h'
      obtain ⟨a', vs', z, g2, g3⟩ := h'
      cases z
      exact (u.tl a _ _ _ g2 e2).elim
    | list ds' =>
      rw [Rep] at h'
      obtain ⟨a', o', vs', z, g2, g3⟩ := h'
      cases z
      rw [e2] at g2
      cases g2
      rw [dless] at n n'
      rw [Reps.uniq u ds ds' vs n n' e3 g3]
    | dict => rw [dless] at n'; cases n'
    | _ => rw [Rep] at h'; cases h'
  | .dict _, d', v, n, n', h, h' => by rw [dless] at n; cases n
theorem Reps.uniq (u : Uq K H) : ∀ (ds ds' : List PyData) (vs : List V), dlesss ds = true → dlesss ds' = true → Reps K H ds vs → Reps K H ds' vs → ds = ds'
  | [], ds', vs, _, _, h, h' => by
    rw [Reps] at h
    subst h
    cases ds' with
    | nil => rfl
    | cons d ds' => obtain ⟨_, _, z, _⟩ := h'.split; cases z
  | d :: ds, ds', vs, n, n', h, h' => by
    obtain ⟨v, r, rfl, e1, e2⟩ := h.split
    cases ds' with
    | nil => rw [Reps] at h'; cases h'
    | cons d' ds' =>
      obtain ⟨v', r', z, g1, g2⟩ := h'.split
      cases z
      rw [dlesss, Bool.and_eq_true] at n n'
      rw [Rep.uniq u d d' v n.1 n'.1 e1 g1, Reps.uniq u ds ds' r n.2 n'.2 e2 g2]
end
theorem gv_uniq (u : Uq K H) {x y : Wk.MV} {v : V} (h : Rep K H (Wk.gvO x) v) (h' : Rep K H (Wk.gvO y) v) : x = y := by
  rw [(Wk.gvO_out h).1] at h
  rw [(Wk.gvO_out h').1] at h'
  exact Wk.outD_inj x y (Rep.uniq u _ _ v (Wk.outD_dless x) (Wk.outD_dless y) h h')
structure Opn (K : PySem.W.Frag) (H H' : Hp) (x : Wk.MV) (g : Addr) (y : V) : Prop where
  uq : Uq K H
  was : ∃ dx val, H g = some (.ins (csOf K).gv dx [(("value" : Str), val), (("inside" : Str), .non)]) ∧ Rep K H (Wk.gvO x) val ∧ H' g = some (.ins (csOf K).gv dx [(("value" : Str), val), (("inside" : Str), y)])
  rest : ∀ b, b ≠ g → H' b = H b
  ins : Rep K H (Wk.mvD (csOf K) x) y
theorem Opn.tup {x g y} (o : Opn K H H' x g y) {a : Addr} {vs : List V} (h : SqT K H a vs) : SqT K H' a vs := by
  obtain ⟨dx, val, e, _⟩ := o.was
  rcases h with (h | ⟨p, h⟩) | h
  · exact .inl (.inl (by rw [o.rest a (fun z => by rw [z, e] at h; cases h)]; exact h))
  · exact .inl (.inr ⟨p, by rw [o.rest a (fun z => by rw [z, e] at h; cases h)]; exact h⟩)
  · exact .inr h
mutual
theorem Rep.opens {x g y} (o : Opn K H H' x g y) : ∀ (d : PyData) (v : V), Rep K H d v → Rep K H' d v
  | .none, v, h => by rw [Rep] at h ⊢; exact h
  | .bool _, v, h => by rw [Rep] at h ⊢; exact h
  | .int _, v, h => by rw [Rep] at h ⊢; exact h
  | .str _, v, h => by rw [Rep] at h ⊢; exact h
  | .tuple ds, v, h => by
    rw [Rep] at h ⊢
    obtain ⟨a, vs, e1, e2, e3⟩ := h
    exact ⟨a, vs, e1, o.tup e2, Reps.opens o ds vs e3⟩
  | .list ds, v, h => by
    rw [Rep] at h ⊢
    obtain ⟨a, p, vs, e1, e2, e3⟩ := h
    obtain ⟨dx, val, e, _⟩ := o.was
    exact ⟨a, p, vs, e1, by rw [o.rest a (fun z => by rw [z, e] at e2; cases e2)]; exact e2, Reps.opens o ds vs e3⟩
  | .dict kvs, v, h => by
    rw [Rep] at h ⊢
    obtain ⟨dx0, val0, e0, _⟩ := o.was
    rcases h with ⟨a, C, dx, fs, e1, e2, e3, e4⟩ | h
    · refine .inl ⟨a, C, dx, fs, e1, ?_, e3, RepF.opens o kvs _ e4⟩
      rw [o.rest a (fun z => by rw [z, e0] at e2; cases e2; cases e3)]
      exact e2
    · exact .inr (RepG.opens o kvs v h)
theorem Reps.opens {x g y} (o : Opn K H H' x g y) : ∀ (ds : List PyData) (vs : List V), Reps K H ds vs → Reps K H' ds vs
  | [], vs, h => by rw [Reps] at h ⊢; exact h
  | d :: ds, vs, h => by
    rw [Reps] at h ⊢
    obtain ⟨v, r, e1, e2, e3⟩ := h
    exact ⟨v, r, e1, Rep.opens o d v e2, Reps.opens o ds r e3⟩
theorem RepF.opens {x g y} (o : Opn K H H' x g y) : ∀ (ds : List (PyData × PyData)) (vs : List (Str × V)), RepF K H ds vs → RepF K H' ds vs
  | [], vs, h => by rw [RepF] at h ⊢; exact h
  | (k, d) :: ds, vs, h => by
    rw [RepF] at h ⊢
    obtain ⟨g, v, r, e1, e2, e3, e4⟩ := h
    exact ⟨g, v, r, e1, e2, Rep.opens o d v e3, RepF.opens o ds r e4⟩
theorem RepG.opens {x g y} (o : Opn K H H' x g y) : ∀ (ds : List (PyData × PyData)) (v : V), RepG K H ds v → RepG K H' ds v
  | [], v, h => by rw [RepG] at h; exact h.elim
  | (k, d) :: ds, v, h => by
    rw [RepG] at h ⊢
    obtain ⟨h0, h⟩ := h
    refine ⟨h0, ?_⟩
    rcases h with h | ⟨a, C, dx, val, w, e1, e2, e3, e4⟩
    · exact .inl (Rep.opens o d v h)
    · by_cases hag : a = g
      · subst hag
        obtain ⟨dx0, val0, g1, g2, g3⟩ := o.was
        rw [g1] at e2
        injection e2 with e2
        injection e2 with c1 c2 c3
        injection c3 with c4 c5
        injection c4 with _ c4
        injection c5 with c5 _
        injection c5 with _ c5
        subst c1 c2 c4 c5
        obtain ⟨⟨x', ex⟩, _⟩ := h0
        have ed : d = Wk.mvD (csOf K) x' := by injection ex with ex _; injection ex
        have es : ds = [(.str "", .int ((csOf K).gv : Nat)), (.str "!", Wk.gvO x')] := by injection ex
        have e3' := e3
        rw [es, RepF] at e3'
        obtain ⟨_, _, _, f1, _, _, f4⟩ := e3'
        cases f1
        rw [RepF] at f4
        obtain ⟨_, _, _, f1, _, f3, _⟩ := f4
        cases f1
        have exx : x' = x := gv_uniq o.uq f3 g2
        refine .inr ⟨a, _, dx0, val0, y, e1, g3, RepF.opens o ds _ e3, .inr (Rep.opens o d y ?_)⟩
        rw [ed, exx]
        exact o.ins
      · refine .inr ⟨a, C, dx, val, w, e1, by rw [o.rest a hag]; exact e2, RepF.opens o ds _ e3, ?_⟩
        rcases e4 with e4 | e4
        · exact .inl e4
        · exact .inr (Rep.opens o d w e4)
end
end
section
variable {X : Cx} {ρ : List Sl} {tg iter e : Expr} {xs : List PyData}
theorem itok_frzE {K : PySem.W.Frag} {a : Addr} : ItOk K (Itl K a) (.ref a, .d (.list xs)) xs where
  go := fun i H h hi => by
    obtain ⟨b, o, vs, e, h1, h2⟩ := Rep.unlist h
    cases e
    have hv : i < vs.length := by rw [h2.length]; exact hi
    exact ⟨vs, vs[i], .inl (.inr ⟨o, h1⟩), List.getElem?_eq_getElem hv⟩
  yld := fun i H v H' h hi ⟨e2, y⟩ => by
    obtain ⟨b, o, vs, e, h1, h2⟩ := Rep.unlist h
    cases e
    subst e2
    obtain ⟨u, hu, ru⟩ := h2.get (List.getElem?_eq_getElem hi)
    have := y vs (.inl (.inr ⟨o, h1⟩))
    rw [hu] at this
    cases this
    exact ⟨Same.refl _, _, List.getElem?_eq_getElem hi, ru⟩
  stop := fun H h => by
    obtain ⟨b, o, vs, e, h1, h2⟩ := Rep.unlist h
    cases e
    exact ⟨vs, .inl (.inr ⟨o, h1⟩), by rw [h2.length]; exact Nat.le_refl _⟩
theorem vi_frzE (h : VE X ρ iter (.d (.list xs))) : VI X ρ tg iter xs :=
  ⟨_, pi_list h, fun H0 hs σ H R er k => ⟨⟨H0, hs, er⟩, fun v H1 s1 r1 => by
    obtain ⟨a, o, vs, rfl, h1, h2⟩ := Rep.unlist (K := X.K) (H := H1) r1
    exact ⟨a, rfl, ⟨vs, .inl (.inr ⟨o, h1⟩)⟩, k _ H1 (.ref a, .d (.list xs)) s1 (Rep.list h1 h2) (fun _ z => nomatch z) itok_frzE⟩⟩⟩
theorem ve_eit {c : Wk.Cs} {v : Wk.MV} (hc : c = csOf X.K) (h : VE X ρ e (.d (Wk.mvD c v))) : VE X ρ e (.d (Wk.eitD c v)) :=
  PE.weak h fun σ H Q ⟨er, q⟩ => ⟨er, fun u H1 s1 r1 => q u H1 s1 (Rep.eit (K := X.K) (H := H1) hc r1)⟩
end
end L2
namespace Wk
open PySem L2 PySem.Spec PyProof.Rows
theorem out_int (i : Int) : outD (.int i) = .int i := by simp [outD]
theorem out_bool (i : Bool) : outD (.bool i) = .bool i := by simp [outD]
theorem out_chain (xs : List MV) : outD (.chain xs) = .list (outDs xs) := by simp [outD]
theorem out_clos (x : Str) (b : MT) (ρ : MR) : outD (.clos x b ρ) = .tuple [.str "fun", .str x, mtD b, .list (outKs ρ).reverse] := by simp [outD]
theorem outKs_length : ∀ ρ : MR, (outKs ρ).length = ρ.length
  | [] => by simp [outKs]
  | (x, v) :: r => by rw [outKs, List.length_cons, List.length_cons, outKs_length r]
theorem outKs_get : ∀ (ρ : MR) (i : Nat) (d : PyData), (outKs ρ)[i]? = some d → ∃ p, ρ[i]? = some p ∧ d = .tuple [.str p.1, outD p.2]
  | [], i, d, h => by simp [outKs] at h
  | (x, v) :: r, 0, d, h => by rw [outKs] at h; cases h; exact ⟨_, rfl, rfl⟩
  | (x, v) :: r, i + 1, d, h => by
    rw [outKs, List.getElem?_cons_succ] at h
    obtain ⟨p, h1, h2⟩ := outKs_get r i d h
    exact ⟨p, by simpa using h1, h2⟩
theorem outDs_length : ∀ xs : List MV, (outDs xs).length = xs.length
  | [] => by simp [outDs]
  | x :: xs => by rw [outDs, List.length_cons, List.length_cons, outDs_length xs]
theorem outDs_get : ∀ (xs : List MV) (i : Nat) (d : PyData), (outDs xs)[i]? = some d → ∃ p, xs[i]? = some p ∧ d = outD p
  | [], i, d, h => by simp [outDs] at h
  | x :: r, 0, d, h => by rw [outDs] at h; cases h; exact ⟨_, rfl, rfl⟩
  | x :: r, i + 1, d, h => by
    rw [outDs, List.getElem?_cons_succ] at h
    obtain ⟨p, h1, h2⟩ := outDs_get r i d h
    exact ⟨p, by simpa using h1, h2⟩
theorem back_drop {α : Type} {ρ : List α} {i : Nat} {p : α} (hi : i < ρ.length) (h : ρ[ρ.length - 1 - i]? = some p) : ρ.drop (ρ.length - (i + 1)) = p :: ρ.drop (ρ.length - i) := by
  rw [show ρ.length - (i + 1) = ρ.length - 1 - i from by omega, List.drop_eq_getElem_cons (by omega), show ρ.length - 1 - i + 1 = ρ.length - i from by omega]
  congr 1
  exact (List.getElem?_eq_some_iff.mp h).2
end Wk
set_option Elab.async false
set_option linter.all false
set_option maxRecDepth 100000
set_option maxHeartbeats 4000000
namespace Wk
open PySem L2 PySem.Spec PyProof.Rows
def chF (h t o : V) : List (Str × V) := [("head", h), ("rest", t), ("outside", o)]
def clF (n b k o : V) : List (Str × V) := [("name", n), ("body", b), ("known", k), ("outside", o)]
def knF (n v t : V) : List (Str × V) := [("name", n), ("value", v), ("others", t)]
def gvF (v i : V) : List (Str × V) := [("value", v), ("inside", i)]
def spOpW (K : PySem.W.Frag) (c : Cs) : Sp := fun vs H Q _ => ∃ v, vs = [v] ∧ ((∃ t, TyV K H v t ∧ PySem.W.kitOne K t (.ref c.gv) = some false ∧ Q v H) ∨ (∃ g dx val w, v = .ref g ∧ H g = some (.ins c.gv dx (gvF val w)) ∧ w ≠ .non ∧ Q w H) ∨
  ∃ g dx val x, v = .ref g ∧ H g = some (.ins c.gv dx (gvF val .non)) ∧ Rep K H (gvO x) val ∧ ∀ y H3, Same H H3 → Uq K H3 → Rep K H3 (mvD c x) y → Q y (upd H3 g (.ins c.gv dx (gvF val y))))
theorem opn_mk {K : PySem.W.Frag} {c : Cs} {H : Hp} {x : MV} {g dx : Addr} {val y : V} (hc : c = csOf K) (u : Uq K H) (hg : H g = some (.ins c.gv dx (gvF val .non))) (ho : Rep K H (gvO x) val) (hy : Rep K H (mvD c x) y) : Opn K H (upd H g (.ins c.gv dx (gvF val y))) x g y := by
  subst hc
  exact ⟨u, ⟨dx, val, hg, ho, upd_same⟩, fun b hb => upd_ne hb, hy⟩
theorem opnE {K : PySem.W.Frag} {mg : Str → Option Value} {c : Cs} {CS CT : Addr} (M : MKit K mg c CS CT) {vs : List V} {H : Hp} {Q : V → Hp → Prop} {E : XK} (h : spE K (ROpnE c) vs H Q E) : spOpW K c vs H Q E := by
  obtain ⟨as, o, ws, h1, ⟨x, rfl, rfl⟩, w, q, _⟩ := h
  obtain ⟨v, rfl, r1⟩ := h1.one
  have q := q _ rfl
  refine ⟨v, rfl, ?_⟩
  rcases Rep.eit_open (c := c) (x := x) r1 with h | ⟨g, dx, val, u, rfl, hg, ho, hu⟩
  · exact .inl ⟨_, M.dty x H v h, M.is_G x, q v H (NI.refl H) w h⟩
  · right
    rcases hu with rfl | hu
    · refine .inr ⟨g, dx, val, x, rfl, hg, ho, fun y H3 s u ry => ?_⟩
      have o := opn_mk M.cs u (s _ _ hg) (Rep.mono (TupLe.of_same s) _ _ ho) ry
      refine q y _ (fun b ob e => ?_) (fun p hp => Rep.opens o _ _ (Rep.mono (TupLe.of_same s) _ _ (w p hp))) (Rep.opens o _ _ ry)
      obtain ⟨e1, e2⟩ := visH_inv e
      rw [upd_ne (fun z => by rw [z, hg] at e1; cases e1; cases e2)]
      exact s b ob e1
    · refine .inl ⟨g, dx, val, u, rfl, hg, fun z => ?_, q u H (NI.refl H) w hu⟩
      have := rep_non (r := .d (mvD c x)) hu nun_d
      rw [mv_nonN, z] at this
      simp at this
abbrev Rg := List (Addr × Addr × Addr)
def rmC (S : Rg) (a : Addr) (o : V) : Prop := o = .non ∨ ∃ r, o = .ref r ∧ (a, r, r) ∈ S
def rmL (K : PySem.W.Frag) (S : Rg) (H : Hp) (a : Addr) (x : Str) (vb o : V) : Prop := o = .non ∨ ∃ t r, o = .ref t ∧ (a, t, r) ∈ S ∧ SqT K H t [.str "fun", .str x, vb, .ref r]
mutual
def VR (K : PySem.W.Frag) (c : Cs) (S : Rg) (H : Hp) : MV → V → Prop
  | .int i, v => v = .int i
  | .bool b, v => v = .bl b
  | .chain xs, v => ∃ a, v = .ref a ∧ CN K c S H xs a
  | .clos x b ρ, v => ∃ a dx vb vk o, v = .ref a ∧ H a = some (.ins c.cl dx (clF (.str x) vb vk o)) ∧ Rep K H (mtD b) vb ∧ rmL K S H a x vb o ∧ KN K c S H ρ vk
def CN (K : PySem.W.Frag) (c : Cs) (S : Rg) (H : Hp) : List MV → Addr → Prop
  | [], a => ∃ dx h o, H a = some (.ins c.ch dx (chF h .non o)) ∧ rmC S a o
  | x :: xs, a => ∃ dx h t o, H a = some (.ins c.ch dx (chF h (.ref t) o)) ∧ rmC S a o ∧ (VR K c S H x h ∨ ∃ g dg val w, h = .ref g ∧ H g = some (.ins c.gv dg (gvF val w)) ∧ Rep K H (gvO x) val ∧ (w = .non ∨ VR K c S H x w)) ∧ CN K c S H xs t
def KN (K : PySem.W.Frag) (c : Cs) (S : Rg) (H : Hp) : List (Str × MV) → V → Prop
  | [], v => v = .non
  | (n, x) :: ρ, v => ∃ a dx h t, v = .ref a ∧ H a = some (.ins c.kn dx (knF (.str n) h t)) ∧ (VR K c S H x h ∨ ∃ g dg val w, h = .ref g ∧ H g = some (.ins c.gv dg (gvF val w)) ∧ Rep K H (gvO x) val ∧ (w = .non ∨ VR K c S H x w)) ∧ KN K c S H ρ t
end
def EV (K : PySem.W.Frag) (c : Cs) (S : Rg) (H : Hp) (x : MV) (h : V) : Prop := VR K c S H x h ∨ ∃ g dg val w, h = .ref g ∧ H g = some (.ins c.gv dg (gvF val w)) ∧ Rep K H (gvO x) val ∧ (w = .non ∨ VR K c S H x w)
section
variable {K : PySem.W.Frag} {H H' : Hp}
mutual
theorem rep_dl (tup : ∀ t xs, SqT K H t xs → SqT K H' t xs) (frz : ∀ a o xs, H a = some (.frz o (.lst xs)) → H' a = some (.frz o (.lst xs))) : ∀ (d : PyData) (v : V), dless d = true → Rep K H d v → Rep K H' d v
  | .none, v, _, h => by rw [Rep] at h ⊢; exact h
  | .bool _, v, _, h => by rw [Rep] at h ⊢; exact h
  | .int _, v, _, h => by rw [Rep] at h ⊢; exact h
  | .str _, v, _, h => by rw [Rep] at h ⊢; exact h
  | .tuple ds, v, n, h => by
    rw [dless] at n
    rw [Rep] at h ⊢
    obtain ⟨a, vs, e1, e2, e3⟩ := h
    exact ⟨a, vs, e1, tup _ _ e2, reps_dl tup frz ds vs n e3⟩
  | .list ds, v, n, h => by
    rw [dless] at n
    rw [Rep] at h ⊢
    obtain ⟨a, o, vs, e1, e2, e3⟩ := h
    exact ⟨a, o, vs, e1, frz _ _ _ e2, reps_dl tup frz ds vs n e3⟩
  | .dict _, v, n, h => by rw [dless] at n; cases n
theorem reps_dl (tup : ∀ t xs, SqT K H t xs → SqT K H' t xs) (frz : ∀ a o xs, H a = some (.frz o (.lst xs)) → H' a = some (.frz o (.lst xs))) : ∀ (ds : List PyData) (vs : List V), dlesss ds = true → Reps K H ds vs → Reps K H' ds vs
  | [], vs, _, h => by rw [Reps] at h ⊢; exact h
  | d :: ds, vs, n, h => by
    rw [dlesss, Bool.and_eq_true] at n
    rw [Reps] at h ⊢
    obtain ⟨v, r, e1, e2, e3⟩ := h
    exact ⟨v, r, e1, rep_dl tup frz d v n.1 e2, reps_dl tup frz ds r n.2 e3⟩
end
end
structure Nx (K : PySem.W.Frag) (c : Cs) (S : Rg) (H : Hp) (S' : Rg) (H' : Hp) : Prop where
  sub : ∀ p ∈ S, p ∈ S'
  tup : ∀ t xs, SqT K H t xs → SqT K H' t xs
  frz : ∀ a o xs, H a = some (.frz o (.lst xs)) → H' a = some (.frz o (.lst xs))
  ch : ∀ a dx h t o, H a = some (.ins c.ch dx (chF h t o)) → rmC S a o → ∃ o', H' a = some (.ins c.ch dx (chF h t o')) ∧ rmC S' a o'
  cl : ∀ a dx x vb vk o, H a = some (.ins c.cl dx (clF (.str x) vb vk o)) → rmL K S H a x vb o → ∃ o', H' a = some (.ins c.cl dx (clF (.str x) vb vk o')) ∧ rmL K S' H' a x vb o'
  kn : ∀ a dx n h t, H a = some (.ins c.kn dx (knF n h t)) → H' a = some (.ins c.kn dx (knF n h t))
  gv : ∀ a dx val w, H a = some (.ins c.gv dx (gvF val w)) → ∃ w', H' a = some (.ins c.gv dx (gvF val w')) ∧ (w' = w ∨ (w = .non ∧ ∀ x, Rep K H (gvO x) val → VR K c S' H' x w'))
section
variable {K : PySem.W.Frag} {c : Cs} {S S' S1 : Rg} {H H' H1 : Hp}
theorem Nx.rep (n : Nx K c S H S' H') {d : PyData} {v : V} (hd : dless d = true) (h : Rep K H d v) : Rep K H' d v := rep_dl n.tup n.frz d v hd h
theorem Nx.gvO (n : Nx K c S H S' H') {x : MV} {v : V} (h : Rep K H (gvO x) v) : Rep K H' (Wk.gvO x) v := by
  have e := (gvO_out h).1
  rw [e] at h ⊢
  exact n.rep (outD_dless x) h
mutual
theorem VR.next (n : Nx K c S H S' H') : ∀ (x : MV) (v : V), VR K c S H x v → VR K c S' H' x v
  | .int i, v, h => by rw [VR] at h ⊢; exact h
  | .bool b, v, h => by rw [VR] at h ⊢; exact h
  | .chain xs, v, h => by rw [VR] at h ⊢; obtain ⟨a, e, q⟩ := h; exact ⟨a, e, CN.next n xs a q⟩
  | .clos x b ρ, v, h => by
    rw [VR] at h ⊢
    obtain ⟨a, dx, vb, vk, o, e1, e2, e3, e4, e5⟩ := h
    obtain ⟨o', g1, g2⟩ := n.cl a dx x vb vk o e2 e4
    exact ⟨a, dx, vb, vk, o', e1, g1, n.rep (mtD_dless b) e3, g2, KN.next n ρ vk e5⟩
theorem CN.next (n : Nx K c S H S' H') : ∀ (xs : List MV) (a : Addr), CN K c S H xs a → CN K c S' H' xs a
  | [], a, h => by
    rw [CN] at h ⊢
    obtain ⟨dx, h, o, e, r⟩ := h
    obtain ⟨o', e', r'⟩ := n.ch a dx h _ o e r
    exact ⟨dx, h, o', e', r'⟩
  | x :: xs, a, h => by
    rw [CN] at h ⊢
    obtain ⟨dx, h, t, o, e, r, q1, q2⟩ := h
    obtain ⟨o', e', r'⟩ := n.ch a dx h _ o e r
    refine ⟨dx, h, t, o', e', r', ?_, CN.next n xs t q2⟩
    rcases q1 with q1 | ⟨g, dg, val, w, e1, e2, e3, e4⟩
    · exact .inl (VR.next n x h q1)
    · obtain ⟨w', f1, f2⟩ := n.gv g dg val w e2
      refine .inr ⟨g, dg, val, w', e1, f1, n.gvO e3, ?_⟩
      rcases f2 with rfl | ⟨rfl, f2⟩
      · rcases e4 with e4 | e4
        · exact .inl e4
        · exact .inr (VR.next n x _ e4)
      · exact .inr (f2 x e3)
theorem KN.next (n : Nx K c S H S' H') : ∀ (ρ : List (Str × MV)) (v : V), KN K c S H ρ v → KN K c S' H' ρ v
  | [], v, h => by rw [KN] at h ⊢; exact h
  | (m, x) :: ρ, v, h => by
    rw [KN] at h ⊢
    obtain ⟨a, dx, h, t, e0, e, q1, q2⟩ := h
    refine ⟨a, dx, h, t, e0, n.kn a dx _ h t e, ?_, KN.next n ρ t q2⟩
    rcases q1 with q1 | ⟨g, dg, val, w, e1, e2, e3, e4⟩
    · exact .inl (VR.next n x h q1)
    · obtain ⟨w', f1, f2⟩ := n.gv g dg val w e2
      refine .inr ⟨g, dg, val, w', e1, f1, n.gvO e3, ?_⟩
      rcases f2 with rfl | ⟨rfl, f2⟩
      · rcases e4 with e4 | e4
        · exact .inl e4
        · exact .inr (VR.next n x _ e4)
      · exact .inr (f2 x e3)
end
theorem Nx.trans (a : Nx K c S H S1 H1) (b : Nx K c S1 H1 S' H') : Nx K c S H S' H' where
  sub := fun p hp => b.sub p (a.sub p hp)
  tup := fun t xs h => b.tup t xs (a.tup t xs h)
  frz := fun t o xs h => b.frz t o xs (a.frz t o xs h)
  ch := fun d dx h t o e r => let ⟨o1, e1, r1⟩ := a.ch d dx h t o e r; b.ch d dx h t o1 e1 r1
  cl := fun d dx x vb vk o e r => let ⟨o1, e1, r1⟩ := a.cl d dx x vb vk o e r; b.cl d dx x vb vk o1 e1 r1
  kn := fun d dx n h t e => b.kn d dx n h t (a.kn d dx n h t e)
  gv := fun d dx val w e => by
    obtain ⟨w1, e1, q1⟩ := a.gv d dx val w e
    obtain ⟨w2, e2, q2⟩ := b.gv d dx val w1 e1
    refine ⟨w2, e2, ?_⟩
    rcases q1 with rfl | ⟨rfl, q1⟩
    · rcases q2 with rfl | ⟨rfl, q2⟩
      · exact .inl rfl
      · exact .inr ⟨rfl, fun x h => q2 x (a.gvO h)⟩
    · refine .inr ⟨rfl, fun x h => ?_⟩
      rcases q2 with rfl | ⟨rfl, q2⟩
      · exact (q1 x h).next b
      · exact q2 x (a.gvO h)
theorem SqT.vis {t : Addr} {xs : List V} (keep : ∀ b o, H b = some o → (∀ C dx fs, o ≠ .ins C dx fs) → (∀ zs, o ≠ .lst zs) → H' b = some o) (h : SqT K H t xs) : SqT K H' t xs := by
  rcases h with (h | ⟨o, h⟩) | h
  · exact .inl (.inl (keep _ _ h (fun _ _ _ z => nomatch z) (fun _ z => nomatch z)))
  · exact .inl (.inr ⟨o, keep _ _ h (fun _ _ _ z => nomatch z) (fun _ z => nomatch z)⟩)
  · exact .inr h
theorem Nx.of_keep (keep : ∀ b o, H b = some o → (∀ zs, o ≠ .lst zs) → H' b = some o) : Nx K c S H S H' where
  sub := fun _ h => h
  tup := fun t xs h => SqT.vis (fun b o e _ n => keep b o e n) h
  frz := fun a o xs h => keep _ _ h (fun _ z => nomatch z)
  ch := fun a dx h t o e r => ⟨o, keep _ _ e (fun _ z => nomatch z), r⟩
  cl := fun a dx x vb vk o e r => ⟨o, keep _ _ e (fun _ z => nomatch z), by
    rcases r with r | ⟨t, q, r1, r2, r3⟩
    · exact .inl r
    · exact .inr ⟨t, q, r1, r2, SqT.vis (fun b o e _ n => keep b o e n) r3⟩⟩
  kn := fun a dx n h t e => keep _ _ e (fun _ z => nomatch z)
  gv := fun a dx val w e => ⟨w, keep _ _ e (fun _ z => nomatch z), .inl rfl⟩
theorem Nx.of_same (s : Same H H') : Nx K c S H S H' := .of_keep fun b o e _ => s b o e
theorem Nx.refl : Nx K c S H S H := .of_keep fun b o e _ => e
end
theorem chD_ref {K : PySem.W.Frag} {H : Hp} {c : Cs} {xs : List MV} {v : V} (h : Rep K H (chD c xs) v) : ∃ b, v = .ref b := by
  cases xs with
  | nil => rw [chD] at h; obtain ⟨a, _, _, e, _⟩ := h.ins_open; exact ⟨a, e⟩
  | cons y ys => rw [chD] at h; obtain ⟨a, _, _, e, _⟩ := h.ins_open; exact ⟨a, e⟩
mutual
theorem rep_VR {K : PySem.W.Frag} {H : Hp} (c : Cs) (S : Rg) : ∀ (x : MV) (v : V), Rep K H (mvD c x) v → VR K c S H x v
  | .int i, v, h => by rw [mv_int] at h; rw [VR]; exact h.is_int
  | .bool b, v, h => by rw [mv_bool] at h; rw [VR]; exact h.is_bool
  | .chain xs, v, h => by
    rw [mvD] at h
    rw [VR]
    have e : ∃ a, v = .ref a := by
      cases xs with
      | nil => rw [chD] at h; obtain ⟨a, _, _, e, _⟩ := h.ins_open; exact ⟨a, e⟩
      | cons y ys => rw [chD] at h; obtain ⟨a, _, _, e, _⟩ := h.ins_open; exact ⟨a, e⟩
    obtain ⟨a, rfl⟩ := e
    exact ⟨a, rfl, rep_CN c S xs a h⟩
  | .clos x b ρ, v, h => by
    rw [mvD] at h
    rw [VR]
    obtain ⟨a, dx, fs, rfl, ha, hf⟩ := h.ins_open
    cases hf with | cons h1 t => cases t with | cons h2 t => cases t with | cons h3 t => cases t with | cons h4 t => cases t with | nil =>
    obtain rfl := h1.is_str
    obtain rfl := h4.is_non
    exact ⟨a, dx, _, _, _, rfl, ha, h2, .inl rfl, rep_KN c S ρ _ h3⟩
theorem rep_CN {K : PySem.W.Frag} {H : Hp} (c : Cs) (S : Rg) : ∀ (xs : List MV) (a : Addr), Rep K H (chD c xs) (.ref a) → CN K c S H xs a
  | [], a, h => by
    rw [chD] at h
    obtain ⟨a', dx, fs, e, ha, hf⟩ := h.ins_open
    cases e
    cases hf with | cons h1 t => cases t with | cons h2 t => cases t with | cons h3 t => cases t with | nil =>
    obtain rfl := h2.is_non
    obtain rfl := h3.is_non
    rw [CN]
    exact ⟨dx, _, _, ha, .inl rfl⟩
  | x :: xs, a, h => by
    rw [chD] at h
    obtain ⟨a', dx, fs, e, ha, hf⟩ := h.ins_open
    cases e
    cases hf with | cons h1 t => cases t with | cons h2 t => cases t with | cons h3 t => cases t with | nil =>
    obtain rfl := h3.is_non
    obtain ⟨b, rfl⟩ := chD_ref h2
    rw [CN]
    refine ⟨dx, _, b, _, ha, .inl rfl, ?_, rep_CN c S xs b h2⟩
    rcases Rep.eit_open (c := c) (x := x) h1 with h | ⟨g, dg, val, u, e1, e2, e3, e4⟩
    · exact .inl (rep_VR c S x _ h)
    · refine .inr ⟨g, dg, val, u, e1, e2, e3, ?_⟩
      rcases e4 with e4 | e4
      · exact .inl e4
      · exact .inr (rep_VR c S x _ e4)
theorem rep_KN {K : PySem.W.Frag} {H : Hp} (c : Cs) (S : Rg) : ∀ (ρ : List (Str × MV)) (v : V), Rep K H (knD c ρ) v → KN K c S H ρ v
  | [], v, h => by rw [knD] at h; rw [KN]; exact h.is_non
  | (n, x) :: ρ, v, h => by
    rw [knD] at h
    obtain ⟨a, dx, fs, rfl, ha, hf⟩ := h.ins_open
    cases hf with | cons h1 t => cases t with | cons h2 t => cases t with | cons h3 t => cases t with | nil =>
    obtain rfl := h1.is_str
    rw [KN]
    refine ⟨a, dx, _, _, rfl, ha, ?_, rep_KN c S ρ _ h3⟩
    rcases Rep.eit_open (c := c) (x := x) h2 with h | ⟨g, dg, val, u, e1, e2, e3, e4⟩
    · exact .inl (rep_VR c S x _ h)
    · refine .inr ⟨g, dg, val, u, e1, e2, e3, ?_⟩
      rcases e4 with e4 | e4
      · exact .inl e4
      · exact .inr (rep_VR c S x _ e4)
end
section
variable {K : PySem.W.Frag} {c : Cs} {S : Rg} {H : Hp}
theorem VR.ref_not {x : MV} {g dg : Addr} {val w : V} {C : Addr} (h : VR K c S H x (.ref g)) (e : H g = some (.ins C dg (gvF val w))) : False := by
  cases x with
  | int i => rw [VR] at h; cases h
  | bool i => rw [VR] at h; cases h
  | chain xs =>
    rw [VR] at h
    obtain ⟨a, z, h⟩ := h
    cases z
    cases xs with
    | nil => rw [CN] at h; obtain ⟨_, _, _, h, _⟩ := h; rw [e] at h; simp [chF, gvF] at h
    | cons y ys => rw [CN] at h; obtain ⟨_, _, _, _, h, _⟩ := h; rw [e] at h; simp [chF, gvF] at h
  | clos x b ρ =>
    rw [VR] at h
    obtain ⟨a, _, _, _, _, z, h, _⟩ := h
    cases z
    rw [e] at h; simp [clF, gvF] at h
mutual
theorem VR.uniq (u : Uq K H) : ∀ (x : MV) (v : V) (y : MV), VR K c S H x v → VR K c S H y v → x = y
  | .int i, v, y, h, g => by
    rw [VR] at h; subst h
    cases y with
    | int j => rw [VR] at g; cases g; rfl
    | bool b => rw [VR] at g; cases g
    | chain ys => rw [VR] at g; obtain ⟨_, e, _⟩ := g; cases e
    | clos => rw [VR] at g; obtain ⟨_, _, _, _, _, e, _⟩ := g; cases e
  | .bool i, v, y, h, g => by
    rw [VR] at h; subst h
    cases y with
    | int j => rw [VR] at g; cases g
    | bool b => rw [VR] at g; cases g; rfl
    | chain ys => rw [VR] at g; obtain ⟨_, e, _⟩ := g; cases e
    | clos => rw [VR] at g; obtain ⟨_, _, _, _, _, e, _⟩ := g; cases e
  | .chain xs, v, y, h, g => by
    rw [VR] at h
    obtain ⟨a, rfl, h⟩ := h
    cases y with
    | int j => rw [VR] at g; cases g
    | bool b => rw [VR] at g; cases g
    | chain ys => rw [VR] at g; obtain ⟨_, e, g⟩ := g; cases e; rw [CN.uniq u xs a ys h g]
    | clos x b ρ =>
      rw [VR] at g
      obtain ⟨_, _, _, _, _, e, g, _⟩ := g
      cases e
      cases xs with
      | nil => rw [CN] at h; obtain ⟨_, _, _, h, _⟩ := h; rw [g] at h; simp [chF, clF] at h
      | cons y ys => rw [CN] at h; obtain ⟨_, _, _, _, h, _⟩ := h; rw [g] at h; simp [chF, clF] at h
  | .clos x b ρ, v, y, h, g => by
    rw [VR] at h
    obtain ⟨a, dx, vb, vk, o, rfl, e2, e3, e4, e5⟩ := h
    cases y with
    | int j => rw [VR] at g; cases g
    | bool b => rw [VR] at g; cases g
    | chain ys =>
      rw [VR] at g
      obtain ⟨_, e, g⟩ := g
      cases e
      cases ys with
      | nil => rw [CN] at g; obtain ⟨_, _, _, h, _⟩ := g; rw [e2] at h; simp [chF, clF] at h
      | cons y ys => rw [CN] at g; obtain ⟨_, _, _, _, h, _⟩ := g; rw [e2] at h; simp [chF, clF] at h
    | clos x' b' ρ' =>
      rw [VR] at g
      obtain ⟨a', dx', vb', vk', o', z, g2, g3, g4, g5⟩ := g
      cases z
      rw [e2] at g2
      simp only [clF, Option.some.injEq, HO.ins.injEq, List.cons.injEq, Prod.mk.injEq, V.str.injEq, true_and, and_true] at g2
      obtain ⟨_, rfl, rfl, rfl, _⟩ := g2
      rw [mtD_inj b b' (Rep.uniq u _ _ vb (mtD_dless b) (mtD_dless b') e3 g3), KN.uniq u ρ vk ρ' e5 g5]
theorem CN.uniq (u : Uq K H) : ∀ (xs : List MV) (a : Addr) (ys : List MV), CN K c S H xs a → CN K c S H ys a → xs = ys
  | [], a, ys, h, g => by
    rw [CN] at h
    obtain ⟨dx, h, o, e, _⟩ := h
    cases ys with
    | nil => rfl
    | cons y ys => rw [CN] at g; obtain ⟨dx', h', t', o', e', _⟩ := g; rw [e] at e'; simp [chF] at e'
  | x :: xs, a, ys, h, g => by
    rw [CN] at h
    obtain ⟨dx, h, t, o, e, _, q1, q2⟩ := h
    cases ys with
    | nil => rw [CN] at g; obtain ⟨dx', h', o', e', _⟩ := g; rw [e] at e'; simp [chF] at e'
    | cons y ys =>
      rw [CN] at g
      obtain ⟨dx', h', t', o', e', _, g1, g2⟩ := g
      rw [e] at e'
      simp only [chF, Option.some.injEq, HO.ins.injEq, List.cons.injEq, Prod.mk.injEq, V.ref.injEq, true_and, and_true] at e'
      obtain ⟨_, rfl, rfl, _⟩ := e'
      rw [CN.uniq u xs t ys q2 g2]
      congr 1
      rcases q1 with q1 | ⟨b, db, val, w, z, f2, f3, f4⟩
      · rcases g1 with g1 | ⟨b', db', val', w', z', g2, g3, g4⟩
        · exact VR.uniq u x h y q1 g1
        · subst z'; exact (q1.ref_not g2).elim
      · subst z
        rcases g1 with g1 | ⟨b', db', val', w', z', g2, g3, g4⟩
        · exact (g1.ref_not f2).elim
        · cases z'
          rw [f2] at g2
          simp only [gvF, Option.some.injEq, HO.ins.injEq, List.cons.injEq, Prod.mk.injEq, true_and, and_true] at g2
          obtain ⟨_, rfl, _⟩ := g2
          exact gv_uniq u f3 g3
theorem KN.uniq (u : Uq K H) : ∀ (ρ : List (Str × MV)) (v : V) (ρ' : List (Str × MV)), KN K c S H ρ v → KN K c S H ρ' v → ρ = ρ'
  | [], v, ρ', h, g => by
    rw [KN] at h
    subst h
    cases ρ' with
    | nil => rfl
    | cons y ys => obtain ⟨n, y⟩ := y; rw [KN] at g; obtain ⟨_, _, _, _, z, _⟩ := g; cases z
  | (n, x) :: ρ, v, ρ', h, g => by
    rw [KN] at h
    obtain ⟨a, dx, h, t, rfl, e, q1, q2⟩ := h
    cases ρ' with
    | nil => rw [KN] at g; cases g
    | cons y ys =>
      obtain ⟨n', y⟩ := y
      rw [KN] at g
      obtain ⟨a', dx', h', t', z, e', g1, g2⟩ := g
      cases z
      rw [e] at e'
      simp only [knF, Option.some.injEq, HO.ins.injEq, List.cons.injEq, Prod.mk.injEq, V.str.injEq, true_and, and_true] at e'
      obtain ⟨_, rfl, rfl, rfl⟩ := e'
      rw [KN.uniq u ρ t ys q2 g2]
      congr 2
      rcases q1 with q1 | ⟨b, db, val, w, z, f2, f3, f4⟩
      · rcases g1 with g1 | ⟨b', db', val', w', z', g2, g3, g4⟩
        · exact VR.uniq u x h y q1 g1
        · subst z'; exact (q1.ref_not g2).elim
      · subst z
        rcases g1 with g1 | ⟨b', db', val', w', z', g2, g3, g4⟩
        · exact (g1.ref_not f2).elim
        · cases z'
          rw [f2] at g2
          simp only [gvF, Option.some.injEq, HO.ins.injEq, List.cons.injEq, Prod.mk.injEq, true_and, and_true] at g2
          obtain ⟨_, rfl, _⟩ := g2
          exact gv_uniq u f3 g3
end
end
end Wk
set_option Elab.async false
set_option linter.all false
set_option maxRecDepth 100000
set_option maxHeartbeats 4000000
namespace Wk
open PySem L2 PySem.Spec PyProof.Rows
mutual
def MV.wt : MV → Nat
  | .chain xs => wts xs + 1
  | .int _ => 1
  | .bool _ => 1
  | .clos _ _ ρ => wkn ρ + 1
def wts : List MV → Nat
  | [] => 0
  | x :: xs => x.wt + wts xs
def wkn : List (Str × MV) → Nat
  | [] => 0
  | (_, x) :: xs => x.wt + wkn xs
end
theorem wt_pos (x : MV) : 1 ≤ x.wt := by cases x <;> simp [MV.wt]
abbrev Pt := Option Str × MV
def ptC (x : MV) : Pt := (none, x)
def ptL (p : Str × MV) : Pt := (some p.1, p.2)
def MV.parts : MV → List Pt
  | .chain xs => xs.map ptC
  | .clos _ _ ρ => (ρ.map ptL).reverse
  | _ => []
theorem wts_append : ∀ xs ys : List MV, wts (xs ++ ys) = wts xs + wts ys
  | [], ys => by simp [wts]
  | x :: xs, ys => by rw [List.cons_append, wts, wts, wts_append xs ys]; omega
theorem wkn_append : ∀ xs ys : List (Str × MV), wkn (xs ++ ys) = wkn xs + wkn ys
  | [], ys => by simp [wkn]
  | (n, x) :: xs, ys => by rw [List.cons_append, wkn, wkn, wkn_append xs ys]; omega
theorem wts_len : ∀ xs : List MV, xs.length ≤ wts xs
  | [] => by simp
  | x :: xs => by have := wt_pos x; have := wts_len xs; simp only [List.length_cons, wts]; omega
theorem wkn_len : ∀ xs : List (Str × MV), xs.length ≤ wkn xs
  | [] => by simp
  | (n, x) :: xs => by have := wt_pos x; have := wkn_len xs; simp only [List.length_cons, wkn]; omega
def Means (K : PySem.W.Frag) (c : Cs) (S : Rg) (H : Hp) : MV → V → Prop
  | .int i, v => v = .int i
  | .bool b, v => v = .bl b
  | .chain xs, v => ∃ a r, v = .ref r ∧ (a, r, r) ∈ S ∧ CN K c S H xs a
  | .clos x b ρ, v => ∃ a t r vb, v = .ref t ∧ (a, t, r) ∈ S ∧ SqT K H t [.str "fun", .str x, vb, .ref r] ∧ Rep K H (mtD b) vb ∧ VR K c S H (.clos x b ρ) (.ref a)
def MeansP (K : PySem.W.Frag) (c : Cs) (S : Rg) (H : Hp) : Pt → V → Prop
  | (none, x), v => Means K c S H x v
  | (some n, x), v => ∃ p u, v = .ref p ∧ SqT K H p [.str n, u] ∧ Means K c S H x u
inductive MeansL (K : PySem.W.Frag) (c : Cs) (S : Rg) (H : Hp) : List Pt → List V → Prop where
  | nil : MeansL K c S H [] []
  | cons {x v xs vs} : MeansP K c S H x v → MeansL K c S H xs vs → MeansL K c S H (x :: xs) (v :: vs)
section
variable {K : PySem.W.Frag} {c : Cs} {S S' : Rg} {H H' H0 : Hp}
theorem Means.next (n : Nx K c S H S' H') {x : MV} {v : V} (h : Means K c S H x v) : Means K c S' H' x v := by
  cases x with
  | int i => exact h
  | bool b => exact h
  | chain xs => obtain ⟨a, r, e, m, q⟩ := h; exact ⟨a, r, e, n.sub _ m, q.next n⟩
  | clos x b ρ => obtain ⟨a, t, r, vb, e, m, q1, q2, q3⟩ := h; exact ⟨a, t, r, vb, e, n.sub _ m, n.tup _ _ q1, n.rep (mtD_dless b) q2, q3.next n⟩
theorem MeansP.next (n : Nx K c S H S' H') {x : Pt} {v : V} (h : MeansP K c S H x v) : MeansP K c S' H' x v := by
  obtain ⟨o, x⟩ := x
  cases o with
  | none => exact Means.next n h
  | some m => obtain ⟨p, u, e, q1, q2⟩ := h; exact ⟨p, u, e, n.tup _ _ q1, q2.next n⟩
theorem MeansL.next (n : Nx K c S H S' H') : ∀ {xs : List Pt} {vs : List V}, MeansL K c S H xs vs → MeansL K c S' H' xs vs
  | _, _, .nil => .nil
  | _, _, .cons h t => .cons (h.next n) (t.next n)
theorem MeansL.snoc {x : Pt} {v : V} (h : MeansP K c S H x v) : ∀ {xs : List Pt} {vs : List V}, MeansL K c S H xs vs → MeansL K c S H (xs ++ [x]) (vs ++ [v])
  | _, _, .nil => .cons h .nil
  | _, _, .cons g t => .cons g (MeansL.snoc h t)
theorem MeansL.reverse : ∀ {xs : List Pt} {vs : List V}, MeansL K c S H xs vs → MeansL K c S H xs.reverse vs.reverse
  | _, _, .nil => .nil
  | _, _, .cons g t => by rw [List.reverse_cons, List.reverse_cons]; exact t.reverse.snoc g
theorem MeansL.length : ∀ {xs : List Pt} {vs : List V}, MeansL K c S H xs vs → vs.length = xs.length
  | _, _, .nil => rfl
  | _, _, .cons g t => by rw [List.length_cons, List.length_cons, t.length]
end
abbrev Wt := List ((Addr × Addr × Addr) × MV)
structure GB (K : PySem.W.Frag) (c : Cs) (H0 : Hp) (S : Rg) (W : Wt) (cur : Option Addr) (wa : Addr) (H : Hp) : Prop where
  dom : ∀ b, H b = none → H0 b = none
  ni : ∀ b o, H0 b = some o → (∀ C dx fs, o ≠ .ins C dx fs) → H b = some o
  rooms : (S.map (·.2.2)).Nodup
  fresh : ∀ p ∈ S, H0 p.2.2 = none
  there : ∀ p ∈ S, ∃ vs, H p.2.2 = some (.lst vs)
  wfree : H0 wa = none
  wroom : ∀ p ∈ S, p.2.2 ≠ wa
  pend : ∀ q ∈ W, q.1 ∈ S ∧ VR K c S H q.2 (.ref q.1.1) ∧ H q.1.2.2 = some (.lst [])
  wnd : (W.map (·.1.2.2)).Nodup
  fill : ∀ p ∈ S, (∀ q ∈ W, q.1 ≠ p) → cur ≠ some p.2.2 → ∃ x vs, VR K c S H x (.ref p.1) ∧ H p.2.2 = some (.lst vs) ∧ MeansL K c S H x.parts vs
  curok : ∀ r, cur = some r → (∃ p ∈ S, p.2.2 = r) ∧ ∀ q ∈ W, q.1.2.2 ≠ r
def WL (K : PySem.W.Frag) (H : Hp) (ws : List V) (W : Wt) : Prop := ws.length = W.length ∧ ∀ (i : Nat) v q, ws[i]? = some v → W[i]? = some q → ∃ t, v = .ref t ∧ SqT K H t [.ref q.1.1, .ref q.1.2.2]
theorem WL.nil {K H} : WL K H [] [] := ⟨rfl, fun i v q h => by cases h⟩
theorem WL.mono {K : PySem.W.Frag} {H H' : Hp} {ws W} (h : WL K H ws W) (e : ∀ t xs, SqT K H t xs → SqT K H' t xs) : WL K H' ws W := ⟨h.1, fun i v q a b => let ⟨t, e1, e2⟩ := h.2 i v q a b; ⟨t, e1, e _ _ e2⟩⟩
theorem WL.snoc {K : PySem.W.Frag} {H : Hp} {ws : List V} {W : Wt} {t : Addr} {q : (Addr × Addr × Addr) × MV} (h : WL K H ws W) (ht : SqT K H t [.ref q.1.1, .ref q.1.2.2]) : WL K H (ws ++ [.ref t]) (W ++ [q]) := by
  refine ⟨by rw [List.length_append, List.length_append, h.1]; rfl, fun i v p a b => ?_⟩
  by_cases hi : i < ws.length
  · rw [List.getElem?_append_left hi] at a
    rw [List.getElem?_append_left (by rw [← h.1]; exact hi)] at b
    exact h.2 i v p a b
  · rw [List.getElem?_append_right (by omega)] at a
    rw [List.getElem?_append_right (by rw [← h.1]; omega), ← h.1] at b
    cases hk : i - ws.length with
    | zero => rw [hk] at a b; cases a; cases b; exact ⟨t, rfl, ht⟩
    | succ k => rw [hk] at a; cases a
theorem WL.last {K : PySem.W.Frag} {H : Hp} {ws : List V} {W : Wt} {q : (Addr × Addr × Addr) × MV} (h : WL K H ws (W ++ [q])) : ∃ ws' t, ws = ws' ++ [.ref t] ∧ SqT K H t [.ref q.1.1, .ref q.1.2.2] ∧ WL K H ws' W := by
  have hl := h.1
  rw [List.length_append, List.length_singleton] at hl
  have hne : ws ≠ [] := by intro z; rw [z] at hl; simp at hl
  obtain ⟨ws', v, rfl⟩ : ∃ ws' v, ws = ws' ++ [v] := ⟨_, _, (List.dropLast_concat_getLast hne).symm⟩
  rw [List.length_append, List.length_singleton] at hl
  have hl' : ws'.length = W.length := by omega
  obtain ⟨t, rfl, ht⟩ := h.2 ws'.length v q (by simp) (by rw [hl']; simp)
  refine ⟨ws', t, rfl, ht, hl', fun i v p a b => ?_⟩
  have hi : i < ws'.length := (List.getElem?_eq_some_iff.mp a).1
  exact h.2 i v p (by rw [List.getElem?_append_left hi]; exact a) (by rw [List.getElem?_append_left (by omega)]; exact b)
def Wt.sum : Wt → Nat
  | [] => 0
  | q :: W => q.2.wt + Wt.sum W
theorem Wt.sum_append (W W' : Wt) : Wt.sum (W ++ W') = Wt.sum W + Wt.sum W' := by
  induction W with
  | nil => simp [Wt.sum]
  | cons q W ih => simp only [List.cons_append, Wt.sum, ih]; omega
theorem Wt.len (W : Wt) : W.length ≤ W.sum := by
  induction W with
  | nil => simp
  | cons q W ih => have := wt_pos q.2; simp only [List.length_cons, Wt.sum]; omega
structure Turned (K : PySem.W.Frag) (c : Cs) (H0 : Hp) (S : Rg) (W : Wt) (cur : Option Addr) (wa : Addr) (H : Hp) (S' : Rg) (W' : Wt) (H' : Hp) (n : Nat) : Prop where
  nx : Nx K c S H S' H'
  gb : GB K c H0 S' W' cur wa H'
  wl : ∃ ws, H' wa = some (.lst ws) ∧ WL K H' ws W'
  less : W'.sum ≤ W.sum + n
  keep : ∀ b o, H b = some o → (∀ C dx fs, o ≠ .ins C dx fs) → b ≠ wa → H' b = some o
  new : ∀ q ∈ S', q ∈ S ∨ H q.2.2 = none
  dom : ∀ b, H' b = none → H b = none
section
variable {K : PySem.W.Frag} {c : Cs} {S S' : Rg} {W : Wt} {cur : Option Addr} {wa : Addr} {H H' H0 : Hp} {ws : List V}
theorem GB.step {n : Nat} (g : GB K c H0 S W cur wa H) (hw : H wa = some (.lst ws)) (l : WL K H ws W) (nx : Nx K c S H S H') (keep : ∀ b o, H b = some o → (∀ C dx fs, o ≠ .ins C dx fs) → H' b = some o) (dom : ∀ b, H' b = none → H b = none) : Turned K c H0 S W cur wa H S W H' n :=
  ⟨nx, ⟨fun b e => g.dom b (dom b e), fun b o e z => keep b o (g.ni b o e z) z, g.rooms, g.fresh, fun p hp => let ⟨vs, e⟩ := g.there p hp; ⟨vs, keep _ _ e (fun _ _ _ z => nomatch z)⟩, g.wfree, g.wroom,
    fun q hq => let ⟨a, b, d⟩ := g.pend q hq; ⟨a, b.next nx, keep _ _ d (fun _ _ _ z => nomatch z)⟩, g.wnd,
    fun p hp h1 h2 => let ⟨x, vs, a, b, d⟩ := g.fill p hp h1 h2; ⟨x, vs, a.next nx, keep _ _ b (fun _ _ _ z => nomatch z), d.next nx⟩, g.curok⟩,
   ⟨ws, keep _ _ hw (fun _ _ _ z => nomatch z), l.mono nx.tup⟩, by omega, fun b o e z _ => keep b o e z, fun _ h => .inl h, dom⟩
theorem GB.same {n : Nat} (g : GB K c H0 S W cur wa H) (hw : H wa = some (.lst ws)) (l : WL K H ws W) (s : Same H H') : Turned K c H0 S W cur wa H S W H' n :=
  g.step hw l (.of_same s) (fun b o e _ => s b o e) (fun b e => s.free e)
theorem Turned.trans {S1 S2 : Rg} {W1 W2 : Wt} {H1 H2 : Hp} {m n k : Nat} (a : Turned K c H0 S W cur wa H S1 W1 H1 m) (b : Turned K c H0 S1 W1 cur wa H1 S2 W2 H2 n) (h : m + n ≤ k) : Turned K c H0 S W cur wa H S2 W2 H2 k :=
  ⟨a.nx.trans b.nx, b.gb, b.wl, by have := a.less; have := b.less; omega, fun d o e z w => b.keep d o (a.keep d o e z w) z w, fun q hq => (b.new q hq).elim (fun h => a.new q h) (fun h => .inr (a.dom _ h)), fun d e => a.dom d (b.dom d e)⟩
theorem Nx.opens {x : MV} {g : Addr} {y : V} (hc : c = csOf K) (o : Opn K H H' x g y) : Nx K c S H S H' := by
  subst hc
  obtain ⟨dx0, val0, e0, r0, e1⟩ := o.was
  have old : ∀ b ob, H b = some ob → (∀ C dx v w, ob ≠ .ins C dx (gvF v w)) → H' b = some ob := fun b ob e z => by
    rw [o.rest b (fun q => by rw [q, e0] at e; cases e; exact z _ _ _ _ rfl)]; exact e
  have tup : ∀ t xs, SqT K H t xs → SqT K H' t xs := fun t xs h => o.tup h
  refine ⟨fun _ h => h, tup, fun a ob xs h => old _ _ h (fun _ _ _ _ z => nomatch z), fun a dx h t ob e r => ⟨ob, old _ _ e (fun _ _ _ _ z => by simp [chF, gvF] at z), r⟩, fun a dx n vb vk ob e r => ⟨ob, old _ _ e (fun _ _ _ _ z => by simp [clF, gvF] at z), ?_⟩, fun a dx n h t e => old _ _ e (fun _ _ _ _ z => by simp [knF, gvF] at z), fun a dx val w e => ?_⟩
  · rcases r with r | ⟨t, q, r1, r2, r3⟩
    · exact .inl r
    · exact .inr ⟨t, q, r1, r2, tup _ _ r3⟩
  · by_cases h : a = g
    · subst h
      rw [e0] at e
      simp only [gvF, Option.some.injEq, HO.ins.injEq, List.cons.injEq, Prod.mk.injEq, true_and, and_true] at e
      obtain ⟨rfl, rfl, rfl⟩ := e
      refine ⟨y, e1, .inr ⟨rfl, fun x' h' => ?_⟩⟩
      obtain rfl := gv_uniq o.uq h' r0
      exact rep_VR _ _ _ _ (Rep.opens o _ _ o.ins)
    · exact ⟨w, by rw [o.rest a h]; exact e, .inl rfl⟩
theorem rmC.mono (sub : ∀ p ∈ S, p ∈ S') {a : Addr} {o : V} (h : rmC S a o) : rmC S' a o := by
  rcases h with h | ⟨r, e, m⟩
  · exact .inl h
  · exact .inr ⟨r, e, sub _ m⟩
theorem rmL.mono (sub : ∀ p ∈ S, p ∈ S') (tup : ∀ t xs, SqT K H t xs → SqT K H' t xs) {a : Addr} {x : Str} {vb o : V} (h : rmL K S H a x vb o) : rmL K S' H' a x vb o := by
  rcases h with h | ⟨t, r, e, m, q⟩
  · exact .inl h
  · exact .inr ⟨t, r, e, sub _ m, tup _ _ q⟩
theorem Nx.roomC {a r dx : Addr} {h t : V} (ha : H a = some (.ins c.ch dx (chF h t .non))) (old : ∀ b o, H b = some o → (∀ zs, o ≠ .lst zs) → b ≠ a → H' b = some o) (na : H' a = some (.ins c.ch dx (chF h t (.ref r)))) : Nx K c S H (S ++ [(a, r, r)]) H' := by
  have sub : ∀ p ∈ S, p ∈ S ++ [(a, r, r)] := fun p hp => List.mem_append_left _ hp
  have tup : ∀ t xs, SqT K H t xs → SqT K H' t xs := fun t xs q => SqT.vis (fun b o e z n => old b o e n (fun w => by rw [w, ha] at e; cases e; exact z _ _ _ rfl)) q
  refine ⟨sub, tup, fun b o xs e => old _ _ e (fun _ z => nomatch z) (fun w => by rw [w, ha] at e; cases e), fun b dx' h' t' o' e q => ?_, fun b dx' n vb vk o' e q => ⟨o', old _ _ e (fun _ z => nomatch z) (fun w => by rw [w, ha] at e; simp [chF, clF] at e), q.mono sub tup⟩, fun b dx' n h' t' e => ?_, fun b dx' v w' e => ⟨w', old _ _ e (fun _ z => nomatch z) (fun w => by rw [w, ha] at e; simp [chF, gvF] at e), .inl rfl⟩⟩
  · by_cases w : b = a
    · subst w
      rw [ha] at e
      simp only [chF, Option.some.injEq, HO.ins.injEq, List.cons.injEq, Prod.mk.injEq, true_and, and_true] at e
      obtain ⟨rfl, rfl, rfl, rfl⟩ := e
      exact ⟨_, na, .inr ⟨r, rfl, by simp⟩⟩
    · exact ⟨o', old _ _ e (fun _ z => nomatch z) w, q.mono sub⟩
  · refine old _ _ e (fun _ z => nomatch z) (fun w => ?_)
    rw [w, ha] at e
    have e' : ("head" : Str) = "name" := congrArg (fun o : Option HO => match o with | some (.ins _ _ ((x, _) :: _)) => x | _ => "") e
    exact absurd e' (by decide)
theorem Nx.roomL {a t r dx : Addr} {x : Str} {vb vk : V} (ha : H a = some (.ins c.cl dx (clF (.str x) vb vk .non))) (old : ∀ b o, H b = some o → (∀ zs, o ≠ .lst zs) → b ≠ a → H' b = some o) (na : H' a = some (.ins c.cl dx (clF (.str x) vb vk (.ref t)))) (ht : SqT K H' t [.str "fun", .str x, vb, .ref r]) : Nx K c S H (S ++ [(a, t, r)]) H' := by
  have sub : ∀ p ∈ S, p ∈ S ++ [(a, t, r)] := fun p hp => List.mem_append_left _ hp
  have tup : ∀ t xs, SqT K H t xs → SqT K H' t xs := fun t xs q => SqT.vis (fun b o e z n => old b o e n (fun w => by rw [w, ha] at e; cases e; exact z _ _ _ rfl)) q
  refine ⟨sub, tup, fun b o xs e => old _ _ e (fun _ z => nomatch z) (fun w => by rw [w, ha] at e; cases e), fun b dx' h' t' o' e q => ⟨o', old _ _ e (fun _ z => nomatch z) (fun w => by rw [w, ha] at e; simp [chF, clF] at e), q.mono sub⟩, fun b dx' n vb' vk' o' e q => ?_, fun b dx' n h' t' e => old _ _ e (fun _ z => nomatch z) (fun w => by rw [w, ha] at e; simp [knF, clF] at e), fun b dx' v w' e => ⟨w', old _ _ e (fun _ z => nomatch z) (fun w => by rw [w, ha] at e; simp [clF, gvF] at e), .inl rfl⟩⟩
  by_cases w : b = a
  · subst w
    rw [ha] at e
    simp only [clF, Option.some.injEq, HO.ins.injEq, List.cons.injEq, Prod.mk.injEq, V.str.injEq, true_and, and_true] at e
    obtain ⟨rfl, rfl, rfl, rfl, rfl⟩ := e
    exact ⟨_, na, .inr ⟨t, r, rfl, by simp, ht⟩⟩
  · exact ⟨o', old _ _ e (fun _ z => nomatch z) w, q.mono sub tup⟩
theorem GB.room {x : MV} {a t r t1 : Addr} (g : GB K c H0 S W cur wa H) (hw : H wa = some (.lst ws)) (l : WL K H ws W) (vr : VR K c S H x (.ref a)) (hr : H r = none) (nx : Nx K c S H (S ++ [(a, t, r)]) H') (old : ∀ b o, H b = some o → (∀ C dx fs, o ≠ .ins C dx fs) → b ≠ wa → H' b = some o)
    (dom : ∀ b, H' b = none → H b = none) (h1 : H' r = some (.lst [])) (h2 : H' wa = some (.lst (ws ++ [.ref t1]))) (h3 : SqT K H' t1 [.ref a, .ref r]) : Turned K c H0 S W cur wa H (S ++ [(a, t, r)]) (W ++ [((a, t, r), x)]) H' x.wt := by
  have lst : ∀ b zs, H b = some (.lst zs) → b ≠ wa → H' b = some (.lst zs) := fun b zs e n => old b _ e (fun _ _ _ z => nomatch z) n
  have nr : ∀ p ∈ S, p.2.2 ≠ r := fun p hp z => by obtain ⟨vs, e⟩ := g.there p hp; rw [z, hr] at e; cases e
  have wr : wa ≠ r := ne_of_none hw hr
  have h0r : H0 r = none := g.dom r hr
  refine ⟨nx, ⟨fun b e => g.dom b (dom b e), fun b o e n => old b o (g.ni b o e n) n (fun z => by rw [z, g.wfree] at e; cases e), ?_, fun p hp => ?_, fun p hp => ?_, g.wfree, fun p hp => ?_, fun q hq => ?_, ?_, fun p hp hq hcur => ?_, fun r' e => ⟨let ⟨b, hb, e'⟩ := (g.curok r' e).1; ⟨b, nx.sub _ hb, e'⟩, fun q hq => ?_⟩⟩, ⟨_, h2, (l.mono nx.tup).snoc (q := ((a, t, r), x)) h3⟩, ?_, old, fun q hq => ?_, dom⟩
  · rw [List.map_append, List.map_singleton, List.nodup_append]
    refine ⟨g.rooms, by simp, fun x hx y hy => ?_⟩
    obtain ⟨p, hp, rfl⟩ := List.mem_map.mp hx
    rw [List.mem_singleton] at hy
    rw [hy]
    exact nr p hp
  · rcases List.mem_append.mp hp with hp | hp
    · exact g.fresh p hp
    · rw [List.mem_singleton] at hp; rw [hp]; exact h0r
  · rcases List.mem_append.mp hp with hp | hp
    · obtain ⟨vs, e⟩ := g.there p hp; exact ⟨vs, lst _ _ e (g.wroom p hp)⟩
    · rw [List.mem_singleton] at hp; rw [hp]; exact ⟨_, h1⟩
  · rcases List.mem_append.mp hp with hp | hp
    · exact g.wroom p hp
    · rw [List.mem_singleton] at hp; rw [hp]; exact Ne.symm wr
  · rcases List.mem_append.mp hq with hq | hq
    · obtain ⟨q1, q2, q3⟩ := g.pend q hq
      exact ⟨nx.sub _ q1, q2.next nx, lst _ _ q3 (g.wroom _ q1)⟩
    · rw [List.mem_singleton] at hq; rw [hq]; exact ⟨by simp, vr.next nx, h1⟩
  · rw [List.map_append, List.map_singleton, List.nodup_append]
    refine ⟨g.wnd, by simp, fun x hx y hy => ?_⟩
    obtain ⟨p, hp, rfl⟩ := List.mem_map.mp hx
    rw [List.mem_singleton] at hy
    rw [hy]
    exact nr _ (g.pend p hp).1
  · rcases List.mem_append.mp hp with hp | hp
    · obtain ⟨ys, vs, f1, f2, f3⟩ := g.fill p hp (fun q h => hq q (List.mem_append_left _ h)) hcur
      exact ⟨ys, vs, f1.next nx, lst _ _ f2 (g.wroom p hp), f3.next nx⟩
    · rw [List.mem_singleton] at hp
      exact absurd hp.symm (hq _ (List.mem_append_right _ (List.mem_singleton.mpr rfl)))
  · rcases List.mem_append.mp hq with hq | hq
    · exact (g.curok r' e).2 q hq
    · rw [List.mem_singleton] at hq
      rw [hq]
      obtain ⟨b, hb, e'⟩ := (g.curok r' e).1
      rw [← e']
      exact Ne.symm (nr _ hb)
  · rw [Wt.sum_append]; simp [Wt.sum]
  · rcases List.mem_append.mp hq with hq | hq
    · exact .inl hq
    · rw [List.mem_singleton] at hq; rw [hq]; exact .inr hr
theorem GB.one {p q : Addr × Addr × Addr} (g : GB K c H0 S W cur wa H) (hp : p ∈ S) (m : q ∈ S) (e : p.2.2 = q.2.2) : p = q := by
  have nd := g.rooms
  obtain ⟨i, hi⟩ := List.mem_iff_getElem?.mp hp
  obtain ⟨j, hj⟩ := List.mem_iff_getElem?.mp m
  have e1 : (S.map (·.2.2))[i]? = some q.2.2 := by rw [List.getElem?_map, hi]; simp [e]
  have e2 : (S.map (·.2.2))[j]? = some q.2.2 := by rw [List.getElem?_map, hj]; rfl
  have li : i < (S.map (·.2.2)).length := (List.getElem?_eq_some_iff.mp e1).1
  have ij := (List.getElem?_inj li nd).mp (e1.trans e2.symm)
  subst ij
  rw [hi] at hj
  exact Option.some.inj hj
theorem GB.put {p : Addr × Addr × Addr} {zs us : List V} (g : GB K c H0 S W (some p.2.2) wa H) (m : p ∈ S) (hr : H p.2.2 = some (.lst zs)) (hw : H wa = some (.lst ws)) (l : WL K H ws W) :
    Nx K c S H S (upd H p.2.2 (.lst us)) ∧ GB K c H0 S W (some p.2.2) wa (upd H p.2.2 (.lst us)) ∧ (upd H p.2.2 (.lst us)) wa = some (.lst ws) ∧ WL K (upd H p.2.2 (.lst us)) ws W := by
  have wr : p.2.2 ≠ wa := g.wroom _ m
  have nx : Nx K c S H S (upd H p.2.2 (.lst us)) := .of_keep fun b o e z => by rw [upd_ne (fun w => by rw [w, hr] at e; cases e; exact z _ rfl)]; exact e
  refine ⟨nx, ⟨fun b e => ?_, fun b o e n => ?_, g.rooms, g.fresh, fun p' hp => ?_, g.wfree, g.wroom, fun q hq => ?_, g.wnd, fun p' hp hq hc => ?_, g.curok⟩, by rw [upd_ne (Ne.symm wr)]; exact hw, l.mono nx.tup⟩
  · by_cases z : b = p.2.2
    · rw [z, upd_same] at e; cases e
    · rw [upd_ne z] at e; exact g.dom b e
  · rw [upd_ne (fun z => by rw [z, g.fresh _ m] at e; cases e)]; exact g.ni b o e n
  · by_cases z : p'.2.2 = p.2.2
    · exact ⟨us, by rw [z]; exact upd_same⟩
    · obtain ⟨vs, e⟩ := g.there p' hp; exact ⟨vs, by rw [upd_ne z]; exact e⟩
  · obtain ⟨q1, q2, q4⟩ := g.pend q hq
    exact ⟨q1, q2.next nx, by rw [upd_ne ((g.curok _ rfl).2 q hq)]; exact q4⟩
  · have z : p'.2.2 ≠ p.2.2 := fun z => hc (by rw [z])
    obtain ⟨xs, vs, f1, f3, f4⟩ := g.fill p' hp hq hc
    exact ⟨xs, vs, f1.next nx, by rw [upd_ne z]; exact f3, f4.next nx⟩
theorem GB.side {pl : Addr} {zs us : List V} (g : GB K c H0 S W cur wa H) (hp : H pl = some (.lst zs)) (f0 : H0 pl = none) (fw : pl ≠ wa) (fr : ∀ q ∈ S, q.2.2 ≠ pl) (hw : H wa = some (.lst ws)) (l : WL K H ws W) :
    Nx K c S H S (upd H pl (.lst us)) ∧ GB K c H0 S W cur wa (upd H pl (.lst us)) ∧ (upd H pl (.lst us)) wa = some (.lst ws) ∧ WL K (upd H pl (.lst us)) ws W := by
  have nx : Nx K c S H S (upd H pl (.lst us)) := .of_keep fun b o e z => by rw [upd_ne (fun w => by rw [w, hp] at e; cases e; exact z _ rfl)]; exact e
  refine ⟨nx, ⟨fun b e => ?_, fun b o e n => ?_, g.rooms, g.fresh, fun p' hp' => ?_, g.wfree, g.wroom, fun q hq => ?_, g.wnd, fun p' hp' hq hc => ?_, g.curok⟩, by rw [upd_ne (Ne.symm fw)]; exact hw, l.mono nx.tup⟩
  · by_cases z : b = pl
    · rw [z]; exact f0
    · rw [upd_ne z] at e; exact g.dom b e
  · rw [upd_ne (fun z => by rw [z, f0] at e; cases e)]; exact g.ni b o e n
  · obtain ⟨vs, e⟩ := g.there p' hp'; exact ⟨vs, by rw [upd_ne (fr p' hp')]; exact e⟩
  · obtain ⟨q1, q2, q4⟩ := g.pend q hq
    exact ⟨q1, q2.next nx, by rw [upd_ne (fr _ q1)]; exact q4⟩
  · obtain ⟨xs, vs, f1, f3, f4⟩ := g.fill p' hp' hq hc
    exact ⟨xs, vs, f1.next nx, by rw [upd_ne (fr p' hp')]; exact f3, f4.next nx⟩
theorem GB.full {p : Addr × Addr × Addr} {vs : List V} {x : MV} (g : GB K c H0 S W (some p.2.2) wa H) (m : p ∈ S) (vr : VR K c S H x (.ref p.1)) (hr : H p.2.2 = some (.lst vs)) (ml : MeansL K c S H x.parts vs) : GB K c H0 S W none wa H := by
  refine ⟨g.dom, g.ni, g.rooms, g.fresh, g.there, g.wfree, g.wroom, g.pend, g.wnd, fun p' hp hq _ => ?_, fun r' e => nomatch e⟩
  by_cases z : p'.2.2 = p.2.2
  · obtain rfl := g.one hp m z
    exact ⟨x, vs, vr, hr, ml⟩
  · exact g.fill p' hp hq (fun e => z (Option.some.inj e).symm)
theorem GB.take {q : (Addr × Addr × Addr) × MV} {ws' : List V} (g : GB K c H0 S (W ++ [q]) none wa H) (hw : H wa = some (.lst ws)) (l : WL K H ws' W) :
    Nx K c S H S (upd H wa (.lst ws')) ∧ GB K c H0 S W (some q.1.2.2) wa (upd H wa (.lst ws')) ∧ WL K (upd H wa (.lst ws')) ws' W ∧ q.1 ∈ S ∧ VR K c S (upd H wa (.lst ws')) q.2 (.ref q.1.1) ∧ (upd H wa (.lst ws')) q.1.2.2 = some (.lst []) := by
  have nx : Nx K c S H S (upd H wa (.lst ws')) := .of_keep fun b o e z => by rw [upd_ne (fun w => by rw [w, hw] at e; cases e; exact z _ rfl)]; exact e
  obtain ⟨q1, q2, q4⟩ := g.pend q (List.mem_append_right _ (List.mem_singleton.mpr rfl))
  have nd := g.wnd
  rw [List.map_append, List.map_singleton, List.nodup_append] at nd
  have dif : ∀ p ∈ W, p.1.2.2 ≠ q.1.2.2 := fun p hp => nd.2.2 _ (List.mem_map.mpr ⟨p, hp, rfl⟩) _ (List.mem_singleton.mpr rfl)
  refine ⟨nx, ⟨fun b e => ?_, fun b o e n => ?_, g.rooms, g.fresh, fun p hp => ?_, g.wfree, g.wroom, fun p hp => ?_, nd.1, fun p hp hq hc => ?_, fun r e => ?_⟩, l.mono nx.tup, q1, q2.next nx, by rw [upd_ne (g.wroom _ q1)]; exact q4⟩
  · by_cases z : b = wa
    · rw [z]; exact g.wfree
    · rw [upd_ne z] at e; exact g.dom b e
  · rw [upd_ne (fun z => by rw [z, g.wfree] at e; cases e)]; exact g.ni b o e n
  · obtain ⟨vs, e⟩ := g.there p hp; exact ⟨vs, by rw [upd_ne (g.wroom p hp)]; exact e⟩
  · obtain ⟨p1, p2, p4⟩ := g.pend p (List.mem_append_left _ hp)
    exact ⟨p1, p2.next nx, by rw [upd_ne (g.wroom _ p1)]; exact p4⟩
  · obtain ⟨xs, vs, f1, f3, f4⟩ := g.fill p hp (fun p' hp' => by
      rcases List.mem_append.mp hp' with h | h
      · exact hq p' h
      · rw [List.mem_singleton] at h; rw [h]; intro z; exact hc (by rw [z])) (fun z => nomatch z)
    exact ⟨xs, vs, f1.next nx, by rw [upd_ne (g.wroom p hp)]; exact f3, f4.next nx⟩
  · cases e
    exact ⟨⟨q.1, q1, rfl⟩, dif⟩
end
section
variable {K : PySem.W.Frag} {c : Cs} {S : Rg} {wa : Addr} {H H' H0 : Hp}
mutual
theorem means_rep (u : Uq K H) (g : GB K c H0 S [] none wa H) (k1 : ∀ b, b ∉ S.map (·.2.2) → H' b = H b) (k : ∀ r ∈ S.map (·.2.2), ∀ vs, H r = some (.lst vs) → ∃ o, H' r = some (.frz o (.lst vs))) : ∀ (x : MV) (v : V), Means K c S H x v → Rep K H' (outD x) v
  | .int i, v, h => by rw [out_int, show v = .int i from h]; exact .int i
  | .bool b, v, h => by rw [out_bool, show v = .bl b from h]; exact .bool b
  | .chain xs, v, h => by
    obtain ⟨a, r, rfl, m, cn⟩ := h
    obtain ⟨y, vs, f1, f3, f4⟩ := g.fill (a, r, r) m (fun q hq => nomatch hq) (fun z => nomatch z)
    obtain rfl := VR.uniq u (.chain xs) (.ref a) y (by rw [VR]; exact ⟨a, rfl, cn⟩) f1
    obtain ⟨o, e⟩ := k r (List.mem_map.mpr ⟨_, m, rfl⟩) vs f3
    rw [out_chain]
    exact Rep.list e (means_ds u g k1 k xs vs f4)
  | .clos x b ρ, v, h => by
    obtain ⟨a, t, r, vb, rfl, m, q1, q2, q3⟩ := h
    obtain ⟨y, vs, f1, f3, f4⟩ := g.fill (a, t, r) m (fun q hq => nomatch hq) (fun z => nomatch z)
    obtain rfl := VR.uniq u (.clos x b ρ) (.ref a) y q3 f1
    obtain ⟨o, e⟩ := k r (List.mem_map.mpr ⟨_, m, rfl⟩) vs f3
    have keep : ∀ b o, H b = some o → (∀ C dx fs, o ≠ .ins C dx fs) → (∀ zs, o ≠ .lst zs) → H' b = some o := fun b o e _ n => by
      rw [k1 b (fun z => by obtain ⟨p, hp, rfl⟩ := List.mem_map.mp z; obtain ⟨vs, e'⟩ := g.there p hp; rw [e] at e'; cases e'; exact n _ rfl)]; exact e
    have tup : ∀ t xs, SqT K H t xs → SqT K H' t xs := fun t xs h => SqT.vis keep h
    rw [out_clos]
    refine Rep.tuple (tup _ _ q1) (.cons (.str _) (.cons (.str _) (.cons (rep_dl tup (fun a o xs h => keep _ _ h (fun _ _ _ z => nomatch z) (fun _ z => nomatch z)) _ _ (mtD_dless b) q2) (.cons (Rep.list e ?_) .nil))))
    have f5 := f4.reverse
    rw [MV.parts, List.reverse_reverse] at f5
    have := (means_ks u g k1 k tup ρ _ f5).reverse
    rwa [List.reverse_reverse] at this
theorem means_ds (u : Uq K H) (g : GB K c H0 S [] none wa H) (k1 : ∀ b, b ∉ S.map (·.2.2) → H' b = H b) (k : ∀ r ∈ S.map (·.2.2), ∀ vs, H r = some (.lst vs) → ∃ o, H' r = some (.frz o (.lst vs))) : ∀ (xs : List MV) (vs : List V), MeansL K c S H (xs.map ptC) vs → Reps K H' (outDs xs) vs
  | [], vs, h => by cases h; rw [outDs]; exact .nil
  | x :: xs, vs, h => by cases h with | cons h t => rw [outDs]; exact .cons (means_rep u g k1 k x _ h) (means_ds u g k1 k xs _ t)
theorem means_ks (u : Uq K H) (g : GB K c H0 S [] none wa H) (k1 : ∀ b, b ∉ S.map (·.2.2) → H' b = H b) (k : ∀ r ∈ S.map (·.2.2), ∀ vs, H r = some (.lst vs) → ∃ o, H' r = some (.frz o (.lst vs))) (tup : ∀ t xs, SqT K H t xs → SqT K H' t xs) : ∀ (ρ : List (Str × MV)) (vs : List V), MeansL K c S H (ρ.map ptL) vs → Reps K H' (outKs ρ) vs
  | [], vs, h => by cases h; rw [outKs]; exact .nil
  | (n, x) :: ρ, vs, h => by
    cases h with | cons h t =>
    obtain ⟨p, w, rfl, h1, h2⟩ := h
    rw [outKs]
    exact .cons (Rep.tuple (tup _ _ h1) (.cons (.str _) (.cons (means_rep u g k1 k x _ h2) .nil))) (means_ks u g k1 k tup ρ _ t)
end
end
def spOutE (K : PySem.W.Frag) (c : Cs) : Sp := fun vs H Q _ => ∃ v wa x H0 S W cur ws, vs = [v, .ref wa] ∧ EV K c S H x v ∧ GB K c H0 S W cur wa H ∧ H wa = some (.lst ws) ∧ WL K H ws W ∧ W.length < 1000000 ∧
  ∀ u S' W' H', Turned K c H0 S W cur wa H S' W' H' x.wt → Means K c S' H' x u → Q u H'
def spFillC (K : PySem.W.Frag) (c : Cs) : Sp := fun vs H Q _ => ∃ p wa xs H0 S W ws, vs = [.ref p.2.2, .ref p.1, .ref wa] ∧ CN K c S H xs p.1 ∧ p ∈ S ∧ H p.2.2 = some (.lst []) ∧ GB K c H0 S W (some p.2.2) wa H ∧ H wa = some (.lst ws) ∧ WL K H ws W ∧ W.sum + wts xs < 1000000 ∧
  ∀ S' W' H', Nx K c S H S' H' → GB K c H0 S' W' none wa H' → (∃ ws', H' wa = some (.lst ws') ∧ WL K H' ws' W') → W'.sum ≤ W.sum + wts xs → Q .non H'
def spFillL (K : PySem.W.Frag) (c : Cs) : Sp := fun vs H Q _ => ∃ p kn wa x b ρ H0 S W ws, vs = [.ref p.2.2, kn, .ref wa] ∧ VR K c S H (.clos x b ρ) (.ref p.1) ∧ KN K c S H ρ kn ∧ p ∈ S ∧ H p.2.2 = some (.lst []) ∧ GB K c H0 S W (some p.2.2) wa H ∧ H wa = some (.lst ws) ∧ WL K H ws W ∧ W.sum + wkn ρ < 1000000 ∧
  ∀ S' W' H', Nx K c S H S' H' → GB K c H0 S' W' none wa H' → (∃ ws', H' wa = some (.lst ws') ∧ WL K H' ws' W') → W'.sum ≤ W.sum + wkn ρ → Q .non H'
def spGiveE (K : PySem.W.Frag) (c : Cs) : Sp := fun vs H Q _ => ∃ v x, vs = [v] ∧ Rep K H (mvD c x) v ∧ x.wt < 100000 ∧ ∀ u H', (∀ b o, H b = some o → (∀ C dx fs, o ≠ .ins C dx fs) → H' b = some o) → Rep K H' (outD x) u → Q u H'
def FillC (K : PySem.W.Frag) (c : Cs) (H0 : Hp) (S : Rg) (W : Wt) (p : Addr × Addr × Addr) (wa : Addr) (xs : List MV) (H : Hp) : Nat → L2.St → Hp → Prop := fun n σ H' => ∃ ys zs b S' W' vs, n = zs.length ∧ xs = ys ++ zs ∧ σ = [some (.ref p.2.2), some (.ref p.1), some (.ref wa), some (.ref b)] ∧ Nx K c S H S' H' ∧ GB K c H0 S' W' (some p.2.2) wa H' ∧
  (∃ ws', H' wa = some (.lst ws') ∧ WL K H' ws' W') ∧ W'.sum ≤ W.sum + wts ys ∧ CN K c S' H' zs b ∧ H' p.2.2 = some (.lst vs) ∧ MeansL K c S' H' (ys.map ptC) vs
def FillL (K : PySem.W.Frag) (c : Cs) (H0 : Hp) (S : Rg) (W : Wt) (p : Addr × Addr × Addr) (kn : V) (wa pl : Addr) (ρ : List (Str × MV)) (H : Hp) : Nat → L2.St → Hp → Prop := fun n σ H' => ∃ ys zs v S' W' vs, n = zs.length ∧ ρ = ys ++ zs ∧ σ = [some (.ref p.2.2), some kn, some (.ref wa), some (.ref pl), some v] ∧ Nx K c S H S' H' ∧ GB K c H0 S' W' (some p.2.2) wa H' ∧
  (∃ ws', H' wa = some (.lst ws') ∧ WL K H' ws' W') ∧ W'.sum ≤ W.sum + wkn ys ∧ KN K c S' H' zs v ∧ H' p.2.2 = some (.lst []) ∧ (H0 pl = none ∧ pl ≠ wa ∧ ∀ q ∈ S', q.2.2 ≠ pl) ∧ H' pl = some (.lst vs) ∧ MeansL K c S' H' (ys.map ptL) vs
end Wk
set_option Elab.async false
set_option linter.all false
set_option maxRecDepth 100000
set_option maxHeartbeats 4000000
namespace L2
open PySem PySem.Spec PyProof.Rows
section
variable {X : Cx} {pins : List (Addr × Obj)} {σ : St} {s : Shared}
theorem Inv.freezes : ∀ (rs : List Addr) {H : Hp}, Inv X pins σ H s → (∀ r ∈ rs, ∃ vs, H r = some (.lst vs)) → rs.Nodup → ∃ H', Inv X pins σ H' s ∧ (∀ b, b ∉ rs → H' b = H b) ∧ ∀ r ∈ rs, ∀ vs, H r = some (.lst vs) → ∃ o, H' r = some (.frz o (.lst vs))
  | [], H, I, _, _ => ⟨H, I, fun _ _ => rfl, fun r h => nomatch h⟩
  | r :: rs, H, I, h, nd => by
    obtain ⟨n1, n2⟩ := List.nodup_cons.mp nd
    obtain ⟨vs, e⟩ := h r List.mem_cons_self
    obtain ⟨o, I1⟩ := I.freezeL e
    have ne : ∀ b ∈ rs, b ≠ r := fun b hb z => n1 (z ▸ hb)
    obtain ⟨H', I2, k1, k2⟩ := Inv.freezes rs I1 (fun b hb => by obtain ⟨ws, q⟩ := h b (List.mem_cons_of_mem _ hb); exact ⟨ws, by rw [upd_ne (ne b hb)]; exact q⟩) n2
    refine ⟨H', I2, fun b hb => ?_, fun b hb ws q => ?_⟩
    · have h1 : b ≠ r := fun z => hb (z ▸ List.mem_cons_self)
      rw [k1 b (fun z => hb (List.mem_cons_of_mem _ z)), upd_ne h1]
    · rcases List.mem_cons.mp hb with z | hb
      · subst z
        rw [e] at q
        cases q
        exact ⟨o, by rw [k1 _ n1]; exact upd_same⟩
      · exact k2 b hb ws (by rw [upd_ne (ne b hb)]; exact q)
theorem pe_varF {i : Nat} {x : Str} {p : Pos} (hi : X.N[i]? = some x) (hv : Vis X.env.scope x := by first | exact Or.inl rfl | exact Or.inr (Or.inl rfl) | exact Or.inr (Or.inr rfl)) (hd : (x == ("__debug__" : Str)) = false := by decide) (hcd : (x == ("__classdict__" : Str)) = false := by decide) :
    PE X (.Name x p) (fun σ H Q => ∃ (v : V) (rs : List Addr), σ[i]? = some (some v) ∧ (∀ r ∈ rs, ∃ vs, H r = some (.lst vs)) ∧ rs.Nodup ∧ (Uq X.K H → ∀ H', (∀ b, b ∉ rs → H' b = H b) → (∀ r ∈ rs, ∀ vs, H r = some (.lst vs) → ∃ o, H' r = some (.frz o (.lst vs))) → Q v H')) := by
  intro pins s σ H Q I ⟨v, rs, h1, h2, h3, q⟩
  refine thn (pe_var hi hv hd hcd pins s σ H (fun u H' => u = v ∧ H' = H) I ⟨v, h1, rfl, rfl⟩) fun u s1 ⟨v', H1, I1, r1, e1, e2⟩ => ?_
  subst e1 e2
  obtain ⟨H', I2, k1, k2⟩ := Inv.freezes rs I1 h2 h3
  exact ⟨_, H', I2, r1, q I1.uq H' k1 k2⟩
theorem call_isinstC2I : CallR X (.builtin "isinstance") (fun xs H Q => ∃ a tp C D C0 dx fs b, xs = [.ref a, .ref tp] ∧ H a = some (.ins C0 dx fs) ∧ ClsT X.K C0 ∧ SqT X.K H tp [.ref C, .ref D] ∧ PySem.W.kitAny X.K (.ref C0) [.ref C, .ref D] = some b ∧ Q (.bl b) H) := by
  intro pins s σ H xs us Q I r h
  obtain ⟨a, tp, C, D, C0, dx, fs, b, rfl, ea, T, hq, e, q⟩ := h
  obtain ⟨u, w', rfl, rx, rt⟩ := vals2 r
  cases rt
  cases rx
  obtain ⟨its2, r2, ⟨⟨cls, dd, data, sl⟩, g1, g2, n, g3⟩, _⟩ := I.tuple hq
  simp only at g2 g3
  subst g2 g3
  obtain ⟨v1, v2, rfl, e1, e2⟩ := r2.two
  cases e1
  cases e2
  obtain ⟨mA, O, _⟩ := ins_get I.hok ea
  obtain ⟨od, J, _⟩ := O.look
  exact PySem.W.kia_tup (PySem.W.kitx_own (T.cl.get _) T.cl.hd T.ha T.hn T.htk T.hm) I.kIn J g1 e (fun z => nomatch z) fun tk => ⟨.bl b, H, I.tok _, rfl, q⟩
end
theorem heap4 {H : Hp} {a r t wa : Addr} {oa X Y Z : HO} {ws : List V} (ha : H a = some oa) (hi : ∀ zs, oa ≠ .lst zs) (hw : H wa = some (.lst ws)) (hr : H r = none) (ht : upd H r (.lst []) t = none) :
    (∀ b o, H b = some o → b ≠ wa → b ≠ a → upd (upd (upd (upd H r (.lst [])) t X) wa Y) a Z b = some o) ∧ upd (upd (upd (upd H r (.lst [])) t X) wa Y) a Z r = some (.lst []) ∧ upd (upd (upd (upd H r (.lst [])) t X) wa Y) a Z t = some X ∧ upd (upd (upd (upd H r (.lst [])) t X) wa Y) a Z wa = some Y ∧
    upd (upd (upd (upd H r (.lst [])) t X) wa Y) a Z a = some Z ∧ ∀ b, upd (upd (upd (upd H r (.lst [])) t X) wa Y) a Z b = none → H b = none := by
  have tr : t ≠ r := fun z => by rw [z, upd_same] at ht; cases ht
  have ht' : H t = none := by rw [upd_ne tr] at ht; exact ht
  have ar : a ≠ r := ne_of_none ha hr
  have at' : a ≠ t := ne_of_none ha ht'
  have wr : wa ≠ r := ne_of_none hw hr
  have wt : wa ≠ t := ne_of_none hw ht'
  have aw : a ≠ wa := fun z => by rw [z, hw] at ha; cases ha; exact hi _ rfl
  have old : ∀ b o, H b = some o → b ≠ wa → b ≠ a → upd (upd (upd (upd H r (.lst [])) t X) wa Y) a Z b = some o := fun b o e n1 n2 => by
    rw [upd_ne n2, upd_ne n1, upd_ne (ne_of_none e ht'), upd_ne (ne_of_none e hr)]; exact e
  refine ⟨old, ?_, ?_, ?_, upd_same, fun b e => ?_⟩
  · rw [upd_ne (Ne.symm ar), upd_ne (Ne.symm wr), upd_ne (Ne.symm tr), upd_same]
  · rw [upd_ne (Ne.symm at'), upd_ne (Ne.symm wt), upd_same]
  · rw [upd_ne (Ne.symm aw), upd_same]
  · cases q : H b with
    | none => rfl
    | some o =>
      by_cases h2 : b = a
      · rw [h2, upd_same] at e; cases e
      by_cases h1 : b = wa
      · rw [h1, upd_ne (Ne.symm aw), upd_same] at e; cases e
      rw [old b o q h1 h2] at e; cases e
end L2
namespace Wk
open PySem L2 PySem.Spec PyProof.Rows
theorem VR.nn {K : PySem.W.Frag} {c : Cs} {S : Rg} {H : Hp} {x : MV} {v : V} (h : VR K c S H x v) : v ≠ .non := by
  cases x with
  | int i => rw [VR] at h; subst h; intro z; cases z
  | bool i => rw [VR] at h; subst h; intro z; cases z
  | chain xs => rw [VR] at h; obtain ⟨a, rfl, _⟩ := h; intro z; cases z
  | clos x b ρ => rw [VR] at h; obtain ⟨a, _, _, _, _, rfl, _⟩ := h; intro z; cases z
theorem CN.at {K : PySem.W.Frag} {c : Cs} {S : Rg} {H : Hp} {xs : List MV} {a : Addr} (cn : CN K c S H xs a) : ∃ dx hd tl o, H a = some (.ins c.ch dx (chF hd tl o)) ∧ rmC S a o := by
  cases xs with
  | nil => rw [CN] at cn; obtain ⟨dx, h, o, e, r⟩ := cn; exact ⟨dx, h, _, o, e, r⟩
  | cons y ys => rw [CN] at cn; obtain ⟨dx, h, t, o, e, r, _⟩ := cn; exact ⟨dx, h, _, o, e, r⟩
def spOpV (K : PySem.W.Frag) (c : Cs) : Sp := fun vs H Q _ => ∃ v x H0 S W cur wa ws, vs = [v] ∧ EV K c S H x v ∧ GB K c H0 S W cur wa H ∧ H wa = some (.lst ws) ∧ WL K H ws W ∧ ∀ u H', Turned K c H0 S W cur wa H S W H' 0 → VR K c S H' x u → Q u H'
theorem opnV {K : PySem.W.Frag} {mg : Str → Option Value} {c : Cs} {CS CT : Addr} (M : MKit K mg c CS CT) {vs : List V} {H : Hp} {Q : V → Hp → Prop} {E : XK} (h : spOpV K c vs H Q E) : spOpW K c vs H Q E := by
  obtain ⟨v, x, H0, S, W, cur, wa, ws, rfl, ev, g, hw, l, q⟩ := h
  refine ⟨v, rfl, ?_⟩
  have T0 : Turned K c H0 S W cur wa H S W H 0 := g.same hw l (Same.refl H)
  rcases ev with vr | ⟨b, dg, val, w, rfl, hg, ho, hu⟩
  · left
    have qv := q v H T0 vr
    cases x with
    | int i => rw [VR] at vr; subst vr; exact ⟨_, .of (.int i), M.kG.1, qv⟩
    | bool i => rw [VR] at vr; subst vr; exact ⟨_, .of (.bl i), M.kG.2.1, qv⟩
    | chain xs => rw [VR] at vr; obtain ⟨a, rfl, cn⟩ := vr; obtain ⟨dx, hd, tl, o, ha, _⟩ := cn.at; exact ⟨_, .of (.ins ha M.cC.cl M.cC.ha M.cC.hn M.cC.htk M.cC.hm), M.kG.2.2.1, qv⟩
    | clos x b ρ => rw [VR] at vr; obtain ⟨a, dx, _, _, _, rfl, ha, _⟩ := vr; exact ⟨_, .of (.ins ha M.cL.cl M.cL.ha M.cL.hn M.cL.htk M.cL.hm), M.kG.2.2.2.1, qv⟩
  · right
    rcases hu with rfl | hu
    · refine .inr ⟨b, dg, val, x, rfl, hg, ho, fun y H3 s u ry => ?_⟩
      have o := opn_mk M.cs u (s _ _ hg) (Rep.mono (TupLe.of_same s) _ _ ho) ry
      have T1 : Turned K c H0 S W cur wa H S W H3 0 := g.same hw l s
      obtain ⟨ws1, hw1, l1⟩ := T1.wl
      have hg3 := s _ _ hg
      have T2 : Turned K c H0 S W cur wa H3 S W (upd H3 b (.ins c.gv dg (gvF val y))) 0 := T1.gb.step hw1 l1 (Nx.opens M.cs o) (fun d ob e z => by rw [upd_ne (fun w => by rw [w, hg3] at e; cases e; exact z _ _ _ rfl)]; exact e) (fun d e => by
        by_cases w : d = b
        · rw [w, upd_same] at e; cases e
        · rw [upd_ne w] at e; exact e)
      exact q y _ (T1.trans T2 (Nat.le_refl _)) (rep_VR _ _ _ _ (Rep.opens o _ _ ry))
    · exact .inl ⟨b, dg, val, w, rfl, hg, hu.nn, q w H T0 hu⟩
end Wk
set_option Elab.async false
set_option linter.all false
set_option maxRecDepth 100000
set_option maxHeartbeats 4000000
namespace L2
open PySem PySem.Spec PyProof.Rows
def spN (K : PySem.W.Frag) (R : List Sl → Sl ⊕ Addr → Prop) : Sp := fun vs H Q E => ∃ as o, RdRs K H as vs ∧ R as o ∧ (∀ r, o = .inl r → ∀ v H', NI H H' → RdR K H' r v → Q v H') ∧ ∀ C, o = .inr C → ∀ H', NI H H' → E (.ref C) none H'
def PhiN (H : Hp) : Hp → List (V × Sl) → St → Prop := fun H0 hs _ => H0 = visH H ∧ hs = []
theorem PhiN.ev (H : Hp) : EvoOk (PhiN H) := fun H0 hs σ ⟨e, h⟩ => ⟨fun b o q => by rw [e] at q; exact (visH_inv q).2, by rw [h]; exact fun p hp => nomatch hp⟩
theorem PhiN.kept {H : Hp} {i : Nat} : Kept (PhiN H) i := fun _ _ _ _ h => h
def EvoN (Φ : Hp → List (V × Sl) → St → Prop) : Prop := ∀ H0 hs σ, Φ H0 hs σ → (∀ b o, H0 b = some o → vis o = true) ∧ hs = []
theorem PhiN.evn (H : Hp) : EvoN (PhiN H) := fun H0 hs σ ⟨e, h⟩ => ⟨fun b o q => by rw [e] at q; exact (visH_inv q).2, h⟩
section
variable {P : Program} {w : World} {K : PySem.W.Frag} {mg : Str → Option Value} {base : Heap}
theorem Fun.okN {x qual : Str} {st : Stmt} {f : Addr} {fd : FuncData} {N ps : List Str} {k : Nat} {R : List Sl → Sl ⊕ Addr → Prop} (F : Fun K x qual st f fd) (S : FnScope N ps (defScope st)) (len : ∀ as o, R as o → as.length = ps.length ∧ ∀ q ∈ as, ∀ xs, q ≠ .o xs)
    (hbody : ∀ (cdv : Value) (A : Around) (outer : List Env) (s : Shared) (H : Hp) (E : XK) (as : List Sl) (o : Sl ⊕ Addr), Room k (A.deeper (envOfC qual (defScope st) s.heap.objs.size f cdv)) → R as o → (∀ C, o = .inr C → ∀ H0 (hs : List (V × Sl)) (σ : St), PhiN H H0 hs σ → ∀ H', Same H0 H' → E (.ref C) none H') →
      VX (cxOf (CX1 P w base) P w K mg base N qual (defScope st) f cdv A outer s H E) (PhiN H) (defBody st) (as ++ List.replicate (N.length - as.length) .un) fun t => ∃ d, o = .inl (.d d) ∧ t = .rt (.d d)) :
    FnOk P w K mg base (CX1 P w base) (k + 1) f fd ps (spN K R) := by
  refine F.okX S (fun vs H Q E h => ?_) (fun cdv A outer s H vs Q E hr h => ?_)
  · obtain ⟨as, o, h1, h2, _⟩ := h
    rw [h1.length]; exact (len as o h2).1
  obtain ⟨as, o, h1, h2, q, qE⟩ := h
  refine ⟨_, hbody cdv A outer s H E as o hr h2 (fun C z H0 hs σ e H' s' => by obtain ⟨rfl, _⟩ := e; exact qE C z H' s'), visH H, [], ⟨rfl, rfl⟩, (er_start h1 (len as o h2).2).rebase visH_same (fun r hr xs => ?_) (fun p hp => nomatch hp), ?_⟩
  · rcases List.mem_append.mp hr with m | m
    · exact (len as o h2).2 r m xs
    · rw [(List.mem_replicate.mp m).2]; intro z; cases z
  · refine ⟨fun σ H' ⟨ρ, ⟨d, _, z⟩, _⟩ => (nomatch z), fun v H' ⟨r', ⟨d, zo, z⟩, e1, e2, e3⟩ => ?_, fun σ H' ⟨ρ, ⟨d, _, z⟩, _⟩ => (nomatch z), fun σ H' ⟨ρ, ⟨d, _, z⟩, _⟩ => (nomatch z)⟩
    cases z
    exact q _ zo v H' e1 e2
theorem vis_vis {H : Hp} {b : Addr} {o : HO} (e : visH H b = some o) : visH (visH H) b = some o := visH_of e (visH_inv e).2
theorem rep_vis {H : Hp} {d : PyData} {v : V} (n : dless d = true) (h : Rep K H d v) : Rep K (visH H) d v := Wk.rep_dl (fun t xs q => by
  rcases q with (q | ⟨o, q⟩) | q
  · exact .inl (.inl (visH_of q rfl))
  · exact .inl (.inr ⟨o, visH_of q rfl⟩)
  · exact .inr q) (fun a o xs e => visH_of e rfl) d v n h
theorem reps_vis {H : Hp} : ∀ {ds : List PyData} {vs : List V}, dlesss ds = true → Reps K H ds vs → Reps K (visH H) ds vs
  | [], vs, _, h => by rw [Reps] at h ⊢; exact h
  | d :: ds, vs, n, h => by
    rw [dlesss, Bool.and_eq_true] at n
    obtain ⟨v, r, rfl, e1, e2⟩ := h.split
    exact .cons (rep_vis n.1 e1) (reps_vis n.2 e2)
def seen : Sl → Prop
  | .d d => dless d = true
  | .l xs => dlesss xs = true
  | _ => False
theorem rdrs_vis {H : Hp} : ∀ {as : List Sl} {vs : List V}, RdRs K H as vs → (∀ a ∈ as, seen a) → RdRs K (visH H) as vs
  | _, _, .nil, _ => .nil
  | _, _, .cons (r := r) h t, ha => by
    refine .cons ?_ (rdrs_vis t (fun a h => ha a (List.mem_cons_of_mem _ h)))
    have hr := ha _ List.mem_cons_self
    cases r with
    | d d => exact rep_vis hr h
    | l xs => obtain ⟨a, e, vs, e1, e2⟩ := h; exact ⟨a, e, vs, visH_of e1 rfl, reps_vis hr e2⟩
    | _ => exact hr.elim
theorem FnOk.hidN {k : Nat} {f : Addr} {fd : FuncData} {ps : List Str} {R : List Sl → Sl ⊕ Addr → Prop} (hR : ∀ as o, R as o → (∀ a ∈ as, seen a) ∧ ∀ r, o = .inl r → ∃ d, r = .d d)
    (F : FnOk P w K mg base (CX1 P w base) k f fd ps (spN K R)) : FnOk P w K mg base (CX1 P w base) k f fd ps (spVX K R) := by
  refine F.overX.imp fun vs H Q E ⟨as, o, h1, h2, q, qE⟩ => ?_
  obtain ⟨ha, ho⟩ := hR as o h2
  refine ⟨as, o, rdrs_vis h1 ha, h2, fun r z v H' n rv H2 s2 back => ?_, fun C z H' n H2 s2 back => qE C z H2 (back fun b o e => n b o (vis_vis e))⟩
  obtain ⟨d, rfl⟩ := ho r z
  exact q _ z v H2 (back fun b o e => n b o (vis_vis e)) (Rep.mono (TupLe.of_same s2) _ _ rv)
end
section
variable {X : Cx} {Φ : Hp → List (V × Sl) → St → Prop} {E : XK} {ρ : List Sl} {e : Expr} {es : List Expr} {rs : List Sl} {pos p p2 pos3 : Pos} {Q : Out → Prop} {rest : List Stmt} {o : Sl ⊕ Addr}
theorem vx_retGE {k : Nat} {f x : Str} {ps : List Str} {fpos apos cpos : Pos} {c : Wk.Cs} {v : Wk.MV} {i : Nat} {xs : List PyData} (D : DefOk X.prog X.w X.K X.mg X.base k f ps (Wk.spGiveE X.K c)) (hrm : Room k X.A) (hi : ixA x X.N 0 = some i) (hr : ρ[i]? = some (.o (xs ++ [Wk.mvD c v])))
    (hw : v.wt < 100000) (hn : EvoN Φ) (q : Q (.rt (.d (Wk.outD v))))
    (hv : Vis X.env.scope x := by first | exact Or.inl rfl | exact Or.inr (Or.inl rfl) | exact Or.inr (Or.inr rfl)) (hd : (x == ("__debug__" : Str)) = false := by decide) (hcd : (x == ("__classdict__" : Str)) = false := by decide)
    (hbase : attributeBase (.Name x p2) "pop" X.env (eval (.Name x p2) X.env) = eval (.Name x p2) X.env := by rfl) (hline : (apos.endLine == cpos.line) = true := by rfl)
    (hs : starEach [.Call (.Attribute (.Name x p2) "pop" apos) [] [] cpos] X.env = (false, eval (.Call (.Attribute (.Name x p2) "pop" apos) [] [] cpos) X.env) :: starEach [] X.env := by rfl)
    (hg : Gl X f := by rfl) (hdb : (f == ("__debug__" : Str)) = false := by decide) (hpl : (backTo fpos (starEach [] X.env)).any (·.1) = false := by rfl) :
    VX X Φ (.Return (some (.Call (.Name f p) [.Call (.Attribute (.Name x p2) "pop" apos) [] [] cpos] [] fpos)) pos :: rest) ρ Q :=
  vx_of (ps_ret (pe_callD D hrm hg (vma_pop (Φ := Φ) (ρ := ρ) hi hr vd_nil hv hd hcd hbase hline hs) hdb hs hpl)) fun H0 hs D σ H φ er l => ⟨H0, hs, φ, er, fun us H1 t1 e1 r1 => by
    show Wk.spGiveE X.K c (us ++ []) H1 _ E0
    rw [List.append_nil]
    obtain ⟨u, w, rfl, q1, q2⟩ := r1.split
    rw [Reps] at q2
    subst q2
    obtain ⟨v0, rfl⟩ := hn H0 hs σ φ
    refine ⟨u, v, rfl, q1, hw, fun u' H2 ni rv => l.rt u' H2 ⟨_, q, fun b o e => ni b o (e1.same b o e) (fun C dx fs z => by have := v0 b o e; rw [z] at this; cases this), rv, fun p hp => nomatch hp⟩⟩⟩
theorem vx_retN {k : Nat} {x : Str} {ps : List Str} {Rl : List Sl → Sl ⊕ Addr → Prop} (R : Raising X E) (D : DefX X.prog X.w X.K X.mg X.base k x ps (spN X.K Rl)) (hr : Room k X.A) (ev : EvoN Φ) (ha : VA X ρ (e :: es) rs) (h : Rl (rs.map Sl.arg) o) (q : ∀ r, o = .inl r → ∃ d, r = .d d ∧ Q (.rt (.d d)))
    (hE : ∀ C, o = .inr C → ∀ H0 hs σ, Φ H0 hs σ → ∀ H', Same H0 H' → E (.ref C) none H') (hg : Gl X x := by rfl) (hdb : (x == ("__debug__" : Str)) = false := by decide)
    (he : starEach (e :: es) X.env = (false, eval e X.env) :: starEach es X.env := by rfl) (hpl : (backTo pos (starEach es X.env)).any (·.1) = false := by rfl) : VX X Φ (.Return (some (.Call (.Name x p) (e :: es) [] pos)) p2 :: rest) ρ Q :=
  vx_of (ps_ret (pe_callX R D hr hg ha hdb he hpl)) fun H0 hs D σ H φ er l => ⟨⟨H0, hs, er⟩, fun vs H1 s1 r1 => by
    show spN X.K Rl (vs ++ []) H1 _ E
    rw [List.append_nil]
    obtain ⟨v0, rfl⟩ := ev H0 hs σ φ
    have sm : ∀ H2, NI H1 H2 → Same H0 H2 := fun H2 n b o e => n b o (visH_of (s1 b o (er.same b o e)) (v0 b o e))
    refine ⟨rs.map Sl.arg, o, r1.arg, h, fun r z v H2 n rv => ?_, fun C z H2 n => hE C z H0 [] σ φ H2 (sm H2 n)⟩
    obtain ⟨d, rfl, qd⟩ := q r z
    exact l.rt v H2 ⟨.d d, qd, sm H2 n, rv, fun p hp => nomatch hp⟩⟩
theorem vx_setE {i k : Nat} {x y : Str} {ps : List Str} {Rl : List Sl → Sl ⊕ Addr → Prop} {d : PyData} (nd : X.N.Nodup) (hi : ixA y X.N 0 = some i) (kp : Kept Φ i) (D : DefOk X.prog X.w X.K X.mg X.base k x ps (spE X.K Rl)) (hr : Room k X.A) (ev : EvoOk Φ) (ha : VA X ρ (e :: es) rs) (h : Rl (rs.map Sl.arg) (.inl (.d d))) (kk : VX X Φ rest (ρ.set i (.d d)) Q)
    (nh : noH ρ = true := by rfl) (hx : Loc X.env.scope y := by exact Or.inl rfl) (hs : swapsWith (.Call (.Name x p) (e :: es) [] pos) (some (.Name y p2)) pos3.line X.env = pure false := by rfl)
    (hf : X.fn y = true ∨ X.env.scope.names.lookup y = some .local := by first | exact .inl rfl | exact .inr rfl | assumption) (hg : Gl X x := by rfl) (hdb : (x == ("__debug__" : Str)) = false := by decide)
    (he : starEach (e :: es) X.env = (false, eval e X.env) :: starEach es X.env := by rfl) (hpl : (backTo pos (starEach es X.env)).any (·.1) = false := by rfl) : VX X Φ (.Assign [.Name y p2] (.Call (.Name x p) (e :: es) [] pos) pos3 :: rest) ρ Q :=
  vx_of (ps_set nd (ixA_N hi) hx (pe_callD D hr hg ha hdb he hpl) hs hf) fun H0 hs D σ H φ er l => ⟨⟨H0, hs, er⟩, fun vs H1 s1 r1 => by
    show spE X.K Rl (vs ++ []) H1 _ E0
    rw [List.append_nil]
    obtain ⟨v0, nhs⟩ := ev H0 hs σ φ
    obtain ⟨w1, w2⟩ := (er.grow s1).data (noH_of nh) (noP nhs) v0
    refine ⟨rs.map Sl.arg, .inl (.d d), _, r1.arg, h, w1, fun r z v H2 n w rv => ?_, fun C z => nomatch z⟩
    cases z
    exact l.nx _ _ ⟨_, kk, kp _ _ _ _ φ, (w2 H2 n w).setD rv⟩⟩
end
end L2
namespace Wk
open PySem L2 PySem.Spec PyProof.Rows
def resG (CS CT : Addr) : Res → Sl ⊕ Addr
  | .val v => .inl (.d (outD v))
  | .stuck => .inr CS
  | .tired => .inr CT
def okR (r : Res) : Prop := ∀ v, r = .val v → v.wt < 100000
def RWorkG (c : Cs) (CS CT : Addr) : List Sl → Sl ⊕ Addr → Prop := fun as o => ∃ (e : MT) (ρ : MR) (n : Nat) (r : Res), as = [.d (mtD e), .d (knD c ρ), .d (.int (n : Int))] ∧ n ≤ 100000 ∧ Ends ⟨[.beg e ρ], [], n⟩ r ∧ okR r ∧ o = resG CS CT r
def RRunG (CS CT : Addr) : List Sl → Sl ⊕ Addr → Prop := fun as o => ∃ (e : MT) (ρ : MR) (n : Nat) (r : Res), as = [.d (mtD e), .l (outKs ρ).reverse, .d (.int (n : Int))] ∧ n ≤ 100000 ∧ Ends ⟨[.beg e ρ], [], n⟩ r ∧ okR r ∧ o = resG CS CT r
def RAppG (CS CT : Addr) : List Sl → Sl ⊕ Addr → Prop := fun as o => ∃ (x : Str) (b : MT) (ρ : MR) (a : MV) (n : Nat) (r : Res), as = [.d (outD (.clos x b ρ)), .d (outD a), .d (.int (n : Int))] ∧ n ≤ 100000 ∧ Ends ⟨[.beg b ((x, a) :: ρ)], [], n⟩ r ∧ okR r ∧ o = resG CS CT r
theorem resG_d {CS CT : Addr} {r : Res} {s : Sl} (h : resG CS CT r = .inl s) : ∃ d, s = .d d := by cases r <;> cases h; exact ⟨_, rfl⟩
theorem run_seen {CS CT : Addr} (as : List Sl) (o : Sl ⊕ Addr) (h : RRunG CS CT as o) : (∀ a ∈ as, seen a) ∧ ∀ r, o = .inl r → ∃ d, r = .d d := by
  obtain ⟨e, ρ, n, r, rfl, _, _, _, rfl⟩ := h
  refine ⟨fun a ha => ?_, fun r' z => resG_d z⟩
  simp only [List.mem_cons, List.not_mem_nil, or_false] at ha
  rcases ha with rfl | rfl | rfl
  · exact mtD_dless e
  · show dlesss _ = true; rw [dlesss_reverse]; exact outKs_dless ρ
  · rfl
theorem app_seen {CS CT : Addr} (as : List Sl) (o : Sl ⊕ Addr) (h : RAppG CS CT as o) : (∀ a ∈ as, seen a) ∧ ∀ r, o = .inl r → ∃ d, r = .d d := by
  obtain ⟨x, b, ρ, a, n, r, rfl, _, _, _, rfl⟩ := h
  refine ⟨fun a' ha => ?_, fun r' z => resG_d z⟩
  simp only [List.mem_cons, List.not_mem_nil, or_false] at ha
  rcases ha with rfl | rfl | rfl
  · exact outD_dless _
  · exact outD_dless _
  · rfl
end Wk
set_option Elab.async false
set_option linter.all false
set_option maxRecDepth 100000
namespace Wk
open PySem
def nN : Str := "n"
def nX : Str := "nnnnnnnnnnnnnnnnnnnnnnnnnnnnnnx"
def nT : Str := "nnnnnnnnnnnnnnnnnnnnnnnnnnnnnnt"
def pP : Str := "pppppppppppppppppppppppppppppp"
def gO : Str := "gogogogogogogogogogogogogogogo"
def gN : Str := "gogogogogogogogogogogogogogogon"
def nm (i : Nat) : Str := if i = 0 then nN else if i = 1 then nX else nT
def wd (j : Nat) : Str := if j = 0 then gO else gN
theorem nm_ne {i j : Nat} (hi : i < 3) (hj : j < 3) (h : i ≠ j) : nm i ≠ nm j := by
  have hh : ∀ i : Fin 3, ∀ j : Fin 3, i ≠ j → nm i.1 ≠ nm j.1 := by decide +kernel
  exact hh ⟨i, hi⟩ ⟨j, hj⟩ fun z => h (Fin.mk.inj z)
theorem wd_ne {i j : Nat} (hi : i < 2) (hj : j < 2) (h : i ≠ j) : wd i ≠ wd j := by
  have hh : ∀ i : Fin 2, ∀ j : Fin 2, i ≠ j → wd i.1 ≠ wd j.1 := by decide +kernel
  exact hh ⟨i, hi⟩ ⟨j, hj⟩ fun z => h (Fin.mk.inj z)
theorem nm_wd {i j : Nat} (hi : i < 3) (hj : j < 2) : nm i ≠ wd j := by
  have hh : ∀ i : Fin 3, ∀ j : Fin 2, nm i.1 ≠ wd j.1 := by decide +kernel
  exact hh ⟨i, hi⟩ ⟨j, hj⟩
theorem nm_p {i : Nat} (hi : i < 3) : nm i ≠ "p" := by
  have hh : ∀ i : Fin 3, nm i.1 ≠ "p" := by decide +kernel
  exact hh ⟨i, hi⟩
theorem pP_p : pP ≠ "p" := by decide +kernel
def partE : MT := .add (.name "p") (.name pP)
def env5 : MR := [(gN, .clos "p" partE [(pP, .int 20)]), (gO, .clos "p" partE [(pP, .int 10)]), (nT, .int 3), (nX, .int 2), (nN, .int 1)]
def env7 : MR := ("p", .int 6) :: (nN, .int 5) :: env5
structure PM where
  n : Int
  x : Int
  t : Int
  o : Int
  g : Int
def pm0 : PM := ⟨1, 2, 3, 10, 20⟩
def PM.pv (m : PM) (i : Nat) : Int := if i = 0 then m.n else if i = 1 then m.x else m.t
def PM.mv (m : PM) (j : Nat) : Int := if j = 0 then m.o else m.g
def PM.setP (m : PM) (i : Nat) (v : Int) : PM := if i = 0 then { m with n := v } else if i = 1 then { m with x := v } else { m with t := v }
def PM.setM (m : PM) (j : Nat) (v : Int) : PM := if j = 0 then { m with o := v } else { m with g := v }
theorem three {p : Nat → Prop} (h0 : p 0) (h1 : p 1) (h2 : p 2) {i : Nat} (h : i < 3) : p i := by match i, h with | 0, _ => exact h0 | 1, _ => exact h1 | 2, _ => exact h2
theorem two {p : Nat → Prop} (h0 : p 0) (h1 : p 1) {i : Nat} (h : i < 2) : p i := by match i, h with | 0, _ => exact h0 | 1, _ => exact h1
theorem pv_setP {m : PM} {v : Int} {i j : Nat} (hi : i < 3) (hj : j < 3) : (m.setP i v).pv j = if i = j then v else m.pv j := by
  refine three (p := fun i => (m.setP i v).pv j = if i = j then v else m.pv j) ?_ ?_ ?_ hi <;> refine three (p := fun j => (m.setP _ v).pv j = if _ = j then v else m.pv j) ?_ ?_ ?_ hj <;> rfl
theorem mv_setP {m : PM} {v : Int} {i j : Nat} (hi : i < 3) : (m.setP i v).mv j = m.mv j := three (p := fun i => (m.setP i v).mv j = m.mv j) rfl rfl rfl hi
theorem pv_setM {m : PM} {v : Int} {i j : Nat} (hj : j < 2) : (m.setM j v).pv i = m.pv i := two (p := fun j => (m.setM j v).pv i = m.pv i) rfl rfl hj
theorem mv_setM {m : PM} {v : Int} {i j : Nat} (hi : i < 2) (hj : j < 2) : (m.setM i v).mv j = if i = j then v else m.mv j := by
  refine two (p := fun i => (m.setM i v).mv j = if i = j then v else m.mv j) ?_ ?_ hi <;> refine two (p := fun j => (m.setM _ v).mv j = if _ = j then v else m.mv j) ?_ ?_ hj <;> rfl
structure Bd where
  x : Str
  k : KD
  e : MT
  st : Nat
def bdD (b : Bd) : PyData := .tuple [.str b.x, b.k.1, mtD b.e, .int (b.st : Nat)]
def gvI (c : Int) : Nat := (c * 48271 % 1009 % 3).toNat
def gvJ (c : Int) : Nat := (c * 48271 % 1013 % 3).toNat
def gvW (c : Int) : Nat := (c * 48271 % 1019 % 2).toNat
def gvN (c : Int) : Int := c * 48271 % 1031 % 7 - 3
def gvK (c : Int) : Int := c * 48271 % 1021 % 3
theorem gvI_lt (c : Int) : gvI c < 3 := by unfold gvI; omega
theorem gvJ_lt (c : Int) : gvJ c < 3 := by unfold gvJ; omega
theorem gvW_lt (c : Int) : gvW c < 2 := by unfold gvW; omega
theorem gvI_eq (c : Int) : c * 48271 % 1009 % 3 = (gvI c : Int) := by unfold gvI; omega
theorem gvJ_eq (c : Int) : c * 48271 % 1013 % 3 = (gvJ c : Int) := by unfold gvJ; omega
theorem gvW_eq (c : Int) : c * 48271 % 1019 % 2 = (gvW c : Int) := by unfold gvW; omega
def bd0 (c : Int) : Bd := ⟨nm (gvI c), kNum, .add (.name (nm (gvJ c))) (.num (gvN c)), 5⟩
def bd1 (c : Int) : Bd := ⟨wd (gvW c), kTo, .lam "p" kNum (.add (.name "p") (.name (nm (gvJ c)))), 3⟩
def bd2 (c : Int) : Bd := ⟨nm (gvI c), kNum, .call (.name (wd (gvW c))) (.name (nm (gvJ c))), 8⟩
def giv (c : Int) (m : PM) : Bd × PM :=
  if gvK c = 0 then (bd0 c, m.setP (gvI c) (m.pv (gvJ c) + gvN c))
  else if gvK c = 1 then (bd1 c, m.setM (gvW c) (m.pv (gvJ c)))
  else (bd2 c, m.setP (gvI c) (m.pv (gvJ c) + m.mv (gvW c)))
structure EnvOk (m : PM) (ρ : MR) : Prop where
  p : ∀ i, i < 3 → ρ.get (nm i) = some (.int (m.pv i))
  f : ∀ j, j < 2 → ∃ (q : Str) (ρ' : MR), ρ.get (wd j) = some (.clos "p" (.add (.name "p") (.name q)) ρ') ∧ q ≠ "p" ∧ ρ'.get q = some (.int (m.mv j))
theorem get_eq {x : Str} {v : MV} {ρ : MR} : MR.get x ((x, v) :: ρ) = some v := by rw [MR.get, if_pos rfl]
theorem get_ne {x y : Str} {v : MV} {ρ : MR} (h : y ≠ x) : MR.get x ((y, v) :: ρ) = MR.get x ρ := by rw [MR.get, if_neg h]
theorem env5_ok : EnvOk pm0 env5 where
  p := fun i hi => three (p := fun i => env5.get (nm i) = some (.int (pm0.pv i))) (by
      show MR.get nN env5 = _
      unfold env5
      rw [get_ne (by decide +kernel), get_ne (by decide +kernel), get_ne (by decide +kernel), get_ne (by decide +kernel), get_eq]; rfl) (by
      show MR.get nX env5 = _
      unfold env5
      rw [get_ne (by decide +kernel), get_ne (by decide +kernel), get_ne (by decide +kernel), get_eq]; rfl) (by
      show MR.get nT env5 = _
      unfold env5
      rw [get_ne (by decide +kernel), get_ne (by decide +kernel), get_eq]; rfl) hi
  f := fun j hj => two (p := fun j => ∃ (q : Str) (ρ' : MR), env5.get (wd j) = some (.clos "p" (.add (.name "p") (.name q)) ρ') ∧ q ≠ "p" ∧ ρ'.get q = some (.int (pm0.mv j)))
    ⟨pP, [(pP, .int 10)], by
      show MR.get gO env5 = _
      unfold env5
      rw [get_ne (by decide +kernel), get_eq]; rfl, pP_p, by rw [get_eq]; rfl⟩
    ⟨pP, [(pP, .int 20)], by
      show MR.get gN env5 = _
      unfold env5
      rw [get_eq]; rfl, pP_p, by rw [get_eq]; rfl⟩ hj
theorem EnvOk.setP {m : PM} {ρ : MR} {i : Nat} {v : Int} (h : EnvOk m ρ) (hi : i < 3) : EnvOk (m.setP i v) ((nm i, .int v) :: ρ) where
  p := fun j hj => by
    rw [pv_setP hi hj]
    by_cases e : i = j
    · subst e; rw [if_pos rfl, get_eq]
    · rw [if_neg e, get_ne (nm_ne hi hj e)]; exact h.p j hj
  f := fun j hj => by
    rw [get_ne (nm_wd hi hj), mv_setP hi]; exact h.f j hj
theorem EnvOk.setM {m : PM} {ρ ρ' : MR} {j : Nat} {q : Str} {v : Int} (h : EnvOk m ρ) (hj : j < 2) (nq : q ≠ "p") (hq : ρ'.get q = some (.int v)) : EnvOk (m.setM j v) ((wd j, .clos "p" (.add (.name "p") (.name q)) ρ') :: ρ) where
  p := fun i hi => by
    rw [pv_setM hj, get_ne (Ne.symm (nm_wd hi hj))]; exact h.p i hi
  f := fun i hi => by
    rw [mv_setM hj hi]
    by_cases e : j = i
    · subst e; exact ⟨q, ρ', get_eq, nq, by rw [if_pos rfl]; exact hq⟩
    · rw [if_neg e, get_ne (wd_ne hj hi e)]; exact h.f i hi
theorem EnvOk.call {m : PM} {ρ : MR} {j n : Nat} {a : MT} {i : Int} (h : EnvOk m ρ) (hj : j < 2) (ha : Ev ρ a n (some (.int i))) : Ev ρ (.call (.name (wd j)) a) (1 + n + (1 + 1 + 1) + 1) (some (.int (i + m.mv j))) := by
  obtain ⟨q, ρ', h1, h2, h3⟩ := h.f j hj
  exact .call (.name h1) ha (.add (.name get_eq) (.name (by rw [get_ne (Ne.symm h2)]; exact h3)))
theorem giv_ev (c : Int) {m : PM} {ρ : MR} (h : EnvOk m ρ) : ∃ v, ∃ n : Nat, (giv c m).1.st = n + 2 ∧ Ev ρ (giv c m).1.e n (some v) ∧ EnvOk (giv c m).2 (((giv c m).1.x, v) :: ρ) := by
  unfold giv
  split
  · exact ⟨_, 1 + 1 + 1, rfl, .add (.name (h.p _ (gvJ_lt c))) .num, h.setP (gvI_lt c)⟩
  split
  · exact ⟨_, 1, rfl, .lam, h.setM (gvW_lt c) (nm_p (gvJ_lt c)) (h.p _ (gvJ_lt c))⟩
  · exact ⟨_, 1 + 1 + (1 + 1 + 1) + 1, rfl, h.call (gvW_lt c) (.name (h.p _ (gvJ_lt c))), h.setP (gvI_lt c)⟩
def wrapE : List Bd → MT → MT
  | [], e => e
  | b :: r, e => .call (.lam b.x b.k (wrapE r e)) b.e
def stsum : List Bd → Nat
  | [] => 0
  | b :: r => b.st + stsum r
def totE : MT := .add (.name nX) (.name nT)
def asiE : MT := .case kNum "n" "t" (.nil kNum) (.name "n") totE
def tt2E : MT := .add asiE totE
def inE : MT := .add (.call (.name gO) tt2E) (.call (.name gN) tt2E)
def PM.due (m : PM) : Int := 2 * (m.n + m.x + m.t) + m.o + m.g
theorem in_ev {m : PM} {ρ : MR} (h : EnvOk m ρ) : Ev ρ inE 25 (some (.int m.due)) := by
  have h0 : Ev ρ (.name nN) 1 (some (.int m.n)) := .name (h.p 0 (by decide))
  have h1 : Ev ρ (.name nX) 1 (some (.int m.x)) := .name (h.p 1 (by decide))
  have h2 : Ev ρ (.name nT) 1 (some (.int m.t)) := .name (h.p 2 (by decide))
  have ht : Ev ρ totE 3 (some (.int (m.x + m.t))) := .add h1 h2
  have ha : Ev ρ asiE 3 (some (.int m.n)) := .caseE .nil h0
  have hs : Ev ρ tt2E 7 (some (.int (m.n + (m.x + m.t)))) := .add ha ht
  have e := Ev.add (h.call (j := 0) (by decide) hs) (h.call (j := 1) (by decide) hs)
  rw [show m.due = m.n + (m.x + m.t) + m.mv 0 + (m.n + (m.x + m.t) + m.mv 1) from by unfold PM.due PM.mv; simp only [if_true, Nat.one_ne_zero, if_false]; omega]
  exact e
inductive Rows : PM → List Bd → PM → Prop where
  | nil {m} : Rows m [] m
  | cons {m c r m2} (h : Rows (giv c m).2 r m2) : Rows m ((giv c m).1 :: r) m2
theorem Rows.snoc {m r m2} (h : Rows m r m2) (c : Int) : Rows m (r ++ [(giv c m2).1]) (giv c m2).2 := by
  induction h with
  | nil => exact .cons .nil
  | cons h ih => exact .cons ih
theorem wrap_ev {m r m2} (h : Rows m r m2) {ρ : MR} (ok : EnvOk m ρ) : Ev ρ (wrapE r inE) (25 + stsum r) (some (.int m2.due)) := by
  induction h generalizing ρ with
  | nil => exact in_ev ok
  | @cons m c r m2 h ih =>
    obtain ⟨v, n, e1, e2, e3⟩ := giv_ev c ok
    have e := Ev.call (k := 25 + stsum r) (.lam (k := (giv c m).1.k)) e2 (ih e3)
    rw [wrapE, stsum, e1, show 25 + (n + 2 + stsum r) = 1 + n + (25 + stsum r) + 1 from by omega]
    exact e
def givs (f : Nat → Int) : Nat → List Bd × PM
  | 0 => ([], pm0)
  | i + 1 => ((givs f i).1 ++ [(giv (f i) (givs f i).2).1], (giv (f i) (givs f i).2).2)
theorem givs_rows (f : Nat → Int) : ∀ i, Rows pm0 (givs f i).1 (givs f i).2
  | 0 => .nil
  | i + 1 => (givs_rows f i).snoc _
theorem givs_len (f : Nat → Int) : ∀ i, (givs f i).1.length = i
  | 0 => rfl
  | i + 1 => by rw [givs, List.length_append, givs_len f i]; rfl
theorem giv_st (c : Int) (m : PM) : (giv c m).1.st ≤ 8 := by
  unfold giv
  split
  · exact (by decide : 5 ≤ 8)
  split
  · exact (by decide : 3 ≤ 8)
  · exact (by decide : 8 ≤ 8)
theorem rows_st {m r m2} (h : Rows m r m2) : stsum r ≤ 8 * r.length := by
  induction h with
  | nil => exact Nat.le_refl _
  | @cons m c r m2 h ih =>
    rw [stsum, List.length_cons]
    have := giv_st c m
    omega
def madE : MT := .lam "p" kNum (.name "p")
def innE : MT := .call (.lam "n" kNum madE) (.num 7)
theorem mad_ev : Ev env7 madE 1 (some (.clos "p" (.name "p") env7)) := .lam
theorem inn_ev : Ev env7 innE 4 (some (.clos "p" (.name "p") (("n", .int 7) :: env7))) := .call (k := 1) .lam .num .lam
theorem fun_ev : Ev [("p", .int 7), (pP, .int 10)] partE 3 (some (.int 17)) := .add (i := 7) (j := 10) (.name get_eq) (.name ((get_ne (Ne.symm pP_p)).trans get_eq))
end Wk
set_option Elab.async false
set_option linter.all false
set_option maxRecDepth 100000
set_option maxHeartbeats 4000000
namespace L2
open PySem PySem.Spec PyProof.Rows
section
variable {K : PySem.W.Frag} {H0 H H' : Hp} {ρ ρ' : List Sl} {σ : St}
theorem ER.dicts (er : ER K H0 [] ρ σ H) (hl : ρ'.length = ρ.length) (hO : ∀ (n : Nat) r, (∀ P, r ≠ .h P) → ρ'[n]? = some r → ρ[n]? = some r) (hP : ∀ (n : Nat) P, ρ'[n]? = some (.h P) → ∃ v, σ[n]? = some (some v) ∧ P.p H' v)
    (off : ∀ b o, (∀ kvs, o ≠ .dK kvs) → H b = some o → H' b = some o) (s0 : Same H0 H') : ER K H0 [] ρ' σ H' := by
  have tl : TupLe K H H' := .of_keep fun b o h _ n _ => off b o n h
  have ls : ∀ {a xs}, LsR K H a xs → LsR K H' a xs := fun ⟨vs, e, q⟩ => ⟨vs, off _ _ (fun _ z => nomatch z) e, Reps.mono tl _ _ q⟩
  have oo : ∀ {i : Nat} {xs : List PyData}, ρ'[i]? = some (.o xs) → ρ[i]? = some (.o xs) := fun h => hO _ _ (fun _ z => nomatch z) h
  have ll : ∀ {i : Nat} {xs : List PyData}, ρ'[i]? = some (.l xs) → ρ[i]? = some (.l xs) := fun h => hO _ _ (fun _ z => nomatch z) h
  refine ⟨s0, by rw [hl]; exact er.len, fun i x q => ?_, fun i x q => ?_, fun i P q => hP i P q, fun i x q => ?_, fun i j a xs ys q1 q2 => er.sepL i j a xs ys (oo q1) (ll q2), fun i j a xs ys n q1 q2 => er.sepO i j a xs ys n (oo q1) (oo q2), fun p hp => (nomatch hp), fun i xs a _ _ p hp => nomatch hp⟩
  · obtain ⟨v, h1, h2⟩ := er.dat i x (hO _ _ (fun _ z => nomatch z) q); exact ⟨v, h1, Rep.mono tl _ _ h2⟩
  · obtain ⟨a, h1, h2⟩ := er.lst i x (ll q); exact ⟨a, h1, ls h2⟩
  · obtain ⟨a, h1, h2, h3⟩ := er.own i x (oo q); exact ⟨a, h1, ls h2, h3⟩
def StayD (kvs : List (Key × V)) (P : Per) : Prop := ∀ H a o v, H a = some (.dK kvs) → P.p H v → P.p (upd H a o) v
theorem stay_dict {kvs kvs2 : List (Key × V)} (n : kvs ≠ kvs2) : StayD kvs (dictPer kvs2) := fun H a o v h ⟨b, e, q⟩ => ⟨b, e, by
  rw [upd_ne (fun z => n (by rw [z, h] at q; cases q; rfl))]; exact q⟩
def OthD (kvs : List (Key × V)) (i : Nat) : List Sl → Nat → Prop
  | [], _ => True
  | .h P :: r, k => (k = i ∨ StayD kvs P) ∧ OthD kvs i r (k + 1)
  | _ :: r, k => OthD kvs i r (k + 1)
theorem OthD.get {kvs : List (Key × V)} {i : Nat} : ∀ {ρ : List Sl} {k : Nat}, OthD kvs i ρ k → ∀ (j : Nat) P, ρ[j]? = some (.h P) → j + k = i ∨ StayD kvs P
  | [], k, _, j, P, e => by simp at e
  | r :: ρ, k, h, 0, P, e => by simp at e; subst e; exact h.1.imp (fun z => by omega) fun z => z
  | r :: ρ, k, h, j + 1, P, e => by
    have h' : OthD kvs i ρ (k + 1) := by cases r <;> first | exact h | exact h.2
    rcases h'.get j P (by simpa using e) with z | z
    · exact .inl (by omega)
    · exact .inr z
end
section
variable {X : Cx} {Φ : Hp → List (V × Sl) → St → Prop} {ρ : List Sl} {a b e c : Expr} {es : List Expr} {r ra rb : Sl} {pos p p2 p3 pos2 : Pos} {d : PyData} {xs : List PyData} {Q : Out → Prop} {rest : List Stmt}
theorem ve_dix {kvs : List (Key × V)} {x : Str} {n : Int} (hu : X.A.units + 1 < cLine) (ho : VE X ρ a (.h (dictPer kvs))) (hb : VE X ρ b (.d (.str x))) (hv : valV kvs (.inr x) = some (.int n)) (hs : NoSl b := by exact fun _ _ => rfl) : VE X ρ (.Subscript a b pos) (.d (.int n)) :=
  PE.weak (pe_dget hu ho hb hs) fun σ H Q ⟨er, q⟩ => ⟨er, fun v H1 s1 r1 => by
    obtain ⟨p, rfl, hp⟩ := r1
    refine ⟨er_grow er s1, fun u H2 s2 r2 => ?_⟩
    obtain rfl := RsR.is_str r2
    have g := DGet.k (k := .inr x) (s2 _ _ hp)
    rw [hv] at g
    exact ⟨p, _, rfl, g, q _ H2 (s1.trans s2) RsR.int⟩⟩
def OwnD (Φ : Hp → List (V × Sl) → St → Prop) (i : Nat) : Prop := ∀ H0 hs σ, Φ H0 hs σ → hs = [] ∧ ∀ a, σ[i]? = some (some (.ref a)) → H0 a = none
theorem vx_dput {i : Nat} {x s : Str} {kvs : List (Key × V)} {n : Int} {apos : Pos} (hu : X.A.units + 1 < cLine) (hi : ixA x X.N 0 = some i) (hr : ρ[i]? = some (.h (dictPer kvs))) (hz : kvs.length < sizeLine) (ow : OwnD Φ i) (oth : OthD kvs i ρ 0) (hb : VE X ρ b (.d (.str s))) (hv : VE X ρ e (.d (.int n)))
    (k : VX X Φ rest (ρ.set i (.h (dictPer (putK kvs (.inr s) (.int n))))) Q)
    (hvi : Vis X.env.scope x := by first | exact Or.inl rfl | exact Or.inr (Or.inl rfl) | exact Or.inr (Or.inr rfl)) (hd : (x == ("__debug__" : Str)) = false := by decide) (hcd : (x == ("__classdict__" : Str)) = false := by decide)
    (hs : swapsWith e (some (.Subscript (.Name x p2) b apos)) pos.line X.env = pure false := by rfl) : VX X Φ (.Assign [.Subscript (.Name x p2) b apos] e pos :: rest) ρ Q :=
  vx_of (ps_dput hu (pe_var (ixA_N hi) hvi hd hcd) hb hv hs) fun H0 hs D σ H φ er l => ⟨⟨H0, hs, er⟩, fun v H1 s1 r1 => by
    obtain rfl := RsR.is_int r1
    have er1 := er.grow s1
    obtain ⟨u, g1, a, rfl, g2⟩ := er1.per i _ hr
    refine ⟨_, g1, ⟨H0, hs, er1⟩, fun w H2 s2 r2 => ?_⟩
    obtain rfl := RsR.is_str r2
    obtain ⟨rfl, ow2⟩ := ow H0 hs σ φ
    have er2 := er1.grow s2
    have g3 := s2 _ _ g2
    have h0 := ow2 a g1
    refine ⟨a, _, rfl, DPut.k (k := .inr s) g3 hz, l.nx _ _ ⟨_, k, φ, er2.dicts (by rw [List.length_set]) (fun m r' nh q => ?_) (fun m P q => ?_) (fun b' o n' q => ?_) (fun b' o q => ?_)⟩⟩
    · rcases set_get q with ⟨_, z, _⟩ | ⟨_, q⟩
      · exact absurd z (nh _)
      · exact q
    · rcases set_get q with ⟨rfl, z, _⟩ | ⟨nm, q⟩
      · cases z; exact ⟨_, g1, a, rfl, upd_same⟩
      · obtain ⟨v', f1, f2⟩ := er2.per m P q
        rcases oth.get m P q with z | z
        · exact absurd z.symm nm
        · exact ⟨v', f1, z _ _ _ _ g3 f2⟩
    · rw [upd_ne (fun z => by rw [z, g3] at q; cases q; exact n' _ rfl)]; exact q
    · rw [upd_ne (fun z => by rw [z, h0] at q; cases q)]; exact er2.same b' o q⟩
theorem vx_disp {i : Nat} {x : Str} {keys : List (Option Expr)} {values : List Expr} {kvs : List (Key × V)} {trs : List (TE × TE)} (nd : X.N.Nodup) (hi : ixA x X.N 0 = some i) (h1 : PPs X pos2 keys values trs) (h2 : ∀ H0 hs σ H Q, ER X.K H0 hs ρ σ H → (∀ H', Same H H' → Q (kvs.map fun kv => (kV kv.1, kv.2)) H') → tPairs trs σ H Q)
    (hall : keys.all (·.isSome) = true) (hl : keys.length = values.length) (h0 : keys ≠ []) (hk : keys.length ≤ 15) (hz : kvs.length ≤ 15) (kp : ∀ H0 hs σ a, Φ H0 hs σ → H0 a = none → Φ H0 hs (σ.set i (some (.ref a))))
    (k : VX X Φ rest (ρ.set i (.h (dictPer (mergeK [] kvs)))) Q) (hx : Loc X.env.scope x := by exact Or.inl rfl) (hs : swapsWith (.Dict keys values pos2) (some (.Name x p2)) pos.line X.env = pure false := by rfl)
    (hf : X.fn x = true ∨ X.env.scope.names.lookup x = some .local := by first | exact .inl rfl | exact .inr rfl | assumption) : VX X Φ (.Assign [.Name x p2] (.Dict keys values pos2) pos :: rest) ρ Q :=
  vx_of (ps_set nd (ixA_N hi) hx (pe_disp h1 hall hl h0 hk) hs hf) fun H0 hs D σ H φ er l => fun p np => h2 H0 hs σ _ _ (er.grow (same_upd np _)) fun H' s' => by
    have hp : H' p = some (.dK []) := s' _ _ upd_same
    have sm : Same H (upd H' p (.dK (mergeK [] kvs))) := fun b o q => by rw [upd_ne (fun z => by rw [z, np] at q; cases q)]; exact s' _ _ (same_upd np _ b o q)
    exact ⟨hp, kvs, rfl, hz, l.nx _ _ ⟨_, k, kp _ _ _ _ φ (er.same.free np), (er.grow sm).setR (r := .h (dictPer (mergeK [] kvs))) ⟨p, rfl, upd_same⟩ (fun _ z => nomatch z) fun _ z => nomatch z⟩⟩
theorem vx_rng {body : List Stmt} {i : Nat} {x : Str} {n : Nat} (hp : PassesOwn (model X.prog X.w) X.A X.env X.xe) (hc : X.calm = true) (nd : X.N.Nodup) (hi : ixA x X.N 0 = some i) (kp : Kept Φ i) (hm : X.mg "range" = none) (h : VE X ρ e (.d (.int n))) (hz : n < 2 ^ 62) (J : Nat → List Sl → Prop) (h0 : J 0 ρ)
    (step : ∀ (m : Nat) ρ', m < n → J m ρ' → VX X Φ body (ρ'.set i (.d (.int (m : Int)))) (loopX X Φ rest Q (J (m + 1)))) (fin : ∀ ρ', J n ρ' → VX X Φ rest ρ' Q)
    (hx : Loc X.env.scope x := by exact Or.inl rfl) (hf : X.fn x = true ∨ X.env.scope.names.lookup x = some .local := by first | exact .inl rfl | exact .inr rfl | assumption)
    (hg : Gl X "range" := by rfl) (hs : starEach [e] X.env = [(false, eval e X.env)] := by rfl) (hsf : ∀ y, foldedSetIterable (.Call (.Name "range" p) [e] [] pos) X.env y = pure y := by intro _; rfl) : VX X Φ (.For (.Name x p2) (.Call (.Name "range" p) [e] [] pos) body [] pos2 :: rest) ρ Q := by
  have hb : PSs X body (fun D σ H => ∃ ρ' Q', VX X Φ body ρ' Q' ∧ tXS X.K Φ ρ' Q' D σ H) := by
    rintro pins s σ H D I ⟨ρ', Q', v, q⟩
    exact v pins s σ H D I q
  refine vx_of (ps_for hp hc (pi_range1 hg hm (pa_cons h pa_nil hs) hs) (pg_name nd (ixA_N hi) hx hf) hb hsf) fun H0 hs D σ H φ er l => ⟨⟨H0, hs, er⟩, fun v H1 s1 q => ?_⟩
  obtain rfl := RsR.is_int q
  refine ⟨n, rfl, by omega, by omega, ?_⟩
  rw [Int.toNat_natCast]
  refine ⟨fun k m σ H => m = n - k ∧ k ≤ n ∧ ∃ ρ', J k ρ' ∧ Φ H0 hs σ ∧ ER X.K H0 hs ρ' σ H, ⟨_, rfl, Nat.zero_le _, ρ, h0, φ, er.grow s1⟩, ?_⟩
  rintro k m σ H ⟨rfl, hk, ρ', j, φ, er⟩
  by_cases hlt : k < n
  · refine .inr ⟨hlt, fun σ' H' => ∃ ρ3, J (k + 1) ρ3 ∧ Φ H0 hs σ' ∧ ER X.K H0 hs ρ3 σ' H', fun σ' H' ⟨ρ3, j3, φ3, e3⟩ => ⟨n - (k + 1), by omega, rfl, hlt, ρ3, j3, φ3, e3⟩, fun v H' ⟨e1, e2⟩ => ?_⟩
    subst e1 e2
    rw [Int.zero_add]
    refine ⟨_, _, step k ρ' hlt j, H0, hs, kp _ _ _ _ φ, er.setD (.int _), ?_⟩
    exact ⟨fun σ H ⟨ρ3, q, φ, e⟩ => ⟨ρ3, q, φ, e⟩, fun v H q => l.rt v H q, fun σ H ⟨ρ3, q, φ, e⟩ => l.nx σ H ⟨ρ3, q, φ, e⟩, fun σ H ⟨ρ3, q, φ, e⟩ => ⟨ρ3, q, φ, e⟩⟩
  · have e : k = n := by omega
    subst e
    exact .inl ⟨Nat.le_refl _, l.nx _ _ ⟨ρ', fin ρ' j, φ, er⟩⟩
theorem vx_of_vs {ss : List Stmt} (hφ : ∀ H0 hs σ, Φ H0 hs σ → hs = []) (h : VS X ss ρ Q) (hQ : ∀ o, Q o → ∃ r, o = .rt r) : VX X Φ ss ρ Q :=
  PSs.weak h fun D σ H ⟨H0, hs, φ, er, l⟩ => ⟨H0, hs, er, ⟨fun σ H ⟨ρ, q, e⟩ => (by obtain ⟨r, z⟩ := hQ _ q; cases z), fun v H ⟨r, q, e1, e2⟩ => l.rt _ _ ⟨r, q, e1, e2, by rw [hφ _ _ _ φ]; exact fun p hp => nomatch hp⟩, fun σ H ⟨ρ, q, e⟩ => (by obtain ⟨r, z⟩ := hQ _ q; cases z), fun σ H ⟨ρ, q, e⟩ => (by obtain ⟨r, z⟩ := hQ _ q; cases z)⟩⟩
theorem ve_listF (hm : X.mg "list" = none) (he : VE X ρ e ra) (ea : ra.itsF = some xs) (hg : Gl X "list" := by rfl) (hs : starEach [e] X.env = [(false, eval e X.env)] := by rfl) : VE X ρ (.Call (.Name "list" p) [e] [] pos) (.o xs) :=
  PE.weak (pe_callTy call_list_of hg hm boot_list (pa_cons he pa_nil hs) (by decide) (by decide) hs) fun σ H Q ⟨er, q⟩ => ⟨er, fun v H1 s1 r1 => by
    obtain ⟨a, vs, rfl, hq, rp⟩ := r1.rd.lstF ea
    exact ⟨a, vs, rfl, .inl (.inl hq), fun l hl => q _ _ (s1.trans (same_upd hl _)) ⟨l, rfl, s1.free hl, vs, upd_same, Reps.mono (TupLe.of_same (same_upd hl _)) _ _ rp⟩⟩⟩
theorem vs_clear {i : Nat} {x : Str} {apos cpos : Pos} (hi : ixA x X.N 0 = some i) (hr : ρ[i]? = some (.o xs)) (k : VS X rest (ρ.set i (.o [])) Q)
    (hv : Vis X.env.scope x := by first | exact Or.inl rfl | exact Or.inr (Or.inl rfl) | exact Or.inr (Or.inr rfl)) (hd : (x == ("__debug__" : Str)) = false := by decide) (hcd : (x == ("__classdict__" : Str)) = false := by decide)
    (hbase : attributeBase (.Name x p2) "clear" X.env (eval (.Name x p2) X.env) = eval (.Name x p2) X.env := by rfl) (hline : (apos.endLine == cpos.line) = true := by rfl)
    (hsw : swapsWith (.Call (.Attribute (.Name x p2) "clear" apos) [] [] cpos) none pos.line X.env = pure false := by rfl) : VS X (.Expr (.Call (.Attribute (.Name x p2) "clear" apos) [] [] cpos) pos :: rest) ρ Q :=
  vs_of (ps_expr (pe_bm0 PySem.F.plainAttrs_list PySem.F.slot_list_clear PySem.F.type_list_clear mt_clear (pe_var (ixA_N hi) hv hd hcd) hbase hline) hsw) fun H0 hs D σ H er l => by
    obtain ⟨a, h1, ⟨vs, h2, h3⟩, h4⟩ := er.own i xs hr
    exact ⟨_, h1, .inl ⟨rfl, vs, SqL.of h2⟩, a, vs, rfl, rfl, h2, l.nx _ _ ⟨_, k, er.write hr h1 h2 .nil⟩⟩
theorem ve_ixScr {ns : List Int} {i : Nat} {n : Int} (ha : VE X ρ a (.h (scrPer X.K ns))) (hb : VE X ρ b (.d (.int (i : Int)))) (h : ns[i]? = some n) (hs : PlainIx b := by exact fun _ _ => rfl) : VE X ρ (.Subscript a b pos) (.d (.int n)) :=
  PE.weak (pe_ix ix_list ha hb hs) fun σ H Q ⟨er, q⟩ => ⟨er, fun x H1 s1 r1 => ⟨er_grow er s1, fun y H2 s2 r2 => by
    obtain ⟨p, rfl, hq⟩ := (r1.rd.mono s2 : RdR X.K H2 (.h (scrPer X.K ns)) x)
    obtain rfl := RsR.is_int r2
    exact ⟨p, _, _, _, rfl, rfl, hq.sq, atI_nat (by rw [List.getElem?_map, h]; rfl), q _ H2 (s1.trans s2) RsR.int⟩⟩⟩
theorem ve_min {i j : Int} (hc : X.calm = true) (hm : X.mg "min" = none) (ha : VE X ρ a (.d (.int i))) (hb : VE X ρ b (.d (.int j))) (hg : Gl X "min" := by rfl) (hs : starEach [a, b] X.env = (false, eval a X.env) :: starEach [b] X.env := by rfl) (hs2 : starEach [b] X.env = (false, eval b X.env) :: starEach [] X.env := by rfl)
    (hpl : (backTo pos (starEach [b] X.env)).any (·.1) = false := by rfl) : VE X ρ (.Call (.Name "min" p) [a, b] [] pos) (.d (.int (if j < i then j else i))) :=
  PE.weak (pe_callB (call_min2 hc) hg hm PyProof.Rows.boot_min (pa_cons ha (pa_cons hb pa_nil hs2) hs) (by decide) (by decide) hs hpl) fun σ H Q ⟨er, q⟩ => ⟨er, fun v H1 s1 r1 => ⟨er_grow er s1, fun u H2 s2 r2 => ⟨i, j, by rw [RsR.is_int r1, RsR.is_int r2], q _ H2 (s1.trans s2) RsR.int⟩⟩⟩
theorem ve_eqIb {x y : Int} (ha : VE X ρ a (.d (.int x))) (hb : VE X ρ b (.d (.int y))) : VE X ρ (.Compare a [.Eq] [b] pos) (.d (.bool (decide (x = y)))) :=
  ve_cmp op_eq ha hb (fun H u w Q rx ry q => by
    obtain rfl := RdR.is_int rx
    obtain rfl := RdR.is_int ry
    refine ⟨rfl, ?_⟩
    rw [show decide (V.int x = V.int y) = decide (x = y) from by simp]; exact q _ H (Same.refl H) RsR.bool) (nomark _)
theorem call_isinstTL : CallR X (.builtin "isinstance") (fun xs H Q => ∃ (a tp : Addr) (ys : List V) (T U : String) (b : Bool), xs = [.ref a, .ref tp] ∧ SqL X.K H a ys ∧ SqT X.K H tp [.ty T, .ty U] ∧ PySem.W.kitAny X.K (.type "list") [.type T, .type U] = some b ∧ Q (.bl b) H) := by
  intro pins s σ H xs us Q I r h
  obtain ⟨a, tp, ys, T, U, b, rfl, ha, ht, e, q⟩ := h
  obtain ⟨u, w', rfl, rx, rt⟩ := vals2 r
  cases rx
  cases rt
  obtain ⟨its, _, ⟨o, _, h1, h2, _⟩, _⟩ := I.list ha
  obtain ⟨its2, r2, ⟨⟨cls, dd, data, sl⟩, g1, g2, n, g3⟩, _⟩ := I.tuple ht
  simp only at g2 g3
  subst g2 g3
  obtain ⟨v1, v2, rfl, e1, e2⟩ := r2.two
  cases e1
  cases e2
  exact PySem.W.kia_tup PySem.W.kitx_list I.kIn ⟨o, h1, h2⟩ g1 e (fun z => nomatch z) fun tk => ⟨.bl b, H, I.tok _, rfl, q⟩
theorem ve_isinstTL {x y : Str} {T U : String} {p4 : Pos} {j : Nat} {ds : List PyData} {k : Bool} (hm : X.mg "isinstance" = none) (hmT : X.mg x = none) (hv : bootBuiltins x = some (.type T)) (hmU : X.mg y = none) (hvU : bootBuiltins y = some (.type U)) (he : VE X ρ e (.d (.list ds)))
    (hk : PySem.W.kitAny X.K (.type "list") [.type T, .type U] = some k) (hg : Gl X "isinstance" := by rfl) (hgT : Gl X x := by rfl) (hgU : Gl X y := by rfl)
    (hn : x ≠ "__name__" := by decide) (hd : (x == ("__debug__" : Str)) = false := by decide) (hnU : y ≠ "__name__" := by decide) (hdU : (y == ("__debug__" : Str)) = false := by decide)
    (hs2 : starEach [.Name x p2, .Name y p3] X.env = (false, eval (.Name x p2) X.env) :: starEach [.Name y p3] X.env := by rfl)
    (hs : starEach [e, .Tuple [.Name x p2, .Name y p3] j p4] X.env = (false, eval e X.env) :: starEach [.Tuple [.Name x p2, .Name y p3] j p4] X.env := by rfl) :
    VE X ρ (.Call (.Name "isinstance" p) [e, .Tuple [.Name x p2, .Name y p3] j p4] [] pos) (.d (.bool k)) :=
  PE.weak (pe_callB (call_isinstTL (X := X)) hg hm boot_isinstance (pa_cons he (pa_cons (pe_tup (pa_cons (pe_bltn (v := .ty T) hgT hmT hv rfl hn hd) (pa_cons (pe_bltn (v := .ty U) hgU hmU hvU rfl hnU hdU) pa_nil) hs2)) pa_nil) hs) (by decide) (by decide) hs) fun σ H Q ⟨er, q⟩ => ⟨er, fun v H1 s1 r1 => by
    obtain ⟨a, o, vs, rfl, hq, rp⟩ := Rep.unlist (K := X.K) (H := H1) r1
    refine ⟨by show 2 ≤ sizeLine; decide, fun tp np => ?_⟩
    have s2 := same_upd np (.tup [.ty T, .ty U])
    exact ⟨a, tp, vs, T, U, k, rfl, .inl (.inr ⟨o, s2 _ _ hq⟩), SqT.of upd_same, hk, q _ _ (s1.trans s2) RsR.bool⟩⟩
def endPer (K : PySem.W.Frag) (a1 a2 : Addr) (k1 k2 : List (Key × V)) (d : PyData) : Per := ⟨fun H v => H a1 = some (.dK k1) ∧ H a2 = some (.dK k2) ∧ Rep K H d v, fun _ _ _ e ⟨h1, h2, h3⟩ => ⟨e _ _ h1 (fun _ z => nomatch z), e _ _ h2 (fun _ z => nomatch z), Rep.mono (TupLe.of_ext e) _ _ h3⟩⟩
theorem vx_retH {a1 a2 : Addr} {k1 k2 : List (Key × V)} (h : VE X ρ e (.d d)) (e1 : ρ[1]? = some (.h (dictPer k1))) (e2 : ρ[2]? = some (.h (dictPer k2))) (hφ : ∀ H0 hs σ, Φ H0 hs σ → σ[1]? = some (some (.ref a1)) ∧ σ[2]? = some (some (.ref a2))) (q : Q (.rt (.h (endPer X.K a1 a2 k1 k2 d)))) : VX X Φ (.Return (some e) pos :: rest) ρ Q :=
  vx_of (ps_ret h) fun H0 hs D σ H φ er l => ⟨⟨H0, hs, er⟩, fun v H' s rv => by
    obtain ⟨f1, f2⟩ := hφ _ _ _ φ
    obtain ⟨v1, g1, b1, rfl, g2⟩ := er.per 1 _ e1
    obtain ⟨v2, g3, b2, rfl, g4⟩ := er.per 2 _ e2
    rw [f1] at g1
    rw [f2] at g3
    cases g1
    cases g3
    exact l.rt v H' ⟨_, q, er.same.trans s, ⟨s _ _ g2, s _ _ g4, rv⟩, (er.grow s).held⟩⟩
end
end L2
namespace Wk
open PySem L2 PySem.Spec PyProof.Rows
def plK (m : PM) : List (Key × V) := [(.inr nN, .int m.n), (.inr nX, .int m.x), (.inr nT, .int m.t)]
def moK (m : PM) : List (Key × V) := [(.inr gO, .int m.o), (.inr gN, .int m.g)]
theorem pl_mo (m m' : PM) : plK m ≠ moK m' := fun z => nomatch (show 3 = 2 from congrArg List.length z)
theorem q01 : nN ≠ nX := by decide +kernel
theorem q02 : nN ≠ nT := by decide +kernel
theorem q12 : nX ≠ nT := by decide +kernel
theorem qgg : gO ≠ gN := by decide +kernel
theorem inr_ne {x y : Str} (h : x ≠ y) : ¬ (Sum.inr x : Key) = .inr y := fun z => h (Sum.inr.inj z)
theorem val_pl (m : PM) {i : Nat} (hi : i < 3) : valV (plK m) (.inr (nm i)) = some (.int (m.pv i)) :=
  three (p := fun i => valV (plK m) (.inr (nm i)) = some (.int (m.pv i))) (valV_pos (p := (Sum.inr nN, V.int m.n)) rfl)
    ((valV_neg (p := (Sum.inr nN, V.int m.n)) (inr_ne q01)).trans (valV_pos (p := (Sum.inr nX, V.int m.x)) rfl))
    ((valV_neg (p := (Sum.inr nN, V.int m.n)) (inr_ne q02)).trans ((valV_neg (p := (Sum.inr nX, V.int m.x)) (inr_ne q12)).trans (valV_pos (p := (Sum.inr nT, V.int m.t)) rfl))) hi
theorem val_mo (m : PM) {j : Nat} (hj : j < 2) : valV (moK m) (.inr (wd j)) = some (.int (m.mv j)) :=
  two (p := fun j => valV (moK m) (.inr (wd j)) = some (.int (m.mv j))) (valV_pos (p := (Sum.inr gO, V.int m.o)) rfl) ((valV_neg (p := (Sum.inr gO, V.int m.o)) (inr_ne qgg)).trans (valV_pos (p := (Sum.inr gN, V.int m.g)) rfl)) hj
theorem put_pl (m : PM) (v : Int) {i : Nat} (hi : i < 3) : putK (plK m) (.inr (nm i)) (.int v) = plK (m.setP i v) := by
  have a1 := q01
  have a2 := q02
  have a3 := q12
  have b1 := q01.symm
  have b2 := q02.symm
  have b3 := q12.symm
  refine three (p := fun i => putK (plK m) (.inr (nm i)) (.int v) = plK (m.setP i v)) ?_ ?_ ?_ hi
  · show putK (plK m) (.inr nN) (.int v) = plK { m with n := v }
    simp [putK, plK, b1, b2]
  · show putK (plK m) (.inr nX) (.int v) = plK { m with x := v }
    simp [putK, plK, a1, b3]
  · show putK (plK m) (.inr nT) (.int v) = plK { m with t := v }
    simp [putK, plK, a2, a3]
theorem put_mo (m : PM) (v : Int) {j : Nat} (hj : j < 2) : putK (moK m) (.inr (wd j)) (.int v) = moK (m.setM j v) := by
  have a1 := qgg
  have b1 := qgg.symm
  refine two (p := fun j => putK (moK m) (.inr (wd j)) (.int v) = moK (m.setM j v)) ?_ ?_ hj
  · show putK (moK m) (.inr gO) (.int v) = moK { m with o := v }
    simp [putK, moK, b1]
  · show putK (moK m) (.inr gN) (.int v) = moK { m with g := v }
    simp [putK, moK, a1]
theorem plK_setM (m : PM) (v : Int) {j : Nat} (hj : j < 2) : plK (m.setM j v) = plK m := two (p := fun j => plK (m.setM j v) = plK m) rfl rfl hj
theorem moK_setP (m : PM) (v : Int) {i : Nat} (hi : i < 3) : moK (m.setP i v) = moK m := three (p := fun i => moK (m.setP i v) = moK m) rfl rfl rfl hi
def hid2 (a1 a2 : Addr) (H : Hp) : Hp := fun b => if b = a1 ∨ b = a2 then none else H b
theorem hid2_same {a1 a2 : Addr} {H : Hp} : Same (hid2 a1 a2 H) H := fun b o e => by
  unfold hid2 at e
  by_cases z : b = a1 ∨ b = a2
  · rw [if_pos z] at e; cases e
  · rwa [if_neg z] at e
theorem hid2_1 {a1 a2 : Addr} {H : Hp} : hid2 a1 a2 H a1 = none := if_pos (.inl rfl)
theorem hid2_2 {a1 a2 : Addr} {H : Hp} : hid2 a1 a2 H a2 = none := if_pos (.inr rfl)
theorem hid2_of {a1 a2 : Addr} {H : Hp} {b : Addr} {o : HO} (n1 : b ≠ a1) (n2 : b ≠ a2) (e : H b = some o) : hid2 a1 a2 H b = some o := (if_neg (fun z => z.elim n1 n2)).trans e
def PhiG (B : Hp) (a1 a2 : Addr) : Hp → List (V × Sl) → L2.St → Prop := fun H0 hs σ => H0 = B ∧ hs = [] ∧ σ[1]? = some (some (.ref a1)) ∧ σ[2]? = some (some (.ref a2))
theorem PhiG.kept {B : Hp} {a1 a2 : Addr} {i : Nat} (h1 : i ≠ 1) (h2 : i ≠ 2) : Kept (PhiG B a1 a2) i := fun H0 hs σ v ⟨e1, e2, e3, e4⟩ => ⟨e1, e2, set_at h1 e3, set_at h2 e4⟩
theorem PhiG.own1 {B : Hp} {a1 a2 : Addr} (h : B a1 = none) : OwnD (PhiG B a1 a2) 1 := fun H0 hs σ ⟨e1, e2, e3, _⟩ => ⟨e2, fun a z => by rw [e3] at z; cases z; rw [e1]; exact h⟩
theorem PhiG.own2 {B : Hp} {a1 a2 : Addr} (h : B a2 = none) : OwnD (PhiG B a1 a2) 2 := fun H0 hs σ ⟨e1, e2, _, e4⟩ => ⟨e2, fun a z => by rw [e4] at z; cases z; rw [e1]; exact h⟩
def PhiL (B : Hp) : Hp → List (V × Sl) → L2.St → Prop := fun H0 hs σ => H0 = B ∧ hs = [] ∧ ∀ i : Nat, (i = 1 ∨ i = 2) → ∀ a, σ[i]? = some (some (.ref a)) → B a = none
theorem PhiL.kept {B : Hp} {i : Nat} (h1 : i ≠ 1) (h2 : i ≠ 2) : Kept (PhiL B) i := fun H0 hs σ v ⟨e1, e2, e3⟩ => ⟨e1, e2, fun j hj a q => e3 j hj a (set_unat (by omega) q)⟩
theorem PhiL.disp {B : Hp} {i : Nat} : ∀ H0 hs σ a, PhiL B H0 hs σ → H0 a = none → PhiL B H0 hs (σ.set i (some (.ref a))) := fun H0 hs σ a ⟨e1, e2, e3⟩ n => ⟨e1, e2, fun j hj b q => by
  rcases set_get q with ⟨_, z, _⟩ | ⟨_, q⟩
  · cases z; rw [← e1]; exact n
  · exact e3 j hj b q⟩
def OthS (K : PySem.W.Frag) : List Sl → Nat → Prop
  | [], _ => True
  | .h P :: r, k => (k = 1 ∨ k = 2 ∨ ∃ ns, P = scrPer K ns) ∧ OthS K r (k + 1)
  | _ :: r, k => OthS K r (k + 1)
theorem OthS.get {K : PySem.W.Frag} : ∀ {ρ : List Sl} {k : Nat}, OthS K ρ k → ∀ (j : Nat) P, ρ[j]? = some (.h P) → j + k = 1 ∨ j + k = 2 ∨ ∃ ns, P = scrPer K ns
  | [], k, _, j, P, e => by simp at e
  | r :: ρ, k, h, 0, P, e => by simp at e; subst e; rw [Nat.zero_add]; exact h.1
  | r :: ρ, k, h, j + 1, P, e => by
    have h' : OthS K ρ (k + 1) := by cases r <;> first | exact h | exact h.2
    rcases h'.get j P (by simpa using e) with z | z | z
    · exact .inl (by omega)
    · exact .inr (.inl (by omega))
    · exact .inr (.inr z)
def spGivn (K : PySem.W.Frag) : Sp := fun vs H Q _ => ∃ (c : Int) (m : PM) (a1 a2 : Addr), vs = [.int c, .ref a1, .ref a2] ∧ H a1 = some (.dK (plK m)) ∧ H a2 = some (.dK (moK m)) ∧ ∀ v H', (∀ b o, b ≠ a1 → b ≠ a2 → H b = some o → H' b = some o) → H' a1 = some (.dK (plK (giv c m).2)) → H' a2 = some (.dK (moK (giv c m).2)) → Rep K H' (bdD (giv c m).1) v → Q v H'
section
variable {X : Cx} {B : Hp} {ρ : List Sl} {e : Expr} {pos p p2 p3 p4 : Pos} {xs : List PyData} {Q : Out → Prop} {rest : List Stmt}
theorem vx_appendG {k ir : Nat} {f x y r : Str} {ps : List Str} {m : PM} {c : Int} {apos cpos fpos : Pos} (D : DefOk X.prog X.w X.K X.mg X.base k f ps (spGivn X.K)) (hrm : Room k X.A) (h1 : ixA x X.N 0 = some 1) (h2 : ixA y X.N 0 = some 2) (h3 : ixA r X.N 0 = some ir) (n1 : ir ≠ 1) (n2 : ir ≠ 2)
    (e1 : ρ[1]? = some (.h (dictPer (plK m)))) (e2 : ρ[2]? = some (.h (dictPer (moK m)))) (e3 : ρ[ir]? = some (.o xs)) (he : VE X ρ e (.d (.int c))) (hz : xs.length < sizeLine) (oth : OthS X.K ρ 0)
    (kk : VX X (PhiL B) rest (((ρ.set 1 (.h (dictPer (plK (giv c m).2)))).set 2 (.h (dictPer (moK (giv c m).2)))).set ir (.o (xs ++ [bdD (giv c m).1]))) Q)
    (v1 : Vis X.env.scope x := by first | exact Or.inl rfl | exact Or.inr (Or.inl rfl) | exact Or.inr (Or.inr rfl)) (d1 : (x == ("__debug__" : Str)) = false := by decide) (c1 : (x == ("__classdict__" : Str)) = false := by decide)
    (v2 : Vis X.env.scope y := by first | exact Or.inl rfl | exact Or.inr (Or.inl rfl) | exact Or.inr (Or.inr rfl)) (d2 : (y == ("__debug__" : Str)) = false := by decide) (c2 : (y == ("__classdict__" : Str)) = false := by decide)
    (v3 : Vis X.env.scope r := by first | exact Or.inl rfl | exact Or.inr (Or.inl rfl) | exact Or.inr (Or.inr rfl)) (d3 : (r == ("__debug__" : Str)) = false := by decide) (c3 : (r == ("__classdict__" : Str)) = false := by decide)
    (hg : Gl X f := by rfl) (hdb : (f == ("__debug__" : Str)) = false := by decide)
    (hs1 : starEach [e, .Name x p2, .Name y p3] X.env = (false, eval e X.env) :: starEach [.Name x p2, .Name y p3] X.env := by rfl) (hs2 : starEach [.Name x p2, .Name y p3] X.env = (false, eval (.Name x p2) X.env) :: starEach [.Name y p3] X.env := by rfl) (hs3 : starEach [.Name y p3] X.env = (false, eval (.Name y p3) X.env) :: starEach [] X.env := by rfl)
    (hpl : (backTo fpos (starEach [.Name x p2, .Name y p3] X.env)).any (·.1) = false := by rfl)
    (hbase : attributeBase (.Name r p4) "append" X.env (eval (.Name r p4) X.env) = eval (.Name r p4) X.env := by rfl)
    (hfew : ((backTo cpos (starEach [.Call (.Name f p) [e, .Name x p2, .Name y p3] [] fpos] X.env)).all (fun x => !x.1) && (backToKw cpos (keywordEach [] X.env)).all (fun x => x.1.isSome) && decide ([Expr.Call (.Name f p) [e, .Name x p2, .Name y p3] [] fpos].length + ([] : List Keyword).length + (if ([] : List Keyword).isEmpty then 0 else 1) < 30)) = true := by rfl)
    (hline : (apos.endLine == cpos.line) = true := by rfl) (hs : starEach [.Call (.Name f p) [e, .Name x p2, .Name y p3] [] fpos] X.env = [(false, eval (.Call (.Name f p) [e, .Name x p2, .Name y p3] [] fpos) X.env)] := by rfl) (hplain : (backTo cpos (starEach [] X.env)).any (·.1) = false := by rfl)
    (hsw : swapsWith (.Call (.Attribute (.Name r p4) "append" apos) [.Call (.Name f p) [e, .Name x p2, .Name y p3] [] fpos] [] cpos) none pos.line X.env = pure false := by rfl) :
    VX X (PhiL B) (.Expr (.Call (.Attribute (.Name r p4) "append" apos) [.Call (.Name f p) [e, .Name x p2, .Name y p3] [] fpos] [] cpos) pos :: rest) ρ Q :=
  vx_of (ps_expr (pe_bm PySem.F.plainAttrs_list PySem.F.slot_list_append PySem.F.type_list_append mt_append (pe_var (ixA_N h3) v3 d3 c3) (pa_cons (pe_callD D hrm hg (pa_cons he (pa_cons (pe_var (ixA_N h1) v1 d1 c1) (pa_cons (pe_var (ixA_N h2) v2 d2 c2) pa_nil hs3) hs2) hs1) hdb hs1 hpl) pa_nil hs) hbase hfew hline hs hplain) hsw) fun H0 hs D σ H φ er l => by
    obtain ⟨a, g1, ⟨vs, g2, g3⟩, g4⟩ := er.own ir xs e3
    refine ⟨_, g1, .inl ⟨rfl, vs, SqL.of g2⟩, ⟨H0, hs, er⟩, fun v H1 s1 rv => ?_⟩
    obtain rfl := RsR.is_int rv
    have er1 := er.grow s1
    obtain ⟨w1, f1, b1, rfl, f2⟩ := er1.per 1 _ e1
    obtain ⟨w2, f3, b2, rfl, f4⟩ := er1.per 2 _ e2
    refine ⟨_, f1, _, f3, ?_⟩
    refine ⟨c, m, b1, b2, rfl, f2, f4, fun u H2 off k1 k2 ru => ?_⟩
    obtain ⟨z0, rfl, own⟩ := φ
    subst z0
    have o1 := own 1 (.inl rfl) b1 f1
    have o2 := own 2 (.inr rfl) b2 f3
    have offd : ∀ b o, (∀ kvs, o ≠ HO.dK kvs) → H1 b = some o → H2 b = some o := fun b o n q => off b o (fun z => by rw [z, f2] at q; cases q; exact n _ rfl) (fun z => by rw [z, f4] at q; cases q; exact n _ rfl) q
    have er2 : ER X.K H0 [] ((ρ.set 1 (.h (dictPer (plK (giv c m).2)))).set 2 (.h (dictPer (moK (giv c m).2)))) σ H2 := er1.dicts (by rw [List.length_set, List.length_set]) (fun n r' nh q => by
        rcases set_get q with ⟨_, z, _⟩ | ⟨_, q⟩
        · exact absurd z (nh _)
        rcases set_get q with ⟨_, z, _⟩ | ⟨_, q⟩
        · exact absurd z (nh _)
        exact q) (fun n P q => by
        rcases set_get q with ⟨rfl, z, _⟩ | ⟨m2, q⟩
        · cases z; exact ⟨_, f3, b2, rfl, k2⟩
        rcases set_get q with ⟨rfl, z, _⟩ | ⟨m1, q⟩
        · cases z; exact ⟨_, f1, b1, rfl, k1⟩
        obtain ⟨ns, rfl⟩ : ∃ ns, P = scrPer X.K ns := by
          rcases oth.get n P q with z | z | z
          · exact absurd z.symm m1
          · exact absurd z.symm m2
          · exact z
        obtain ⟨v', j1, a', j2, j3⟩ := er1.per n _ q
        refine ⟨v', j1, a', j2, ?_⟩
        rcases j3 with ⟨o', j3⟩ | j3
        · exact .inl ⟨o', offd _ _ (fun _ z => nomatch z) j3⟩
        · exact .inr j3) offd (fun b o q => off b o (fun z => by rw [z, o1] at q; cases q) (fun z => by rw [z, o2] at q; cases q) (er1.same b o q))
    have e3' : ((ρ.set 1 (.h (dictPer (plK (giv c m).2)))).set 2 (.h (dictPer (moK (giv c m).2))))[ir]? = some (.o xs) := set_at (Ne.symm n2) (set_at (Ne.symm n1) e3)
    obtain ⟨a', j1, ⟨vs', j2, j3⟩, _⟩ := er2.own ir xs e3'
    rw [g1] at j1
    cases j1
    exact ⟨a, vs', u, rfl, rfl, j2, by rw [j3.length]; exact hz, l.nx _ _ ⟨_, kk, ⟨rfl, rfl, own⟩, er2.write e3' g1 j2 (j3.append (.one ru))⟩⟩
variable {j j2 j3 : Nat} {p5 : Pos}
theorem ve_rep {z : Str} {n : Int} {t : Str} (h : Txt.mul z n = t) (h0 : 0 < z.length) (h1 : 1 < n) (h2 : n ≤ 1000) (h3 : z.length ≤ 1000) : VE X ρ (.BinOp (.Constant (.str z) j p) .Mult (.Constant (.int n) j2 p2) p3) (.d (.str t)) := ve_eq (ve_mulS ve_str ve_int h0 h1 h2 h3) (by rw [h])
theorem ve_repA {z s : Str} {n : Int} {t u : Str} (h : Txt.mul z n = t) (h0 : 0 < z.length) (h1 : 1 < n) (h2 : n ≤ 1000) (h3 : z.length ≤ 1000) (h4 : t.length + s.length ≤ 1000) (h5 : t ++ s = u) : VE X ρ (.BinOp (.BinOp (.Constant (.str z) j p) .Mult (.Constant (.int n) j2 p2) p3) .Add (.Constant (.str s) j3 p4) p5) (.d (.str u)) :=
  ve_eq (ve_addS (ve_rep h h0 h1 h2 h3) ve_str (Nat.le_trans h4 (by rw [sizeLine_eq]; decide))) (by rw [h5])
theorem ve_nX : VE X ρ (.BinOp (.BinOp (.Constant (.str "n") j p) .Mult (.Constant (.int 30) j2 p2) p3) .Add (.Constant (.str "x") j3 p4) p5) (.d (.str nX)) := ve_repA (t := "nnnnnnnnnnnnnnnnnnnnnnnnnnnnnn") (by decide +kernel) (by decide +kernel) (by decide) (by decide) (by decide +kernel) (by decide +kernel) (by decide +kernel)
theorem ve_nT : VE X ρ (.BinOp (.BinOp (.Constant (.str "n") j p) .Mult (.Constant (.int 30) j2 p2) p3) .Add (.Constant (.str "t") j3 p4) p5) (.d (.str nT)) := ve_repA (t := "nnnnnnnnnnnnnnnnnnnnnnnnnnnnnn") (by decide +kernel) (by decide +kernel) (by decide) (by decide) (by decide +kernel) (by decide +kernel) (by decide +kernel)
theorem ve_pP : VE X ρ (.BinOp (.Constant (.str "p") j p) .Mult (.Constant (.int 30) j2 p2) p3) (.d (.str pP)) := ve_rep (by decide +kernel) (by decide +kernel) (by decide) (by decide) (by decide +kernel)
theorem ve_gO : VE X ρ (.BinOp (.Constant (.str "go") j p) .Mult (.Constant (.int 15) j2 p2) p3) (.d (.str gO)) := ve_rep (by decide +kernel) (by decide +kernel) (by decide) (by decide) (by decide +kernel)
theorem ve_gN : VE X ρ (.BinOp (.BinOp (.Constant (.str "go") j p) .Mult (.Constant (.int 15) j2 p2) p3) .Add (.Constant (.str "n") j3 p4) p5) (.d (.str gN)) := ve_repA (t := gO) (by decide +kernel) (by decide +kernel) (by decide) (by decide) (by decide +kernel) (by decide +kernel) (by decide +kernel)
end
mutual
def sdep : PyData → Nat
  | .tuple xs => sdeps xs + 1
  | .list xs => sdeps xs + 1
  | _ => 0
def sdeps : List PyData → Nat
  | [] => 0
  | x :: r => max (sdep x) (sdeps r)
end
mutual
def sok : PyData → Bool
  | .int _ => true
  | .str _ => true
  | .tuple xs => decide (xs.length ≤ 1000) && soks xs
  | .list xs => decide (xs.length ≤ 1000) && soks xs
  | _ => false
def soks : List PyData → Bool
  | [] => true
  | x :: r => sok x && soks r
end
theorem sdeps_mem : ∀ {xs : List PyData} {x : PyData}, x ∈ xs → sdep x ≤ sdeps xs
  | y :: r, x, h => by
    rw [sdeps]
    rcases List.mem_cons.mp h with rfl | h
    · exact Nat.le_max_left _ _
    · exact Nat.le_trans (sdeps_mem h) (Nat.le_max_right _ _)
theorem soks_mem : ∀ {xs : List PyData} {x : PyData}, soks xs = true → x ∈ xs → sok x = true
  | y :: r, x, o, h => by
    rw [soks, Bool.and_eq_true] at o
    rcases List.mem_cons.mp h with rfl | h
    · exact o.1
    · exact soks_mem o.2 h
def RSoG (n : Nat) : List Sl → Sl → Prop := fun as r => ∃ d : PyData, as = [.d d, .d d] ∧ sok d = true ∧ sdep d ≤ n ∧ r = .d (.bool true)
def partD : PyData := mtD partE
def fnD (d : PyData) (i : Int) : PyData := .tuple [.str "fun", .str "p", d, .list [.tuple [.str pP, .int i]]]
def names5 : List PyData := [.tuple [.str "n", .int 1], .tuple [.str nX, .int 2], .tuple [.str nT, .int 3], .tuple [.str gO, fnD partD 10], .tuple [.str gN, fnD partD 20]]
def names7 : List PyData := names5 ++ [.tuple [.str "n", .int 5], .tuple [.str "p", .int 6]]
theorem names5_out : (outKs env5).reverse = names5 := by simp [names5, env5, outKs, outD, fnD, partD, nN]
theorem names7_out : (outKs env7).reverse = names7 := by rw [names7, ← names5_out]; simp [env7, outKs, outD, nN]
theorem names8_out : (outKs (("n", .int 7) :: env7)).reverse = names7 ++ [.tuple [.str "n", .int 7]] := by rw [← names7_out]; simp [outKs, outD]
def funO : MV := .clos "p" partE [(pP, .int 10)]
def RNam : List Sl → Sl → Prop := fun as r => ∃ x : Str, as = [.d (.str x)] ∧ r = .d (mtD (.name x))
def RAddP : List Sl → Sl → Prop := fun as r => ∃ a b : MT, as = [.d (mtD a), .d (mtD b)] ∧ r = .d (mtD (.add a b))
def RFirst : List Sl → Sl → Prop := fun as r => as = [] ∧ r = .o names5
def RUnh : List Sl → Sl → Prop := fun as r => as = [.l names5] ∧ r = .d (.bool true)
def RWorth : List Sl → Sl → Prop := fun as r => ∃ (e : MT) (n : Nat) (i : Int), as = [.d (mtD e), .d (.int (n : Int)), .d (.int i)] ∧ 0 < n ∧ n ≤ 1000 ∧ Ev env5 e n (some (.int i)) ∧ r = .d (.bool true)
def RGivO : List Sl → Sl → Prop := fun as r => as = [.d (outD funO), .d (.int 17)] ∧ r = .d (.bool true)
def RTold6 : List Sl → Sl → Prop := fun as r => as = [] ∧ r = .d (.bool true)
theorem funO_out : outD funO = fnD partD 10 := by simp [funO, outD, outKs, fnD, partD]
theorem val7_out : outD (.clos "p" (.name "p") env7) = .tuple [.str "fun", .str "p", mtD (.name "p"), .list names7] := by rw [outD, names7_out]
theorem val8_out : outD (.clos "p" (.name "p") (("n", .int 7) :: env7)) = .tuple [.str "fun", .str "p", mtD (.name "p"), .list (names7 ++ [.tuple [.str "n", .int 7]])] := by rw [outD, names8_out]
theorem wt7 : (MV.clos "p" (.name "p") (("n", .int 7) :: env7)).wt < 100000 := by simp [MV.wt, wkn, env7, env5]
theorem wt7' : (MV.clos "p" (.name "p") env7).wt < 100000 := by simp [MV.wt, wkn, env7, env5]
theorem merge_pl : mergeK [] (plK pm0) = plK pm0 := by
  have b1 := q01.symm
  have b2 := q02.symm
  have b3 := q12.symm
  have a1 := q01
  have a2 := q02
  have a3 := q12
  simp [mergeK, putK, plK, a1, a2, a3]
theorem merge_mo : mergeK [] (moK pm0) = moK pm0 := by
  have a1 := qgg
  simp [mergeK, putK, moK, a1]
theorem at3 {i : Nat} (h : i < 3) : atI [PyData.str "n", .str nX, .str nT] (i : Int) = some (.str (nm i)) := atI_nat (three (p := fun i => [PyData.str "n", .str nX, .str nT][i]? = some (.str (nm i))) rfl rfl rfl h)
theorem at2 {i : Nat} (h : i < 2) : atI [PyData.str gO, .str gN] (i : Int) = some (.str (wd i)) := atI_nat (two (p := fun i => [PyData.str gO, .str gN][i]? = some (.str (wd i))) rfl rfl h)
theorem at5 {i : Nat} (h : i < 3) : ∃ s v, atI names5 (i : Int) = some (.tuple [.str s, .int v]) := by
  obtain ⟨s, v, e⟩ := three (p := fun i => ∃ s v, names5[i]? = some (.tuple [.str s, .int v])) ⟨_, _, rfl⟩ ⟨_, _, rfl⟩ ⟨_, _, rfl⟩ h
  exact ⟨s, v, atI_nat e⟩
theorem names5_can : (PyData.list names5).canLay0 = true := by decide +kernel
theorem names5_dep : (PyData.list names5).depth ≤ 20 := by decide +kernel
theorem names5_eqv : PyData.eqv (.list names5) (.list names5) = true := by decide +kernel
theorem so7 : sok (.tuple [.str "fun", .str "p", mtD (.name "p"), .list names7]) = true ∧ sdep (.tuple [.str "fun", .str "p", mtD (.name "p"), .list names7]) ≤ 12 := by decide +kernel
theorem so8 : sok (.tuple [.str "fun", .str "p", mtD (.name "p"), .list (names7 ++ [.tuple [.str "n", .int 7]])]) = true ∧ sdep (.tuple [.str "fun", .str "p", mtD (.name "p"), .list (names7 ++ [.tuple [.str "n", .int 7]])]) ≤ 12 := by decide +kernel
end Wk
set_option maxHeartbeats 4000000
namespace Wk
open PySem L2
def top (i : Nat) : Stmt := PySem.Challenge.pw_wellkind_k06_names_as_they_were.main.body.getD i (.Pass ⟨0, 0, 0, 0⟩)
abbrev st_Chain_init : Stmt := inClass (top 5) 0
abbrev st_Closure_init : Stmt := inClass (top 6) 0
abbrev st_Known_init : Stmt := inClass (top 7) 0
abbrev st_Given_init : Stmt := inClass (top 8) 0
abbrev st_taken : Stmt := top 9
abbrev st_is_function_value : Stmt := top 10
abbrev st_known_from : Stmt := top 11
abbrev st_opened : Stmt := top 12
abbrev st_looked_into : Stmt := top 13
abbrev st_given_back : Stmt := top 14
abbrev st_outline : Stmt := top 15
abbrev st_fill_with_members : Stmt := top 16
abbrev st_fill_with_names : Stmt := top 17
abbrev st_run : Stmt := top 21
abbrev st_applied : Stmt := top 22
abbrev st_worked_out : Stmt := top 23
abbrev st_begin_part : Stmt := top 24
abbrev st_value_of : Stmt := top 25
abbrev st_end_part : Stmt := top 26
abbrev st_chosen : Stmt := top 27
abbrev st_parted : Stmt := top 28
abbrev st_called : Stmt := top 29
abbrev st_put_in_front : Stmt := top 30
abbrev st_reckoned : Stmt := top 31
abbrev st_is_whole : Stmt := top 32
abbrev st_law_so : Stmt := top 34
abbrev st_law_whole : Stmt := top 35
abbrev st_law_named_part : Stmt := top 36
abbrev st_law_add : Stmt := top 37
abbrev st_law_first_names : Stmt := top 38
abbrev st_law_given : Stmt := top 39
abbrev st_law_unhurt : Stmt := top 40
abbrev st_law_worth : Stmt := top 41
abbrev st_law_given_one : Stmt := top 42
abbrev st_law_values_told : Stmt := top 43
abbrev st_law : Stmt := top 44
section
variable {P : Program} {w : World} {K : PySem.W.Frag} {mg : Str → Option Value} {base : Heap}
seal VE VT VW VD VA VS VI VG
local macro_rules
  | `(tactic| decreasing_trivial_pre_omega) => `(tactic| first
    | exact ve_int
    | exact ve_str
    | exact ve_bl
    | exact ve_non
    | exact ve_name rfl rfl
    | exact vd_nil
    | exact va_nil
    | exact vo_none
    | (apply vo_some; decreasing_trivial_pre_omega)
    | (apply vd_cons; decreasing_trivial_pre_omega; decreasing_trivial_pre_omega; rfl)
    | (apply va_cons; decreasing_trivial_pre_omega; decreasing_trivial_pre_omega; rfl)
    | (apply ve_tup; decreasing_trivial_pre_omega; first | decide | exact Nat.le_of_ble_eq_true rfl)
    | (apply ve_lst; decreasing_trivial_pre_omega; first | decide | exact Nat.le_of_ble_eq_true rfl)
    | (apply ve_ixT; decreasing_trivial_pre_omega; decreasing_trivial_pre_omega; exact rfl; exact fun _ _ => rfl)
    | (apply ve_ixL; decreasing_trivial_pre_omega; decreasing_trivial_pre_omega; exact rfl; exact rfl; exact fun _ _ => rfl)
    | (apply vt_eqS; decreasing_trivial_pre_omega; decreasing_trivial_pre_omega)
    | (apply vt_eqI; decreasing_trivial_pre_omega; decreasing_trivial_pre_omega)
    | (apply vt_neS; decreasing_trivial_pre_omega; decreasing_trivial_pre_omega)
    | (apply vt_neI; decreasing_trivial_pre_omega; decreasing_trivial_pre_omega)
    | (apply vt_ltI; decreasing_trivial_pre_omega; decreasing_trivial_pre_omega)
    | (apply vt_gtI; decreasing_trivial_pre_omega; decreasing_trivial_pre_omega)
    | (apply vt_not; decreasing_trivial_pre_omega)
    | (apply vt_isN; decreasing_trivial_pre_omega; first | exact nun_d | exact nun_l | exact nun_o)
    | (apply vt_notN; decreasing_trivial_pre_omega; first | exact nun_d | exact nun_l | exact nun_o)
    | (apply vt_bool; decreasing_trivial_pre_omega; intro _; rfl)
    | (apply vt_lst; decreasing_trivial_pre_omega; exact rfl; intro _; rfl)
    | (apply ve_addI; decreasing_trivial_pre_omega; decreasing_trivial_pre_omega)
    | (apply ve_subI; decreasing_trivial_pre_omega; decreasing_trivial_pre_omega)
    | (apply ve_neg; decreasing_trivial_pre_omega)
    | (apply vt_geI; decreasing_trivial_pre_omega; decreasing_trivial_pre_omega)
    | (apply vt_leI; decreasing_trivial_pre_omega; decreasing_trivial_pre_omega))
theorem sc_ich : FnScope ["self", "head", "rest"] ["self", "head", "rest"] (defScope st_Chain_init) := ⟨rfl, rfl, rfl, by decide +kernel, rfl, by decide +kernel, by decide +kernel⟩
theorem ok_ich {f : Addr} {fd : FuncData} {c : Cs} {CS CT : Addr} (F : Fun K "__init__" "Chain.__init__" st_Chain_init f fd) (M : MKit K mg c CS CT) : FnOk P w K mg base CX0 1 f fd ["self", "head", "rest"] (spIni c.ch 2 mkCh) := by
  refine F.ok sc_ich (fun vs H Q E h => ?_) (fun cdv A outer s H vs Q E hr h => ?_)
  · obtain ⟨x, dx, us, rfl, hl, _⟩ := h
    rw [List.length_cons, hl]; rfl
  obtain ⟨x, dx, us, rfl, hl, hx, q⟩ := h
  match us, hl with
  | [a, b], _ =>
    refine ⟨_, pss_cons (ps_fld (pv 0) (pv 1) rfl) (pss_cons (ps_fld (pv 0) (pv 2) rfl) (pss_one (ps_fld (pv 0) pe_non rfl))), ?_⟩
    refine ⟨_, rfl, _, rfl, x, c.ch, dx, [], rfl, hx, M.cC.cl, M.aC.1, (by show 0 < 1000; decide), _, rfl, _, rfl, x, c.ch, dx, _, rfl, upd_same, M.cC.cl, M.aC.2.1, (by show 1 < 1000; decide), _, rfl, x, c.ch, dx, _, rfl, upd_same, M.cC.cl, M.aC.2.2, ?_, ?_⟩
    · exact Nat.lt_of_le_of_lt (show _ ≤ 2 by exact Nat.le_of_ble_eq_true rfl) (by decide)
    · rw [upd_twice, upd_twice]; exact q
theorem sc_icl : FnScope ["self", "name", "body", "known"] ["self", "name", "body", "known"] (defScope st_Closure_init) := ⟨rfl, rfl, rfl, by decide +kernel, rfl, by decide +kernel, by decide +kernel⟩
theorem ok_icl {f : Addr} {fd : FuncData} {c : Cs} {CS CT : Addr} (F : Fun K "__init__" "Closure.__init__" st_Closure_init f fd) (M : MKit K mg c CS CT) : FnOk P w K mg base CX0 1 f fd ["self", "name", "body", "known"] (spIni c.cl 3 mkCl) := by
  refine F.ok sc_icl (fun vs H Q E h => ?_) (fun cdv A outer s H vs Q E hr h => ?_)
  · obtain ⟨x, dx, us, rfl, hl, _⟩ := h
    rw [List.length_cons, hl]; rfl
  obtain ⟨x, dx, us, rfl, hl, hx, q⟩ := h
  match us, hl with
  | [a, b, d], _ =>
    refine ⟨_, pss_cons (ps_fld (pv 0) (pv 1) rfl) (pss_cons (ps_fld (pv 0) (pv 2) rfl) (pss_cons (ps_fld (pv 0) (pv 3) rfl) (pss_one (ps_fld (pv 0) pe_non rfl)))), ?_⟩
    refine ⟨_, rfl, _, rfl, x, c.cl, dx, [], rfl, hx, M.cL.cl, M.aL.1, (by show 0 < 1000; decide), _, rfl, _, rfl, x, c.cl, dx, _, rfl, upd_same, M.cL.cl, M.aL.2.1, (by show 1 < 1000; decide), _, rfl, _, rfl, x, c.cl, dx, _, rfl, upd_same, M.cL.cl, M.aL.2.2.1, ?_, _, rfl, x, c.cl, dx, _, rfl, upd_same, M.cL.cl, M.aL.2.2.2, ?_, ?_⟩
    · exact Nat.lt_of_le_of_lt (show _ ≤ 2 by exact Nat.le_of_ble_eq_true rfl) (by decide)
    · exact Nat.lt_of_le_of_lt (show _ ≤ 3 by exact Nat.le_of_ble_eq_true rfl) (by decide)
    · rw [upd_twice, upd_twice, upd_twice]; exact q
theorem sc_ikn : FnScope ["self", "name", "value", "others"] ["self", "name", "value", "others"] (defScope st_Known_init) := ⟨rfl, rfl, rfl, by decide +kernel, rfl, by decide +kernel, by decide +kernel⟩
theorem ok_ikn {f : Addr} {fd : FuncData} {c : Cs} {CS CT : Addr} (F : Fun K "__init__" "Known.__init__" st_Known_init f fd) (M : MKit K mg c CS CT) : FnOk P w K mg base CX0 1 f fd ["self", "name", "value", "others"] (spIni c.kn 3 mkKn) := by
  refine F.ok sc_ikn (fun vs H Q E h => ?_) (fun cdv A outer s H vs Q E hr h => ?_)
  · obtain ⟨x, dx, us, rfl, hl, _⟩ := h
    rw [List.length_cons, hl]; rfl
  obtain ⟨x, dx, us, rfl, hl, hx, q⟩ := h
  match us, hl with
  | [a, b, d], _ =>
    refine ⟨_, pss_cons (ps_fld (pv 0) (pv 1) rfl) (pss_cons (ps_fld (pv 0) (pv 2) rfl) (pss_one (ps_fld (pv 0) (pv 3) rfl))), ?_⟩
    refine ⟨_, rfl, _, rfl, x, c.kn, dx, [], rfl, hx, M.cN.cl, M.aN.1, (by show 0 < 1000; decide), _, rfl, _, rfl, x, c.kn, dx, _, rfl, upd_same, M.cN.cl, M.aN.2.1, (by show 1 < 1000; decide), _, rfl, _, rfl, x, c.kn, dx, _, rfl, upd_same, M.cN.cl, M.aN.2.2, ?_, ?_⟩
    · exact Nat.lt_of_le_of_lt (show _ ≤ 2 by exact Nat.le_of_ble_eq_true rfl) (by decide)
    · rw [upd_twice, upd_twice]; exact q
theorem sc_igv : FnScope ["self", "value"] ["self", "value"] (defScope st_Given_init) := ⟨rfl, rfl, rfl, by decide +kernel, rfl, by decide +kernel, by decide +kernel⟩
theorem ok_igv {f : Addr} {fd : FuncData} {c : Cs} {CS CT : Addr} (F : Fun K "__init__" "Given.__init__" st_Given_init f fd) (M : MKit K mg c CS CT) : FnOk P w K mg base CX0 1 f fd ["self", "value"] (spIni c.gv 1 mkGv) := by
  refine F.ok sc_igv (fun vs H Q E h => ?_) (fun cdv A outer s H vs Q E hr h => ?_)
  · obtain ⟨x, dx, us, rfl, hl, _⟩ := h
    rw [List.length_cons, hl]; rfl
  obtain ⟨x, dx, us, rfl, hl, hx, q⟩ := h
  match us, hl with
  | [a], _ =>
    refine ⟨_, pss_cons (ps_fld (pv 0) (pv 1) rfl) (pss_one (ps_fld (pv 0) pe_non rfl)), ?_⟩
    refine ⟨_, rfl, _, rfl, x, c.gv, dx, [], rfl, hx, M.cG.cl, M.aG.1, (by show 0 < 1000; decide), _, rfl, x, c.gv, dx, _, rfl, upd_same, M.cG.cl, M.aG.2, ?_, ?_⟩
    · exact Nat.lt_of_le_of_lt (show _ ≤ 1 by exact Nat.le_of_ble_eq_true rfl) (by decide)
    · rw [upd_twice]; exact q
theorem sc_opn : FnScope ["value"] ["value"] (defScope st_opened) := ⟨rfl, rfl, rfl, by decide +kernel, rfl, by decide +kernel, by decide +kernel⟩
theorem sc_isw : FnScope ["value"] ["value"] (defScope st_is_whole) := ⟨rfl, rfl, rfl, by decide +kernel, rfl, by decide +kernel, by decide +kernel⟩
theorem ok_isw {f : Addr} {fd : FuncData} {c : Cs} {CS CT : Addr} (F : Fun K "is_whole" "is_whole" st_is_whole f fd) (B : Plain mg) (M : MKit K mg c CS CT) : FnOk P w K mg base CX0 1 f fd ["value"] (spV K (RWholeM c)) := by
  refine F.okV sc_isw (fun as r h => ?_) (fun cdv A outer s H E as r hr h => ?_)
  · obtain ⟨v, rfl, _⟩ := h; exact ⟨rfl, by simp⟩
  obtain ⟨v, rfl, rfl⟩ := h
  show VS _ _ [.d (mvD c v)] _
  cases v with
  | int i => rw [mv_int]; exact vs_ret (ve_and (ve_isinstD B.isinstance B.int PyProof.Rows.boot_int dty_int (by rfl) (by decreasing_trivial_pre_omega)) fun _ => ve_one (ve_not (ve_isinstD B.isinstance B.bool PyProof.Rows.boot_bool dty_int (kit_int_bool K) (by decreasing_trivial_pre_omega)))) (.inl rfl)
  | bool b => rw [mv_bool]; exact vs_ret (ve_and (ve_isinstD B.isinstance B.int PyProof.Rows.boot_int dty_bool (by first | rfl | kernel_rfl) (by decreasing_trivial_pre_omega)) fun _ => ve_one (ve_not (ve_isinstD B.isinstance B.bool PyProof.Rows.boot_bool dty_bool (by first | rfl | kernel_rfl) (by decreasing_trivial_pre_omega)))) (.inl rfl)
  | chain xs => exact vs_ret (ve_and (k := true) (ve_isinstD B.isinstance B.int PyProof.Rows.boot_int (M.dty (.chain xs)) M.kI.1 (by decreasing_trivial_pre_omega)) fun z => nomatch z) (.inl rfl)
  | clos x b ρ => exact vs_ret (ve_and (k := true) (ve_isinstD B.isinstance B.int PyProof.Rows.boot_int (M.dty (.clos x b ρ)) M.kI.2 (by decreasing_trivial_pre_omega)) fun z => nomatch z) (.inl rfl)
theorem sc_vof : FnScope ["name", "known", "link"] ["name", "known"] (defScope st_value_of) := ⟨rfl, rfl, rfl, by decide +kernel, rfl, by decide +kernel, by decide +kernel⟩
theorem ok_vof {f : Addr} {fd : FuncData} {c : Cs} {CS CT : Addr} (F : Fun K "value_of" "value_of" st_value_of f fd) (M : MKit K mg c CS CT) (DO : DefOk P w K mg base 6 "opened" ["value"] (spE K (ROpnE c))) : FnOk P w K mg base (CX1 P w base) 7 f fd ["name", "known"] (spE K (RValueOf c CS)) := by
  refine F.okE sc_vof (fun as o h => ?_) (fun cdv A outer s H E as o hr h hE => ?_)
  · obtain ⟨x, ρ, rfl, _⟩ := h; exact ⟨rfl, by simp⟩
  obtain ⟨x, ρ, rfl, ho⟩ := h
  show VX _ _ _ [.d (.str x), .d (knD c ρ), .un] _
  refine vx_set sc_vof.nd rfl PhiE.kept (by decreasing_trivial_pre_omega) ?_
  refine vx_while raising.own (fun m ρ' => ∃ r : MR, m = r.length ∧ ρ' = [.d (.str x), .d (knD c ρ), .d (knD c r)] ∧ r.get x = ρ.get x) ⟨_, ρ, rfl, rfl, rfl⟩ ?_
  rintro m ρ' ⟨r, rfl, rfl, hg⟩
  cases r with
  | nil =>
    rw [kn_nil]
    refine ⟨false, vt_eq (vt_notN (by decreasing_trivial_pre_omega) nun_d) (by rfl), (fun z => nomatch z), fun _ => ?_⟩
    rw [← hg] at ho
    exact vx_raise raising M.eS (hE CS (by rw [ho]; rfl))
  | cons p r =>
    obtain ⟨y, v⟩ := p
    rw [kn_ins]
    refine ⟨true, vt_eq (vt_notN (by decreasing_trivial_pre_omega) nun_d) (by rfl), (fun _ => ?_), (fun z => nomatch z)⟩
    refine vx_if (vt_eqS (ve_fld M.cN.cl M.aN.1 (by decreasing_trivial_pre_omega) rfl) (by decreasing_trivial_pre_omega)) (fun hy => ?_) (fun hy => ?_)
    · have e : y = x := by simpa using hy
      have : ρ.get x = some v := by rw [← hg]; simp [MR.get, e]
      rw [this] at ho
      exact vx_retE0 (d := mvD c v) DO hr (PhiE.ev H) (va_cons (ve_fld M.cN.cl M.aN.2.1 (by decreasing_trivial_pre_omega) rfl) va_nil) ⟨v, rfl, rfl⟩ ⟨_, ho, rfl⟩
    · have e : y ≠ x := by simpa using hy
      refine vx_nil ?_
      refine vx_set sc_vof.nd rfl PhiE.kept (ve_fld M.cN.cl M.aN.2.2 (by decreasing_trivial_pre_omega) rfl) (vx_nil ?_)
      exact ⟨r.length, by simp, r, rfl, rfl, by rw [← hg]; simp [MR.get, e]⟩
theorem sc_cho : FnScope ["part", "condition"] ["part", "condition"] (defScope st_chosen) := ⟨rfl, rfl, rfl, by decide +kernel, rfl, by decide +kernel, by decide +kernel⟩
theorem ok_cho {f : Addr} {fd : FuncData} {c : Cs} {CS CT : Addr} (F : Fun K "chosen" "chosen" st_chosen f fd) (M : MKit K mg c CS CT) : FnOk P w K mg base (CX1 P w base) 1 f fd ["part", "condition"] (spVX K (RChosen c CS)) := by
  refine F.okVX sc_cho (fun as o h => ?_) (fun cdv A outer s H E as o hr h hE => ?_)
  · obtain ⟨a, b, e, l, rfl, _⟩ := h; exact ⟨rfl, by simp⟩
  obtain ⟨a, b, e, l, rfl, ho⟩ := h
  show VX _ _ _ [.d (mtD (.cond a b e)), .d (mvD c l)] _
  rw [mtD]
  have no : isBD true (mvD c l) = false → isBD false (mvD c l) = false → o = .inr CS → VX (cxOf (CX1 P w base) P w K mg base ["part", "condition"] "chosen" (defScope st_chosen) f cdv A outer s H E) (fun H0 _ _ => H0 = H) (defBody st_chosen) [.d (.tuple [.str "if", .tuple [], .tuple [mtD a, mtD b, mtD e]]), .d (mvD c l)] fun t => ∃ r, o = .inl r ∧ (t = .rt r ∨ (r = .d .none ∧ ∃ ρ, t = .nx ρ)) := by
    intro h1 h2 h3
    refine vx_if (vt_isB (by decreasing_trivial_pre_omega)) (fun z => by rw [h1] at z; cases z) (fun _ => vx_nil ?_)
    refine vx_if (vt_isB (by decreasing_trivial_pre_omega)) (fun z => by rw [h2] at z; cases z) (fun _ => vx_nil ?_)
    exact vx_raise raising M.eS (hE CS h3)
  cases l with
  | bool t =>
    rw [mv_bool]
    cases t with
    | true => exact vx_if (k := true) (vt_eq (vt_isB (by decreasing_trivial_pre_omega)) (by rfl)) (fun _ => vx_ret (by decreasing_trivial_pre_omega) ⟨_, ho, .inl rfl⟩) (fun z => nomatch z)
    | false => exact vx_if (k := false) (vt_eq (vt_isB (by decreasing_trivial_pre_omega)) (by rfl)) (fun z => nomatch z) (fun _ => vx_nil (vx_if (k := true) (vt_eq (vt_isB (by decreasing_trivial_pre_omega)) (by rfl)) (fun _ => vx_ret (by decreasing_trivial_pre_omega) ⟨_, ho, .inl rfl⟩) (fun z => nomatch z)))
  | int i => exact no (by rw [mv_int]; rfl) (by rw [mv_int]; rfl) ho
  | chain xs => obtain ⟨h, r, e', _⟩ := chain_ins c xs; exact no (by rw [e']; rfl) (by rw [e']; rfl) ho
  | clos x b' ρ => exact no (by rw [clos_ins]; rfl) (by rw [clos_ins]; rfl) ho
theorem sc_pif : FnScope ["member", "others"] ["member", "others"] (defScope st_put_in_front) := ⟨rfl, rfl, rfl, by decide +kernel, rfl, by decide +kernel, by decide +kernel⟩
theorem ok_pif {f : Addr} {fd : FuncData} {c : Cs} {CS CT : Addr} (F : Fun K "put_in_front" "put_in_front" st_put_in_front f fd) (B : Plain mg) (M : MKit K mg c CS CT) (MC : Made P w K mg base "Chain" c.ch 2 mkCh) : FnOk P w K mg base (CX1 P w base) 4 f fd ["member", "others"] (spVX K (RFront c CS)) := by
  refine F.okVX sc_pif (fun as o h => ?_) (fun cdv A outer s H E as o hr h hE => ?_)
  · obtain ⟨m, l, rfl, _⟩ := h; exact ⟨rfl, by simp⟩
  obtain ⟨m, l, rfl, ho⟩ := h
  show VX _ _ _ [.d (mvD c m), .d (mvD c l)] _
  refine vx_if (vt_not (vt_bool (ve_isinstC B.isinstance M.mC (M.dty l) (M.is_C l) (by decreasing_trivial_pre_omega)) (fun _ => rfl))) (fun z => ?_) (fun z => vx_nil ?_)
  · refine vx_raise raising M.eS (hE CS ?_)
    cases l <;> first | exact ho | (simp [MV.isC, MV.isL, MV.isI] at z)
  · cases l with
    | chain xs =>
      obtain ⟨g, fd', ps, m1, m2, m3, m4⟩ := MC
      refine vx_ret (r := .d (mvD c (.chain (m :: xs)))) ?_ ⟨_, ho, .inl rfl⟩
      rw [show mvD c (.chain (m :: xs)) = insD c.ch [("head", eitD c m), ("rest", mvD c (.chain xs)), ("outside", .none)] from by simp [mvD, chD, eitD]]
      refine ve_make m1 m2 m3 m4 (hr.mono (by omega)) (by decreasing_trivial_pre_omega) rfl fun H us r => ?_
      obtain ⟨v1, r1, rfl, e1, r⟩ := r.split
      obtain ⟨v2, r2, rfl, e2, r⟩ := r.split
      rw [Reps] at r
      subst r
      exact .cons (e1.eit M.cs) (.cons e2 (.cons .non .nil))
    | int i => exact absurd z (by simp [MV.isC])
    | bool i => exact absurd z (by simp [MV.isC])
    | clos x b ρ => exact absurd z (by simp [MV.isC])
theorem sc_cal : FnScope ["function", "argument"] ["function", "argument"] (defScope st_called) := ⟨rfl, rfl, rfl, by decide +kernel, rfl, by decide +kernel, by decide +kernel⟩
theorem ok_cal {f : Addr} {fd : FuncData} {c : Cs} {CS CT : Addr} (F : Fun K "called" "called" st_called f fd) (B : Plain mg) (M : MKit K mg c CS CT) (MN : Made P w K mg base "Known" c.kn 3 mkKn) : FnOk P w K mg base (CX1 P w base) 4 f fd ["function", "argument"] (spVX K (RCalled c CS)) := by
  refine F.okVX sc_cal (fun as o h => ?_) (fun cdv A outer s H E as o hr h hE => ?_)
  · obtain ⟨m, l, rfl, _⟩ := h; exact ⟨rfl, by simp⟩
  obtain ⟨m, l, rfl, ho⟩ := h
  show VX _ _ _ [.d (mvD c m), .d (mvD c l)] _
  refine vx_if (vt_not (vt_bool (ve_isinstC B.isinstance M.mL (M.dty m) (M.is_L m) (by decreasing_trivial_pre_omega)) (fun _ => rfl))) (fun z => ?_) (fun z => vx_nil ?_)
  · refine vx_raise raising M.eS (hE CS ?_)
    cases m <;> first | exact ho | (simp [MV.isC, MV.isL, MV.isI] at z)
  · cases m with
    | clos x b ρ =>
      obtain ⟨g, fd', ps, m1, m2, m3, m4⟩ := MN
      refine vx_ret (r := .d (taskD c (.beg b ((x, l) :: ρ)))) ?_ ⟨_, ho, .inl rfl⟩
      rw [taskD, kn_ins, clos_ins]
      refine ve_tup (vd_cons (ve_BEGIN M) (vd_cons (ve_fld M.cL.cl M.aL.2.1 (by decreasing_trivial_pre_omega) rfl) (vd_cons ?_ vd_nil)))
      refine ve_make m1 m2 m3 m4 (hr.mono (by omega)) (vd_cons (ve_fld M.cL.cl M.aL.1 (by decreasing_trivial_pre_omega) rfl) (vd_cons (by decreasing_trivial_pre_omega) (vd_cons (ve_fld M.cL.cl M.aL.2.2.1 (by decreasing_trivial_pre_omega) rfl) vd_nil))) rfl fun H us r => ?_
      obtain ⟨v1, r1, rfl, e1, r⟩ := r.split
      obtain ⟨v2, r2, rfl, e2, r⟩ := r.split
      obtain ⟨v3, r3, rfl, e3, r⟩ := r.split
      rw [Reps] at r
      subst r
      exact .cons e1 (.cons (e2.eit M.cs) (.cons e3 .nil))
    | int i => exact absurd z (by simp [MV.isL])
    | bool i => exact absurd z (by simp [MV.isL])
    | chain xs => exact absurd z (by simp [MV.isL])
theorem sc_par : FnScope ["part", "subject", "known", "with_head"] ["part", "subject", "known"] (defScope st_parted) := ⟨rfl, rfl, rfl, by decide +kernel, rfl, by decide +kernel, by decide +kernel⟩
theorem ok_par {f : Addr} {fd : FuncData} {c : Cs} {CS CT : Addr} (F : Fun K "parted" "parted" st_parted f fd) (B : Plain mg) (M : MKit K mg c CS CT) (MN : Made P w K mg base "Known" c.kn 3 mkKn) : FnOk P w K mg base (CX1 P w base) 4 f fd ["part", "subject", "known"] (spVX K (RParted c CS)) := by
  refine F.okVX sc_par (fun as o h => ?_) (fun cdv A outer s H E as o hr h hE => ?_)
  · obtain ⟨k, h, t, a, b, e, l, ρ, rfl, _⟩ := h; exact ⟨rfl, by simp⟩
  obtain ⟨k, h, t, a, b, e, l, ρ, rfl, ho⟩ := h
  show VX _ _ _ [.d (mtD (.case k h t a b e)), .d (mvD c l), .d (knD c ρ), .un] _
  rw [mtD]
  refine vx_if (vt_not (vt_bool (ve_isinstC B.isinstance M.mC (M.dty l) (M.is_C l) (by decreasing_trivial_pre_omega)) (fun _ => rfl))) (fun z => ?_) (fun z => vx_nil ?_)
  · refine vx_raise raising M.eS (hE CS ?_)
    cases l <;> first | exact ho | (simp [MV.isC, MV.isL, MV.isI] at z)
  · cases l with
    | chain xs =>
      obtain ⟨hd, rs, e', h0, h1⟩ := chain_ins c xs
      rw [e']
      cases xs with
      | nil =>
        obtain rfl := h0 rfl
        refine vx_if (k := true) (vt_eq (vt_isN (ve_fld M.cC.cl M.aC.2.1 (by decreasing_trivial_pre_omega) rfl) nun_d) (by rfl)) (fun _ => vx_ret (ve_tup (vd_cons (ve_BEGIN M) (by decreasing_trivial_pre_omega))) ⟨_, ho, .inl rfl⟩) (fun z => nomatch z)
      | cons y ys =>
        obtain ⟨rfl, rfl⟩ := h1 y ys rfl
        refine vx_if (k := false) (vt_eq (vt_isN (ve_fld M.cC.cl M.aC.2.1 (by decreasing_trivial_pre_omega) rfl) nun_d) (by obtain ⟨h', r', e2, _⟩ := chain_ins c ys; rw [e2]; rfl)) (fun z => nomatch z) (fun _ => vx_nil ?_)
        obtain ⟨g, fd', ps, m1, m2, m3, m4⟩ := MN
        refine vx_set sc_par.nd rfl (fun _ _ _ _ h => h) (ve_make m1 m2 m3 m4 (hr.mono (by omega)) (vd_cons (by decreasing_trivial_pre_omega) (vd_cons (ve_fld M.cC.cl M.aC.1 (by decreasing_trivial_pre_omega) rfl) (by decreasing_trivial_pre_omega))) rfl fun H us r => kn_flds r) ?_
        rw [← kn_ins]
        refine vx_ret (r := .d (taskD c (.beg e ((t, .chain ys) :: (h, y) :: ρ)))) ?_ ⟨_, ho, .inl rfl⟩
        rw [taskD, kn_ins c t]
        exact ve_tup (vd_cons (ve_BEGIN M) (vd_cons (by decreasing_trivial_pre_omega) (vd_cons (ve_make m1 m2 m3 m4 (hr.mono (by omega)) (vd_cons (by decreasing_trivial_pre_omega) (vd_cons (ve_fld M.cC.cl M.aC.2.1 (by decreasing_trivial_pre_omega) rfl) (by decreasing_trivial_pre_omega))) rfl fun H us r => kn_fldsE M.cs r) vd_nil)))
    | int i => exact absurd z (by simp [MV.isC])
    | bool i => exact absurd z (by simp [MV.isC])
    | clos x b ρ => exact absurd z (by simp [MV.isC])
theorem sc_rec : FnScope ["word", "first", "second"] ["word", "first", "second"] (defScope st_reckoned) := ⟨rfl, rfl, rfl, by decide +kernel, rfl, by decide +kernel, by decide +kernel⟩
theorem ok_rec {f : Addr} {fd : FuncData} {c : Cs} {CS CT : Addr} (F : Fun K "reckoned" "reckoned" st_reckoned f fd) (M : MKit K mg c CS CT) (DW : DefOk P w K mg base 1 "is_whole" ["value"] (spV K (RWholeM c))) : FnOk P w K mg base (CX1 P w base) 2 f fd ["word", "first", "second"] (spVX K (RReck c CS)) := by
  refine F.okVX sc_rec (fun as o h => ?_) (fun cdv A outer s H E as o hr h hE => ?_)
  · obtain ⟨ad, m, l, rfl, _⟩ := h; exact ⟨rfl, by simp⟩
  obtain ⟨ad, m, l, rfl, ho⟩ := h
  show VX _ _ _ [.d (.str (if ad then "add" else "less")), .d (mvD c m), .d (mvD c l)] _
  refine vx_if (vt_w (vw_or (vt_not (vt_bool (ve_call DW hr (by decreasing_trivial_pre_omega) ⟨m, rfl, rfl⟩) (fun _ => rfl))) fun _ => vw_or1 (vt_not (vt_bool (ve_call DW hr (by decreasing_trivial_pre_omega) ⟨l, rfl, rfl⟩) (fun _ => rfl))))) (fun z => ?_) (fun z => vx_nil ?_)
  · refine vx_raise raising M.eS (hE CS ?_)
    cases m <;> cases l <;> first | exact ho | (simp [MV.isC, MV.isL, MV.isI] at z)
  · cases m with
    | int i =>
      cases l with
      | int j =>
        rw [mv_int, mv_int]
        cases ad with
        | true => exact vx_if (k := true) (vt_eq (vt_eqS (by decreasing_trivial_pre_omega) (by decreasing_trivial_pre_omega)) (by decide +kernel)) (fun _ => vx_ret (by decreasing_trivial_pre_omega) ⟨_, ho, .inl rfl⟩) (fun z => nomatch z)
        | false => exact vx_if (k := false) (vt_eq (vt_eqS (by decreasing_trivial_pre_omega) (by decreasing_trivial_pre_omega)) (by decide +kernel)) (fun z => nomatch z) (fun _ => vx_nil (vx_ret (ve_cmp op_lt (by decreasing_trivial_pre_omega) (by decreasing_trivial_pre_omega) (fun H u w Q rx ry q => ⟨i, j, RdR.is_int rx, RdR.is_int ry, q _ H (Same.refl H) RsR.bool⟩) (nomark _)) ⟨_, ho, .inl rfl⟩))
      | _ => exact absurd z (by simp [MV.isI])
    | _ => exact absurd z (by simp [MV.isI])
theorem sc_beg : FnScope ["part", "known", "waiting", "done", "word"] ["part", "known", "waiting", "done"] (defScope st_begin_part) := ⟨rfl, rfl, rfl, by decide +kernel, rfl, by decide +kernel, by decide +kernel⟩
theorem ok_beg {f : Addr} {fd : FuncData} {c : Cs} {CS CT : Addr} (F : Fun K "begin_part" "begin_part" st_begin_part f fd) (M : MKit K mg c CS CT) (MC : Made P w K mg base "Chain" c.ch 2 mkCh) (ML : Made P w K mg base "Closure" c.cl 3 mkCl)
    (DV : DefX P w K mg base 7 "value_of" ["name", "known"] (spE K (RValueOf c CS))) : FnOk P w K mg base (CX1 P w base) 8 f fd ["part", "known", "waiting", "done"] (spPE K (RBeg c CS)) := by
  refine F.okPE sc_beg (by decide) rfl (fun cdv A outer s H E wa da d1 d2 xs ys o hr h hE => ?_)
  obtain ⟨e, ρ, w', d, rfl, rfl, rfl, rfl, hw, hd, ho⟩ := h
  show VX _ _ _ [.d (mtD e), .d (knD c ρ), .o (wl c w'), .o (dl c d), .un] _
  have hsl : sizeLine = 16777216 := sizeLine_eq
  have z1 : (dl c d).length < sizeLine := by rw [dl_len]; omega
  have z2 : (wl c w').length < sizeLine := by rw [wl_len]; omega
  have z3 : ∀ a, ((wl c w') ++ [a]).length < sizeLine := by intro a; rw [List.length_append, wl_len]; simp; omega
  have z4 : ∀ a b, (((wl c w') ++ [a]) ++ [b]).length < sizeLine := by intro a b; rw [List.length_append, List.length_append, wl_len]; simp; omega
  have kp : Kept (LentE wa da H) 4 := LentE.kept (by decide) (by decide)
  cases e with
  | num i =>
    rw [mtD]
    refine vx_set sc_beg.nd rfl kp (by decreasing_trivial_pre_omega) ?_
    refine vx_if (k := true) (vt_w (vw_orT (vt_eq (by decreasing_trivial_pre_omega) (by decide +kernel)))) (fun _ => ?_) (fun z => nomatch z)
    refine vx_append rfl rfl (by decreasing_trivial_pre_omega) z1 (vx_nil (vx_nil ⟨_, _, ho, rfl, rfl, ?_⟩))
    simp [outP, begS, dl_cons, mv_int]
  | truth b =>
    rw [mtD]
    refine vx_set sc_beg.nd rfl kp (by decreasing_trivial_pre_omega) ?_
    refine vx_if (k := true) (vt_w (vw_orF (vt_eq (by decreasing_trivial_pre_omega) (by decide +kernel)) (vw_or1 (vt_eq (by decreasing_trivial_pre_omega) (by decide +kernel))))) (fun _ => ?_) (fun z => nomatch z)
    refine vx_append rfl rfl (by decreasing_trivial_pre_omega) z1 (vx_nil (vx_nil ⟨_, _, ho, rfl, rfl, ?_⟩))
    simp [outP, begS, dl_cons, mv_bool]
  | nil k =>
    rw [mtD]
    refine vx_set sc_beg.nd rfl kp (by decreasing_trivial_pre_omega) ?_
    refine vx_if (k := false) (vt_w (vw_orF (vt_eq (by decreasing_trivial_pre_omega) (by decide +kernel)) (vw_or1 (vt_eq (by decreasing_trivial_pre_omega) (by decide +kernel))))) (fun z => nomatch z) (fun _ => ?_)
    refine vx_if (k := true) (vt_eq (by decreasing_trivial_pre_omega) (by decide +kernel)) (fun _ => ?_) (fun z => nomatch z)
    obtain ⟨g, fd', ps, m1, m2, m3, m4⟩ := MC
    refine vx_append rfl rfl (ve_make m1 m2 m3 m4 (hr.mono (by omega)) (by decreasing_trivial_pre_omega) rfl fun H us r => ch_flds r) z1 (vx_nil (vx_nil (vx_nil ⟨_, _, ho, rfl, rfl, ?_⟩)))
    simp [outP, begS, dl_cons, mvD, chD]
  | name x =>
    rw [mtD]
    refine vx_set sc_beg.nd rfl kp (by decreasing_trivial_pre_omega) ?_
    refine vx_if (k := false) (vt_w (vw_orF (vt_eq (by decreasing_trivial_pre_omega) (by decide +kernel)) (vw_or1 (vt_eq (by decreasing_trivial_pre_omega) (by decide +kernel))))) (fun z => nomatch z) (fun _ => ?_)
    refine vx_if (k := false) (vt_eq (by decreasing_trivial_pre_omega) (by decide +kernel)) (fun z => nomatch z) (fun _ => ?_)
    refine vx_if (k := true) (vt_eq (by decreasing_trivial_pre_omega) (by decide +kernel)) (fun _ => ?_) (fun z => nomatch z)
    cases q : ρ.get x with
    | some v =>
      refine vx_appendE (o := .inl (.d (mvD c v))) raising DV (hr.mono (by omega)) (LentE.ev wa da H) rfl rfl (by decreasing_trivial_pre_omega) ⟨x, ρ, rfl, by rw [q]⟩ (fun r z => by cases z; exact ⟨_, rfl⟩) z1 (fun C z => nomatch z) (fun dd z => ?_)
      cases z
      iterate 4 refine vx_nil ?_
      refine ⟨_, _, ho.trans (by rw [begS, q]; rfl), rfl, rfl, ?_⟩
      simp [dl_cons]
    | none =>
      exact vx_appendE (o := .inr CS) raising DV (hr.mono (by omega)) (LentE.ev wa da H) rfl rfl (by decreasing_trivial_pre_omega) ⟨x, ρ, rfl, by rw [q]⟩ (fun r z => nomatch z) z1 (fun C z => hE C (by cases z; rw [ho, begS, q]; rfl)) (fun dd z => nomatch z)
  | lam x k b =>
    rw [mtD]
    refine vx_set sc_beg.nd rfl kp (by decreasing_trivial_pre_omega) ?_
    refine vx_if (k := false) (vt_w (vw_orF (vt_eq (by decreasing_trivial_pre_omega) (by decide +kernel)) (vw_or1 (vt_eq (by decreasing_trivial_pre_omega) (by decide +kernel))))) (fun z => nomatch z) (fun _ => ?_)
    refine vx_if (k := false) (vt_eq (by decreasing_trivial_pre_omega) (by decide +kernel)) (fun z => nomatch z) (fun _ => ?_)
    refine vx_if (k := false) (vt_eq (by decreasing_trivial_pre_omega) (by decide +kernel)) (fun z => nomatch z) (fun _ => ?_)
    refine vx_if (k := true) (vt_eq (by decreasing_trivial_pre_omega) (by decide +kernel)) (fun _ => ?_) (fun z => nomatch z)
    obtain ⟨g, fd', ps, m1, m2, m3, m4⟩ := ML
    refine vx_append rfl rfl (ve_make m1 m2 m3 m4 (hr.mono (by omega)) (by decreasing_trivial_pre_omega) rfl fun H us r => cl_flds r) z1 ?_
    iterate 5 refine vx_nil ?_
    refine ⟨_, _, ho, rfl, rfl, ?_⟩
    simp [outP, begS, dl_cons, clos_ins]
  | add a b =>
    rw [mtD]
    refine vx_set sc_beg.nd rfl kp (by decreasing_trivial_pre_omega) ?_
    refine vx_if (k := false) (vt_w (vw_orF (vt_eq (by decreasing_trivial_pre_omega) (by decide +kernel)) (vw_or1 (vt_eq (by decreasing_trivial_pre_omega) (by decide +kernel))))) (fun z => nomatch z) (fun _ => ?_)
    refine vx_if (k := false) (vt_eq (by decreasing_trivial_pre_omega) (by decide +kernel)) (fun z => nomatch z) (fun _ => ?_)
    refine vx_if (k := false) (vt_eq (by decreasing_trivial_pre_omega) (by decide +kernel)) (fun z => nomatch z) (fun _ => ?_)
    refine vx_if (k := false) (vt_eq (by decreasing_trivial_pre_omega) (by decide +kernel)) (fun z => nomatch z) (fun _ => ?_)
    refine vx_append rfl rfl (ve_tup (vd_cons (ve_END M) (by decreasing_trivial_pre_omega))) z2 ?_
    refine vx_if (k := true) (vt_w (vw_andT (vt_eq (by decreasing_trivial_pre_omega) (by decide +kernel)) (vw_and1 (vt_eq (by decreasing_trivial_pre_omega) (by decide +kernel))))) (fun _ => ?_) (fun z => nomatch z)
    refine vx_append rfl rfl (ve_tup (vd_cons (ve_BEGIN M) (by decreasing_trivial_pre_omega))) (z3 _) (vx_nil ?_)
    refine vx_append rfl rfl (ve_tup (vd_cons (ve_BEGIN M) (by decreasing_trivial_pre_omega))) (z4 _ _) ?_
    iterate 5 refine vx_nil ?_
    refine ⟨_, _, ho, rfl, ?_, rfl⟩
    simp [outP, begS, wl_cons, taskD, mtD]
  | less a b =>
    rw [mtD]
    refine vx_set sc_beg.nd rfl kp (by decreasing_trivial_pre_omega) ?_
    refine vx_if (k := false) (vt_w (vw_orF (vt_eq (by decreasing_trivial_pre_omega) (by decide +kernel)) (vw_or1 (vt_eq (by decreasing_trivial_pre_omega) (by decide +kernel))))) (fun z => nomatch z) (fun _ => ?_)
    refine vx_if (k := false) (vt_eq (by decreasing_trivial_pre_omega) (by decide +kernel)) (fun z => nomatch z) (fun _ => ?_)
    refine vx_if (k := false) (vt_eq (by decreasing_trivial_pre_omega) (by decide +kernel)) (fun z => nomatch z) (fun _ => ?_)
    refine vx_if (k := false) (vt_eq (by decreasing_trivial_pre_omega) (by decide +kernel)) (fun z => nomatch z) (fun _ => ?_)
    refine vx_append rfl rfl (ve_tup (vd_cons (ve_END M) (by decreasing_trivial_pre_omega))) z2 ?_
    refine vx_if (k := true) (vt_w (vw_andT (vt_eq (by decreasing_trivial_pre_omega) (by decide +kernel)) (vw_and1 (vt_eq (by decreasing_trivial_pre_omega) (by decide +kernel))))) (fun _ => ?_) (fun z => nomatch z)
    refine vx_append rfl rfl (ve_tup (vd_cons (ve_BEGIN M) (by decreasing_trivial_pre_omega))) (z3 _) (vx_nil ?_)
    refine vx_append rfl rfl (ve_tup (vd_cons (ve_BEGIN M) (by decreasing_trivial_pre_omega))) (z4 _ _) ?_
    iterate 5 refine vx_nil ?_
    refine ⟨_, _, ho, rfl, ?_, rfl⟩
    simp [outP, begS, wl_cons, taskD, mtD]
  | front a b =>
    rw [mtD]
    refine vx_set sc_beg.nd rfl kp (by decreasing_trivial_pre_omega) ?_
    refine vx_if (k := false) (vt_w (vw_orF (vt_eq (by decreasing_trivial_pre_omega) (by decide +kernel)) (vw_or1 (vt_eq (by decreasing_trivial_pre_omega) (by decide +kernel))))) (fun z => nomatch z) (fun _ => ?_)
    refine vx_if (k := false) (vt_eq (by decreasing_trivial_pre_omega) (by decide +kernel)) (fun z => nomatch z) (fun _ => ?_)
    refine vx_if (k := false) (vt_eq (by decreasing_trivial_pre_omega) (by decide +kernel)) (fun z => nomatch z) (fun _ => ?_)
    refine vx_if (k := false) (vt_eq (by decreasing_trivial_pre_omega) (by decide +kernel)) (fun z => nomatch z) (fun _ => ?_)
    refine vx_append rfl rfl (ve_tup (vd_cons (ve_END M) (by decreasing_trivial_pre_omega))) z2 ?_
    refine vx_if (k := true) (vt_w (vw_andT (vt_eq (by decreasing_trivial_pre_omega) (by decide +kernel)) (vw_and1 (vt_eq (by decreasing_trivial_pre_omega) (by decide +kernel))))) (fun _ => ?_) (fun z => nomatch z)
    refine vx_append rfl rfl (ve_tup (vd_cons (ve_BEGIN M) (by decreasing_trivial_pre_omega))) (z3 _) (vx_nil ?_)
    refine vx_append rfl rfl (ve_tup (vd_cons (ve_BEGIN M) (by decreasing_trivial_pre_omega))) (z4 _ _) ?_
    iterate 5 refine vx_nil ?_
    refine ⟨_, _, ho, rfl, ?_, rfl⟩
    simp [outP, begS, wl_cons, taskD, mtD]
  | call a b =>
    rw [mtD]
    refine vx_set sc_beg.nd rfl kp (by decreasing_trivial_pre_omega) ?_
    refine vx_if (k := false) (vt_w (vw_orF (vt_eq (by decreasing_trivial_pre_omega) (by decide +kernel)) (vw_or1 (vt_eq (by decreasing_trivial_pre_omega) (by decide +kernel))))) (fun z => nomatch z) (fun _ => ?_)
    refine vx_if (k := false) (vt_eq (by decreasing_trivial_pre_omega) (by decide +kernel)) (fun z => nomatch z) (fun _ => ?_)
    refine vx_if (k := false) (vt_eq (by decreasing_trivial_pre_omega) (by decide +kernel)) (fun z => nomatch z) (fun _ => ?_)
    refine vx_if (k := false) (vt_eq (by decreasing_trivial_pre_omega) (by decide +kernel)) (fun z => nomatch z) (fun _ => ?_)
    refine vx_append rfl rfl (ve_tup (vd_cons (ve_END M) (by decreasing_trivial_pre_omega))) z2 ?_
    refine vx_if (k := true) (vt_w (vw_andT (vt_eq (by decreasing_trivial_pre_omega) (by decide +kernel)) (vw_and1 (vt_eq (by decreasing_trivial_pre_omega) (by decide +kernel))))) (fun _ => ?_) (fun z => nomatch z)
    refine vx_append rfl rfl (ve_tup (vd_cons (ve_BEGIN M) (by decreasing_trivial_pre_omega))) (z3 _) (vx_nil ?_)
    refine vx_append rfl rfl (ve_tup (vd_cons (ve_BEGIN M) (by decreasing_trivial_pre_omega))) (z4 _ _) ?_
    iterate 5 refine vx_nil ?_
    refine ⟨_, _, ho, rfl, ?_, rfl⟩
    simp [outP, begS, wl_cons, taskD, mtD]
  | cond a b e =>
    rw [mtD]
    refine vx_set sc_beg.nd rfl kp (by decreasing_trivial_pre_omega) ?_
    refine vx_if (k := false) (vt_w (vw_orF (vt_eq (by decreasing_trivial_pre_omega) (by decide +kernel)) (vw_or1 (vt_eq (by decreasing_trivial_pre_omega) (by decide +kernel))))) (fun z => nomatch z) (fun _ => ?_)
    refine vx_if (k := false) (vt_eq (by decreasing_trivial_pre_omega) (by decide +kernel)) (fun z => nomatch z) (fun _ => ?_)
    refine vx_if (k := false) (vt_eq (by decreasing_trivial_pre_omega) (by decide +kernel)) (fun z => nomatch z) (fun _ => ?_)
    refine vx_if (k := false) (vt_eq (by decreasing_trivial_pre_omega) (by decide +kernel)) (fun z => nomatch z) (fun _ => ?_)
    refine vx_append rfl rfl (ve_tup (vd_cons (ve_END M) (by decreasing_trivial_pre_omega))) z2 ?_
    refine vx_if (k := false) (vt_w (vw_andF (vt_eq (by decreasing_trivial_pre_omega) (by decide +kernel)))) (fun z => nomatch z) (fun _ => vx_nil ?_)
    refine vx_append rfl rfl (ve_tup (vd_cons (ve_BEGIN M) (by decreasing_trivial_pre_omega))) (z3 _) ?_
    iterate 5 refine vx_nil ?_
    refine ⟨_, _, ho, rfl, ?_, rfl⟩
    simp [outP, begS, wl_cons, taskD, mtD]
  | case k h t a b e =>
    rw [mtD]
    refine vx_set sc_beg.nd rfl kp (by decreasing_trivial_pre_omega) ?_
    refine vx_if (k := false) (vt_w (vw_orF (vt_eq (by decreasing_trivial_pre_omega) (by decide +kernel)) (vw_or1 (vt_eq (by decreasing_trivial_pre_omega) (by decide +kernel))))) (fun z => nomatch z) (fun _ => ?_)
    refine vx_if (k := false) (vt_eq (by decreasing_trivial_pre_omega) (by decide +kernel)) (fun z => nomatch z) (fun _ => ?_)
    refine vx_if (k := false) (vt_eq (by decreasing_trivial_pre_omega) (by decide +kernel)) (fun z => nomatch z) (fun _ => ?_)
    refine vx_if (k := false) (vt_eq (by decreasing_trivial_pre_omega) (by decide +kernel)) (fun z => nomatch z) (fun _ => ?_)
    refine vx_append rfl rfl (ve_tup (vd_cons (ve_END M) (by decreasing_trivial_pre_omega))) z2 ?_
    refine vx_if (k := false) (vt_w (vw_andT (vt_eq (by decreasing_trivial_pre_omega) (by decide +kernel)) (vw_and1 (vt_eq (by decreasing_trivial_pre_omega) (by decide +kernel))))) (fun z => nomatch z) (fun _ => vx_nil ?_)
    refine vx_append rfl rfl (ve_tup (vd_cons (ve_BEGIN M) (by decreasing_trivial_pre_omega))) (z3 _) ?_
    iterate 5 refine vx_nil ?_
    refine ⟨_, _, ho, rfl, ?_, rfl⟩
    simp [outP, begS, wl_cons, taskD, mtD]
theorem sc_fin : FnScope ["part", "known", "waiting", "done", "last"] ["part", "known", "waiting", "done"] (defScope st_end_part) := ⟨rfl, rfl, rfl, by decide +kernel, rfl, by decide +kernel, by decide +kernel⟩
theorem ok_fin {f : Addr} {fd : FuncData} {c : Cs} {CS CT : Addr} (F : Fun K "end_part" "end_part" st_end_part f fd) (M : MKit K mg c CS CT) (DC : DefX P w K mg base 1 "chosen" ["part", "condition"] (spVX K (RChosen c CS))) (DP : DefX P w K mg base 4 "parted" ["part", "subject", "known"] (spVX K (RParted c CS)))
    (DL : DefX P w K mg base 4 "called" ["function", "argument"] (spVX K (RCalled c CS))) (DF : DefX P w K mg base 4 "put_in_front" ["member", "others"] (spVX K (RFront c CS))) (DR : DefX P w K mg base 2 "reckoned" ["word", "first", "second"] (spVX K (RReck c CS))) :
    FnOk P w K mg base (CX1 P w base) 5 f fd ["part", "known", "waiting", "done"] (spP K (RFin c CS)) := by
  refine F.okP sc_fin (by decide) rfl (fun cdv A outer s H E wa da d1 d2 xs ys o hr h hE => ?_)
  obtain ⟨e, ρ, w', l, d, rfl, rfl, rfl, rfl, ha0, ha, hw, hd, ho⟩ := h
  show VX _ _ _ [.d (mtD e), .d (knD c ρ), .o (wl c w'), .o (dl c (l :: d)), .un] _
  have hsl : sizeLine = 16777216 := sizeLine_eq
  have z1 : (dl c d).length < sizeLine := by rw [dl_len]; omega
  have z2 : (wl c w').length < sizeLine := by rw [wl_len]; omega
  have kp : Kept (Lent wa da H) 4 := Lent.kept (by decide) (by decide)
  rw [dl_cons]
  refine vx_pop sc_fin.nd rfl rfl kp rfl ?_
  cases e with
  | cond a b e =>
    have key : ∀ (t : Sl ⊕ Addr), RChosen c CS [.d (mtD (.cond a b e)), .d (mvD c l)] t → (∀ r, t = .inl r → ∃ u, r = .d (mtD u) ∧ o = .inl (wl c (.beg u ρ :: w'), dl c d)) → (∀ C, t = .inr C → o = .inr C) → VX (cxOf (CX1 P w base) P w K mg base ["part", "known", "waiting", "done", "last"] "end_part" (defScope st_end_part) f cdv A outer s H E) (Lent wa da H) (defBody st_end_part).tail [.d (mtD (.cond a b e)), .d (knD c ρ), .o (wl c w'), .o (dl c d), .d (mvD c l)] fun t => ∃ x ρ, o = .inl x ∧ t = .nx ρ ∧ ρ[2]? = some (.o x.1) ∧ ρ[3]? = some (.o x.2) := by
      intro t h1 h2 h3
      rw [mtD]
      refine vx_if (k := true) (vt_eq (by decreasing_trivial_pre_omega) (by decide +kernel)) (fun _ => ?_) (fun z => nomatch z)
      refine vx_appendX rfl rfl (vex_tup2 (ve_BEGIN M) (vex_call raising DC (hr.mono (by omega)) (by decreasing_trivial_pre_omega) (by rw [mtD] at h1; exact h1) (fun C z => hE C (h3 C z))) (fun r z => by obtain ⟨u, rfl, _⟩ := h2 r z; exact ⟨_, rfl⟩) (by decreasing_trivial_pre_omega)) (fun r z => ?_) z2 (fun dd z => ?_)
      · cases t with
        | inl r' => obtain ⟨u, rfl, _⟩ := h2 r' rfl; cases z; exact ⟨_, rfl⟩
        | inr C => cases z
      · cases t with
        | inr C => cases z
        | inl r' =>
          obtain ⟨u, rfl, e2⟩ := h2 r' rfl
          cases z
          refine vx_nil (vx_nil ⟨_, _, e2, rfl, ?_, rfl⟩)
          simp [wl_cons, taskD]
    refine key _ ⟨a, b, e, l, rfl, rfl⟩ (fun r z => ?_) (fun C z => ?_)
    · cases l with
      | bool t => cases t <;> (cases z; exact ⟨_, rfl, ho⟩)
      | _ => cases z
    · cases l with
      | bool t => cases t <;> cases z
      | _ => cases z; exact ho
  | case k h t a b e =>
    have key : ∀ (q : Sl ⊕ Addr), RParted c CS [.d (mtD (.case k h t a b e)), .d (mvD c l), .d (knD c ρ)] q → (∀ r, q = .inl r → ∃ u, r = .d (taskD c u) ∧ o = .inl (wl c (u :: w'), dl c d)) → (∀ C, q = .inr C → o = .inr C) → VX (cxOf (CX1 P w base) P w K mg base ["part", "known", "waiting", "done", "last"] "end_part" (defScope st_end_part) f cdv A outer s H E) (Lent wa da H) (defBody st_end_part).tail [.d (mtD (.case k h t a b e)), .d (knD c ρ), .o (wl c w'), .o (dl c d), .d (mvD c l)] fun t => ∃ x ρ, o = .inl x ∧ t = .nx ρ ∧ ρ[2]? = some (.o x.1) ∧ ρ[3]? = some (.o x.2) := by
      intro q h1 h2 h3
      rw [mtD]
      refine vx_if (k := false) (vt_eq (by decreasing_trivial_pre_omega) (by decide +kernel)) (fun z => nomatch z) (fun _ => ?_)
      refine vx_if (k := true) (vt_eq (by decreasing_trivial_pre_omega) (by decide +kernel)) (fun _ => ?_) (fun z => nomatch z)
      refine vx_appendX rfl rfl (vex_call raising DP (hr.mono (by omega)) (by decreasing_trivial_pre_omega) (by rw [mtD] at h1; exact h1) (fun C z => hE C (h3 C z))) (fun r z => by obtain ⟨u, rfl, _⟩ := h2 r z; exact ⟨_, rfl⟩) z2 (fun dd z => ?_)
      obtain ⟨u, e1, e2⟩ := h2 _ z
      cases e1
      refine vx_nil (vx_nil (vx_nil ⟨_, _, e2, rfl, ?_, rfl⟩))
      simp [wl_cons]
    refine key _ ⟨k, h, t, a, b, e, l, ρ, rfl, rfl⟩ (fun r z => ?_) (fun C z => ?_)
    · cases l with
      | chain xs => cases xs <;> (cases z; exact ⟨_, rfl, ho⟩)
      | _ => cases z
    · cases l with
      | chain xs => cases xs <;> cases z
      | _ => cases z; exact ho
  | call a b =>
    cases d with
    | nil => simp [MT.ar] at ha
    | cons u d =>
      rw [mtD, dl_cons]
      refine vx_if (k := false) (vt_eq (by decreasing_trivial_pre_omega) (by decide +kernel)) (fun z => nomatch z) (fun _ => ?_)
      refine vx_if (k := false) (vt_eq (by decreasing_trivial_pre_omega) (by decide +kernel)) (fun z => nomatch z) (fun _ => ?_)
      refine vx_if (k := true) (vt_eq (by decreasing_trivial_pre_omega) (by decide +kernel)) (fun _ => ?_) (fun z => nomatch z)
      refine vx_appendM raising DL (hr.mono (by omega)) rfl ⟨_, rfl⟩ rfl (vma_pop rfl rfl (by decreasing_trivial_pre_omega)) ⟨u, l, rfl, rfl⟩ (fun r z => ?_) z2 (fun C z => hE C ?_) (fun dd z => ?_)
      · cases u <;> cases z; exact ⟨_, rfl⟩
      · cases u <;> first | (cases z; exact ho) | (cases z)
      · cases u <;> cases z
        refine vx_nil (vx_nil (vx_nil (vx_nil ⟨_, _, ho, rfl, ?_, rfl⟩)))
        simp [wl_cons]
  | front a b =>
    cases d with
    | nil => simp [MT.ar] at ha
    | cons u d =>
      rw [mtD, dl_cons]
      rw [dl_cons, List.length_append] at z1
      refine vx_if (k := false) (vt_eq (by decreasing_trivial_pre_omega) (by decide +kernel)) (fun z => nomatch z) (fun _ => ?_)
      refine vx_if (k := false) (vt_eq (by decreasing_trivial_pre_omega) (by decide +kernel)) (fun z => nomatch z) (fun _ => ?_)
      refine vx_if (k := false) (vt_eq (by decreasing_trivial_pre_omega) (by decide +kernel)) (fun z => nomatch z) (fun _ => ?_)
      refine vx_if (k := true) (vt_eq (by decreasing_trivial_pre_omega) (by decide +kernel)) (fun _ => ?_) (fun z => nomatch z)
      refine vx_appendM raising DF (hr.mono (by omega)) rfl ⟨_, rfl⟩ rfl (vma_pop rfl rfl (by decreasing_trivial_pre_omega)) ⟨u, l, rfl, rfl⟩ (fun r z => ?_) (by omega) (fun C z => hE C ?_) (fun dd z => ?_)
      · cases l <;> cases z; exact ⟨_, rfl⟩
      · cases l <;> first | (cases z; exact ho) | (cases z)
      · cases l <;> cases z
        refine vx_nil (vx_nil (vx_nil (vx_nil (vx_nil ⟨_, _, ho, rfl, rfl, ?_⟩))))
        simp [dl_cons]
  | add a b =>
    cases d with
    | nil => simp [MT.ar] at ha
    | cons u d =>
      rw [mtD, dl_cons]
      rw [dl_cons, List.length_append] at z1
      refine vx_if (k := false) (vt_eq (by decreasing_trivial_pre_omega) (by decide +kernel)) (fun z => nomatch z) (fun _ => ?_)
      refine vx_if (k := false) (vt_eq (by decreasing_trivial_pre_omega) (by decide +kernel)) (fun z => nomatch z) (fun _ => ?_)
      refine vx_if (k := false) (vt_eq (by decreasing_trivial_pre_omega) (by decide +kernel)) (fun z => nomatch z) (fun _ => ?_)
      refine vx_if (k := false) (vt_eq (by decreasing_trivial_pre_omega) (by decide +kernel)) (fun z => nomatch z) (fun _ => ?_)
      refine vx_appendM raising DR (hr.mono (by omega)) rfl ⟨_, rfl⟩ rfl (vma_cons (by decreasing_trivial_pre_omega) (vma_pop rfl rfl (by decreasing_trivial_pre_omega))) ⟨true, u, l, rfl, rfl⟩ (fun r z => ?_) (by omega) (fun C z => hE C ?_) (fun dd z => ?_)
      · cases u <;> cases l <;> cases z; exact ⟨_, rfl⟩
      · cases u <;> cases l <;> first | (cases z; exact ho) | (cases z)
      · cases u <;> cases l <;> cases z
        refine vx_nil (vx_nil (vx_nil (vx_nil (vx_nil ⟨_, _, ho, rfl, rfl, ?_⟩))))
        simp [dl_cons, mv_int]
  | less a b =>
    cases d with
    | nil => simp [MT.ar] at ha
    | cons u d =>
      rw [mtD, dl_cons]
      rw [dl_cons, List.length_append] at z1
      refine vx_if (k := false) (vt_eq (by decreasing_trivial_pre_omega) (by decide +kernel)) (fun z => nomatch z) (fun _ => ?_)
      refine vx_if (k := false) (vt_eq (by decreasing_trivial_pre_omega) (by decide +kernel)) (fun z => nomatch z) (fun _ => ?_)
      refine vx_if (k := false) (vt_eq (by decreasing_trivial_pre_omega) (by decide +kernel)) (fun z => nomatch z) (fun _ => ?_)
      refine vx_if (k := false) (vt_eq (by decreasing_trivial_pre_omega) (by decide +kernel)) (fun z => nomatch z) (fun _ => ?_)
      refine vx_appendM raising DR (hr.mono (by omega)) rfl ⟨_, rfl⟩ rfl (vma_cons (by decreasing_trivial_pre_omega) (vma_pop rfl rfl (by decreasing_trivial_pre_omega))) ⟨false, u, l, rfl, rfl⟩ (fun r z => ?_) (by omega) (fun C z => hE C ?_) (fun dd z => ?_)
      · cases u <;> cases l <;> cases z; exact ⟨_, rfl⟩
      · cases u <;> cases l <;> first | (cases z; exact ho) | (cases z)
      · cases u <;> cases l <;> cases z
        refine vx_nil (vx_nil (vx_nil (vx_nil (vx_nil ⟨_, _, ho, rfl, rfl, ?_⟩))))
        simp [dl_cons, mv_bool]
  | _ => simp [MT.ar] at ha0
theorem sc_out : FnScope ["value", "waiting", "held", "room"] ["value", "waiting"] (defScope st_outline) := ⟨rfl, rfl, rfl, by decide +kernel, rfl, by decide +kernel, by decide +kernel⟩
theorem sc_giv : FnScope ["value", "waiting", "whole", "pair"] ["value"] (defScope st_given_back) := ⟨rfl, rfl, rfl, by decide +kernel, rfl, by decide +kernel, by decide +kernel⟩
theorem sc_knf : FnScope ["names", "known", "name", "value"] ["names"] (defScope st_known_from) := ⟨rfl, rfl, rfl, by decide +kernel, rfl, by decide +kernel, by decide +kernel⟩
theorem sc_wrk : FnScope ["expr", "known", "steps", "waiting", "done", "begun", "task"] ["expr", "known", "steps"] (defScope st_worked_out) := ⟨rfl, rfl, rfl, by decide +kernel, rfl, by decide +kernel, by decide +kernel⟩
theorem sc_run : FnScope ["expr", "names", "steps"] ["expr", "names", "steps"] (defScope st_run) := ⟨rfl, rfl, rfl, by decide +kernel, rfl, by decide +kernel, by decide +kernel⟩
theorem sc_isf : FnScope ["value"] ["value"] (defScope st_is_function_value) := ⟨rfl, rfl, rfl, by decide +kernel, rfl, by decide +kernel, by decide +kernel⟩
theorem ok_isE {f : Addr} {fd : FuncData} (F : Fun K "is_function_value" "is_function_value" st_is_function_value f fd) (B : Plain mg) : FnOk P w K mg base CX0 1 f fd ["value"] (spV K RIsF) := by
  refine F.okV sc_isf (fun as r h => ?_) (fun cdv A outer s H E as r hr h => ?_)
  · obtain ⟨v, rfl, _⟩ := h; exact ⟨rfl, by simp⟩
  obtain ⟨v, rfl, rfl⟩ := h
  show VS _ _ [.d (outD v)] _
  cases v with
  | int i => rw [out_int]; exact vs_ret (ve_and (j := false) (k := true) (ve_isinst B.isinstance B.tuple PyProof.Rows.boot_tuple (by decreasing_trivial_pre_omega) rfl (by first | rfl | kernel_rfl)) fun z => nomatch z) (.inl rfl)
  | bool i => rw [out_bool]; exact vs_ret (ve_and (j := false) (k := true) (ve_isinst B.isinstance B.tuple PyProof.Rows.boot_tuple (by decreasing_trivial_pre_omega) rfl (by first | rfl | kernel_rfl)) fun z => nomatch z) (.inl rfl)
  | chain xs => rw [out_chain]; exact vs_ret (ve_and (j := false) (k := true) (ve_isinstD B.isinstance B.tuple PyProof.Rows.boot_tuple dty_lst (by first | rfl | kernel_rfl) (by decreasing_trivial_pre_omega)) fun z => nomatch z) (.inl rfl)
  | clos x b ρ =>
    rw [out_clos]
    exact vs_ret (ve_and (j := true) (ve_isinst B.isinstance B.tuple PyProof.Rows.boot_tuple (by decreasing_trivial_pre_omega) rfl (by first | rfl | kernel_rfl)) fun _ => ve_and (j := true) (k := true) (ve_cmp op_eq (ve_lenT B.len (by decreasing_trivial_pre_omega)) (by decreasing_trivial_pre_omega) (fun H u w Q rx ry q => by
      obtain rfl := RdR.is_int rx
      obtain rfl := RdR.is_int ry
      exact ⟨rfl, q _ H (Same.refl H) RsR.bool⟩) (nomark _)) fun _ => ve_one (ve_eq (r' := .d (.bool true)) (ve_eqSb (by decreasing_trivial_pre_omega) (by decreasing_trivial_pre_omega)) (by rfl))) (.inl rfl)
theorem sc_tak : FnScope ["value"] ["value"] (defScope st_taken) := ⟨rfl, rfl, rfl, by decide +kernel, rfl, by decide +kernel, by decide +kernel⟩
theorem ok_taE {f : Addr} {fd : FuncData} {c : Cs} {CS CT : Addr} (F : Fun K "taken" "taken" st_taken f fd) (B : Plain mg) (M : MKit K mg c CS CT) (MG : Made P w K mg base "Given" c.gv 1 mkGv) (DI : DefOk P w K mg base 1 "is_function_value" ["value"] (spV K RIsF)) : FnOk P w K mg base CX0 3 f fd ["value"] (spV K (RTakE c)) := by
  refine F.okV sc_tak (fun as r h => ?_) (fun cdv A outer s H E as r hr h => ?_)
  · obtain ⟨d, rfl, _⟩ := h; exact ⟨rfl, by simp⟩
  obtain ⟨v, rfl, rfl⟩ := h
  show VS _ _ [.d (outD v)] _
  obtain ⟨g, fd', ps, m1, m2, m3, m4⟩ := MG
  cases v with
  | int i =>
    rw [out_int]
    exact vs_if (k := false) (vt_w (vw_orF (vt_bool (k := false) (ve_isinst (k := false) B.isinstance B.list PyProof.Rows.boot_list (by decreasing_trivial_pre_omega) rfl (by first | rfl | kernel_rfl)) (fun _ => rfl)) (vw_or1 (vt_bool (ve_call DI (hr.mono (by omega)) (by decreasing_trivial_pre_omega) ⟨.int i, by rw [out_int]; rfl, rfl⟩) (fun _ => rfl))))) (fun z => nomatch z) (fun _ => vs_nil (vs_ret (ve_eit M.cs (by rw [mv_int]; decreasing_trivial_pre_omega)) (.inl rfl)))
  | bool i =>
    rw [out_bool]
    exact vs_if (k := false) (vt_w (vw_orF (vt_bool (k := false) (ve_isinst (k := false) B.isinstance B.list PyProof.Rows.boot_list (by decreasing_trivial_pre_omega) rfl (by first | rfl | kernel_rfl)) (fun _ => rfl)) (vw_or1 (vt_bool (ve_call DI (hr.mono (by omega)) (by decreasing_trivial_pre_omega) ⟨.bool i, by rw [out_bool]; rfl, rfl⟩) (fun _ => rfl))))) (fun z => nomatch z) (fun _ => vs_nil (vs_ret (ve_eit M.cs (by rw [mv_bool]; decreasing_trivial_pre_omega)) (.inl rfl)))
  | chain xs =>
    rw [out_chain]
    exact vs_if (k := true) (vt_w (vw_orT (vt_bool (ve_isinstD B.isinstance B.list PyProof.Rows.boot_list dty_lst (by first | rfl | kernel_rfl) (by decreasing_trivial_pre_omega)) (fun _ => rfl)))) (fun _ => vs_ret (ve_makeG (v := .chain xs) M.cs m1 m2 m3 m4 (hr.mono (by omega)) (by rw [show gvO (.chain xs) = .list (outDs xs) from out_chain xs]; decreasing_trivial_pre_omega)) (.inl rfl)) (fun z => nomatch z)
  | clos x b ρ =>
    rw [out_clos]
    exact vs_if (k := true) (vt_w (vw_orF (vt_bool (ve_isinst B.isinstance B.list PyProof.Rows.boot_list (by decreasing_trivial_pre_omega) rfl (by first | rfl | kernel_rfl)) (fun _ => rfl)) (vw_or1 (vt_bool (ve_call DI (hr.mono (by omega)) (by decreasing_trivial_pre_omega) ⟨.clos x b ρ, by rw [out_clos]; rfl, rfl⟩) (fun _ => rfl))))) (fun _ => vs_ret (ve_makeG (v := .clos x b ρ) M.cs m1 m2 m3 m4 (hr.mono (by omega)) (by rw [show gvO (.clos x b ρ) = _ from out_clos x b ρ]; decreasing_trivial_pre_omega)) (.inl rfl)) (fun z => nomatch z)
theorem ok_knL {f : Addr} {fd : FuncData} {c : Cs} (F : Fun K "known_from" "known_from" st_known_from f fd) (MN : Made P w K mg base "Known" c.kn 3 mkKn) (DT : DefOk P w K mg base 3 "taken" ["value"] (spV K (RTakE c))) : FnOk P w K mg base CX0 4 f fd ["names"] (spV K (RKnL c)) := by
  refine F.okV sc_knf (fun as r h => ?_) (fun cdv A outer s H E as r hr h => ?_)
  · obtain ⟨ρ, rfl, _⟩ := h; exact ⟨rfl, by simp⟩
  obtain ⟨ρ, rfl, rfl⟩ := h
  show VS _ _ [.l (outKs ρ).reverse, .un, .un, .un] _
  obtain ⟨g, fd', ps, m1, m2, m3, m4⟩ := MN
  refine vs_set sc_knf.nd rfl (by decreasing_trivial_pre_omega) ?_
  refine vs_for PassesOwn.never rfl (vi_name rfl rfl) (vg_pair sc_knf.nd rfl rfl rfl) (fun i ρ' => ∃ x y, ρ' = [.l (outKs ρ).reverse, .d (knD c (ρ.drop (ρ.length - i))), x, y]) ⟨.un, .un, by rw [Nat.sub_zero, List.drop_length, kn_nil]; rfl⟩ ?_ ?_
  · rintro i d ρ' hd ⟨x, y, rfl⟩
    have hi : i < ρ.length := by have := (List.getElem?_eq_some_iff.mp hd).1; rwa [List.length_reverse, outKs_length] at this
    rw [List.getElem?_reverse (by rw [outKs_length]; exact hi), outKs_length] at hd
    obtain ⟨⟨n, v⟩, hp, rfl⟩ := outKs_get ρ _ d hd
    refine ⟨_, rfl, ?_⟩
    refine vs_set sc_knf.nd rfl (ve_make (fds := [("name", .str n), ("value", eitD c v), ("others", knD c (ρ.drop (ρ.length - i)))]) m1 m2 m3 m4 (hr.mono (by omega)) (vd_cons (by decreasing_trivial_pre_omega) (vd_cons (ve_call DT hr (by decreasing_trivial_pre_omega) ⟨v, rfl, rfl⟩) (by decreasing_trivial_pre_omega))) rfl fun H us r => kn_flds r) (vs_nil ?_)
    exact ⟨.d (.str n), .d (outD v), by rw [back_drop hi hp, kn_ins]; rfl⟩
  · rintro ρ' ⟨x, y, rfl⟩
    rw [List.length_reverse, outKs_length, Nat.sub_self, List.drop_zero]
    exact vs_ret (by decreasing_trivial_pre_omega) (.inl rfl)
theorem ok_knU {f : Addr} {fd : FuncData} {c : Cs} (F : Fun K "known_from" "known_from" st_known_from f fd) (MN : Made P w K mg base "Known" c.kn 3 mkKn) (DT : DefOk P w K mg base 3 "taken" ["value"] (spV K (RTakE c))) : FnOk P w K mg base CX0 4 f fd ["names"] (spV K (RKnF c)) := by
  refine F.okV sc_knf (fun as r h => ?_) (fun cdv A outer s H E as r hr h => ?_)
  · obtain ⟨ρ, rfl, _⟩ := h; exact ⟨rfl, by simp⟩
  obtain ⟨ρ, rfl, rfl⟩ := h
  show VS _ _ [.d (.list (outKs ρ).reverse), .un, .un, .un] _
  obtain ⟨g, fd', ps, m1, m2, m3, m4⟩ := MN
  refine vs_set sc_knf.nd rfl (by decreasing_trivial_pre_omega) ?_
  refine vs_for PassesOwn.never rfl (vi_frzE (xs := (outKs ρ).reverse) (by decreasing_trivial_pre_omega)) (vg_pair sc_knf.nd rfl rfl rfl) (fun i ρ' => ∃ x y, ρ' = [.d (.list (outKs ρ).reverse), .d (knD c (ρ.drop (ρ.length - i))), x, y]) ⟨.un, .un, by rw [Nat.sub_zero, List.drop_length, kn_nil]; rfl⟩ ?_ ?_
  · rintro i d ρ' hd ⟨x, y, rfl⟩
    have hi : i < ρ.length := by have := (List.getElem?_eq_some_iff.mp hd).1; rwa [List.length_reverse, outKs_length] at this
    rw [List.getElem?_reverse (by rw [outKs_length]; exact hi), outKs_length] at hd
    obtain ⟨⟨n, v⟩, hp, rfl⟩ := outKs_get ρ _ d hd
    refine ⟨_, rfl, ?_⟩
    refine vs_set sc_knf.nd rfl (ve_make (fds := [("name", .str n), ("value", eitD c v), ("others", knD c (ρ.drop (ρ.length - i)))]) m1 m2 m3 m4 (hr.mono (by omega)) (vd_cons (by decreasing_trivial_pre_omega) (vd_cons (ve_call DT hr (by decreasing_trivial_pre_omega) ⟨v, rfl, rfl⟩) (by decreasing_trivial_pre_omega))) rfl fun H us r => kn_flds r) (vs_nil ?_)
    exact ⟨.d (.str n), .d (outD v), by rw [back_drop hi hp, kn_ins]; rfl⟩
  · rintro ρ' ⟨x, y, rfl⟩
    rw [List.length_reverse, outKs_length, Nat.sub_self, List.drop_zero]
    exact vs_ret (by decreasing_trivial_pre_omega) (.inl rfl)
theorem sc_loo : FnScope ["value", "chain", "member"] ["value"] (defScope st_looked_into) := ⟨rfl, rfl, rfl, by decide +kernel, rfl, by decide +kernel, by decide +kernel⟩
theorem ok_loE {f : Addr} {fd : FuncData} {c : Cs} (F : Fun K "looked_into" "looked_into" st_looked_into f fd) (B : Plain mg) (MC : Made P w K mg base "Chain" c.ch 2 mkCh) (ML : Made P w K mg base "Closure" c.cl 3 mkCl) (DT : DefOk P w K mg base 3 "taken" ["value"] (spV K (RTakE c))) (DK : DefOk P w K mg base 4 "known_from" ["names"] (spV K (RKnF c))) : FnOk P w K mg base CX0 5 f fd ["value"] (spV K (RLookE c)) := by
  refine F.okV sc_loo (fun as r h => ?_) (fun cdv A outer s H E as r hr h => ?_)
  · obtain ⟨d, rfl, _⟩ := h; exact ⟨rfl, by simp⟩
  obtain ⟨v, rfl, hv, rfl⟩ := h
  show VS _ _ [.d (outD v), .un, .un] _
  cases v with
  | int i => rcases hv with z | z <;> cases z
  | bool i => rcases hv with z | z <;> cases z
  | clos x b ρ =>
    obtain ⟨g, fd', ps, m1, m2, m3, m4⟩ := ML
    rw [out_clos, clos_ins]
    refine vs_if (vt_not (vt_bool (k := false) (ve_isinst B.isinstance B.list PyProof.Rows.boot_list (by decreasing_trivial_pre_omega) rfl (by first | rfl | kernel_rfl)) (fun _ => rfl))) (fun _ => ?_) (fun z => nomatch z)
    exact vs_ret (ve_make m1 m2 m3 m4 (hr.mono (by omega)) (vd_cons (ve_ixT (by decreasing_trivial_pre_omega) (by decreasing_trivial_pre_omega) rfl) (vd_cons (ve_ixT (by decreasing_trivial_pre_omega) (by decreasing_trivial_pre_omega) rfl) (vd_cons (ve_call DK hr (va_cons (ve_ixT (by decreasing_trivial_pre_omega) (by decreasing_trivial_pre_omega) rfl) va_nil) ⟨ρ, rfl, rfl⟩) vd_nil))) rfl fun H us r => cl_flds r) (.inl rfl)
  | chain xs =>
    obtain ⟨g, fd', ps, m1, m2, m3, m4⟩ := MC
    rw [out_chain]
    refine vs_if (vt_not (vt_bool (k := true) (ve_isinstD B.isinstance B.list PyProof.Rows.boot_list dty_lst (by first | rfl | kernel_rfl) (by decreasing_trivial_pre_omega)) (fun _ => rfl))) (fun z => nomatch z) (fun _ => vs_nil ?_)
    refine vs_set sc_loo.nd rfl (ve_make m1 m2 m3 m4 (hr.mono (by omega)) (by decreasing_trivial_pre_omega) rfl fun H us r => ch_flds r) ?_
    refine vs_for PassesOwn.never rfl (vi_revF B.reversed (by decreasing_trivial_pre_omega)) (vg_name sc_loo.nd rfl) (fun i ρ' => ∃ x, ρ' = [.d (.list (outDs xs)), .d (mvD c (.chain (xs.drop (xs.length - i)))), x]) ⟨.un, by rw [Nat.sub_zero, List.drop_length]; simp [mvD, chD]⟩ ?_ ?_
    · rintro i d ρ' hd ⟨x, rfl⟩
      have hi : i < xs.length := by have := (List.getElem?_eq_some_iff.mp hd).1; rwa [List.length_reverse, outDs_length] at this
      rw [List.getElem?_reverse (by rw [outDs_length]; exact hi), outDs_length] at hd
      obtain ⟨v, hp, rfl⟩ := outDs_get xs _ d hd
      refine ⟨_, rfl, ?_⟩
      refine vs_set sc_loo.nd rfl (ve_make (fds := [("head", eitD c v), ("rest", mvD c (.chain (xs.drop (xs.length - i)))), ("outside", .none)]) m1 m2 m3 m4 (hr.mono (by omega)) (vd_cons (ve_call DT (hr.mono (by omega)) (by decreasing_trivial_pre_omega) ⟨v, rfl, rfl⟩) (by decreasing_trivial_pre_omega)) rfl fun H us r => ch_flds r) (vs_nil ?_)
      exact ⟨.d (outD v), by rw [back_drop hi hp]; simp [mvD, chD, eitD]⟩
    · rintro ρ' ⟨x, rfl⟩
      rw [List.length_reverse, outDs_length, Nat.sub_self, List.drop_zero]
      exact vs_ret (by decreasing_trivial_pre_omega) (.inl rfl)
theorem ok_opW {f : Addr} {fd : FuncData} {c : Cs} {CS CT : Addr} (F : Fun K "opened" "opened" st_opened f fd) (B : Plain mg) (M : MKit K mg c CS CT) (DL : DefOk P w K mg base 5 "looked_into" ["value"] (spV K (RLookE c))) : FnOk P w K mg base CX0 6 f fd ["value"] (spOpW K c) := by
  refine F.ok sc_opn (fun vs H Q E h => ?_) (fun cdv A outer s H vs Q E hr h => ?_)
  · obtain ⟨v, rfl, _⟩ := h; rfl
  obtain ⟨v, rfl, ⟨t, ty, e, q⟩ | ⟨g, dx, val, w', rfl, hg, hw, q⟩ | ⟨g, dx, val, x, rfl, hg, ho, q⟩⟩ := h
  · refine ⟨_, pss_cons (ps_if (u := tNever) (pt_not (pt_val (pe_callB (call_isinstC (X := _)) rfl B.isinstance PyProof.Rows.boot_isinstance (pa_cons (pv 0) (pa_cons (pe_glob (v := .ref c.gv) rfl M.mG rfl) pa_nil)) (by decide) (by decide)) (fun _ => rfl))) (pss_one (ps_ret (pv 0))) pss_never) pss_never, ?_⟩
    exact ⟨_, rfl, v, c.gv, t, false, rfl, ty, e, false, rfl, iteT ⟨_, rfl, q⟩⟩
  · refine ⟨_, pss_cons (ps_if (t := tNever) (pt_not (pt_val (pe_callB (call_isinstC (X := _)) rfl B.isinstance PyProof.Rows.boot_isinstance (pa_cons (pv 0) (pa_cons (pe_glob (v := .ref c.gv) rfl M.mG rfl) pa_nil)) (by decide) (by decide)) (fun _ => rfl))) pss_never pss_nil)
      (pss_cons (ps_if (t := tNever) (pt_cmpR op_isN (pe_fld (pv 0) rfl) pe_non (nomark _)) pss_never pss_nil) (pss_one (ps_ret (pe_fld (pv 0) rfl)))), ?_⟩
    refine ⟨_, rfl, .ref g, c.gv, .ref c.gv, true, rfl, .of (.ins hg M.cG.cl M.cG.ha M.cG.hn M.cG.htk M.cG.hm), M.kG.2.2.2.2, true, rfl, iteF ?_⟩
    refine ⟨_, rfl, g, c.gv, dx, _, w', rfl, hg, M.cG.cl, M.aG.2, rfl, rfl, _, rfl, ?_⟩
    cases w' <;> first | exact absurd rfl hw | exact iteF ⟨_, rfl, g, c.gv, dx, _, _, rfl, hg, M.cG.cl, M.aG.2, rfl, q⟩
  · obtain ⟨eo, hcl⟩ := gvO_out ho
    refine ⟨_, pss_cons (ps_if (t := tNever) (pt_not (pt_val (pe_callB (call_isinstC (X := _)) rfl B.isinstance PyProof.Rows.boot_isinstance (pa_cons (pv 0) (pa_cons (pe_glob (v := .ref c.gv) rfl M.mG rfl) pa_nil)) (by decide) (by decide)) (fun _ => rfl))) pss_never pss_nil)
      (pss_cons (ps_if (u := tNever) (pt_cmpR op_isN (pe_fld (pv 0) rfl) pe_non (nomark _)) (pss_one (ps_fld (pv 0) (pe_uqP (pe_callD DL hr rfl (pa_cons (pe_fld (pv 0) rfl) pa_nil))) rfl)) pss_never) (pss_one (ps_ret (pe_fld (pv 0) rfl)))), ?_⟩
    refine ⟨_, rfl, .ref g, c.gv, .ref c.gv, true, rfl, .of (.ins hg M.cG.cl M.cG.ha M.cG.hn M.cG.htk M.cG.hm), M.kG.2.2.2.2, true, rfl, iteF ?_⟩
    refine ⟨_, rfl, g, c.gv, dx, _, .non, rfl, hg, M.cG.cl, M.aG.2, rfl, rfl, _, rfl, iteT ?_⟩
    refine ⟨_, rfl, g, c.gv, dx, _, val, rfl, hg, M.cG.cl, M.aG.1, rfl, ?_⟩
    refine ⟨[.d (outD x)], _, .cons (by rw [← eo]; exact ho) .nil, ⟨x, rfl, hcl, rfl⟩, fun y H3 s3 ry uq => ?_⟩
    have hg3 := s3 _ _ hg
    refine ⟨_, rfl, g, c.gv, dx, _, rfl, hg3, M.cG.cl, M.aG.2, Nat.lt_of_le_of_lt (show _ ≤ 2 from Nat.le_of_ble_eq_true rfl) (by decide), ?_⟩
    exact ⟨_, rfl, g, c.gv, dx, _, y, rfl, upd_same, M.cG.cl, M.aG.2, rfl, q y H3 s3 uq ry⟩
theorem ok_outE {f : Addr} {fd : FuncData} {c : Cs} {CS CT : Addr} (F : Fun K "outline" "outline" st_outline f fd) (B : Plain mg) (M : MKit K mg c CS CT) (kAC : PySem.W.kitAny K (.ref c.ch) [.ref c.ch, .ref c.cl] = some true) (kAL : PySem.W.kitAny K (.ref c.cl) [.ref c.ch, .ref c.cl] = some true) (DO : DefOk P w K mg base 6 "opened" ["value"] (spOpV K c)) : FnOk P w K mg base CX0 7 f fd ["value", "waiting"] (spOutE K c) := by
  refine F.ok sc_out (fun vs H Q E h => ?_) (fun cdv A outer s H vs Q E hr h => ?_)
  · obtain ⟨v, wa, x, H0, S, W, cur, ws, rfl, _⟩ := h; rfl
  obtain ⟨v, wa, x, H0, S, W, cur, ws, rfl, ev, g, hw, l, hl, q⟩ := h
  have hsl : sizeLine = 16777216 := sizeLine_eq
  have flat : ∀ (u : V) (t : Value), (t = .type "int" ∨ t = .type "bool") → (∀ H, TyOf K H u t) → PySem.W.kitAny K t [.ref c.ch, .ref c.cl] = some false → (∀ H1, VR K c S H1 x u ↔ ∃ _ : True, x.parts = x.parts ∧ VR K c S H1 x u) → (∀ H1, VR K c S H1 x = fun w => w = u) → (∀ S H, Means K c S H x u) → ∃ t, PSs (cxOf CX0 P w K mg base ["value", "waiting", "held", "room"] "outline" (defScope st_outline) f cdv A outer s H E).nox (defBody st_outline) t ∧ t { nx := fun _ H' => Q .non H', rt := Q } (start ["value", "waiting", "held", "room"] [v, .ref wa]) H := by
    intro u t ht ty k2 _ hv mn
    refine ⟨_, pss_cons (ps_set (i := 2) sc_out.nd rfl (Or.inl rfl) (pe_callD DO hr rfl (pa_cons (pv 0) pa_nil)))
      (pss_cons (ps_if (u := tNever) (pt_not (pt_val (pe_callB (call_isinstC2 (X := _)) rfl B.isinstance PyProof.Rows.boot_isinstance (pa_cons (pv 2) (pa_cons (pe_tup (pa_cons (pe_glob (v := .ref c.ch) rfl M.mC rfl) (pa_cons (pe_glob (v := .ref c.cl) rfl M.mL rfl) pa_nil))) pa_nil)) (by decide) (by decide)) (fun _ => rfl))) (pss_one (ps_ret (pv 2))) pss_never) pss_never), ?_⟩
    refine ⟨_, rfl, v, x, H0, S, W, cur, wa, ws, rfl, ev, g, hw, l, fun u' H1 T1 vr => ?_⟩
    rw [hv] at vr
    subst vr
    refine ⟨_, rfl, by show 2 ≤ sizeLine; decide, fun tp np => ?_⟩
    have s2 := same_upd np (.tup [.ref c.ch, .ref c.cl])
    obtain ⟨ws1, hw1, l1⟩ := T1.wl
    refine ⟨_, tp, c.ch, c.cl, t, false, rfl, ty _, ht, SqT.of upd_same, k2, false, rfl, iteT ⟨_, rfl, q _ _ _ _ (T1.trans (T1.gb.same (n := 0) hw1 l1 s2) (by omega)) (mn _ _)⟩⟩
  cases x with
  | int i => exact flat (.int i) _ (.inl rfl) (fun _ => .int i) M.kA.1 (fun _ => ⟨fun h => ⟨trivial, rfl, h⟩, fun h => h.2.2⟩) (fun H1 => by funext z; rw [VR]) (fun _ _ => rfl)
  | bool i => exact flat (.bl i) _ (.inr rfl) (fun _ => .bl i) M.kA.2 (fun _ => ⟨fun h => ⟨trivial, rfl, h⟩, fun h => h.2.2⟩) (fun H1 => by funext z; rw [VR]) (fun _ _ => rfl)
  | chain xs =>
    refine ⟨_, pss_cons (ps_set (i := 2) sc_out.nd rfl (Or.inl rfl) (pe_callD DO hr rfl (pa_cons (pv 0) pa_nil)))
      (pss_cons (ps_if (t := tNever) (pt_not (pt_val (pe_callB (call_isinstC2I (X := _)) rfl B.isinstance PyProof.Rows.boot_isinstance (pa_cons (pv 2) (pa_cons (pe_tup (pa_cons (pe_glob (v := .ref c.ch) rfl M.mC rfl) (pa_cons (pe_glob (v := .ref c.cl) rfl M.mL rfl) pa_nil))) pa_nil)) (by decide) (by decide)) (fun _ => rfl))) pss_never pss_nil)
      (pss_cons (ps_if (pt_cmpR op_isN (pe_fld (pv 2) rfl) pe_non (nomark _))
        (pss_cons (ps_set (i := 3) sc_out.nd rfl (Or.inl rfl) (pe_lst pa_nil))
        (pss_cons (ps_expr (pe_bm PySem.F.plainAttrs_list PySem.F.slot_list_append PySem.F.type_list_append mt_append (pv 1) (pa_cons (pe_tup (pa_cons (pv 2) (pa_cons (pv 3) pa_nil))) pa_nil)))
        (pss_cons (ps_fld (pv 2) (pv 3) rfl)
        (pss_one (ps_if (t := tNever) (pt_val (pe_callB (call_isinstC (X := _)) rfl B.isinstance PyProof.Rows.boot_isinstance (pa_cons (pv 2) (pa_cons (pe_glob (v := .ref c.cl) rfl M.mL rfl) pa_nil)) (by decide) (by decide)) (fun _ => rfl)) pss_never pss_nil))))) pss_nil)
      (pss_one (ps_ret (pe_fld (pv 2) rfl))))), ?_⟩
    refine ⟨_, rfl, v, _, H0, S, W, cur, wa, ws, rfl, ev, g, hw, l, fun u H1 T1 vr => ?_⟩
    rw [VR] at vr
    obtain ⟨a, rfl, cn⟩ := vr
    obtain ⟨dx, hd, tl, o, ha, ro⟩ := cn.at
    refine ⟨_, rfl, by show 2 ≤ sizeLine; decide, fun tp np => ?_⟩
    have s1 := same_upd np (.tup [.ref c.ch, .ref c.cl])
    have ha2 := s1 _ _ ha
    refine ⟨a, tp, c.ch, c.cl, c.ch, dx, _, true, rfl, ha2, M.cC, SqT.of upd_same, kAC, true, rfl, iteF ?_⟩
    obtain ⟨ws1, hw1, l1⟩ := T1.wl
    have T2 := T1.trans (T1.gb.same (n := 0) hw1 l1 s1) (Nat.le_refl _)
    have cn2 := cn.next (Nx.of_same (K := K) (c := c) (S := S) s1)
    generalize upd H1 tp (.tup [.ref c.ch, .ref c.cl]) = H2 at s1 ha2 T2 cn2
    clear s1
    obtain ⟨ws2, hw2, l2⟩ := T2.wl
    refine ⟨_, rfl, a, c.ch, dx, _, o, rfl, ha2, M.cC.cl, M.aC.2.2, rfl, rfl, _, rfl, ?_⟩
    rcases ro with rfl | ⟨r, rfl, m⟩
    · -- a new room
      refine iteT ?_
      refine ⟨by show 0 ≤ sizeLine; decide, fun r nr => ?_⟩
      have s2 := same_upd nr (.lst [])
      refine ⟨_, rfl, .inl ⟨rfl, _, SqL.of (s2 _ _ hw2)⟩, _, rfl, _, rfl, by show 2 ≤ sizeLine; decide, fun t nt => ?_⟩
      have s3 := same_upd nt (.tup [V.ref a, V.ref r])
      refine ⟨wa, ws2, .ref t, rfl, rfl, s3 _ _ (s2 _ _ hw2), by have := l2.1; rw [hsl]; omega, ?_⟩
      obtain ⟨o1, o2, o3, o4, o5, o6⟩ := heap4 (X := .tup [V.ref a, V.ref r]) (Y := .lst (ws2 ++ [.ref t])) (Z := .ins c.ch dx (chF hd tl (.ref r))) ha2 (fun _ z => nomatch z) hw2 nr nt
      have aw : a ≠ wa := fun z => by rw [z, hw2] at ha2; cases ha2
      have ha3 : upd (upd (upd H2 r (.lst [])) t (.tup [V.ref a, V.ref r])) wa (.lst (ws2 ++ [.ref t])) a = some (.ins c.ch dx (chF hd tl .non)) := by rw [upd_ne aw]; exact s3 _ _ (s2 _ _ ha2)
      refine ⟨_, rfl, _, rfl, a, c.ch, dx, _, rfl, ha3, M.cC.cl, M.aC.2.2, (by exact Nat.lt_of_le_of_lt (show _ ≤ 3 from Nat.le_of_ble_eq_true rfl) (by decide)), ?_⟩
      have nx : Nx K c S H2 (S ++ [(a, r, r)]) _ := Nx.roomC ha2 (fun b ob e z n => o1 b ob e (fun w => by rw [w, hw2] at e; cases e; exact z _ rfl) n) o5
      have R := T2.gb.room (x := .chain xs) (t := r) hw2 l2 (by rw [VR]; exact ⟨a, rfl, cn2⟩) nr nx (fun b ob e z n => o1 b ob e n (fun w => by rw [w, ha2] at e; cases e; exact z _ _ _ rfl)) o6 o2 o4 (SqT.of o3)
      refine ⟨_, rfl, .ref a, c.cl, .ref c.ch, false, rfl, .of (.ins o5 M.cC.cl M.cC.ha M.cC.hn M.cC.htk M.cC.hm), M.kL.2.2.1, false, rfl, iteF ?_⟩
      refine ⟨_, rfl, a, c.ch, dx, _, .ref r, rfl, o5, M.cC.cl, M.aC.2.2, rfl, ?_⟩
      exact q _ _ _ _ (T2.trans R (by omega)) ⟨a, r, rfl, by simp, cn2.next nx⟩
    · -- it has one
      refine iteF ?_
      refine ⟨_, rfl, a, c.ch, dx, _, .ref r, rfl, ha2, M.cC.cl, M.aC.2.2, rfl, ?_⟩
      exact q _ S W _ (T2.trans (T2.gb.same (n := 0) hw2 l2 (Same.refl _)) (by omega)) ⟨a, r, rfl, m, cn2⟩
  | clos x b ρ =>
    refine ⟨_, pss_cons (ps_set (i := 2) sc_out.nd rfl (Or.inl rfl) (pe_callD DO hr rfl (pa_cons (pv 0) pa_nil)))
      (pss_cons (ps_if (t := tNever) (pt_not (pt_val (pe_callB (call_isinstC2I (X := _)) rfl B.isinstance PyProof.Rows.boot_isinstance (pa_cons (pv 2) (pa_cons (pe_tup (pa_cons (pe_glob (v := .ref c.ch) rfl M.mC rfl) (pa_cons (pe_glob (v := .ref c.cl) rfl M.mL rfl) pa_nil))) pa_nil)) (by decide) (by decide)) (fun _ => rfl))) pss_never pss_nil)
      (pss_cons (ps_if (pt_cmpR op_isN (pe_fld (pv 2) rfl) pe_non (nomark _))
        (pss_cons (ps_set (i := 3) sc_out.nd rfl (Or.inl rfl) (pe_lst pa_nil))
        (pss_cons (ps_expr (pe_bm PySem.F.plainAttrs_list PySem.F.slot_list_append PySem.F.type_list_append mt_append (pv 1) (pa_cons (pe_tup (pa_cons (pv 2) (pa_cons (pv 3) pa_nil))) pa_nil)))
        (pss_cons (ps_fld (pv 2) (pv 3) rfl)
        (pss_one (ps_if (u := tNever) (pt_val (pe_callB (call_isinstC (X := _)) rfl B.isinstance PyProof.Rows.boot_isinstance (pa_cons (pv 2) (pa_cons (pe_glob (v := .ref c.cl) rfl M.mL rfl) pa_nil)) (by decide) (by decide)) (fun _ => rfl)) (pss_one (ps_fld (pv 2) (pe_tup (pa_cons pe_str (pa_cons (pe_fld (pv 2) rfl) (pa_cons (pe_fld (pv 2) rfl) (pa_cons (pv 3) pa_nil))))) rfl)) pss_never))))) pss_nil)
      (pss_one (ps_ret (pe_fld (pv 2) rfl))))), ?_⟩
    refine ⟨_, rfl, v, _, H0, S, W, cur, wa, ws, rfl, ev, g, hw, l, fun u H1 T1 vr => ?_⟩
    have vr0 := vr
    rw [VR] at vr
    obtain ⟨a, dx, vb, vk, o, rfl, ha, rb, ro, kn⟩ := vr
    refine ⟨_, rfl, by show 2 ≤ sizeLine; decide, fun tp np => ?_⟩
    have s1 := same_upd np (.tup [.ref c.ch, .ref c.cl])
    have ha2 := s1 _ _ ha
    refine ⟨a, tp, c.ch, c.cl, c.cl, dx, _, true, rfl, ha2, M.cL, SqT.of upd_same, kAL, true, rfl, iteF ?_⟩
    obtain ⟨ws1, hw1, l1⟩ := T1.wl
    have T2 := T1.trans (T1.gb.same (n := 0) hw1 l1 s1) (Nat.le_refl _)
    have n1 := Nx.of_same (K := K) (c := c) (S := S) s1
    have vr2 := vr0.next n1
    have rb2 := n1.rep (mtD_dless b) rb
    have ro2 := ro.mono (fun _ h => h) n1.tup
    generalize upd H1 tp (.tup [.ref c.ch, .ref c.cl]) = H2 at s1 ha2 T2 vr2 rb2 ro2 n1
    clear s1 n1 ro
    obtain ⟨ws2, hw2, l2⟩ := T2.wl
    refine ⟨_, rfl, a, c.cl, dx, _, o, rfl, ha2, M.cL.cl, M.aL.2.2.2, rfl, rfl, _, rfl, ?_⟩
    rcases ro2 with rfl | ⟨t0, r, rfl, m, ht0⟩
    · -- a new room
      refine iteT ?_
      refine ⟨by show 0 ≤ sizeLine; decide, fun r nr => ?_⟩
      have s2 := same_upd nr (.lst [])
      refine ⟨_, rfl, .inl ⟨rfl, _, SqL.of (s2 _ _ hw2)⟩, _, rfl, _, rfl, by show 2 ≤ sizeLine; decide, fun t nt => ?_⟩
      have s3 := same_upd nt (.tup [V.ref a, V.ref r])
      refine ⟨wa, ws2, .ref t, rfl, rfl, s3 _ _ (s2 _ _ hw2), by have := l2.1; rw [hsl]; omega, ?_⟩
      obtain ⟨o1, o2, o3, o4, o5, o6⟩ := heap4 (X := .tup [V.ref a, V.ref r]) (Y := .lst (ws2 ++ [.ref t])) (Z := .ins c.cl dx (clF (.str x) vb vk (.ref r))) ha2 (fun _ z => nomatch z) hw2 nr nt
      have aw : a ≠ wa := fun z => by rw [z, hw2] at ha2; cases ha2
      have ha3 : upd (upd (upd H2 r (.lst [])) t (.tup [V.ref a, V.ref r])) wa (.lst (ws2 ++ [.ref t])) a = some (.ins c.cl dx (clF (.str x) vb vk .non)) := by rw [upd_ne aw]; exact s3 _ _ (s2 _ _ ha2)
      refine ⟨_, rfl, _, rfl, a, c.cl, dx, _, rfl, ha3, M.cL.cl, M.aL.2.2.2, (by exact Nat.lt_of_le_of_lt (show _ ≤ 4 from Nat.le_of_ble_eq_true rfl) (by decide)), ?_⟩
      rw [show putF ("outside" : Str) (V.ref r) (clF (.str x) vb vk .non) = clF (.str x) vb vk (.ref r) from rfl]
      refine ⟨_, rfl, .ref a, c.cl, .ref c.cl, true, rfl, .of (.ins o5 M.cL.cl M.cL.ha M.cL.hn M.cL.htk M.cL.hm), M.kL.2.2.2, true, rfl, iteT ?_⟩
      have o5' : upd (upd (upd (upd H2 r (.lst [])) t (.tup [V.ref a, V.ref r])) wa (.lst (ws2 ++ [.ref t]))) a (.ins c.cl dx (clF (.str x) vb vk (.ref r))) a = some (.ins c.cl dx (clF (.str x) vb vk (.ref r))) := o5
      refine ⟨_, rfl, a, c.cl, dx, _, .str x, rfl, o5', M.cL.cl, M.aL.1, rfl, _, rfl, a, c.cl, dx, _, vb, rfl, o5', M.cL.cl, M.aL.2.1, rfl, _, rfl, by show 4 ≤ sizeLine; decide, fun t2 nt2 => ?_⟩
      generalize upd (upd (upd (upd H2 r (.lst [])) t (.tup [V.ref a, V.ref r])) wa (.lst (ws2 ++ [.ref t]))) a (.ins c.cl dx (clF (.str x) vb vk (.ref r))) = H3 at o1 o2 o3 o4 o5 o6 nt2 ⊢
      have s4 := same_upd nt2 (.tup [V.str "fun", .str x, vb, .ref r])
      have ne : ∀ {b : Addr} {ob : HO}, H3 b = some ob → b ≠ a → upd (upd H3 t2 (.tup [V.str "fun", .str x, vb, .ref r])) a (.ins c.cl dx (clF (.str x) vb vk (.ref t2))) b = some ob := fun {b ob} e n => by rw [upd_ne n]; exact s4 _ _ e
      have ar : r ≠ a := fun z => by rw [z, ha2] at nr; cases nr
      have ta : t ≠ a := fun z => by rw [z, o5] at o3; cases o3
      have t2a : t2 ≠ a := fun z => by rw [z, o5] at nt2; cases nt2
      have ht2 : upd (upd H3 t2 (.tup [V.str "fun", .str x, vb, .ref r])) a (.ins c.cl dx (clF (.str x) vb vk (.ref t2))) t2 = some (.tup [V.str "fun", .str x, vb, .ref r]) := by rw [upd_ne t2a]; exact upd_same
      refine ⟨_, rfl, a, c.cl, dx, _, rfl, s4 _ _ o5, M.cL.cl, M.aL.2.2.2, (by exact Nat.lt_of_le_of_lt (show _ ≤ 4 from Nat.le_of_ble_eq_true rfl) (by decide)), ?_⟩
      have nx : Nx K c S H2 (S ++ [(a, t2, r)]) (upd (upd H3 t2 (.tup [V.str "fun", .str x, vb, .ref r])) a (.ins c.cl dx (clF (.str x) vb vk (.ref t2)))) := Nx.roomL ha2 (fun b ob e z n => ne (o1 b ob e (fun w => by rw [w, hw2] at e; cases e; exact z _ rfl) n) n) upd_same (SqT.of ht2)
      have R := T2.gb.room (x := .clos x b ρ) (t := t2) hw2 l2 vr2 nr nx (fun b ob e z n => have na : b ≠ a := fun w => (by rw [w, ha2] at e; cases e; exact z _ _ _ rfl); ne (o1 b ob e n na) na) (fun b e => by
        by_cases w : b = a
        · rw [w, upd_same] at e; cases e
        · rw [upd_ne w] at e; exact o6 b (s4.free e)) (ne o2 ar) (ne o4 (Ne.symm aw)) (SqT.of (ne o3 ta))
      refine ⟨_, rfl, a, c.cl, dx, _, .ref t2, rfl, upd_same, M.cL.cl, M.aL.2.2.2, rfl, ?_⟩
      exact q _ _ _ _ (T2.trans R (by omega)) ⟨a, t2, r, vb, rfl, by simp, SqT.of ht2, nx.rep (mtD_dless b) rb2, vr2.next nx⟩
    · -- it has one
      refine iteF ?_
      refine ⟨_, rfl, a, c.cl, dx, _, .ref t0, rfl, ha2, M.cL.cl, M.aL.2.2.2, rfl, ?_⟩
      exact q _ S W _ (T2.trans (T2.gb.same (n := 0) hw2 l2 (Same.refl _)) (by omega)) ⟨a, t0, r, vb, rfl, m, ht0, rb2, vr2⟩
theorem sc_fwm : FnScope ["room", "chain", "waiting", "link"] ["room", "chain", "waiting"] (defScope st_fill_with_members) := ⟨rfl, rfl, rfl, by decide +kernel, rfl, by decide +kernel, by decide +kernel⟩
theorem ok_fwE {f : Addr} {fd : FuncData} {c : Cs} {CS CT : Addr} (F : Fun K "fill_with_members" "fill_with_members" st_fill_with_members f fd) (M : MKit K mg c CS CT) (DU : DefOk P w K mg base 7 "outline" ["value", "waiting"] (spOutE K c)) : FnOk P w K mg base CX0 8 f fd ["room", "chain", "waiting"] (spFillC K c) := by
  refine F.ok sc_fwm (fun vs H Q E h => ?_) (fun cdv A outer s H vs Q E hr h => ?_)
  · obtain ⟨p, wa, xs, H0, S, W, ws, rfl, _⟩ := h; rfl
  obtain ⟨p, wa, xs, H0, S, W, ws, rfl, cn, m, hr0, g, hw, l, hs, q⟩ := h
  have hsl : sizeLine = 16777216 := sizeLine_eq
  refine ⟨_, pss_cons (ps_set (i := 3) sc_fwm.nd rfl (Or.inl rfl) (pv 1))
    (pss_one (ps_while PassesOwn.never (pt_cmpR op_notN (pe_fld (pv 3) rfl) pe_non (nomark _))
      (pss_cons (ps_expr (pe_bm PySem.F.plainAttrs_list PySem.F.slot_list_append PySem.F.type_list_append mt_append (pv 0) (pa_cons (pe_callD DU hr rfl (pa_cons (pe_fld (pv 3) rfl) (pa_cons (pv 2) pa_nil))) pa_nil)))
      (pss_one (ps_set (i := 3) sc_fwm.nd rfl (Or.inl rfl) (pe_fld (pv 3) rfl)))))), ?_⟩
  refine ⟨_, rfl, FillC K c H0 S W p wa xs H, ⟨_, [], xs, p.1, S, W, [], rfl, rfl, rfl, .refl, g, ⟨ws, hw, l⟩, by omega, cn, hr0, .nil⟩, ?_⟩
  rintro n σ H' ⟨ys, zs, b, S', W', vs, rfl, e0, rfl, nx, g', ⟨ws', hw', l'⟩, hsum, cnb, hr', ml⟩
  cases zs with
  | nil =>
    rw [CN] at cnb
    obtain ⟨dx, h, o, hb, ro⟩ := cnb
    rw [List.append_nil] at e0
    subst e0
    refine ⟨_, rfl, b, c.ch, dx, _, .non, rfl, hb, M.cC.cl, M.aC.2.1, rfl, rfl, false, rfl, iteF ?_⟩
    exact q S' W' H' nx (g'.full (x := .chain xs) (nx.sub _ m) (by rw [VR]; exact ⟨_, rfl, cn.next nx⟩) hr' ml) ⟨ws', hw', l'⟩ hsum
  | cons y zs =>
    rw [CN] at cnb
    obtain ⟨dx, h, t, o, hb, ro, vr, cnt⟩ := cnb
    rw [e0, wts_append, wts] at hs
    have hW : W'.length < 1000000 := by have := W'.len; omega
    have hvl := ml.length
    rw [List.length_map] at hvl
    have hyl := wts_len ys
    have hyp := wt_pos y
    refine ⟨_, rfl, b, c.ch, dx, _, .ref t, rfl, hb, M.cC.cl, M.aC.2.1, rfl, rfl, true, rfl, iteT ?_⟩
    refine ⟨FillC K c H0 S W p wa xs H zs.length, fun σ2 H2 z => ⟨zs.length, by simp, z⟩, ?_⟩
    refine ⟨_, rfl, .inl ⟨rfl, vs, SqL.of hr'⟩, _, rfl, b, c.ch, dx, _, h, rfl, hb, M.cC.cl, M.aC.1, rfl, _, rfl, ?_⟩
    refine ⟨h, wa, y, H0, S', W', some p.2.2, ws', rfl, vr, g', hw', l', hW, fun u S2 W2 H2 T mn => ?_⟩
    have hr2 := T.keep p.2.2 _ hr' (fun _ _ _ z => nomatch z) (g'.wroom _ (nx.sub _ m))
    obtain ⟨ws2, hw2, l2⟩ := T.wl
    obtain ⟨o2, hb2, ro2⟩ := T.nx.ch b dx h (.ref t) o hb ro
    refine ⟨p.2.2, vs, u, rfl, rfl, hr2, by rw [hsl]; omega, ?_⟩
    obtain ⟨nx3, g3, hw3, l3⟩ := T.gb.put (us := vs ++ [u]) (T.nx.sub _ (nx.sub _ m)) hr2 hw2 l2
    have hb3 : upd H2 p.2.2 (.lst (vs ++ [u])) b = some (.ins c.ch dx (chF h (.ref t) o2)) := by rw [upd_ne (fun z => by rw [z, hr2] at hb2; cases hb2)]; exact hb2
    refine ⟨_, rfl, b, c.ch, dx, _, .ref t, rfl, hb3, M.cC.cl, M.aC.2.1, rfl, ?_⟩
    refine ⟨ys ++ [y], zs, t, S2, W2, vs ++ [u], rfl, by rw [e0]; simp, rfl, (nx.trans T.nx).trans nx3, g3, ⟨ws2, hw3, l3⟩, ?_, (cnt.next T.nx).next nx3, upd_same, ?_⟩
    · have := T.less; rw [wts_append, wts, wts]; omega
    · rw [List.map_append, List.map_singleton]
      exact ((ml.next T.nx).next nx3).snoc (x := ptC y) (mn.next nx3)
theorem sc_fwn : FnScope ["room", "known", "waiting", "pairs", "link"] ["room", "known", "waiting"] (defScope st_fill_with_names) := ⟨rfl, rfl, rfl, by decide +kernel, rfl, by decide +kernel, by decide +kernel⟩
theorem ok_fwn {f : Addr} {fd : FuncData} {c : Cs} {CS CT : Addr} (F : Fun K "fill_with_names" "fill_with_names" st_fill_with_names f fd) (B : Plain mg) (M : MKit K mg c CS CT) (DU : DefOk P w K mg base 7 "outline" ["value", "waiting"] (spOutE K c)) : FnOk P w K mg base CX0 8 f fd ["room", "known", "waiting"] (spFillL K c) := by
  refine F.ok sc_fwn (fun vs H Q E h => ?_) (fun cdv A outer s H vs Q E hr h => ?_)
  · obtain ⟨p, kn, wa, x, b, ρ, H0, S, W, ws, rfl, _⟩ := h; rfl
  obtain ⟨p, kn, wa, x, b, ρ, H0, S, W, ws, rfl, vr, kr, m, hr0, g, hw, l, hs, q⟩ := h
  have hsl : sizeLine = 16777216 := sizeLine_eq
  refine ⟨_, pss_cons (ps_set (i := 3) sc_fwn.nd rfl (Or.inl rfl) (pe_lst pa_nil)) (pss_cons (ps_set (i := 4) sc_fwn.nd rfl (Or.inl rfl) (pv 1))
    (pss_cons (ps_while PassesOwn.never (pt_cmpR op_notN (pv 4) pe_non (nomark _))
      (pss_cons (ps_expr (pe_bm PySem.F.plainAttrs_list PySem.F.slot_list_append PySem.F.type_list_append mt_append (pv 3) (pa_cons (pe_tup (pa_cons (pe_fld (pv 4) rfl) (pa_cons (pe_callD DU hr rfl (pa_cons (pe_fld (pv 4) rfl) (pa_cons (pv 2) pa_nil))) pa_nil))) pa_nil)))
      (pss_one (ps_set (i := 4) sc_fwn.nd rfl (Or.inl rfl) (pe_fld (pv 4) rfl)))))
    (pss_one (ps_expr (pe_bm PySem.F.plainAttrs_list PySem.F.slot_list_extend PySem.F.type_list_extend mt_extend (pv 0) (pa_cons (pe_listRev rfl rfl B.list rfl B.reversed (pa_cons (pv 3) pa_nil)) pa_nil)))))), ?_⟩
  refine ⟨by show 0 ≤ sizeLine; decide, fun pl npl => ?_⟩
  have s1 := same_upd npl (.lst [])
  have T1 := g.same (n := 0) hw l s1
  have plw : pl ≠ wa := Ne.symm (ne_of_none hw npl)
  refine ⟨_, rfl, FillL K c H0 S W p kn wa pl ρ H, ⟨_, [], ρ, kn, S, W, [], rfl, rfl, rfl, T1.nx, T1.gb, T1.wl, by omega, kr.next T1.nx, s1 _ _ hr0, ⟨g.dom _ npl, plw, fun q hq z => by obtain ⟨vs, e⟩ := g.there q hq; rw [z, npl] at e; cases e⟩, upd_same, .nil⟩, ?_⟩
  rintro n σ H' ⟨ys, zs, v, S', W', vs, rfl, e0, rfl, nx, g', ⟨ws', hw', l'⟩, hsum, knb, hr', ⟨f0, fw, fr⟩, hpl, ml⟩
  have hvl := ml.length
  rw [List.length_map] at hvl
  have hyl := wkn_len ys
  cases zs with
  | nil =>
    rw [KN] at knb
    subst knb
    rw [List.append_nil] at e0
    subst e0
    refine ⟨_, rfl, rfl, false, rfl, iteF ?_⟩
    refine ⟨_, rfl, .inl ⟨rfl, [], SqL.of hr'⟩, _, rfl, pl, vs, rfl, SqL.of hpl, fun l2 nl2 => ?_⟩
    have s2 := same_upd nl2 (.lst vs.reverse)
    have T2 := g'.same (n := 0) hw' l' s2
    obtain ⟨ws2, hw2, l2'⟩ := T2.wl
    refine ⟨p.2.2, l2, [], vs.reverse, rfl, rfl, s2 _ _ hr', upd_same, by rw [List.length_reverse, hsl]; simp; omega, ?_⟩
    rw [List.nil_append]
    obtain ⟨nx3, g3, hw3, l3⟩ := T2.gb.put (us := vs.reverse) (nx.sub _ m) (s2 _ _ hr') hw2 l2'
    have nxx := (nx.trans T2.nx).trans nx3
    exact q S' W' _ nxx (g3.full (x := .clos x b ρ) (nx.sub _ m) (vr.next nxx) upd_same ((ml.next T2.nx).next nx3).reverse) ⟨ws2, hw3, l3⟩ hsum
  | cons y zs =>
    obtain ⟨y, v'⟩ := y
    rw [KN] at knb
    obtain ⟨a, dx, h, t, rfl, ha, ev, knt⟩ := knb
    rw [e0, wkn_append, wkn] at hs
    have hW : W'.length < 1000000 := by have := W'.len; omega
    have hyp := wt_pos v'
    refine ⟨_, rfl, rfl, true, rfl, iteT ?_⟩
    refine ⟨FillL K c H0 S W p kn wa pl ρ H zs.length, fun σ2 H2 z => ⟨zs.length, by simp, z⟩, ?_⟩
    refine ⟨_, rfl, .inl ⟨rfl, vs, SqL.of hpl⟩, _, rfl, a, c.kn, dx, _, .str y, rfl, ha, M.cN.cl, M.aN.1, rfl, _, rfl, a, c.kn, dx, _, h, rfl, ha, M.cN.cl, M.aN.2.1, rfl, _, rfl, ?_⟩
    refine ⟨h, wa, v', H0, S', W', some p.2.2, ws', rfl, ev, g', hw', l', hW, fun u S2 W2 H2 T mn => ?_⟩
    refine ⟨by show 2 ≤ sizeLine; decide, fun t2 nt2 => ?_⟩
    have s3 := same_upd nt2 (.tup [V.str y, u])
    obtain ⟨ws2, hw2, l2⟩ := T.wl
    have T3 := T.trans (T.gb.same (n := 0) hw2 l2 s3) (Nat.le_refl _)
    have mn3 := mn.next (Nx.of_same s3)
    have ht2 : upd H2 t2 (.tup [V.str y, u]) t2 = some (.tup [V.str y, u]) := upd_same
    generalize upd H2 t2 (.tup [V.str y, u]) = H3 at s3 T3 mn3 ht2
    obtain ⟨ws3, hw3, l3⟩ := T3.wl
    have hpl3 := T3.keep pl _ hpl (fun _ _ _ z => nomatch z) fw
    have hr3 := T3.keep p.2.2 _ hr' (fun _ _ _ z => nomatch z) (g'.wroom _ (nx.sub _ m))
    have fr3 : ∀ q ∈ S2, q.2.2 ≠ pl := fun q hq => (T3.new q hq).elim (fr q) fun e z => by rw [z, hpl] at e; cases e
    have ha3 := T3.nx.kn _ _ _ _ _ ha
    refine ⟨pl, vs, .ref t2, rfl, rfl, hpl3, by rw [hsl]; omega, ?_⟩
    obtain ⟨nx4, g4, hw4, l4⟩ := T3.gb.side (us := vs ++ [.ref t2]) hpl3 f0 fw fr3 hw3 l3
    have ha4 := nx4.kn _ _ _ _ _ ha3
    refine ⟨_, rfl, a, c.kn, dx, _, t, rfl, ha4, M.cN.cl, M.aN.2.2, rfl, ?_⟩
    refine ⟨ys ++ [(y, v')], zs, t, S2, W2, vs ++ [.ref t2], rfl, by rw [e0]; simp, rfl, (nx.trans T3.nx).trans nx4, g4, ⟨ws3, hw4, l4⟩, ?_, (knt.next T3.nx).next nx4, ?_, ⟨f0, fw, fr3⟩, upd_same, ?_⟩
    · have := T3.less; rw [wkn_append, wkn, wkn]; omega
    · rw [upd_ne (fr3 _ (T3.nx.sub _ (nx.sub _ m)))]; exact hr3
    · rw [List.map_append, List.map_singleton]
      exact ((ml.next T3.nx).next nx4).snoc (x := ptL (y, v')) ⟨t2, u, rfl, nx4.tup _ _ (SqT.of ht2), mn3.next nx4⟩
theorem ok_givE {f : Addr} {fd : FuncData} {c : Cs} {CS CT : Addr} (F : Fun K "given_back" "given_back" st_given_back f fd) (B : Plain mg) (M : MKit K mg c CS CT) (DU : DefOk P w K mg base 7 "outline" ["value", "waiting"] (spOutE K c)) (DF : DefOk P w K mg base 8 "fill_with_members" ["room", "chain", "waiting"] (spFillC K c)) (DN : DefOk P w K mg base 8 "fill_with_names" ["room", "known", "waiting"] (spFillL K c)) : FnOk P w K mg base CX0 9 f fd ["value"] (spGiveE K c) := by
  refine F.ok sc_giv (fun vs H Q E h => ?_) (fun cdv A outer s H vs Q E hr h => ?_)
  · obtain ⟨v, x, rfl, _⟩ := h; rfl
  obtain ⟨v, x, rfl, rv, hwt, q⟩ := h
  refine ⟨_, pss_cons (ps_set (i := 1) sc_giv.nd rfl (Or.inl rfl) (pe_lst pa_nil))
    (pss_cons (ps_set (i := 2) sc_giv.nd rfl (Or.inl rfl) (pe_callD DU (hr.mono (by decide)) rfl (pa_cons (pv 0) (pa_cons (pv 1) pa_nil))))
    (pss_cons (ps_while PassesOwn.never (pt_truth (pv 1) (fun _ => rfl))
      (pss_cons (ps_set (i := 3) sc_giv.nd rfl (Or.inl rfl) (pe_bm0 PySem.F.plainAttrs_list PySem.F.slot_list_pop PySem.F.type_list_pop mt_pop (pv 1)))
      (pss_one (ps_if (pt_val (pe_callB (call_isinstC (X := _)) rfl B.isinstance PyProof.Rows.boot_isinstance (pa_cons (pe_ix ix_tup (pv 3) pe_int (fun _ _ => rfl)) (pa_cons (pe_glob (v := .ref c.ch) rfl M.mC rfl) pa_nil)) (by decide) (by decide)) (fun _ => rfl))
        (pss_one (ps_expr (pe_callD DF hr rfl (pa_cons (pe_ix ix_tup (pv 3) pe_int (fun _ _ => rfl)) (pa_cons (pe_ix ix_tup (pv 3) pe_int (fun _ _ => rfl)) (pa_cons (pv 1) pa_nil))))))
        (pss_one (ps_expr (pe_callD DN hr rfl (pa_cons (pe_ix ix_tup (pv 3) pe_int (fun _ _ => rfl)) (pa_cons (pe_fld (pe_ix ix_tup (pv 3) pe_int (fun _ _ => rfl)) rfl) (pa_cons (pv 1) pa_nil))))))))))
    (pss_one (ps_ret (pe_varF (i := 2) rfl))))), ?_⟩
  refine ⟨by show 0 ≤ sizeLine; decide, fun wa nw => ?_⟩
  have s1 := same_upd nw (.lst [])
  have hw1 : upd H wa (.lst []) wa = some (.lst []) := upd_same
  have vr : VR K c [] (upd H wa (.lst [])) x v := rep_VR c [] x v (Rep.mono (TupLe.of_same s1) _ _ rv)
  have g1 : GB K c H [] [] none wa (upd H wa (.lst [])) := ⟨fun b e => s1.free e, fun b o e _ => s1 _ _ e, by simp, (fun p hp => nomatch hp), (fun p hp => nomatch hp), nw, (fun p hp => nomatch hp), (fun p hp => nomatch hp), by simp, (fun p hp => nomatch hp), fun r e => nomatch e⟩
  refine ⟨_, rfl, _, rfl, v, wa, x, H, [], [], none, [], rfl, .inl vr, g1, hw1, .nil, by decide, fun u S1 W1 H1 T mn => ?_⟩
  have hT := T.less
  refine ⟨fun n σ H' => ∃ S' W' y, n = W'.sum ∧ σ = [some v, some (.ref wa), some u, y] ∧ W'.sum < 100000 ∧ Means K c S' H' x u ∧ GB K c H S' W' none wa H' ∧ ∃ ws, H' wa = some (.lst ws) ∧ WL K H' ws W', ⟨_, S1, W1, none, rfl, rfl, by simp only [Wt.sum] at hT; omega, mn, T.gb, T.wl⟩, ?_⟩
  rintro n σ H' ⟨S', W', y, rfl, rfl, hn, mn', g', ws, hw, l⟩
  by_cases hW : W' = []
  · subst hW
    have e0 : ws = [] := List.eq_nil_of_length_eq_zero l.1
    subst e0
    refine ⟨_, rfl, false, .inl ⟨_, SqL.of hw, rfl⟩, iteF ?_⟩
    refine ⟨u, S'.map (·.2.2), rfl, fun r hr' => ?_, g'.rooms, fun uq H2 k1 k2 => q u H2 (fun b o e n => ?_) (means_rep uq g' k1 k2 x u mn')⟩
    · obtain ⟨p, hp, rfl⟩ := List.mem_map.mp hr'
      exact g'.there p hp
    · rw [k1 b (fun z => by obtain ⟨p, hp, rfl⟩ := List.mem_map.mp z; rw [g'.fresh p hp] at e; cases e)]
      exact g'.ni b o e n
  · obtain ⟨W2, p, rfl⟩ : ∃ W2 p, W' = W2 ++ [p] := ⟨_, _, (List.dropLast_concat_getLast hW).symm⟩
    obtain ⟨ws2, t, rfl, ht, l2⟩ := l.last
    rw [Wt.sum_append] at hn
    simp only [Wt.sum] at hn
    refine ⟨_, rfl, true, .inl ⟨_, SqL.of hw, by simp⟩, iteT ?_⟩
    refine ⟨fun σ2 H2 => ∃ n2, n2 < Wt.sum (W2 ++ [p]) ∧ ∃ S' W' y, n2 = W'.sum ∧ σ2 = [some v, some (.ref wa), some u, y] ∧ W'.sum < 100000 ∧ Means K c S' H2 x u ∧ GB K c H S' W' none wa H2 ∧ ∃ ws, H2 wa = some (.lst ws) ∧ WL K H2 ws W', fun σ2 H2 z => z, ?_⟩
    refine ⟨_, rfl, .inl ⟨rfl, _, SqL.of hw⟩, wa, _, .ref t, rfl, rfl, hw, by simp, ?_⟩
    rw [List.dropLast_concat]
    obtain ⟨nx0, g0, l0, m0, vr0, r0⟩ := g'.take hw l2
    have ht0 : SqT K (upd H' wa (.lst ws2)) t [.ref p.1.1, .ref p.1.2.2] := (SameBut.upd _).tup hw t _ ht
    obtain ⟨⟨pa, pt, pr⟩, px⟩ := p
    cases px with
    | int i => rw [VR] at vr0; cases vr0
    | bool i => rw [VR] at vr0; cases vr0
    | chain xs =>
      rw [VR] at vr0
      obtain ⟨a', z, cn0⟩ := vr0
      cases z
      obtain ⟨dx, hd, tl, o, hi, _⟩ := cn0.at
      refine ⟨_, rfl, t, _, _, .ref pa, rfl, rfl, ht0, rfl, .ref pa, c.ch, .ref c.ch, true, rfl, .of (.ins hi M.cC.cl M.cC.ha M.cC.hn M.cC.htk M.cC.hm), M.kC.2.2.1, true, rfl, iteT ?_⟩
      refine ⟨_, rfl, t, _, _, .ref pr, rfl, rfl, ht0, rfl, _, rfl, t, _, _, .ref pa, rfl, rfl, ht0, rfl, _, rfl, ?_⟩
      simp only [MV.wt] at hn
      refine ⟨(pa, pt, pr), wa, xs, H, S', W2, ws2, rfl, cn0, m0, r0, g0, upd_same, l0, by omega, fun S2 W3 H2 nx g2 wl2 less => ?_⟩
      exact ⟨W3.sum, by rw [Wt.sum_append]; simp only [Wt.sum, MV.wt]; omega, S2, W3, _, rfl, rfl, by omega, (mn'.next nx0).next nx, g2, wl2⟩
    | clos x' b' ρ' =>
      have vr1 := vr0
      rw [VR] at vr0
      obtain ⟨a', dx, vb, vk, o, z, hi, rb, ro, kn⟩ := vr0
      cases z
      refine ⟨_, rfl, t, _, _, .ref pa, rfl, rfl, ht0, rfl, .ref pa, c.ch, .ref c.cl, false, rfl, .of (.ins hi M.cL.cl M.cL.ha M.cL.hn M.cL.htk M.cL.hm), M.kC.2.2.2, false, rfl, iteF ?_⟩
      refine ⟨_, rfl, t, _, _, .ref pr, rfl, rfl, ht0, rfl, _, rfl, t, _, _, .ref pa, rfl, rfl, ht0, rfl, pa, c.cl, dx, _, vk, rfl, hi, M.cL.cl, M.aL.2.2.1, rfl, _, rfl, ?_⟩
      simp only [MV.wt] at hn
      refine ⟨(pa, pt, pr), vk, wa, x', b', ρ', H, S', W2, ws2, rfl, vr1, kn, m0, r0, g0, upd_same, l0, by omega, fun S2 W3 H2 nx g2 wl2 less => ?_⟩
      exact ⟨W3.sum, by rw [Wt.sum_append]; simp only [Wt.sum, MV.wt]; omega, S2, W3, _, rfl, rfl, by omega, (mn'.next nx0).next nx, g2, wl2⟩
theorem ok_wrG {f : Addr} {fd : FuncData} {c : Cs} {CS CT : Addr} (F : Fun K "worked_out" "worked_out" st_worked_out f fd) (M : MKit K mg c CS CT) (DB : DefX P w K mg base 8 "begin_part" ["part", "known", "waiting", "done"] (spPE K (RBeg c CS))) (DE' : DefX P w K mg base 5 "end_part" ["part", "known", "waiting", "done"] (spP K (RFin c CS)))
    (DG : DefOk P w K mg base 9 "given_back" ["value"] (spGiveE K c)) : FnOk P w K mg base (CX1 P w base) 10 f fd ["expr", "known", "steps"] (spN K (RWorkG c CS CT)) := by
  refine F.okN sc_wrk (fun as o h => ?_) (fun cdv A outer s H E as o hr h hE => ?_)
  · obtain ⟨e, ρ, n, r, rfl, _⟩ := h; exact ⟨rfl, by simp⟩
  obtain ⟨e, ρ, n, r, rfl, hn, ⟨k0, hk0⟩, hfl, ho⟩ := h
  show VX _ _ _ [.d (mtD e), .d (knD c ρ), .d (.int (n : Int)), .un, .un, .un, .un] _
  have kp : ∀ i, Kept (PhiN H) i := fun _ => PhiN.kept
  refine vx_setO sc_wrk.nd rfl (kp _) (ve_lst (vd_cons (ve_tup (vd_cons (ve_BEGIN M) (by decreasing_trivial_pre_omega))) vd_nil)) ?_
  refine vx_setO sc_wrk.nd rfl (kp _) (by decreasing_trivial_pre_omega) ?_
  refine vx_set sc_wrk.nd rfl (kp _) (by decreasing_trivial_pre_omega) ?_
  refine vx_while raising.own (fun m ρ' => ∃ (t : MS) (x : Sl), ρ' = [.d (mtD e), .d (knD c ρ), .d (.int (n : Int)), .o (wl c t.w), .o (dl c t.d), .d (.int ((n - t.n : Nat) : Int)), x] ∧ runS m t = some r ∧ okW t.w t.d.length ∧ t.n ≤ n ∧ t.w.length ≤ 1 + 2 * (n - t.n) ∧ t.d.length ≤ n - t.n) ⟨k0, ⟨[.beg e ρ], [], n⟩, .un, ?_, hk0, rfl, Nat.le_refl _, by simp, by simp⟩ ?_
  · simp [wl, dl, taskD]
  rintro m ρ' ⟨⟨tw, td, tn⟩, x, rfl, hrun, hok, hle, hb1, hb2⟩
  dsimp only at hrun hok hle hb1 hb2 ⊢
  cases m with
  | zero => rw [runS] at hrun; cases hrun
  | succ m =>
  rw [runS] at hrun
  cases tw with
  | nil =>
    rw [okW] at hok
    obtain ⟨v, rfl⟩ : ∃ v, td = [v] := by match td, hok with | [v], _ => exact ⟨v, rfl⟩
    rw [stepS] at hrun
    cases hrun
    refine ⟨false, vt_eq (vt_lst (by decreasing_trivial_pre_omega) rfl (fun _ => rfl)) (by simp [wl]), (fun z => nomatch z), fun _ => ?_⟩
    rw [dl_cons]
    exact vx_retGE DG (hr.mono (by omega)) rfl rfl (hfl v rfl) (PhiN.evn H) ⟨_, ho, rfl⟩
  | cons t tw =>
    refine ⟨true, vt_eq (vt_lst (by decreasing_trivial_pre_omega) rfl (fun _ => rfl)) (by simp [wl]), (fun _ => ?_), (fun z => nomatch z)⟩
    rw [wl_cons]
    refine vx_pop sc_wrk.nd rfl rfl (kp _) rfl ?_
    rw [List.length_cons] at hb1
    cases t with
    | fin e' ρ1 =>
      obtain ⟨o1, o2, o3⟩ := hok
      cases td with
      | nil => exact absurd (Nat.lt_of_lt_of_le o1 o2) (by simp)
      | cons l td =>
      rw [List.length_cons] at o2 o3 hb2
      rw [taskD]
      refine vx_if (k := true) (vt_eq (vt_eqI (ve_ixT (by decreasing_trivial_pre_omega) (by decreasing_trivial_pre_omega) rfl) (ve_END M)) (by decide)) (fun _ => ?_) (fun z => nomatch z)
      rw [stepS] at hrun
      refine vx_callP raising DE' (hr.mono (by omega)) (by decreasing_trivial_pre_omega) (by decreasing_trivial_pre_omega) rfl rfl (by decide) rfl rfl ⟨e', ρ1, tw, l, td, rfl, rfl, rfl, rfl, o1, o2, by omega, by omega, rfl⟩ (fun C z => ?_) (fun z hz => ?_)
      · refine hE C ?_
        cases q : finS e' ρ1 l tw td tn with
        | inl s' => rw [← outP_fin c CS e' ρ1 l tw td tn, q] at z; cases z
        | inr r' => rw [← outP_fin c CS e' ρ1 l tw td tn, q] at z; cases z; rw [q] at hrun; obtain rfl := fin_stuck q; cases hrun; exact ho
      · rw [← outP_fin c CS e' ρ1 l tw td tn] at hz
        cases q : finS e' ρ1 l tw td tn with
        | inr r' => rw [q] at hz; cases hz
        | inl s' =>
          rw [q] at hz hrun
          cases hz
          obtain ⟨f1, f2, f3, f4⟩ := fin_n q o3
          refine vx_nil (vx_nil ⟨m, Nat.lt_succ_self _, s', .d (.tuple [.int 1, mtD e', knD c ρ1]), ?_, hrun, f4, by omega, by omega, by omega⟩)
          rw [f1]; rfl
    | beg e' ρ1 =>
      rw [taskD]
      refine vx_if (k := false) (vt_eq (vt_eqI (ve_ixT (by decreasing_trivial_pre_omega) (by decreasing_trivial_pre_omega) rfl) (ve_END M)) (by decide)) (fun z => nomatch z) (fun _ => ?_)
      cases tn with
      | zero =>
        rw [stepS] at hrun
        cases hrun
        refine vx_if (k := false) (vt_eq (by decreasing_trivial_pre_omega) (decide_eq_false (by omega))) (fun z => nomatch z) (fun _ => ?_)
        exact vx_raise raising M.eT (hE CT ho)
      | succ tn =>
      rw [stepS] at hrun
      refine vx_if (k := true) (vt_eq (by decreasing_trivial_pre_omega) (decide_eq_true (by omega))) (fun _ => ?_) (fun z => nomatch z)
      refine vx_aug sc_wrk.nd rfl (kp _) rfl (by decreasing_trivial_pre_omega) ?_
      rw [okW] at hok
      refine vx_callPE raising DB (hr.mono (by omega)) (PhiN.ev H) (by decreasing_trivial_pre_omega) (by decreasing_trivial_pre_omega) rfl rfl (by decide) rfl rfl ⟨e', ρ1, tw, td, rfl, rfl, rfl, rfl, by omega, by omega, rfl⟩ (fun C z => ?_) (fun z hz => ?_)
      · refine hE C ?_
        cases q : begS e' ρ1 tw td tn with
        | inl s' => rw [← outP_beg c CS e' ρ1 tw td tn, q] at z; cases z
        | inr r' => rw [← outP_beg c CS e' ρ1 tw td tn, q] at z; cases z; rw [q] at hrun; obtain rfl := beg_stuck q; cases hrun; exact ho
      · rw [← outP_beg c CS e' ρ1 tw td tn] at hz
        cases q : begS e' ρ1 tw td tn with
        | inr r' => rw [q] at hz; cases hz
        | inl s' =>
          rw [q] at hz hrun
          cases hz
          obtain ⟨f1, f2, f3, f4⟩ := beg_n q
          refine vx_nil (vx_nil (vx_nil ⟨m, Nat.lt_succ_self _, s', .d (.tuple [.int 0, mtD e', knD c ρ1]), ?_, hrun, f4 hok, by omega, by omega, by omega⟩))
          rw [f1, show ((n - tn : Nat) : Int) = ((n - (tn + 1) : Nat) : Int) + 1 from by omega]; rfl
theorem ok_ruG {f : Addr} {fd : FuncData} {c : Cs} {CS CT : Addr} (F : Fun K "run" "run" st_run f fd) (DW : DefX P w K mg base 10 "worked_out" ["expr", "known", "steps"] (spN K (RWorkG c CS CT))) (DK : DefOk P w K mg base 4 "known_from" ["names"] (spV K (RKnL c))) : FnOk P w K mg base (CX1 P w base) 11 f fd ["expr", "names", "steps"] (spVX K (RRunG CS CT)) := by
  refine FnOk.hidN run_seen (F.okN sc_run (fun as o h => ?_) (fun cdv A outer s H E as o hr h hE => ?_))
  · obtain ⟨e, ρ, n, r, rfl, _⟩ := h; exact ⟨rfl, by simp⟩
  obtain ⟨e, ρ, n, r, rfl, hn, he, hf, ho⟩ := h
  show VX _ _ _ [.d (mtD e), .l (outKs ρ).reverse, .d (.int (n : Int))] _
  refine vx_retN raising DW hr (PhiN.evn H) (va_cons (by decreasing_trivial_pre_omega) (va_cons (ve_call DK (hr.mono (by omega)) (by decreasing_trivial_pre_omega) ⟨ρ, rfl, rfl⟩) (by decreasing_trivial_pre_omega))) ⟨e, ρ, n, r, rfl, hn, he, hf, ho⟩ (fun r' z => ?_) hE
  rw [ho] at z
  obtain ⟨d, rfl⟩ := resG_d z
  exact ⟨d, rfl, d, by rw [ho, z], rfl⟩
theorem sc_app : FnScope ["function", "argument", "steps", "held"] ["function", "argument", "steps"] (defScope st_applied) := ⟨rfl, rfl, rfl, by decide +kernel, rfl, by decide +kernel, by decide +kernel⟩
theorem ok_apG {f : Addr} {fd : FuncData} {c : Cs} {CS CT : Addr} (F : Fun K "applied" "applied" st_applied f fd) (B : Plain mg) (M : MKit K mg c CS CT) (MN : Made P w K mg base "Known" c.kn 3 mkKn) (DT : DefOk P w K mg base 3 "taken" ["value"] (spV K (RTakE c))) (DO : DefOk P w K mg base 6 "opened" ["value"] (spE K (ROpnE c))) (DW : DefX P w K mg base 10 "worked_out" ["expr", "known", "steps"] (spN K (RWorkG c CS CT))) :
    FnOk P w K mg base (CX1 P w base) 11 f fd ["function", "argument", "steps"] (spVX K (RAppG CS CT)) := by
  refine FnOk.hidN app_seen (F.okN sc_app (fun as o h => ?_) (fun cdv A outer s H E as o hr h hE => ?_))
  · obtain ⟨x, b, ρ, a, n, r, rfl, _⟩ := h; exact ⟨rfl, by simp⟩
  obtain ⟨x, b, ρ, a, n, r, rfl, hn, he, hf, ho⟩ := h
  show VX _ _ _ [.d (outD (.clos x b ρ)), .d (outD a), .d (.int (n : Int)), .un] _
  obtain ⟨g, fd', ps, m1, m2, m3, m4⟩ := MN
  refine vx_setE sc_app.nd rfl PhiN.kept DO (hr.mono (by omega)) (PhiN.ev H) (va_cons (ve_call DT (hr.mono (by omega)) (by decreasing_trivial_pre_omega) ⟨.clos x b ρ, rfl, rfl⟩) va_nil) ⟨.clos x b ρ, rfl, rfl⟩ ?_
  refine vx_if (vt_not (vt_bool (ve_isinstC B.isinstance M.mL (M.dty (.clos x b ρ)) (M.is_L (.clos x b ρ)) (by decreasing_trivial_pre_omega)) (fun _ => rfl))) (fun z => nomatch z) (fun _ => vx_nil ?_)
  rw [clos_ins]
  refine vx_retN raising DW hr (PhiN.evn H) (va_cons (ve_fld M.cL.cl M.aL.2.1 (by decreasing_trivial_pre_omega) rfl) (va_cons (ve_make (fds := [("name", .str x), ("value", eitD c a), ("others", knD c ρ)]) m1 m2 m3 m4 (hr.mono (by omega)) (vd_cons (ve_fld M.cL.cl M.aL.1 (by decreasing_trivial_pre_omega) rfl) (vd_cons (ve_call DT (hr.mono (by omega)) (by decreasing_trivial_pre_omega) ⟨a, rfl, rfl⟩) (vd_cons (ve_fld M.cL.cl M.aL.2.2.1 (by decreasing_trivial_pre_omega) rfl) vd_nil))) rfl fun H us r => kn_flds r) (by decreasing_trivial_pre_omega))) ⟨b, (x, a) :: ρ, n, r, by rw [kn_ins]; rfl, hn, he, hf, ho⟩ (fun r' z => ?_) hE
  rw [ho] at z
  obtain ⟨d, rfl⟩ := resG_d z
  exact ⟨d, rfl, d, by rw [ho, z], rfl⟩
theorem sc_whole : FnScope ["_law_found"] ["_law_found"] (defScope st_law_whole) := ⟨rfl, rfl, rfl, by decide +kernel, rfl, by decide +kernel, by decide +kernel⟩
theorem ok_whI {f : Addr} {fd : FuncData} (F : Fun K "_law_whole" "_law_whole" st_law_whole f fd) (B : Plain mg) : FnOk P w K mg base CX0 1 f fd ["_law_found"] (spV K RWhI) := by
  refine F.okV sc_whole (fun as r h => ?_) (fun cdv A outer s H E as r hr h => ?_)
  · obtain ⟨v, rfl, _⟩ := h; exact ⟨rfl, by simp⟩
  obtain ⟨i, rfl, rfl⟩ := h
  show VS _ _ [.d (.int i)] _
  exact vs_ret (ve_and (ve_isinstD B.isinstance B.int PyProof.Rows.boot_int dty_int (by rfl) (by decreasing_trivial_pre_omega)) fun _ => ve_one (ve_not (ve_isinstD B.isinstance B.bool PyProof.Rows.boot_bool dty_int (kit_int_bool K) (by decreasing_trivial_pre_omega)))) (.inl rfl)
theorem sc_so : FnScope ["_law_found", "_law_meant", "_law_k"] ["_law_found", "_law_meant"] (defScope st_law_so) := ⟨rfl, rfl, rfl, by decide +kernel, rfl, by decide +kernel, by decide +kernel⟩
theorem kit_soT (K : PySem.W.Frag) : PySem.W.kitOne K (.type "tuple") (.type "bool") = some false ∧ PySem.W.kitOne K (.type "tuple") (.type "int") = some false ∧ PySem.W.kitOne K (.type "tuple") (.type "str") = some false ∧ PySem.W.kitOne K (.type "tuple") (.type "dict") = some false ∧
    PySem.W.kitOne K (.type "tuple") (.type "tuple") = some true ∧ PySem.W.kitOne K (.type "tuple") (.type "list") = some false ∧ PySem.W.kitAny K (.type "tuple") [.type "list", .type "tuple"] = some true :=
  ⟨by first | rfl | kernel_rfl, by first | rfl | kernel_rfl, by first | rfl | kernel_rfl, by first | rfl | kernel_rfl, by first | rfl | kernel_rfl, by first | rfl | kernel_rfl, by first | rfl | kernel_rfl⟩
theorem kit_soL (K : PySem.W.Frag) : PySem.W.kitOne K (.type "list") (.type "bool") = some false ∧ PySem.W.kitOne K (.type "list") (.type "int") = some false ∧ PySem.W.kitOne K (.type "list") (.type "str") = some false ∧ PySem.W.kitOne K (.type "list") (.type "dict") = some false ∧
    PySem.W.kitOne K (.type "list") (.type "tuple") = some false ∧ PySem.W.kitOne K (.type "list") (.type "list") = some true ∧ PySem.W.kitAny K (.type "list") [.type "list", .type "tuple"] = some true :=
  ⟨by first | rfl | kernel_rfl, by first | rfl | kernel_rfl, by first | rfl | kernel_rfl, by first | rfl | kernel_rfl, by first | rfl | kernel_rfl, by first | rfl | kernel_rfl, by first | rfl | kernel_rfl⟩
theorem kit_soS (K : PySem.W.Frag) : PySem.W.kitOne K (.type "str") (.type "bool") = some false ∧ PySem.W.kitOne K (.type "str") (.type "int") = some false ∧ PySem.W.kitOne K (.type "str") (.type "str") = some true ∧ PySem.W.kitOne K (.type "int") (.type "bool") = some false ∧ PySem.W.kitOne K (.type "int") (.type "int") = some true :=
  ⟨by first | rfl | kernel_rfl, by first | rfl | kernel_rfl, by first | rfl | kernel_rfl, by first | rfl | kernel_rfl, by first | rfl | kernel_rfl⟩
theorem ok_soS {f : Addr} {fd : FuncData} (F : Fun K "_law_so" "_law_so" st_law_so f fd) (B : Plain mg) (hstr : mg "str" = none) (hdict : mg "dict" = none) (n : Nat) (ih : ∀ m, n = m + 1 → DefOk P w K mg base (m + 1) "_law_so" ["_law_found", "_law_meant"] (spV K (RSoG m))) :
    FnOk P w K mg base CX0 (n + 1) f fd ["_law_found", "_law_meant"] (spV K (RSoG n)) := by
  refine F.okV sc_so (fun as r h => ?_) (fun cdv A outer s H E as r hr h => ?_)
  · obtain ⟨x, rfl, _⟩ := h; exact ⟨rfl, by simp⟩
  obtain ⟨d, rfl, ho, hd, rfl⟩ := h
  show VS _ _ [.d d, .d d, .un] _
  obtain ⟨c8, c9, c10, c11, c12⟩ := kit_soS K
  have hu : (A.deeper (PyProof.Rows.envOfC "_law_so" (defScope st_law_so) s.heap.objs.size f cdv)).units + 4 < cLine := by have := hr.un; omega
  cases d with
  | none => cases ho
  | bool b => cases ho
  | dict b => cases ho
  | int i =>
    refine vs_ifN (vt_eq (vt_isN (ra := .d (.int i)) (by decreasing_trivial_pre_omega)) (by rfl)) rfl ?_
    refine vs_ifN (vt_bool (ve_isinst B.isinstance B.bool PyProof.Rows.boot_bool (by decreasing_trivial_pre_omega) rfl c11)) rfl ?_
    refine vs_ifT (vt_bool (ve_isinst B.isinstance B.int PyProof.Rows.boot_int (by decreasing_trivial_pre_omega) rfl c12)) rfl ?_
    exact vs_ret (ve_eq (r' := .d (.bool true)) (ve_and (ve_isinst B.isinstance B.int PyProof.Rows.boot_int (by decreasing_trivial_pre_omega) rfl c12) fun _ => ve_and (ve_not (ve_isinst B.isinstance B.bool PyProof.Rows.boot_bool (by decreasing_trivial_pre_omega) rfl c11)) fun _ => ve_one (ve_eqIb (x := i) (y := i) (by decreasing_trivial_pre_omega) (by decreasing_trivial_pre_omega))) (by simp)) (.inl rfl)
  | str x =>
    refine vs_ifN (vt_eq (vt_isN (ra := .d (.str x)) (by decreasing_trivial_pre_omega)) (by rfl)) rfl ?_
    refine vs_ifN (vt_bool (ve_isinst B.isinstance B.bool PyProof.Rows.boot_bool (by decreasing_trivial_pre_omega) rfl c8)) rfl ?_
    refine vs_ifN (vt_bool (ve_isinst B.isinstance B.int PyProof.Rows.boot_int (by decreasing_trivial_pre_omega) rfl c9)) rfl ?_
    refine vs_ifT (vt_bool (ve_isinst B.isinstance hstr PyProof.Rows.boot_str (by decreasing_trivial_pre_omega) rfl c10)) rfl ?_
    exact vs_ret (ve_eq (r' := .d (.bool true)) (ve_and (ve_isinst B.isinstance hstr PyProof.Rows.boot_str (by decreasing_trivial_pre_omega) rfl c10) fun _ => ve_one (ve_eqSb (x := x) (y := x) (by decreasing_trivial_pre_omega) (by decreasing_trivial_pre_omega))) (by simp)) (.inl rfl)
  | tuple ps =>
    obtain ⟨c1, c2, c3, c4, c5, c6, c7⟩ := kit_soT K
    rw [sdep] at hd
    rw [sok, Bool.and_eq_true] at ho
    obtain ⟨m, rfl⟩ : ∃ m, n = m + 1 := ⟨n - 1, by omega⟩
    have DS := ih m rfl
    have h3 : ps.length ≤ 1000 := of_decide_eq_true ho.1
    refine vs_ifN (vt_eq (vt_isN (ra := .d (.tuple ps)) (by decreasing_trivial_pre_omega)) (by rfl)) rfl ?_
    refine vs_ifN (vt_bool (ve_isinst B.isinstance B.bool PyProof.Rows.boot_bool (by decreasing_trivial_pre_omega) rfl c1)) rfl ?_
    refine vs_ifN (vt_bool (ve_isinst B.isinstance B.int PyProof.Rows.boot_int (by decreasing_trivial_pre_omega) rfl c2)) rfl ?_
    refine vs_ifN (vt_bool (ve_isinst B.isinstance hstr PyProof.Rows.boot_str (by decreasing_trivial_pre_omega) rfl c3)) rfl ?_
    refine vs_ifN (vt_bool (ve_isinst B.isinstance hdict PyProof.Rows.boot_dict (by decreasing_trivial_pre_omega) rfl c4)) rfl ?_
    refine vs_ifN (vt_eq (vt_neD (n := 4) (d := .bool true) (d' := .bool true) hu (ve_isinst B.isinstance B.tuple PyProof.Rows.boot_tuple (by decreasing_trivial_pre_omega) rfl c5) (ve_isinst B.isinstance B.tuple PyProof.Rows.boot_tuple (by decreasing_trivial_pre_omega) rfl c5) rfl rfl rfl rfl (.inl (by decide))) (by rfl)) rfl ?_
    refine vs_ifN (k := false) (vt_w (vw_orF (vt_eq (vt_neD (n := 4) (d := .bool false) (d' := .bool false) hu (ve_isinst B.isinstance B.list PyProof.Rows.boot_list (by decreasing_trivial_pre_omega) rfl c6) (ve_isinst B.isinstance B.list PyProof.Rows.boot_list (by decreasing_trivial_pre_omega) rfl c6) rfl rfl rfl rfl (.inl (by decide))) (by rfl)) (vw_or1 (vt_eq (vt_not (vt_bool (ve_isinstT B.isinstance B.list PyProof.Rows.boot_list B.tuple PyProof.Rows.boot_tuple (by decreasing_trivial_pre_omega) c7))) (by rfl))))) rfl ?_
    refine vs_ifN (vt_eq (vt_neI (ve_lenT B.len (by decreasing_trivial_pre_omega)) (ve_lenT B.len (by decreasing_trivial_pre_omega))) (by simp)) rfl ?_
    refine vs_for PassesOwn.never rfl (vi_range B.range (n := ps.length) (ve_lenT B.len (by decreasing_trivial_pre_omega)) (by omega)) (vg_name sc_so.nd rfl) (fun i ρ => ∃ x2, ρ = [.d (.tuple ps), .d (.tuple ps), x2]) ⟨_, rfl⟩ ?_ ?_
    · rintro i d ρ' hd' ⟨x2, rfl⟩
      have hi : i < ps.length := by simpa [rngD] using (List.getElem?_eq_some_iff.mp hd').1
      have ed : d = .int (i : Nat) := by simpa [rngD, hi] using hd'.symm
      subst ed
      have hix : atI ps (i : Int) = some ps[i] := atI_nat (List.getElem?_eq_getElem hi)
      refine ⟨_, rfl, ?_⟩
      show VS _ _ [.d (.tuple ps), .d (.tuple ps), .d (.int (i : Int))] _
      refine vs_ifN (vt_eq (vt_not (vt_bool (ve_call DS hr (va_cons (ve_ixT (by decreasing_trivial_pre_omega) (by decreasing_trivial_pre_omega) hix) (va_cons (ve_ixT (by decreasing_trivial_pre_omega) (by decreasing_trivial_pre_omega) hix) va_nil)) ⟨ps[i], rfl, soks_mem ho.2 (List.getElem_mem hi), by have := sdeps_mem (List.getElem_mem hi); omega, rfl⟩))) (by rfl)) rfl ?_
      exact vs_nil ⟨_, rfl⟩
    · rintro ρ' ⟨x2, rfl⟩
      exact vs_ret (by decreasing_trivial_pre_omega) (.inl rfl)
  | list ps =>
    obtain ⟨c1, c2, c3, c4, c5, c6, c7⟩ := kit_soL K
    rw [sdep] at hd
    rw [sok, Bool.and_eq_true] at ho
    obtain ⟨m, rfl⟩ : ∃ m, n = m + 1 := ⟨n - 1, by omega⟩
    have DS := ih m rfl
    have h3 : ps.length ≤ 1000 := of_decide_eq_true ho.1
    refine vs_ifN (vt_eq (vt_isN (ra := .d (.list ps)) (by decreasing_trivial_pre_omega)) (by rfl)) rfl ?_
    refine vs_ifN (vt_bool (ve_isinstF B.isinstance B.bool PyProof.Rows.boot_bool (by decreasing_trivial_pre_omega) c1)) rfl ?_
    refine vs_ifN (vt_bool (ve_isinstF B.isinstance B.int PyProof.Rows.boot_int (by decreasing_trivial_pre_omega) c2)) rfl ?_
    refine vs_ifN (vt_bool (ve_isinstF B.isinstance hstr PyProof.Rows.boot_str (by decreasing_trivial_pre_omega) c3)) rfl ?_
    refine vs_ifN (vt_bool (ve_isinstF B.isinstance hdict PyProof.Rows.boot_dict (by decreasing_trivial_pre_omega) c4)) rfl ?_
    refine vs_ifN (vt_eq (vt_neD (n := 4) (d := .bool false) (d' := .bool false) hu (ve_isinstF B.isinstance B.tuple PyProof.Rows.boot_tuple (by decreasing_trivial_pre_omega) c5) (ve_isinstF B.isinstance B.tuple PyProof.Rows.boot_tuple (by decreasing_trivial_pre_omega) c5) rfl rfl rfl rfl (.inl (by decide))) (by rfl)) rfl ?_
    refine vs_ifN (k := false) (vt_w (vw_orF (vt_eq (vt_neD (n := 4) (d := .bool true) (d' := .bool true) hu (ve_isinstF B.isinstance B.list PyProof.Rows.boot_list (by decreasing_trivial_pre_omega) c6) (ve_isinstF B.isinstance B.list PyProof.Rows.boot_list (by decreasing_trivial_pre_omega) c6) rfl rfl rfl rfl (.inl (by decide))) (by rfl)) (vw_or1 (vt_eq (vt_not (vt_bool (ve_isinstTL B.isinstance B.list PyProof.Rows.boot_list B.tuple PyProof.Rows.boot_tuple (by decreasing_trivial_pre_omega) c7))) (by rfl))))) rfl ?_
    refine vs_ifN (vt_eq (vt_neI (ve_lenF (ra := .d (.list ps)) B.len (by decreasing_trivial_pre_omega) rfl) (ve_lenF (ra := .d (.list ps)) B.len (by decreasing_trivial_pre_omega) rfl)) (by simp)) rfl ?_
    refine vs_for PassesOwn.never rfl (vi_range B.range (n := ps.length) (ve_lenF (ra := .d (.list ps)) B.len (by decreasing_trivial_pre_omega) rfl) (by omega)) (vg_name sc_so.nd rfl) (fun i ρ => ∃ x2, ρ = [.d (.list ps), .d (.list ps), x2]) ⟨_, rfl⟩ ?_ ?_
    · rintro i d ρ' hd' ⟨x2, rfl⟩
      have hi : i < ps.length := by simpa [rngD] using (List.getElem?_eq_some_iff.mp hd').1
      have ed : d = .int (i : Nat) := by simpa [rngD, hi] using hd'.symm
      subst ed
      have hix : atI ps (i : Int) = some ps[i] := atI_nat (List.getElem?_eq_getElem hi)
      refine ⟨_, rfl, ?_⟩
      show VS _ _ [.d (.list ps), .d (.list ps), .d (.int (i : Int))] _
      refine vs_ifN (vt_eq (vt_not (vt_bool (ve_call DS hr (va_cons (ve_ixF (ra := .d (.list ps)) (by decreasing_trivial_pre_omega) (by decreasing_trivial_pre_omega) rfl hix) (va_cons (ve_ixF (ra := .d (.list ps)) (by decreasing_trivial_pre_omega) (by decreasing_trivial_pre_omega) rfl hix) va_nil)) ⟨ps[i], rfl, soks_mem ho.2 (List.getElem_mem hi), by have := sdeps_mem (List.getElem_mem hi); omega, rfl⟩))) (by rfl)) rfl ?_
      exact vs_nil ⟨_, rfl⟩
    · rintro ρ' ⟨x2, rfl⟩
      exact vs_ret (by decreasing_trivial_pre_omega) (.inl rfl)
theorem ok_soG {f : Addr} {fd : FuncData} (F : Fun K "_law_so" "_law_so" st_law_so f fd) (hb : Binds K fd ["_law_found", "_law_meant"] []) (hkp : PySem.W.keepIn K (.ref f) = true) (hm : mg "_law_so" = some (.ref f)) (B : Plain mg) (hstr : mg "str" = none) (hdict : mg "dict" = none) (n : Nat) :
    FnOk P w K mg base CX0 (n + 1) f fd ["_law_found", "_law_meant"] (spV K (RSoG n)) := by
  induction n with
  | zero => exact ok_soS F B hstr hdict 0 fun m z => nomatch z
  | succ n ih => exact ok_soS F B hstr hdict (n + 1) fun m z => by cases z; exact ⟨f, fd, ih, hb, hkp, hm⟩
theorem sc_nam : FnScope ["_law_word"] ["_law_word"] (defScope st_law_named_part) := ⟨rfl, rfl, rfl, by decide +kernel, rfl, by decide +kernel, by decide +kernel⟩
theorem ok_nam {f : Addr} {fd : FuncData} (F : Fun K "_law_named_part" "_law_named_part" st_law_named_part f fd) : FnOk P w K mg base CX0 1 f fd ["_law_word"] (spV K RNam) := by
  refine F.okV sc_nam (fun as r h => ?_) (fun cdv A outer s H E as r hr h => ?_)
  · obtain ⟨x, rfl, _⟩ := h; exact ⟨rfl, by simp⟩
  obtain ⟨x, rfl, rfl⟩ := h
  show VS _ _ [.d (.str x)] _
  exact vs_ret (by decreasing_trivial_pre_omega) (.inl rfl)
theorem sc_adp : FnScope ["_law_one", "_law_two"] ["_law_one", "_law_two"] (defScope st_law_add) := ⟨rfl, rfl, rfl, by decide +kernel, rfl, by decide +kernel, by decide +kernel⟩
theorem ok_adp {f : Addr} {fd : FuncData} (F : Fun K "_law_add" "_law_add" st_law_add f fd) : FnOk P w K mg base CX0 1 f fd ["_law_one", "_law_two"] (spV K RAddP) := by
  refine F.okV sc_adp (fun as r h => ?_) (fun cdv A outer s H E as r hr h => ?_)
  · obtain ⟨a, b, rfl, _⟩ := h; exact ⟨rfl, by simp⟩
  obtain ⟨a, b, rfl, rfl⟩ := h
  show VS _ _ [.d (mtD a), .d (mtD b)] _
  exact vs_ret (by decreasing_trivial_pre_omega) (.inl rfl)
theorem sc_fst : FnScope ["_law_part", "_law_names"] [] (defScope st_law_first_names) := ⟨rfl, rfl, rfl, by decide +kernel, rfl, by decide +kernel, by decide +kernel⟩
theorem ok_fst {f : Addr} {fd : FuncData} (F : Fun K "_law_first_names" "_law_first_names" st_law_first_names f fd) (DN : DefOk P w K mg base 1 "_law_named_part" ["_law_word"] (spV K RNam)) (DA : DefOk P w K mg base 1 "_law_add" ["_law_one", "_law_two"] (spV K RAddP)) : FnOk P w K mg base CX0 2 f fd [] (spV K RFirst) := by
  refine F.okV sc_fst (fun as r h => ?_) (fun cdv A outer s H E as r hr h => ?_)
  · obtain ⟨rfl, _⟩ := h; exact ⟨rfl, by simp⟩
  obtain ⟨rfl, rfl⟩ := h
  show VS _ _ [.un, .un] _
  have hsl : sizeLine = 16777216 := sizeLine_eq
  refine vs_set sc_fst.nd rfl (d := partD) (ve_call DA hr (va_cons (ve_call DN hr (by decreasing_trivial_pre_omega) ⟨"p", rfl, rfl⟩) (va_cons (ve_call DN hr (va_cons ve_pP va_nil) ⟨pP, rfl, rfl⟩) va_nil)) ⟨.name "p", .name pP, rfl, rfl⟩) ?_
  refine vs_setO sc_fst.nd rfl (xs := [.tuple [.str "n", .int 1], .tuple [.str nX, .int 2], .tuple [.str nT, .int 3]]) (ve_lst (vd_cons (by decreasing_trivial_pre_omega) (vd_cons (ve_tup (vd_cons ve_nX (by decreasing_trivial_pre_omega))) (vd_cons (ve_tup (vd_cons ve_nT (by decreasing_trivial_pre_omega))) vd_nil)))) ?_
  refine vs_append rfl rfl (d := .tuple [.str gO, fnD partD 10]) (ve_tup (vd_cons ve_gO (vd_cons (ve_tup (vd_cons (by decreasing_trivial_pre_omega) (vd_cons (by decreasing_trivial_pre_omega) (vd_cons (by decreasing_trivial_pre_omega) (vd_cons (ve_freeze (ve_lst (vd_cons (ve_tup (vd_cons ve_pP (by decreasing_trivial_pre_omega))) vd_nil))) vd_nil))))) vd_nil))) (by rw [hsl]; decide) ?_
  refine vs_append rfl rfl (d := .tuple [.str gN, fnD partD 20]) (ve_tup (vd_cons ve_gN (vd_cons (ve_tup (vd_cons (by decreasing_trivial_pre_omega) (vd_cons (by decreasing_trivial_pre_omega) (vd_cons (by decreasing_trivial_pre_omega) (vd_cons (ve_freeze (ve_lst (vd_cons (ve_tup (vd_cons ve_pP (by decreasing_trivial_pre_omega))) vd_nil))) vd_nil))))) vd_nil))) (by rw [hsl]; decide) ?_
  exact vs_retO rfl rfl (.inl rfl)
theorem sc_gvn : FnScope ["_law_cell", "_law_plain", "_law_more", "_law_num", "_law_some", "_law_name", "_law_other", "_law_word", "_law_n", "_law_part"] ["_law_cell", "_law_plain", "_law_more"] (defScope st_law_given) := ⟨rfl, rfl, rfl, by decide +kernel, rfl, by decide +kernel, by decide +kernel⟩
theorem ok_gvn {f : Addr} {fd : FuncData} (F : Fun K "_law_given" "_law_given" st_law_given f fd) (DN : DefOk P w K mg base 1 "_law_named_part" ["_law_word"] (spV K RNam)) (DA : DefOk P w K mg base 1 "_law_add" ["_law_one", "_law_two"] (spV K RAddP)) : FnOk P w K mg base CX0 2 f fd ["_law_cell", "_law_plain", "_law_more"] (spGivn K) := by
  refine F.ok sc_gvn (fun vs H Q E h => ?_) (fun cdv A outer s H vs Q E hr h => ?_)
  · obtain ⟨c, m, a1, a2, rfl, _⟩ := h; rfl
  obtain ⟨c, m, a1, a2, rfl, h1, h2, q⟩ := h
  have cm : CMul c 48271 := .inr ⟨by decide, by decide⟩
  have hu : (A.deeper (PyProof.Rows.envOfC "_law_given" (defScope st_law_given) s.heap.objs.size f cdv)).units + 1 < cLine := by have := hr.un; omega
  have kp : ∀ {i : Nat}, i ≠ 1 → i ≠ 2 → Kept (PhiG (hid2 a1 a2 H) a1 a2) i := fun n1 n2 => PhiG.kept n1 n2
  have hφ : ∀ H0 hs σ, PhiG (hid2 a1 a2 H) a1 a2 H0 hs σ → σ[1]? = some (some (.ref a1)) ∧ σ[2]? = some (some (.ref a2)) := fun _ _ _ φ => φ.2.2
  have o1 := PhiG.own1 (a2 := a2) (hid2_1 (a1 := a1) (a2 := a2) (H := H))
  have o2 := PhiG.own2 (a1 := a1) (hid2_2 (a1 := a1) (a2 := a2) (H := H))
  have z1 : (plK m).length < sizeLine := by rw [sizeLine_eq]; show 3 < 16777216; decide
  have z2 : (moK m).length < sizeLine := by rw [sizeLine_eq]; show 2 < 16777216; decide
  refine ⟨_, vx_raw (Φ := PhiG (hid2 a1 a2 H) a1 a2) (ρ := [.d (.int c), .h (dictPer (plK m)), .h (dictPer (moK m)), .un, .un, .un, .un, .un, .un, .un]) (Q := fun o => o = .rt (.h (endPer K a1 a2 (plK (giv c m).2) (moK (giv c m).2) (bdD (giv c m).1)))) ?_, hid2 a1 a2 H, [], ⟨rfl, rfl, rfl, rfl⟩,
    (er_start (N := ["_law_cell", "_law_plain", "_law_more", "_law_num", "_law_some", "_law_name", "_law_other", "_law_word", "_law_n", "_law_part"]) (as := [.d (.int c), .h (dictPer (plK m)), .h (dictPer (moK m))]) (vs := [.int c, .ref a1, .ref a2]) (.cons (r := .d (.int c)) (Rep.int (K := K) (H := H) c) (.cons (r := .h (dictPer (plK m))) ⟨a1, rfl, h1⟩ (.cons (r := .h (dictPer (moK m))) ⟨a2, rfl, h2⟩ .nil))) (by simp)).rebase hid2_same (by simp) (fun p hp => nomatch hp), ?_⟩
  · refine vx_set sc_gvn.nd rfl (kp (by decide) (by decide)) (by decreasing_trivial_pre_omega) ?_
    refine vx_setO sc_gvn.nd rfl (kp (by decide) (by decide)) (xs := [.str "n", .str nX, .str nT]) (ve_lst (vd_cons (by decreasing_trivial_pre_omega) (vd_cons ve_nX (vd_cons ve_nT vd_nil)))) ?_
    refine vx_set sc_gvn.nd rfl (kp (by decide) (by decide)) (d := .str (nm (gvI c))) (ve_ixL (by decreasing_trivial_pre_omega) (ve_eq (r' := .d (.int (gvI c : Int))) (ve_modI (ve_modI (ve_mulI (by decreasing_trivial_pre_omega) (by decreasing_trivial_pre_omega) cm) (by decreasing_trivial_pre_omega)) (by decreasing_trivial_pre_omega)) (by rw [gvI_eq])) (by rfl) (at3 (gvI_lt c))) ?_
    refine vx_set sc_gvn.nd rfl (kp (by decide) (by decide)) (d := .str (nm (gvJ c))) (ve_ixL (by decreasing_trivial_pre_omega) (ve_eq (r' := .d (.int (gvJ c : Int))) (ve_modI (ve_modI (ve_mulI (by decreasing_trivial_pre_omega) (by decreasing_trivial_pre_omega) cm) (by decreasing_trivial_pre_omega)) (by decreasing_trivial_pre_omega)) (by rw [gvJ_eq])) (by rfl) (at3 (gvJ_lt c))) ?_
    refine vx_set sc_gvn.nd rfl (kp (by decide) (by decide)) (d := .str (wd (gvW c))) (ve_ixL (ve_lst (vd_cons ve_gO (vd_cons ve_gN vd_nil))) (ve_eq (r' := .d (.int (gvW c : Int))) (ve_modI (ve_modI (ve_mulI (by decreasing_trivial_pre_omega) (by decreasing_trivial_pre_omega) cm) (by decreasing_trivial_pre_omega)) (by decreasing_trivial_pre_omega)) (by rw [gvW_eq])) (by rfl) (at2 (gvW_lt c))) ?_
    refine vx_if (k := decide (gvK c = 0)) (vt_eqI (ve_modI (ve_modI (ve_mulI (by decreasing_trivial_pre_omega) (by decreasing_trivial_pre_omega) cm) (by decreasing_trivial_pre_omega)) (by decreasing_trivial_pre_omega)) (by decreasing_trivial_pre_omega)) (fun z => ?_) (fun z => vx_nil ?_)
    · have hk : gvK c = 0 := of_decide_eq_true z
      have eg : giv c m = (bd0 c, m.setP (gvI c) (m.pv (gvJ c) + gvN c)) := if_pos hk
      refine vx_set sc_gvn.nd rfl (kp (by decide) (by decide)) (d := .int (gvN c)) (ve_subI (ve_modI (ve_modI (ve_mulI (by decreasing_trivial_pre_omega) (by decreasing_trivial_pre_omega) cm) (by decreasing_trivial_pre_omega)) (by decreasing_trivial_pre_omega)) (by decreasing_trivial_pre_omega)) ?_
      refine vx_dput (s := nm (gvI c)) (n := m.pv (gvJ c) + gvN c) hu rfl rfl z1 o1 ⟨.inl rfl, .inr (stay_dict (pl_mo m m)), trivial⟩ (by decreasing_trivial_pre_omega) (ve_addI (ve_dix hu (by decreasing_trivial_pre_omega) (by decreasing_trivial_pre_omega) (val_pl m (gvJ_lt c))) (by decreasing_trivial_pre_omega)) ?_
      refine vx_retH (d := bdD (bd0 c)) (ve_tup (vd_cons (by decreasing_trivial_pre_omega) (vd_cons (by decreasing_trivial_pre_omega) (vd_cons (ve_call DA hr (va_cons (ve_call DN hr (by decreasing_trivial_pre_omega) ⟨_, rfl, rfl⟩) (by decreasing_trivial_pre_omega)) ⟨.name (nm (gvJ c)), .num (gvN c), rfl, rfl⟩) (by decreasing_trivial_pre_omega))))) rfl rfl hφ ?_
      show Out.rt _ = Out.rt _
      rw [eg, put_pl m _ (gvI_lt c), moK_setP m _ (gvI_lt c)]
      rfl
    refine vx_if (k := decide (gvK c = 1)) (vt_eqI (ve_modI (ve_modI (ve_mulI (by decreasing_trivial_pre_omega) (by decreasing_trivial_pre_omega) cm) (by decreasing_trivial_pre_omega)) (by decreasing_trivial_pre_omega)) (by decreasing_trivial_pre_omega)) (fun z' => ?_) (fun z' => vx_nil ?_)
    · have hk : gvK c = 1 := of_decide_eq_true z'
      have eg : giv c m = (bd1 c, m.setM (gvW c) (m.pv (gvJ c))) := (if_neg (of_decide_eq_false z)).trans (if_pos hk)
      refine vx_dput (s := wd (gvW c)) (n := m.pv (gvJ c)) hu rfl rfl z2 o2 ⟨.inr (stay_dict (Ne.symm (pl_mo m m))), .inl rfl, trivial⟩ (by decreasing_trivial_pre_omega) (ve_dix hu (by decreasing_trivial_pre_omega) (by decreasing_trivial_pre_omega) (val_pl m (gvJ_lt c))) ?_
      refine vx_set sc_gvn.nd rfl (kp (by decide) (by decide)) (d := mtD (.add (.name "p") (.name (nm (gvJ c))))) (ve_call DA hr (va_cons (ve_call DN hr (by decreasing_trivial_pre_omega) ⟨_, rfl, rfl⟩) (va_cons (ve_call DN hr (by decreasing_trivial_pre_omega) ⟨_, rfl, rfl⟩) va_nil)) ⟨.name "p", .name (nm (gvJ c)), rfl, rfl⟩) ?_
      refine vx_retH (d := bdD (bd1 c)) (by decreasing_trivial_pre_omega) rfl rfl hφ ?_
      show Out.rt _ = Out.rt _
      rw [eg, put_mo m _ (gvW_lt c), plK_setM m _ (gvW_lt c)]
      rfl
    have eg : giv c m = (bd2 c, m.setP (gvI c) (m.pv (gvJ c) + m.mv (gvW c))) := (if_neg (of_decide_eq_false z)).trans (if_neg (of_decide_eq_false z'))
    refine vx_dput (s := nm (gvI c)) (n := m.pv (gvJ c) + m.mv (gvW c)) hu rfl rfl z1 o1 ⟨.inl rfl, .inr (stay_dict (pl_mo m m)), trivial⟩ (by decreasing_trivial_pre_omega) (ve_addI (ve_dix hu (by decreasing_trivial_pre_omega) (by decreasing_trivial_pre_omega) (val_pl m (gvJ_lt c))) (ve_dix hu (by decreasing_trivial_pre_omega) (by decreasing_trivial_pre_omega) (val_mo m (gvW_lt c)))) ?_
    refine vx_retH (d := bdD (bd2 c)) (ve_tup (vd_cons (by decreasing_trivial_pre_omega) (vd_cons (by decreasing_trivial_pre_omega) (vd_cons (ve_tup (vd_cons (by decreasing_trivial_pre_omega) (vd_cons (by decreasing_trivial_pre_omega) (vd_cons (ve_tup (vd_cons (ve_call DN hr (by decreasing_trivial_pre_omega) ⟨_, rfl, rfl⟩) (vd_cons (ve_call DN hr (by decreasing_trivial_pre_omega) ⟨_, rfl, rfl⟩) vd_nil))) vd_nil)))) (by decreasing_trivial_pre_omega))))) rfl rfl hφ ?_
    show Out.rt _ = Out.rt _
    rw [eg, put_pl m _ (gvI_lt c), moK_setP m _ (gvI_lt c)]
    rfl
  · refine ⟨fun σ H' ⟨ρ, z, _⟩ => (nomatch z), fun v H' ⟨r, z, e1, e2, _⟩ => ?_, fun σ H' ⟨ρ, z, _⟩ => (nomatch z), fun σ H' ⟨ρ, z, _⟩ => (nomatch z)⟩
    cases z
    obtain ⟨k1, k2, rv⟩ := e2
    exact q v H' (fun b o n1 n2 e => e1 b o (hid2_of n1 n2 e)) k1 k2 rv
theorem sc_unh : FnScope ["_law_handed", "_law_k"] ["_law_handed"] (defScope st_law_unhurt) := ⟨rfl, rfl, rfl, by decide +kernel, rfl, by decide +kernel, by decide +kernel⟩
theorem ok_unh {f : Addr} {fd : FuncData} (F : Fun K "_law_unhurt" "_law_unhurt" st_law_unhurt f fd) (B : Plain mg) (DF : DefOk P w K mg base 2 "_law_first_names" [] (spV K RFirst)) (DW : DefOk P w K mg base 1 "_law_whole" ["_law_found"] (spV K RWhI)) : FnOk P w K mg base CX0 3 f fd ["_law_handed"] (spV K RUnh) := by
  refine F.okV sc_unh (fun as r h => ?_) (fun cdv A outer s H E as r hr h => ?_)
  · obtain ⟨rfl, _⟩ := h; exact ⟨rfl, by simp⟩
  obtain ⟨rfl, rfl⟩ := h
  show VS _ _ [.l names5, .un] _
  have hu : (A.deeper (PyProof.Rows.envOfC "_law_unhurt" (defScope st_law_unhurt) s.heap.objs.size f cdv)).units + 20 < cLine := by have := hr.un; omega
  refine vs_ifN (k := false) (vt_w (vw_orF (vt_eq (vt_not (vt_bool (k := true) (ve_isinst (ra := .l names5) B.isinstance B.list PyProof.Rows.boot_list (by decreasing_trivial_pre_omega) rfl (by first | rfl | kernel_rfl)))) (by rfl)) (vw_or1 (vt_eq (vt_neD (n := 20) (ra := .l names5) (rb := .o names5) hu (by decreasing_trivial_pre_omega) (ve_call0 DF hr ⟨rfl, rfl⟩) rfl rfl names5_can names5_can (.inl names5_dep)) (by rw [names5_eqv]; rfl))))) rfl ?_
  refine vs_for PassesOwn.never rfl (vi_range B.range (n := 3) (by decreasing_trivial_pre_omega) (by omega)) (vg_name sc_unh.nd rfl) (fun i ρ => ∃ x, ρ = [.l names5, x]) ⟨_, rfl⟩ ?_ ?_
  · rintro i d ρ' hd' ⟨x2, rfl⟩
    have hi : i < 3 := by simpa [rngD] using (List.getElem?_eq_some_iff.mp hd').1
    have ed : d = .int (i : Nat) := by simpa [rngD, hi] using hd'.symm
    subst ed
    obtain ⟨t, v, hix⟩ := at5 hi
    refine ⟨_, rfl, ?_⟩
    show VS _ _ [.l names5, .d (.int (i : Int))] _
    exact vs_ifN (vt_eq (vt_not (vt_bool (ve_call DW (hr.mono (by omega)) (va_cons (ve_ixT (ve_ixL (ra := .l names5) (by decreasing_trivial_pre_omega) (by decreasing_trivial_pre_omega) (by rfl) hix) (by decreasing_trivial_pre_omega) (by rfl)) va_nil) ⟨v, rfl, rfl⟩))) (by rfl)) rfl (vs_nil ⟨_, rfl⟩)
  · rintro ρ' ⟨x2, rfl⟩
    exact vs_ret (by decreasing_trivial_pre_omega) (.inl rfl)
theorem sc_wor : FnScope ["_law_expr", "_law_steps", "_law_due", "_law_handed", "_law_found"] ["_law_expr", "_law_steps", "_law_due"] (defScope st_law_worth) := ⟨rfl, rfl, rfl, by decide +kernel, rfl, by decide +kernel, by decide +kernel⟩
theorem ok_wor {f : Addr} {fd : FuncData} {CS CT : Addr} (F : Fun K "_law_worth" "_law_worth" st_law_worth f fd) (DR : DefX P w K mg base 11 "run" ["expr", "names", "steps"] (spVX K (RRunG CS CT))) (xT : PySem.W.exmOne K (.ref CT) (.ref CT) = some true) (mT : mg "Tired" = some (.ref CT))
    (DF : DefOk P w K mg base 2 "_law_first_names" [] (spV K RFirst)) (DW : DefOk P w K mg base 1 "_law_whole" ["_law_found"] (spV K RWhI)) (DU : DefOk P w K mg base 3 "_law_unhurt" ["_law_handed"] (spV K RUnh)) : FnOk P w K mg base CX0 12 f fd ["_law_expr", "_law_steps", "_law_due"] (spV K RWorth) := by
  refine F.okV sc_wor (fun as r h => ?_) (fun cdv A outer s H E as r hr h => ?_)
  · obtain ⟨e, n, i, rfl, _⟩ := h; exact ⟨rfl, by simp⟩
  obtain ⟨e, n, i, rfl, h0, h1, ev, rfl⟩ := h
  show VS _ _ [.d (mtD e), .d (.int (n : Int)), .d (.int i), .un, .un] _
  refine vs_setO sc_wor.nd rfl (ve_call0 DF (hr.mono (by omega)) ⟨rfl, rfl⟩) ?_
  refine vs_set sc_wor.nd rfl (d := .int i) (ve_callX DR hr (by decreasing_trivial_pre_omega) ⟨e, env5, n, .val (.int i), by rw [names5_out]; rfl, by omega, by have := ev.whole n; rwa [if_neg (by omega)] at this, (fun v z => by cases z; show MV.wt (.int i) < 100000; rw [MV.wt]; decide), by rw [resG, outD]⟩) ?_
  refine vs_ifN (k := false) (vt_w (vw_orF (vt_eq (vt_not (vt_bool (ve_call DW (hr.mono (by omega)) (by decreasing_trivial_pre_omega) ⟨i, rfl, rfl⟩))) (by rfl)) (vw_orF (vt_eq (vt_neI (by decreasing_trivial_pre_omega) (by decreasing_trivial_pre_omega)) (by simp)) (vw_or1 (vt_eq (vt_not (vt_bool (ve_call DU (hr.mono (by omega)) (by decreasing_trivial_pre_omega) ⟨rfl, rfl⟩))) (by rfl)))))) rfl ?_
  refine vs_tryX (C := CT) ⟨rfl, rfl, rfl⟩ DR hr (va_cons (by decreasing_trivial_pre_omega) (va_cons (by decreasing_trivial_pre_omega) (va_cons (ve_subI (by decreasing_trivial_pre_omega) (by decreasing_trivial_pre_omega)) va_nil))) ⟨e, env5, n - 1, .tired, by rw [names5_out, show ((n - 1 : Nat) : Int) = (n : Int) - 1 from by omega]; rfl, by omega, by have := ev.whole (n - 1); rwa [if_pos (by omega)] at this, (fun v z => nomatch z), rfl⟩ xT mT (fun ea oe => ?_)
  exact vs_ret (by decreasing_trivial_pre_omega) (.inl rfl)
theorem sc_gvo : FnScope ["_law_function", "_law_due", "_law_found"] ["_law_function", "_law_due"] (defScope st_law_given_one) := ⟨rfl, rfl, rfl, by decide +kernel, rfl, by decide +kernel, by decide +kernel⟩
theorem ok_gvo {f : Addr} {fd : FuncData} {CS CT : Addr} (F : Fun K "_law_given_one" "_law_given_one" st_law_given_one f fd) (DR : DefX P w K mg base 11 "applied" ["function", "argument", "steps"] (spVX K (RAppG CS CT))) (xT : PySem.W.exmOne K (.ref CT) (.ref CT) = some true) (mT : mg "Tired" = some (.ref CT))
    (DW : DefOk P w K mg base 1 "_law_whole" ["_law_found"] (spV K RWhI)) : FnOk P w K mg base CX0 12 f fd ["_law_function", "_law_due"] (spV K RGivO) := by
  refine F.okV sc_gvo (fun as r h => ?_) (fun cdv A outer s H E as r hr h => ?_)
  · obtain ⟨rfl, _⟩ := h; exact ⟨rfl, by simp⟩
  obtain ⟨rfl, rfl⟩ := h
  show VS _ _ [.d (outD funO), .d (.int 17), .un] _
  refine vs_set sc_gvo.nd rfl (d := .int 17) (ve_callX DR hr (by decreasing_trivial_pre_omega) ⟨"p", partE, [(pP, .int 10)], .int 7, 3, .val (.int 17), by rw [show outD (.int 7) = .int 7 from by rw [outD]]; rfl, by omega, by have := fun_ev.whole 3; rwa [if_neg (by omega)] at this, (fun v z => by cases z; show MV.wt (.int 17) < 100000; rw [MV.wt]; decide), by rw [resG, outD]⟩) ?_
  refine vs_ifN (k := false) (vt_w (vw_orF (vt_eq (vt_not (vt_bool (ve_call DW (hr.mono (by omega)) (by decreasing_trivial_pre_omega) ⟨17, rfl, rfl⟩))) (by rfl)) (vw_or1 (vt_eq (vt_neI (by decreasing_trivial_pre_omega) (by decreasing_trivial_pre_omega)) (by rfl))))) rfl ?_
  refine vs_tryX (C := CT) ⟨rfl, rfl, rfl⟩ DR hr (by decreasing_trivial_pre_omega) ⟨"p", partE, [(pP, .int 10)], .int 7, 2, .tired, by rw [show outD (.int 7) = .int 7 from by rw [outD]]; rfl, by omega, by have := fun_ev.whole 2; rwa [if_pos (by omega)] at this, (fun v z => nomatch z), rfl⟩ xT mT (fun ea oe => ?_)
  exact vs_ret (by decreasing_trivial_pre_omega) (.inl rfl)
theorem sc_vtd : FnScope ["_law_part", "_law_made", "_law_twice", "_law_handed", "_law_value", "_law_inner"] [] (defScope st_law_values_told) := ⟨rfl, rfl, rfl, by decide +kernel, rfl, by decide +kernel, by decide +kernel⟩
theorem ok_vtd {f : Addr} {fd : FuncData} {CS CT : Addr} (F : Fun K "_law_values_told" "_law_values_told" st_law_values_told f fd) (B : Plain mg) (DR : DefX P w K mg base 11 "run" ["expr", "names", "steps"] (spVX K (RRunG CS CT))) (DN : DefOk P w K mg base 1 "_law_named_part" ["_law_word"] (spV K RNam)) (DF : DefOk P w K mg base 2 "_law_first_names" [] (spV K RFirst))
    (DS : DefOk P w K mg base 13 "_law_so" ["_law_found", "_law_meant"] (spV K (RSoG 12))) : FnOk P w K mg base CX0 14 f fd [] (spV K RTold6) := by
  refine F.okV sc_vtd (fun as r h => ?_) (fun cdv A outer s H E as r hr h => ?_)
  · obtain ⟨rfl, _⟩ := h; exact ⟨rfl, by simp⟩
  obtain ⟨rfl, rfl⟩ := h
  show VS _ _ [.un, .un, .un, .un, .un, .un] _
  have hsl : sizeLine = 16777216 := sizeLine_eq
  have kt : PySem.W.kitOne K (.type "tuple") (.type "tuple") = some true := by first | rfl | kernel_rfl
  refine vs_set sc_vtd.nd rfl (d := mtD (.name "p")) (ve_call DN (hr.mono (by omega)) (by decreasing_trivial_pre_omega) ⟨"p", rfl, rfl⟩) ?_
  refine vs_set sc_vtd.nd rfl (d := mtD madE) (by decreasing_trivial_pre_omega) ?_
  refine vs_set sc_vtd.nd rfl (d := .list names7) (ve_freeze (ve_addL (ra := .o names5) (rb := .o [.tuple [.str "n", .int 5], .tuple [.str "p", .int 6]]) (ve_call0 DF (hr.mono (by omega)) ⟨rfl, rfl⟩) (by decreasing_trivial_pre_omega) (by rfl) (by rfl) (by rw [hsl]; decide))) ?_
  refine vs_setO sc_vtd.nd rfl (ve_listF (ra := .d (.list names7)) B.list (by decreasing_trivial_pre_omega) (by rfl)) ?_
  refine vs_set sc_vtd.nd rfl (d := .tuple [.str "fun", .str "p", mtD (.name "p"), .list names7]) (ve_callX DR (hr.mono (by omega)) (by decreasing_trivial_pre_omega) ⟨madE, env7, 1, .val (.clos "p" (.name "p") env7), by rw [names7_out]; rfl, by omega, by have := mad_ev.whole 1; rwa [if_neg (by omega)] at this, (fun v z => by cases z; exact wt7'), by rw [resG, val7_out]⟩) ?_
  refine vs_clear rfl rfl ?_
  refine vs_ifN (k := false) (vt_w (vw_orF (vt_eq (vt_not (vt_bool (ve_isinst (ra := .d (.tuple [.str "fun", .str "p", mtD (.name "p"), .list names7])) B.isinstance B.tuple PyProof.Rows.boot_tuple (by decreasing_trivial_pre_omega) rfl kt))) (by rfl)) (vw_or1 (vt_eq (vt_not (vt_bool (ve_call DS hr (va_cons (by decreasing_trivial_pre_omega) (va_cons (by decreasing_trivial_pre_omega) va_nil)) ⟨.tuple [.str "fun", .str "p", mtD (.name "p"), .list names7], rfl, so7.1, so7.2, rfl⟩))) (by rfl))))) rfl ?_
  refine vs_set sc_vtd.nd rfl (d := mtD innE) (by decreasing_trivial_pre_omega) ?_
  refine vs_setO sc_vtd.nd rfl (ve_listF (ra := .d (.list names7)) B.list (by decreasing_trivial_pre_omega) (by rfl)) ?_
  refine vs_set sc_vtd.nd rfl (d := .tuple [.str "fun", .str "p", mtD (.name "p"), .list (names7 ++ [.tuple [.str "n", .int 7]])]) (ve_callX DR (hr.mono (by omega)) (by decreasing_trivial_pre_omega) ⟨innE, env7, 4, .val (.clos "p" (.name "p") (("n", .int 7) :: env7)), by rw [names7_out]; rfl, by omega, by have := inn_ev.whole 4; rwa [if_neg (by omega)] at this, (fun v z => by cases z; exact wt7), by rw [resG, val8_out]⟩) ?_
  refine vs_append rfl rfl (by decreasing_trivial_pre_omega) (by rw [hsl]; decide) ?_
  exact vs_ret (ve_eq (r' := .d (.bool true)) (ve_and (j := true) (ve_isinst (ra := .d (.tuple [.str "fun", .str "p", mtD (.name "p"), .list (names7 ++ [.tuple [.str "n", .int 7]])])) B.isinstance B.tuple PyProof.Rows.boot_tuple (by decreasing_trivial_pre_omega) rfl kt) fun _ => ve_one (ve_call DS hr (va_cons (by decreasing_trivial_pre_omega) (va_cons (ve_tup (vd_cons (by decreasing_trivial_pre_omega) (vd_cons (by decreasing_trivial_pre_omega) (vd_cons (by decreasing_trivial_pre_omega) (vd_cons (ve_freeze (ve_addF (ra := .d (.list names7)) (rb := .o [.tuple [.str "n", .int 7]]) (by decreasing_trivial_pre_omega) (by decreasing_trivial_pre_omega) (by rfl) (by rfl) (by rw [hsl]; decide))) vd_nil))))) va_nil)) ⟨.tuple [.str "fun", .str "p", mtD (.name "p"), .list (names7 ++ [.tuple [.str "n", .int 7]])], rfl, so8.1, so8.2, rfl⟩)) (by rfl)) (.inl rfl)
theorem sc_law : FnScope ["_law_script", "_law_plain", "_law_more", "_law_rows", "_law_k", "_law_total", "_law_aside", "_law_left", "_law_right", "_law_expr", "_law_steps", "_law_row", "_law_due"] ["_law_script"] (defScope st_law) := ⟨rfl, rfl, rfl, by decide +kernel, rfl, by decide +kernel, by decide +kernel⟩
theorem ok_law {f : Addr} {fd : FuncData} (F : Fun K "law" "law" st_law f fd) (B : Plain mg) (hmin : mg "min" = none) (DG : DefOk P w K mg base 2 "_law_given" ["_law_cell", "_law_plain", "_law_more"] (spGivn K)) (DN : DefOk P w K mg base 1 "_law_named_part" ["_law_word"] (spV K RNam)) (DA : DefOk P w K mg base 1 "_law_add" ["_law_one", "_law_two"] (spV K RAddP)) (DF : DefOk P w K mg base 2 "_law_first_names" [] (spV K RFirst))
    (DW : DefOk P w K mg base 12 "_law_worth" ["_law_expr", "_law_steps", "_law_due"] (spV K RWorth)) (DO : DefOk P w K mg base 12 "_law_given_one" ["_law_function", "_law_due"] (spV K RGivO)) (DT : DefOk P w K mg base 14 "_law_values_told" [] (spV K RTold6)) : FnOk P w K mg base CX0 15 f fd ["_law_script"] (spV K (RLaw K)) := by
  refine F.ok sc_law (fun vs H Q E h => ?_) (fun cdv A outer s H vs Q E hr h => ?_)
  · obtain ⟨as, r, h1, ⟨ns, rfl, _⟩, _⟩ := h; rw [h1.length]; rfl
  obtain ⟨as, r, h1, ⟨ns, rfl, hns, rfl⟩, q⟩ := h
  have hsl : sizeLine = 16777216 := sizeLine_eq
  have hu : (A.deeper (PyProof.Rows.envOfC "law" (defScope st_law) s.heap.objs.size f cdv)).units + 1 < cLine := by have := hr.un; omega
  have kp : ∀ {i : Nat}, i ≠ 1 → i ≠ 2 → Kept (PhiL H) i := fun n1 n2 => PhiL.kept n1 n2
  let fc : Nat → Int := fun k => ns.getD k 0 + 5 * (k : Int)
  refine ⟨_, vx_raw (Φ := PhiL H) (ρ := [.h (scrPer K ns), .un, .un, .un, .un, .un, .un, .un, .un, .un, .un, .un, .un]) (Q := fun o => o = .rt (.d (.bool true))) ?_, H, [], ⟨rfl, rfl, ?_⟩, er_start (N := ["_law_script", "_law_plain", "_law_more", "_law_rows", "_law_k", "_law_total", "_law_aside", "_law_left", "_law_right", "_law_expr", "_law_steps", "_law_row", "_law_due"]) h1 (by simp), ?_⟩
  · refine vx_disp (kvs := plK pm0) sc_law.nd rfl (pps_cons pe_str pe_int (pps_cons (ve_raw ve_nX) pe_int (pps_cons (ve_raw ve_nT) pe_int pps_nil))) (fun H0 hs σ H Q er k => ⟨⟨H0, hs, er⟩, fun v H1 s1 r1 => by
      obtain rfl := RsR.is_str r1
      exact ⟨⟨H0, hs, er.grow s1⟩, fun v H2 s2 r2 => by
        obtain rfl := RsR.is_str r2
        exact k H2 (s1.trans s2)⟩⟩) rfl rfl (fun z => nomatch z) (by decide) (by decide) PhiL.disp ?_
    rw [merge_pl]
    refine vx_disp (kvs := moK pm0) sc_law.nd rfl (pps_cons (ve_raw ve_gO) pe_int (pps_cons (ve_raw ve_gN) pe_int pps_nil)) (fun H0 hs σ H Q er k => ⟨⟨H0, hs, er⟩, fun v H1 s1 r1 => by
      obtain rfl := RsR.is_str r1
      exact ⟨⟨H0, hs, er.grow s1⟩, fun v H2 s2 r2 => by
        obtain rfl := RsR.is_str r2
        exact k H2 (s1.trans s2)⟩⟩) rfl rfl (fun z => nomatch z) (by decide) (by decide) PhiL.disp ?_
    rw [merge_mo]
    refine vx_setO sc_law.nd rfl (kp (by decide) (by decide)) (xs := []) (by decreasing_trivial_pre_omega) ?_
    refine vx_rng PassesOwn.never rfl sc_law.nd rfl (kp (by decide) (by decide)) B.range (n := ns.length) (ve_eq (ve_min rfl hmin (by decreasing_trivial_pre_omega) (ve_lenScr (ns := ns) B.len (by decreasing_trivial_pre_omega))) (by rw [if_pos (by omega)])) (by omega)
      (fun k ρ => ∃ x, ρ = [.h (scrPer K ns), .h (dictPer (plK (givs fc k).2)), .h (dictPer (moK (givs fc k).2)), .o ((givs fc k).1.map bdD), x, .un, .un, .un, .un, .un, .un, .un, .un]) ⟨_, rfl⟩ ?_ ?_
    · rintro k ρ' hk ⟨x, rfl⟩
      have hg : ns[k]? = some (ns.getD k 0) := by rw [List.getD_eq_getElem?_getD, List.getElem?_eq_getElem hk]; rfl
      refine vx_appendG (m := (givs fc k).2) (c := fc k) (xs := (givs fc k).1.map bdD) DG (hr.mono (by decide)) rfl rfl rfl (by decide) (by decide) rfl rfl rfl (ve_addI (ve_ixScr (ns := ns) (by decreasing_trivial_pre_omega) (by decreasing_trivial_pre_omega) hg) (ve_mulI (by decreasing_trivial_pre_omega) (by decreasing_trivial_pre_omega) (.inl ⟨by decide, by decide⟩))) (by rw [List.length_map, givs_len, hsl]; omega) ⟨.inr (.inr ⟨ns, rfl⟩), .inl rfl, .inr (.inl rfl), trivial⟩ (vx_nil ⟨.d (.int (k : Int)), ?_⟩)
      show _ = [_, _, _, Sl.o (((givs fc k).1 ++ [(giv (fc k) (givs fc k).2).1]).map bdD), _, _, _, _, _, _, _, _, _]
      rw [List.map_append]
      rfl
    rintro ρ' ⟨x, rfl⟩
    refine vx_of_vs (fun _ _ _ φ => φ.2.1) ?_ (fun o z => ⟨_, z⟩)
    have hR := givs_rows fc ns.length
    have hl := givs_len fc ns.length
    have hst := rows_st hR
    generalize (givs fc ns.length).2 = m at hR ⊢
    generalize (givs fc ns.length).1 = rows at hR hl hst ⊢
    refine vs_set sc_law.nd rfl (d := mtD totE) (ve_call DA (hr.mono (by decide)) (va_cons (ve_call DN (hr.mono (by decide)) (va_cons ve_nX va_nil) ⟨_, rfl, rfl⟩) (va_cons (ve_call DN (hr.mono (by decide)) (va_cons ve_nT va_nil) ⟨_, rfl, rfl⟩) va_nil)) ⟨.name nX, .name nT, rfl, rfl⟩) ?_
    refine vs_set sc_law.nd rfl (d := mtD asiE) (ve_tup (vd_cons (by decreasing_trivial_pre_omega) (vd_cons (by decreasing_trivial_pre_omega) (vd_cons (ve_tup (vd_cons (by decreasing_trivial_pre_omega) (vd_cons (ve_call DN (hr.mono (by decide)) (by decreasing_trivial_pre_omega) ⟨_, rfl, rfl⟩) (by decreasing_trivial_pre_omega)))) vd_nil)))) ?_
    refine vs_set sc_law.nd rfl (d := mtD tt2E) (ve_call DA (hr.mono (by decide)) (by decreasing_trivial_pre_omega) ⟨asiE, totE, rfl, rfl⟩) ?_
    refine vs_set sc_law.nd rfl (d := mtD (.call (.name gO) tt2E)) (ve_tup (vd_cons (by decreasing_trivial_pre_omega) (vd_cons (by decreasing_trivial_pre_omega) (vd_cons (ve_tup (vd_cons (ve_call DN (hr.mono (by decide)) (va_cons ve_gO va_nil) ⟨_, rfl, rfl⟩) (by decreasing_trivial_pre_omega))) vd_nil)))) ?_
    refine vs_set sc_law.nd rfl (d := mtD (.call (.name gN) tt2E)) (ve_tup (vd_cons (by decreasing_trivial_pre_omega) (vd_cons (by decreasing_trivial_pre_omega) (vd_cons (ve_tup (vd_cons (ve_call DN (hr.mono (by decide)) (va_cons ve_gN va_nil) ⟨_, rfl, rfl⟩) (by decreasing_trivial_pre_omega))) vd_nil)))) ?_
    refine vs_set sc_law.nd rfl (d := mtD inE) (ve_call DA (hr.mono (by decide)) (by decreasing_trivial_pre_omega) ⟨.call (.name gO) tt2E, .call (.name gN) tt2E, rfl, rfl⟩) ?_
    refine vs_set sc_law.nd rfl (by decreasing_trivial_pre_omega) ?_
    refine vs_down (i := 3) (xs := rows.map bdD) rfl ?_
    refine vs_for PassesOwn.never rfl (vi_revN (xs := rows.map bdD) B.reversed rfl rfl) (vg_name sc_law.nd rfl)
      (fun i ρ => ∃ y, ρ = [.h (scrPer K ns), .h (dictPer (plK m)), .h (dictPer (moK m)), .l (rows.map bdD), x, .d (mtD tt2E), .d (mtD asiE), .d (mtD (.call (.name gO) tt2E)), .d (mtD (.call (.name gN) tt2E)), .d (mtD (wrapE (rows.drop (rows.length - i)) inE)), .d (.int ((25 + stsum (rows.drop (rows.length - i)) : Nat) : Int)), y, .un]) ⟨.un, by rw [Nat.sub_zero, List.drop_length]; rfl⟩ ?_ ?_
    · rintro i d ρ hd ⟨y, rfl⟩
      have hi : i < rows.length := by simpa using (List.getElem?_eq_some_iff.mp hd).1
      rw [← List.map_reverse, List.getElem?_map, List.getElem?_reverse hi, List.getElem?_eq_getElem (by omega)] at hd
      cases hd
      have e1 : rows.drop (rows.length - (i + 1)) = rows[rows.length - 1 - i] :: rows.drop (rows.length - i) := by
        rw [show rows.length - (i + 1) = rows.length - 1 - i from by omega, List.drop_eq_getElem_cons (by omega), show rows.length - 1 - i + 1 = rows.length - i from by omega]
      rw [e1, wrapE, stsum]
      generalize rows[rows.length - 1 - i] = b
      generalize wrapE (rows.drop (rows.length - i)) inE = we
      generalize stsum (rows.drop (rows.length - i)) = sw
      refine ⟨_, rfl, ?_⟩
      show VS _ _ [.h (scrPer K ns), .h (dictPer (plK m)), .h (dictPer (moK m)), .l (rows.map bdD), x, .d (mtD tt2E), .d (mtD asiE), .d (mtD (.call (.name gO) tt2E)), .d (mtD (.call (.name gN) tt2E)), .d (mtD we), .d (.int ((25 + sw : Nat) : Int)), .d (.tuple [.str b.x, b.k.1, mtD b.e, .int (b.st : Nat)]), .un] _
      refine vs_set sc_law.nd rfl (d := mtD (.call (.lam b.x b.k we) b.e)) (by decreasing_trivial_pre_omega) ?_
      refine vs_set sc_law.nd rfl (by decreasing_trivial_pre_omega) (vs_nil ⟨.d (.tuple [.str b.x, b.k.1, mtD b.e, .int (b.st : Nat)]), ?_⟩)
      rw [show ((25 + (b.st + sw) : Nat) : Int) = ((25 + sw : Nat) : Int) + (b.st : Nat) from by omega]
      rfl
    rintro ρ ⟨y, rfl⟩
    rw [List.length_reverse, List.length_map, Nat.sub_self, List.drop_zero]
    refine vs_set sc_law.nd rfl (d := .int (2 * (m.n + m.x + m.t))) (ve_mulI (by decreasing_trivial_pre_omega) (ve_addI (ve_addI (ve_dix hu (by decreasing_trivial_pre_omega) (by decreasing_trivial_pre_omega) (val_pl m (i := 0) (by decide))) (ve_dix hu (by decreasing_trivial_pre_omega) ve_nX (val_pl m (i := 1) (by decide)))) (ve_dix hu (by decreasing_trivial_pre_omega) ve_nT (val_pl m (i := 2) (by decide)))) (.inl ⟨by decide, by decide⟩)) ?_
    refine vs_set sc_law.nd rfl (d := .int m.due) (ve_addI (ve_addI (by decreasing_trivial_pre_omega) (ve_dix hu (by decreasing_trivial_pre_omega) ve_gO (val_mo m (j := 0) (by decide)))) (ve_dix hu (by decreasing_trivial_pre_omega) ve_gN (val_mo m (j := 1) (by decide)))) ?_
    refine vs_ifN (vt_eq (vt_not (vt_bool (ve_call DW (hr.mono (by decide)) (by decreasing_trivial_pre_omega) ⟨wrapE rows inE, 25 + stsum rows, m.due, rfl, by omega, by omega, wrap_ev hR env5_ok, rfl⟩))) (by rfl)) rfl ?_
    refine vs_ifN (vt_eq (vt_not (vt_bool (ve_call0 DT hr ⟨rfl, rfl⟩))) (by rfl)) rfl ?_
    exact vs_ret (ve_call DO (hr.mono (by decide)) (va_cons (ve_ixT (ve_ixL (ra := .o names5) (ve_call0 DF (hr.mono (by decide)) ⟨rfl, rfl⟩) (by decreasing_trivial_pre_omega) (by rfl) (by rfl)) (by decreasing_trivial_pre_omega) (by rfl)) (by decreasing_trivial_pre_omega)) ⟨by rw [funO_out]; rfl, rfl⟩) rfl
  · rintro i (rfl | rfl) a z
    · obtain ⟨v, rfl, _⟩ := h1.one
      cases z
    · obtain ⟨v, rfl, _⟩ := h1.one
      cases z
  · exact ⟨fun σ H' ⟨ρ, z, _⟩ => (nomatch z), fun v H' ⟨r, z, e1, e2, _⟩ => by cases z; exact q v H' e1 e2, fun σ H' ⟨ρ, z, _⟩ => (nomatch z), fun σ H' ⟨ρ, z, _⟩ => (nomatch z)⟩
end
theorem all_mk {l : PySem.W.OpenLaw} {w : World} {K : PySem.W.Frag} {h : Heap} {mg : Str → Option Value} {fa f1 f2 f3 f4 f5 f6 f7 f8 f9 f10 f11 f12 f13 f14 f15 f16 f17 f18 f19 f20 f21 f22 f23 f24 f25 f26 f27 f28 f29 f30 f31 f32 : Addr} (X : K.In h) (G : h.Ns mainGlobals mg) (hfa : mg "law" = some (.ref fa))
    {od1 an1 od2 an2 od3 an3 od4 an4 od5 an5 od6 an6 od7 an7 od8 an8 od9 an9 od10 an10 od11 an11 od12 an12 od13 an13 od14 an14 od15 an15 od16 an16 od17 an17 od18 an18 od19 an19 od20 an20 od21 an21 od22 an22 od23 an23 od24 an24 od25 an25 od26 an26 od27 an27 od28 an28 od29 an29 od30 an30 od31 an31 od32 an32 : Option Addr} {sl1 sl2 sl3 sl4 sl5 sl6 sl7 sl8 sl9 sl10 sl11 sl12 sl13 sl14 sl15 sl16 sl17 sl18 sl19 sl20 sl21 sl22 sl23 sl24 sl25 sl26 sl27 sl28 sl29 sl30 sl31 sl32 : Array (Option Value)} {oc1 kV1 dc1 pm1 cd1 ct1 oc2 kV2 dc2 pm2 cd2 ct2 oc3 kV3 dc3 pm3 cd3 ct3 oc4 kV4 dc4 pm4 cd4 ct4 oc5 kV5 dc5 pm5 cd5 ct5 oc6 kV6 dc6 pm6 cd6 ct6 oc7 kV7 dc7 pm7 cd7 ct7 oc8 kV8 dc8 pm8 cd8 ct8 oc9 kV9 dc9 pm9 cd9 ct9 oc10 kV10 dc10 pm10 cd10 ct10 oc11 kV11 dc11 pm11 cd11 ct11 oc12 kV12 dc12 pm12 cd12 ct12 oc13 kV13 dc13 pm13 cd13 ct13 oc14 kV14 dc14 pm14 cd14 ct14 oc15 kV15 dc15 pm15 cd15 ct15 oc16 kV16 dc16 pm16 cd16 ct16 oc17 kV17 dc17 pm17 cd17 ct17 oc18 kV18 dc18 pm18 cd18 ct18 oc19 kV19 dc19 pm19 cd19 ct19 oc20 kV20 dc20 pm20 cd20 ct20 oc21 kV21 dc21 pm21 cd21 ct21 oc22 kV22 dc22 pm22 cd22 ct22 oc23 kV23 dc23 pm23 cd23 ct23 oc24 kV24 dc24 pm24 cd24 ct24 oc25 kV25 dc25 pm25 cd25 ct25 oc26 kV26 dc26 pm26 cd26 ct26 oc27 kV27 dc27 pm27 cd27 ct27 oc28 kV28 dc28 pm28 cd28 ct28 oc29 kV29 dc29 pm29 cd29 ct29 oc30 kV30 dc30 pm30 cd30 ct30 oc31 kV31 dc31 pm31 cd31 ct31 oc32 kV32 dc32 pm32 cd32 ct32 : Value}
    (a1 : PySem.W.nsIn K mainGlobals "taken" = some (some (.ref f1))) (l1 : K.lookup f1 = some ⟨oc1, od1, .func (PySem.W.fnOf "taken" "taken" (defArgs st_taken) (defBody st_taken) (defScope st_taken) .none kV1 dc1 pm1 an1 cd1 ct1), sl1⟩) (c1 : PySem.W.codeIn K cd1 "taken" = true) (k1 : PySem.W.keepIn K (.ref f1) = true)
    (a2 : PySem.W.nsIn K mainGlobals "is_function_value" = some (some (.ref f2))) (l2 : K.lookup f2 = some ⟨oc2, od2, .func (PySem.W.fnOf "is_function_value" "is_function_value" (defArgs st_is_function_value) (defBody st_is_function_value) (defScope st_is_function_value) .none kV2 dc2 pm2 an2 cd2 ct2), sl2⟩) (c2 : PySem.W.codeIn K cd2 "is_function_value" = true) (k2 : PySem.W.keepIn K (.ref f2) = true)
    (a3 : PySem.W.nsIn K mainGlobals "known_from" = some (some (.ref f3))) (l3 : K.lookup f3 = some ⟨oc3, od3, .func (PySem.W.fnOf "known_from" "known_from" (defArgs st_known_from) (defBody st_known_from) (defScope st_known_from) .none kV3 dc3 pm3 an3 cd3 ct3), sl3⟩) (c3 : PySem.W.codeIn K cd3 "known_from" = true) (k3 : PySem.W.keepIn K (.ref f3) = true)
    (a4 : PySem.W.nsIn K mainGlobals "opened" = some (some (.ref f4))) (l4 : K.lookup f4 = some ⟨oc4, od4, .func (PySem.W.fnOf "opened" "opened" (defArgs st_opened) (defBody st_opened) (defScope st_opened) .none kV4 dc4 pm4 an4 cd4 ct4), sl4⟩) (c4 : PySem.W.codeIn K cd4 "opened" = true) (k4 : PySem.W.keepIn K (.ref f4) = true)
    (a5 : PySem.W.nsIn K mainGlobals "looked_into" = some (some (.ref f5))) (l5 : K.lookup f5 = some ⟨oc5, od5, .func (PySem.W.fnOf "looked_into" "looked_into" (defArgs st_looked_into) (defBody st_looked_into) (defScope st_looked_into) .none kV5 dc5 pm5 an5 cd5 ct5), sl5⟩) (c5 : PySem.W.codeIn K cd5 "looked_into" = true) (k5 : PySem.W.keepIn K (.ref f5) = true)
    (a6 : PySem.W.nsIn K mainGlobals "given_back" = some (some (.ref f6))) (l6 : K.lookup f6 = some ⟨oc6, od6, .func (PySem.W.fnOf "given_back" "given_back" (defArgs st_given_back) (defBody st_given_back) (defScope st_given_back) .none kV6 dc6 pm6 an6 cd6 ct6), sl6⟩) (c6 : PySem.W.codeIn K cd6 "given_back" = true) (k6 : PySem.W.keepIn K (.ref f6) = true)
    (a7 : PySem.W.nsIn K mainGlobals "outline" = some (some (.ref f7))) (l7 : K.lookup f7 = some ⟨oc7, od7, .func (PySem.W.fnOf "outline" "outline" (defArgs st_outline) (defBody st_outline) (defScope st_outline) .none kV7 dc7 pm7 an7 cd7 ct7), sl7⟩) (c7 : PySem.W.codeIn K cd7 "outline" = true) (k7 : PySem.W.keepIn K (.ref f7) = true)
    (a8 : PySem.W.nsIn K mainGlobals "fill_with_members" = some (some (.ref f8))) (l8 : K.lookup f8 = some ⟨oc8, od8, .func (PySem.W.fnOf "fill_with_members" "fill_with_members" (defArgs st_fill_with_members) (defBody st_fill_with_members) (defScope st_fill_with_members) .none kV8 dc8 pm8 an8 cd8 ct8), sl8⟩) (c8 : PySem.W.codeIn K cd8 "fill_with_members" = true) (k8 : PySem.W.keepIn K (.ref f8) = true)
    (a9 : PySem.W.nsIn K mainGlobals "fill_with_names" = some (some (.ref f9))) (l9 : K.lookup f9 = some ⟨oc9, od9, .func (PySem.W.fnOf "fill_with_names" "fill_with_names" (defArgs st_fill_with_names) (defBody st_fill_with_names) (defScope st_fill_with_names) .none kV9 dc9 pm9 an9 cd9 ct9), sl9⟩) (c9 : PySem.W.codeIn K cd9 "fill_with_names" = true) (k9 : PySem.W.keepIn K (.ref f9) = true)
    (a10 : PySem.W.nsIn K mainGlobals "run" = some (some (.ref f10))) (l10 : K.lookup f10 = some ⟨oc10, od10, .func (PySem.W.fnOf "run" "run" (defArgs st_run) (defBody st_run) (defScope st_run) .none kV10 dc10 pm10 an10 cd10 ct10), sl10⟩) (c10 : PySem.W.codeIn K cd10 "run" = true) (k10 : PySem.W.keepIn K (.ref f10) = true)
    (a11 : PySem.W.nsIn K mainGlobals "applied" = some (some (.ref f11))) (l11 : K.lookup f11 = some ⟨oc11, od11, .func (PySem.W.fnOf "applied" "applied" (defArgs st_applied) (defBody st_applied) (defScope st_applied) .none kV11 dc11 pm11 an11 cd11 ct11), sl11⟩) (c11 : PySem.W.codeIn K cd11 "applied" = true) (k11 : PySem.W.keepIn K (.ref f11) = true)
    (a12 : PySem.W.nsIn K mainGlobals "worked_out" = some (some (.ref f12))) (l12 : K.lookup f12 = some ⟨oc12, od12, .func (PySem.W.fnOf "worked_out" "worked_out" (defArgs st_worked_out) (defBody st_worked_out) (defScope st_worked_out) .none kV12 dc12 pm12 an12 cd12 ct12), sl12⟩) (c12 : PySem.W.codeIn K cd12 "worked_out" = true) (k12 : PySem.W.keepIn K (.ref f12) = true)
    (a13 : PySem.W.nsIn K mainGlobals "begin_part" = some (some (.ref f13))) (l13 : K.lookup f13 = some ⟨oc13, od13, .func (PySem.W.fnOf "begin_part" "begin_part" (defArgs st_begin_part) (defBody st_begin_part) (defScope st_begin_part) .none kV13 dc13 pm13 an13 cd13 ct13), sl13⟩) (c13 : PySem.W.codeIn K cd13 "begin_part" = true) (k13 : PySem.W.keepIn K (.ref f13) = true)
    (a14 : PySem.W.nsIn K mainGlobals "value_of" = some (some (.ref f14))) (l14 : K.lookup f14 = some ⟨oc14, od14, .func (PySem.W.fnOf "value_of" "value_of" (defArgs st_value_of) (defBody st_value_of) (defScope st_value_of) .none kV14 dc14 pm14 an14 cd14 ct14), sl14⟩) (c14 : PySem.W.codeIn K cd14 "value_of" = true) (k14 : PySem.W.keepIn K (.ref f14) = true)
    (a15 : PySem.W.nsIn K mainGlobals "end_part" = some (some (.ref f15))) (l15 : K.lookup f15 = some ⟨oc15, od15, .func (PySem.W.fnOf "end_part" "end_part" (defArgs st_end_part) (defBody st_end_part) (defScope st_end_part) .none kV15 dc15 pm15 an15 cd15 ct15), sl15⟩) (c15 : PySem.W.codeIn K cd15 "end_part" = true) (k15 : PySem.W.keepIn K (.ref f15) = true)
    (a16 : PySem.W.nsIn K mainGlobals "chosen" = some (some (.ref f16))) (l16 : K.lookup f16 = some ⟨oc16, od16, .func (PySem.W.fnOf "chosen" "chosen" (defArgs st_chosen) (defBody st_chosen) (defScope st_chosen) .none kV16 dc16 pm16 an16 cd16 ct16), sl16⟩) (c16 : PySem.W.codeIn K cd16 "chosen" = true) (k16 : PySem.W.keepIn K (.ref f16) = true)
    (a17 : PySem.W.nsIn K mainGlobals "parted" = some (some (.ref f17))) (l17 : K.lookup f17 = some ⟨oc17, od17, .func (PySem.W.fnOf "parted" "parted" (defArgs st_parted) (defBody st_parted) (defScope st_parted) .none kV17 dc17 pm17 an17 cd17 ct17), sl17⟩) (c17 : PySem.W.codeIn K cd17 "parted" = true) (k17 : PySem.W.keepIn K (.ref f17) = true)
    (a18 : PySem.W.nsIn K mainGlobals "called" = some (some (.ref f18))) (l18 : K.lookup f18 = some ⟨oc18, od18, .func (PySem.W.fnOf "called" "called" (defArgs st_called) (defBody st_called) (defScope st_called) .none kV18 dc18 pm18 an18 cd18 ct18), sl18⟩) (c18 : PySem.W.codeIn K cd18 "called" = true) (k18 : PySem.W.keepIn K (.ref f18) = true)
    (a19 : PySem.W.nsIn K mainGlobals "put_in_front" = some (some (.ref f19))) (l19 : K.lookup f19 = some ⟨oc19, od19, .func (PySem.W.fnOf "put_in_front" "put_in_front" (defArgs st_put_in_front) (defBody st_put_in_front) (defScope st_put_in_front) .none kV19 dc19 pm19 an19 cd19 ct19), sl19⟩) (c19 : PySem.W.codeIn K cd19 "put_in_front" = true) (k19 : PySem.W.keepIn K (.ref f19) = true)
    (a20 : PySem.W.nsIn K mainGlobals "reckoned" = some (some (.ref f20))) (l20 : K.lookup f20 = some ⟨oc20, od20, .func (PySem.W.fnOf "reckoned" "reckoned" (defArgs st_reckoned) (defBody st_reckoned) (defScope st_reckoned) .none kV20 dc20 pm20 an20 cd20 ct20), sl20⟩) (c20 : PySem.W.codeIn K cd20 "reckoned" = true) (k20 : PySem.W.keepIn K (.ref f20) = true)
    (a21 : PySem.W.nsIn K mainGlobals "is_whole" = some (some (.ref f21))) (l21 : K.lookup f21 = some ⟨oc21, od21, .func (PySem.W.fnOf "is_whole" "is_whole" (defArgs st_is_whole) (defBody st_is_whole) (defScope st_is_whole) .none kV21 dc21 pm21 an21 cd21 ct21), sl21⟩) (c21 : PySem.W.codeIn K cd21 "is_whole" = true) (k21 : PySem.W.keepIn K (.ref f21) = true)
    (a22 : PySem.W.nsIn K mainGlobals "_law_so" = some (some (.ref f22))) (l22 : K.lookup f22 = some ⟨oc22, od22, .func (PySem.W.fnOf "_law_so" "_law_so" (defArgs st_law_so) (defBody st_law_so) (defScope st_law_so) .none kV22 dc22 pm22 an22 cd22 ct22), sl22⟩) (c22 : PySem.W.codeIn K cd22 "_law_so" = true) (k22 : PySem.W.keepIn K (.ref f22) = true)
    (a23 : PySem.W.nsIn K mainGlobals "_law_whole" = some (some (.ref f23))) (l23 : K.lookup f23 = some ⟨oc23, od23, .func (PySem.W.fnOf "_law_whole" "_law_whole" (defArgs st_law_whole) (defBody st_law_whole) (defScope st_law_whole) .none kV23 dc23 pm23 an23 cd23 ct23), sl23⟩) (c23 : PySem.W.codeIn K cd23 "_law_whole" = true) (k23 : PySem.W.keepIn K (.ref f23) = true)
    (a24 : PySem.W.nsIn K mainGlobals "_law_named_part" = some (some (.ref f24))) (l24 : K.lookup f24 = some ⟨oc24, od24, .func (PySem.W.fnOf "_law_named_part" "_law_named_part" (defArgs st_law_named_part) (defBody st_law_named_part) (defScope st_law_named_part) .none kV24 dc24 pm24 an24 cd24 ct24), sl24⟩) (c24 : PySem.W.codeIn K cd24 "_law_named_part" = true) (k24 : PySem.W.keepIn K (.ref f24) = true)
    (a25 : PySem.W.nsIn K mainGlobals "_law_add" = some (some (.ref f25))) (l25 : K.lookup f25 = some ⟨oc25, od25, .func (PySem.W.fnOf "_law_add" "_law_add" (defArgs st_law_add) (defBody st_law_add) (defScope st_law_add) .none kV25 dc25 pm25 an25 cd25 ct25), sl25⟩) (c25 : PySem.W.codeIn K cd25 "_law_add" = true) (k25 : PySem.W.keepIn K (.ref f25) = true)
    (a26 : PySem.W.nsIn K mainGlobals "_law_first_names" = some (some (.ref f26))) (l26 : K.lookup f26 = some ⟨oc26, od26, .func (PySem.W.fnOf "_law_first_names" "_law_first_names" (defArgs st_law_first_names) (defBody st_law_first_names) (defScope st_law_first_names) .none kV26 dc26 pm26 an26 cd26 ct26), sl26⟩) (c26 : PySem.W.codeIn K cd26 "_law_first_names" = true) (k26 : PySem.W.keepIn K (.ref f26) = true)
    (a27 : PySem.W.nsIn K mainGlobals "_law_given" = some (some (.ref f27))) (l27 : K.lookup f27 = some ⟨oc27, od27, .func (PySem.W.fnOf "_law_given" "_law_given" (defArgs st_law_given) (defBody st_law_given) (defScope st_law_given) .none kV27 dc27 pm27 an27 cd27 ct27), sl27⟩) (c27 : PySem.W.codeIn K cd27 "_law_given" = true) (k27 : PySem.W.keepIn K (.ref f27) = true)
    (a28 : PySem.W.nsIn K mainGlobals "_law_unhurt" = some (some (.ref f28))) (l28 : K.lookup f28 = some ⟨oc28, od28, .func (PySem.W.fnOf "_law_unhurt" "_law_unhurt" (defArgs st_law_unhurt) (defBody st_law_unhurt) (defScope st_law_unhurt) .none kV28 dc28 pm28 an28 cd28 ct28), sl28⟩) (c28 : PySem.W.codeIn K cd28 "_law_unhurt" = true) (k28 : PySem.W.keepIn K (.ref f28) = true)
    (a29 : PySem.W.nsIn K mainGlobals "_law_worth" = some (some (.ref f29))) (l29 : K.lookup f29 = some ⟨oc29, od29, .func (PySem.W.fnOf "_law_worth" "_law_worth" (defArgs st_law_worth) (defBody st_law_worth) (defScope st_law_worth) .none kV29 dc29 pm29 an29 cd29 ct29), sl29⟩) (c29 : PySem.W.codeIn K cd29 "_law_worth" = true) (k29 : PySem.W.keepIn K (.ref f29) = true)
    (a30 : PySem.W.nsIn K mainGlobals "_law_given_one" = some (some (.ref f30))) (l30 : K.lookup f30 = some ⟨oc30, od30, .func (PySem.W.fnOf "_law_given_one" "_law_given_one" (defArgs st_law_given_one) (defBody st_law_given_one) (defScope st_law_given_one) .none kV30 dc30 pm30 an30 cd30 ct30), sl30⟩) (c30 : PySem.W.codeIn K cd30 "_law_given_one" = true) (k30 : PySem.W.keepIn K (.ref f30) = true)
    (a31 : PySem.W.nsIn K mainGlobals "_law_values_told" = some (some (.ref f31))) (l31 : K.lookup f31 = some ⟨oc31, od31, .func (PySem.W.fnOf "_law_values_told" "_law_values_told" (defArgs st_law_values_told) (defBody st_law_values_told) (defScope st_law_values_told) .none kV31 dc31 pm31 an31 cd31 ct31), sl31⟩) (c31 : PySem.W.codeIn K cd31 "_law_values_told" = true) (k31 : PySem.W.keepIn K (.ref f31) = true)
    (a32 : PySem.W.nsIn K mainGlobals "law" = some (some (.ref f32))) (l32 : K.lookup f32 = some ⟨oc32, od32, .func (PySem.W.fnOf "law" "law" (defArgs st_law) (defBody st_law) (defScope st_law) .none kV32 dc32 pm32 an32 cd32 ct32), sl32⟩) (c32 : PySem.W.codeIn K cd32 "law" = true) (k32 : PySem.W.keepIn K (.ref f32) = true)
    (z0 : PySem.W.nsIn K mainGlobals "len" = some none)
    (z1 : PySem.W.nsIn K mainGlobals "list" = some none)
    (z2 : PySem.W.nsIn K mainGlobals "tuple" = some none)
    (z3 : PySem.W.nsIn K mainGlobals "int" = some none)
    (z4 : PySem.W.nsIn K mainGlobals "bool" = some none)
    (z5 : PySem.W.nsIn K mainGlobals "range" = some none)
    (z6 : PySem.W.nsIn K mainGlobals "enumerate" = some none)
    (z7 : PySem.W.nsIn K mainGlobals "reversed" = some none)
    (z8 : PySem.W.nsIn K mainGlobals "isinstance" = some none)
    {C_Chain g_Chain : Addr} {od_Chain an_Chain : Option Addr} {sl_Chain : Array (Option Value)} {oc_Chain kV_Chain dc_Chain pm_Chain cd_Chain ct_Chain : Value} {C_Closure g_Closure : Addr} {od_Closure an_Closure : Option Addr} {sl_Closure : Array (Option Value)} {oc_Closure kV_Closure dc_Closure pm_Closure cd_Closure ct_Closure : Value} {C_Known g_Known : Addr} {od_Known an_Known : Option Addr} {sl_Known : Array (Option Value)} {oc_Known kV_Known dc_Known pm_Known cd_Known ct_Known : Value} {C_Given g_Given : Addr} {od_Given an_Given : Option Addr} {sl_Given : Array (Option Value)} {oc_Given kV_Given dc_Given pm_Given cd_Given ct_Given : Value} {t_BEGIN t_END : Tok} {C_Stuck C_Tired : Addr} 
    (c_Chain : PySem.W.nsIn K mainGlobals "Chain" = some (some (.ref C_Chain)))
    (pg_Chain : PySem.W.plainGet K C_Chain Str.empty = true)
    (hd_Chain : PySem.W.hasDictIn K C_Chain = true)
    (po_Chain : PySem.W.plainOver K C_Chain = true)
    (sa_Chain : PySem.W.findIn K (.ref C_Chain) "__setattr__" = some (some (.builtin "object.__setattr__")))
    (mk_Chain : PySem.W.makesIn K C_Chain = true)
    (kc_Chain : PySem.W.keepIn K (.ref C_Chain) = true)
    (ha_Chain : PySem.W.findIn K (.ref C_Chain) "__class__" = some (some (.builtin "object.__class__")))
    (mo_Chain : PySem.W.mroIn K C_Chain (.type "object") = some true)
    (ini_Chain : PySem.W.findIn K (.ref C_Chain) "__init__" = some (some (.ref g_Chain)))
    (if_Chain : PySem.W.isFn K (.ref g_Chain) = true)
    (li_Chain : K.lookup g_Chain = some ⟨oc_Chain, od_Chain, .func (PySem.W.fnOf "__init__" "Chain.__init__" (defArgs st_Chain_init) (defBody st_Chain_init) (defScope st_Chain_init) .none kV_Chain dc_Chain pm_Chain an_Chain cd_Chain ct_Chain), sl_Chain⟩)
    (ci_Chain : PySem.W.codeIn K cd_Chain "Chain.__init__" = true)
    (ki_Chain : PySem.W.keepIn K (.ref g_Chain) = true)
    (n_Chain_head : PySem.W.findIn K (.ref C_Chain) "head" = some none)
    (n_Chain_rest : PySem.W.findIn K (.ref C_Chain) "rest" = some none)
    (n_Chain_outside : PySem.W.findIn K (.ref C_Chain) "outside" = some none)
    (c_Closure : PySem.W.nsIn K mainGlobals "Closure" = some (some (.ref C_Closure)))
    (pg_Closure : PySem.W.plainGet K C_Closure Str.empty = true)
    (hd_Closure : PySem.W.hasDictIn K C_Closure = true)
    (po_Closure : PySem.W.plainOver K C_Closure = true)
    (sa_Closure : PySem.W.findIn K (.ref C_Closure) "__setattr__" = some (some (.builtin "object.__setattr__")))
    (mk_Closure : PySem.W.makesIn K C_Closure = true)
    (kc_Closure : PySem.W.keepIn K (.ref C_Closure) = true)
    (ha_Closure : PySem.W.findIn K (.ref C_Closure) "__class__" = some (some (.builtin "object.__class__")))
    (mo_Closure : PySem.W.mroIn K C_Closure (.type "object") = some true)
    (ini_Closure : PySem.W.findIn K (.ref C_Closure) "__init__" = some (some (.ref g_Closure)))
    (if_Closure : PySem.W.isFn K (.ref g_Closure) = true)
    (li_Closure : K.lookup g_Closure = some ⟨oc_Closure, od_Closure, .func (PySem.W.fnOf "__init__" "Closure.__init__" (defArgs st_Closure_init) (defBody st_Closure_init) (defScope st_Closure_init) .none kV_Closure dc_Closure pm_Closure an_Closure cd_Closure ct_Closure), sl_Closure⟩)
    (ci_Closure : PySem.W.codeIn K cd_Closure "Closure.__init__" = true)
    (ki_Closure : PySem.W.keepIn K (.ref g_Closure) = true)
    (n_Closure_name : PySem.W.findIn K (.ref C_Closure) "name" = some none)
    (n_Closure_body : PySem.W.findIn K (.ref C_Closure) "body" = some none)
    (n_Closure_known : PySem.W.findIn K (.ref C_Closure) "known" = some none)
    (n_Closure_outside : PySem.W.findIn K (.ref C_Closure) "outside" = some none)
    (c_Known : PySem.W.nsIn K mainGlobals "Known" = some (some (.ref C_Known)))
    (pg_Known : PySem.W.plainGet K C_Known Str.empty = true)
    (hd_Known : PySem.W.hasDictIn K C_Known = true)
    (po_Known : PySem.W.plainOver K C_Known = true)
    (sa_Known : PySem.W.findIn K (.ref C_Known) "__setattr__" = some (some (.builtin "object.__setattr__")))
    (mk_Known : PySem.W.makesIn K C_Known = true)
    (kc_Known : PySem.W.keepIn K (.ref C_Known) = true)
    (ha_Known : PySem.W.findIn K (.ref C_Known) "__class__" = some (some (.builtin "object.__class__")))
    (mo_Known : PySem.W.mroIn K C_Known (.type "object") = some true)
    (ini_Known : PySem.W.findIn K (.ref C_Known) "__init__" = some (some (.ref g_Known)))
    (if_Known : PySem.W.isFn K (.ref g_Known) = true)
    (li_Known : K.lookup g_Known = some ⟨oc_Known, od_Known, .func (PySem.W.fnOf "__init__" "Known.__init__" (defArgs st_Known_init) (defBody st_Known_init) (defScope st_Known_init) .none kV_Known dc_Known pm_Known an_Known cd_Known ct_Known), sl_Known⟩)
    (ci_Known : PySem.W.codeIn K cd_Known "Known.__init__" = true)
    (ki_Known : PySem.W.keepIn K (.ref g_Known) = true)
    (n_Known_name : PySem.W.findIn K (.ref C_Known) "name" = some none)
    (n_Known_value : PySem.W.findIn K (.ref C_Known) "value" = some none)
    (n_Known_others : PySem.W.findIn K (.ref C_Known) "others" = some none)
    (c_Given : PySem.W.nsIn K mainGlobals "Given" = some (some (.ref C_Given)))
    (pg_Given : PySem.W.plainGet K C_Given Str.empty = true)
    (hd_Given : PySem.W.hasDictIn K C_Given = true)
    (po_Given : PySem.W.plainOver K C_Given = true)
    (sa_Given : PySem.W.findIn K (.ref C_Given) "__setattr__" = some (some (.builtin "object.__setattr__")))
    (mk_Given : PySem.W.makesIn K C_Given = true)
    (kc_Given : PySem.W.keepIn K (.ref C_Given) = true)
    (ha_Given : PySem.W.findIn K (.ref C_Given) "__class__" = some (some (.builtin "object.__class__")))
    (mo_Given : PySem.W.mroIn K C_Given (.type "object") = some true)
    (ini_Given : PySem.W.findIn K (.ref C_Given) "__init__" = some (some (.ref g_Given)))
    (if_Given : PySem.W.isFn K (.ref g_Given) = true)
    (li_Given : K.lookup g_Given = some ⟨oc_Given, od_Given, .func (PySem.W.fnOf "__init__" "Given.__init__" (defArgs st_Given_init) (defBody st_Given_init) (defScope st_Given_init) .none kV_Given dc_Given pm_Given an_Given cd_Given ct_Given), sl_Given⟩)
    (ci_Given : PySem.W.codeIn K cd_Given "Given.__init__" = true)
    (ki_Given : PySem.W.keepIn K (.ref g_Given) = true)
    (n_Given_value : PySem.W.findIn K (.ref C_Given) "value" = some none)
    (n_Given_inside : PySem.W.findIn K (.ref C_Given) "inside" = some none)
    (x_get : PySem.W.specialIn K (.builtin "object.__class__") "__get__" = some (some (.builtin "getset_descriptor.__get__")))
    (x_tk : PySem.W.takesIn K (.builtin "object.__class__") = some true)
    (q_IC : PySem.W.kitOne K (.type "int") (.ref C_Chain) = some false)
    (q_BC : PySem.W.kitOne K (.type "bool") (.ref C_Chain) = some false)
    (q_CC : PySem.W.kitOne K (.ref C_Chain) (.ref C_Chain) = some true)
    (q_LC : PySem.W.kitOne K (.ref C_Closure) (.ref C_Chain) = some false)
    (q_IL : PySem.W.kitOne K (.type "int") (.ref C_Closure) = some false)
    (q_BL : PySem.W.kitOne K (.type "bool") (.ref C_Closure) = some false)
    (q_CL : PySem.W.kitOne K (.ref C_Chain) (.ref C_Closure) = some false)
    (q_LL : PySem.W.kitOne K (.ref C_Closure) (.ref C_Closure) = some true)
    (q_IG : PySem.W.kitOne K (.type "int") (.ref C_Given) = some false)
    (q_BG : PySem.W.kitOne K (.type "bool") (.ref C_Given) = some false)
    (q_CG : PySem.W.kitOne K (.ref C_Chain) (.ref C_Given) = some false)
    (q_LG : PySem.W.kitOne K (.ref C_Closure) (.ref C_Given) = some false)
    (q_GG : PySem.W.kitOne K (.ref C_Given) (.ref C_Given) = some true)
    (q_CI : PySem.W.kitOne K (.ref C_Chain) (.type "int") = some false)
    (q_LI : PySem.W.kitOne K (.ref C_Closure) (.type "int") = some false)
    (q_AI : PySem.W.kitAny K (.type "int") [.ref C_Chain, .ref C_Closure] = some false)
    (q_AB : PySem.W.kitAny K (.type "bool") [.ref C_Chain, .ref C_Closure] = some false)
    (v_BEGIN : PySem.W.nsIn K mainGlobals "BEGIN" = some (some (.int 0 t_BEGIN)))
    (v_END : PySem.W.nsIn K mainGlobals "END" = some (some (.int 1 t_END)))
    (c_Stuck : PySem.W.nsIn K mainGlobals "Stuck" = some (some (.ref C_Stuck)))
    (c_Tired : PySem.W.nsIn K mainGlobals "Tired" = some (some (.ref C_Tired)))
    (e_excStuck : PySem.W.excIn K C_Stuck [.type "ValueError", .type "Exception", .type "BaseException", .type "object"] "ValueError.__new__" = true)
    (e_excTired : PySem.W.excIn K C_Tired [.type "ValueError", .type "Exception", .type "BaseException", .type "object"] "ValueError.__new__" = true)
    (x_T : PySem.W.exmOne K (.ref C_Tired) (.ref C_Tired) = some true)
    (kAC : PySem.W.kitAny K (.ref C_Chain) [.ref C_Chain, .ref C_Closure] = some true)
    (kAL : PySem.W.kitAny K (.ref C_Closure) [.ref C_Chain, .ref C_Closure] = some true)
    (y_str : PySem.W.nsIn K mainGlobals "str" = some none)
    (y_dict : PySem.W.nsIn K mainGlobals "dict" = some none)
    (y_min : PySem.W.nsIn K mainGlobals "min" = some none)
    : ∃ fd : FuncData, (∀ (s : Shared) (v : Value), BindsTo s fd ⟨[v], []⟩ [("_law_script", v)]) ∧ ∀ base : Heap, K.In base → base.Ns mainGlobals mg → FnOk l.prog w K mg base CX0 15 fa fd ["_law_script"] (spV K (RLaw K)) := by
  have e0 := hfa.symm.trans (PySem.W.mg_of X G a32)
  cases e0
  have F1 := fun_mk (st := st_taken) l1 c1 k1
  have b1 := F1.binds (ps := ["value"]) fun _ _ _ _ _ _ us hl => match us, hl with | [_], _ => rfl
  have m1 := PySem.W.mg_of X G a1
  have F2 := fun_mk (st := st_is_function_value) l2 c2 k2
  have b2 := F2.binds (ps := ["value"]) fun _ _ _ _ _ _ us hl => match us, hl with | [_], _ => rfl
  have m2 := PySem.W.mg_of X G a2
  have F3 := fun_mk (st := st_known_from) l3 c3 k3
  have b3 := F3.binds (ps := ["names"]) fun _ _ _ _ _ _ us hl => match us, hl with | [_], _ => rfl
  have m3 := PySem.W.mg_of X G a3
  have F4 := fun_mk (st := st_opened) l4 c4 k4
  have b4 := F4.binds (ps := ["value"]) fun _ _ _ _ _ _ us hl => match us, hl with | [_], _ => rfl
  have m4 := PySem.W.mg_of X G a4
  have F5 := fun_mk (st := st_looked_into) l5 c5 k5
  have b5 := F5.binds (ps := ["value"]) fun _ _ _ _ _ _ us hl => match us, hl with | [_], _ => rfl
  have m5 := PySem.W.mg_of X G a5
  have F6 := fun_mk (st := st_given_back) l6 c6 k6
  have b6 := F6.binds (ps := ["value"]) fun _ _ _ _ _ _ us hl => match us, hl with | [_], _ => rfl
  have m6 := PySem.W.mg_of X G a6
  have F7 := fun_mk (st := st_outline) l7 c7 k7
  have b7 := F7.binds (ps := ["value", "waiting"]) fun _ _ _ _ _ _ us hl => match us, hl with | [_, _], _ => rfl
  have m7 := PySem.W.mg_of X G a7
  have F8 := fun_mk (st := st_fill_with_members) l8 c8 k8
  have b8 := F8.binds (ps := ["room", "chain", "waiting"]) fun _ _ _ _ _ _ us hl => match us, hl with | [_, _, _], _ => rfl
  have m8 := PySem.W.mg_of X G a8
  have F9 := fun_mk (st := st_fill_with_names) l9 c9 k9
  have b9 := F9.binds (ps := ["room", "known", "waiting"]) fun _ _ _ _ _ _ us hl => match us, hl with | [_, _, _], _ => rfl
  have m9 := PySem.W.mg_of X G a9
  have F10 := fun_mk (st := st_run) l10 c10 k10
  have b10 := F10.binds (ps := ["expr", "names", "steps"]) fun _ _ _ _ _ _ us hl => match us, hl with | [_, _, _], _ => rfl
  have m10 := PySem.W.mg_of X G a10
  have F11 := fun_mk (st := st_applied) l11 c11 k11
  have b11 := F11.binds (ps := ["function", "argument", "steps"]) fun _ _ _ _ _ _ us hl => match us, hl with | [_, _, _], _ => rfl
  have m11 := PySem.W.mg_of X G a11
  have F12 := fun_mk (st := st_worked_out) l12 c12 k12
  have b12 := F12.binds (ps := ["expr", "known", "steps"]) fun _ _ _ _ _ _ us hl => match us, hl with | [_, _, _], _ => rfl
  have m12 := PySem.W.mg_of X G a12
  have F13 := fun_mk (st := st_begin_part) l13 c13 k13
  have b13 := F13.binds (ps := ["part", "known", "waiting", "done"]) fun _ _ _ _ _ _ us hl => match us, hl with | [_, _, _, _], _ => rfl
  have m13 := PySem.W.mg_of X G a13
  have F14 := fun_mk (st := st_value_of) l14 c14 k14
  have b14 := F14.binds (ps := ["name", "known"]) fun _ _ _ _ _ _ us hl => match us, hl with | [_, _], _ => rfl
  have m14 := PySem.W.mg_of X G a14
  have F15 := fun_mk (st := st_end_part) l15 c15 k15
  have b15 := F15.binds (ps := ["part", "known", "waiting", "done"]) fun _ _ _ _ _ _ us hl => match us, hl with | [_, _, _, _], _ => rfl
  have m15 := PySem.W.mg_of X G a15
  have F16 := fun_mk (st := st_chosen) l16 c16 k16
  have b16 := F16.binds (ps := ["part", "condition"]) fun _ _ _ _ _ _ us hl => match us, hl with | [_, _], _ => rfl
  have m16 := PySem.W.mg_of X G a16
  have F17 := fun_mk (st := st_parted) l17 c17 k17
  have b17 := F17.binds (ps := ["part", "subject", "known"]) fun _ _ _ _ _ _ us hl => match us, hl with | [_, _, _], _ => rfl
  have m17 := PySem.W.mg_of X G a17
  have F18 := fun_mk (st := st_called) l18 c18 k18
  have b18 := F18.binds (ps := ["function", "argument"]) fun _ _ _ _ _ _ us hl => match us, hl with | [_, _], _ => rfl
  have m18 := PySem.W.mg_of X G a18
  have F19 := fun_mk (st := st_put_in_front) l19 c19 k19
  have b19 := F19.binds (ps := ["member", "others"]) fun _ _ _ _ _ _ us hl => match us, hl with | [_, _], _ => rfl
  have m19 := PySem.W.mg_of X G a19
  have F20 := fun_mk (st := st_reckoned) l20 c20 k20
  have b20 := F20.binds (ps := ["word", "first", "second"]) fun _ _ _ _ _ _ us hl => match us, hl with | [_, _, _], _ => rfl
  have m20 := PySem.W.mg_of X G a20
  have F21 := fun_mk (st := st_is_whole) l21 c21 k21
  have b21 := F21.binds (ps := ["value"]) fun _ _ _ _ _ _ us hl => match us, hl with | [_], _ => rfl
  have m21 := PySem.W.mg_of X G a21
  have F22 := fun_mk (st := st_law_so) l22 c22 k22
  have b22 := F22.binds (ps := ["_law_found", "_law_meant"]) fun _ _ _ _ _ _ us hl => match us, hl with | [_, _], _ => rfl
  have m22 := PySem.W.mg_of X G a22
  have F23 := fun_mk (st := st_law_whole) l23 c23 k23
  have b23 := F23.binds (ps := ["_law_found"]) fun _ _ _ _ _ _ us hl => match us, hl with | [_], _ => rfl
  have m23 := PySem.W.mg_of X G a23
  have F24 := fun_mk (st := st_law_named_part) l24 c24 k24
  have b24 := F24.binds (ps := ["_law_word"]) fun _ _ _ _ _ _ us hl => match us, hl with | [_], _ => rfl
  have m24 := PySem.W.mg_of X G a24
  have F25 := fun_mk (st := st_law_add) l25 c25 k25
  have b25 := F25.binds (ps := ["_law_one", "_law_two"]) fun _ _ _ _ _ _ us hl => match us, hl with | [_, _], _ => rfl
  have m25 := PySem.W.mg_of X G a25
  have F26 := fun_mk (st := st_law_first_names) l26 c26 k26
  have b26 := F26.binds (ps := []) fun _ _ _ _ _ _ us hl => match us, hl with | [], _ => rfl
  have m26 := PySem.W.mg_of X G a26
  have F27 := fun_mk (st := st_law_given) l27 c27 k27
  have b27 := F27.binds (ps := ["_law_cell", "_law_plain", "_law_more"]) fun _ _ _ _ _ _ us hl => match us, hl with | [_, _, _], _ => rfl
  have m27 := PySem.W.mg_of X G a27
  have F28 := fun_mk (st := st_law_unhurt) l28 c28 k28
  have b28 := F28.binds (ps := ["_law_handed"]) fun _ _ _ _ _ _ us hl => match us, hl with | [_], _ => rfl
  have m28 := PySem.W.mg_of X G a28
  have F29 := fun_mk (st := st_law_worth) l29 c29 k29
  have b29 := F29.binds (ps := ["_law_expr", "_law_steps", "_law_due"]) fun _ _ _ _ _ _ us hl => match us, hl with | [_, _, _], _ => rfl
  have m29 := PySem.W.mg_of X G a29
  have F30 := fun_mk (st := st_law_given_one) l30 c30 k30
  have b30 := F30.binds (ps := ["_law_function", "_law_due"]) fun _ _ _ _ _ _ us hl => match us, hl with | [_, _], _ => rfl
  have m30 := PySem.W.mg_of X G a30
  have F31 := fun_mk (st := st_law_values_told) l31 c31 k31
  have b31 := F31.binds (ps := []) fun _ _ _ _ _ _ us hl => match us, hl with | [], _ => rfl
  have m31 := PySem.W.mg_of X G a31
  have F32 := fun_mk (st := st_law) l32 c32 k32
  have m32 := PySem.W.mg_of X G a32
  have B : Plain mg := ⟨PySem.W.mg_none_of X G z0, PySem.W.mg_none_of X G z1, PySem.W.mg_none_of X G z2, PySem.W.mg_none_of X G z3, PySem.W.mg_none_of X G z4, PySem.W.mg_none_of X G z5, PySem.W.mg_none_of X G z6, PySem.W.mg_none_of X G z7, PySem.W.mg_none_of X G z8⟩
  have M : MKit K mg ⟨C_Chain, C_Closure, C_Known, C_Given⟩ C_Stuck C_Tired := ⟨by unfold csOf; rw [c_Chain, c_Closure, c_Known, c_Given]; rfl, ⟨⟨pg_Chain, hd_Chain, po_Chain, sa_Chain⟩, ha_Chain, x_get, x_tk, mo_Chain⟩, ⟨⟨pg_Closure, hd_Closure, po_Closure, sa_Closure⟩, ha_Closure, x_get, x_tk, mo_Closure⟩, ⟨⟨pg_Known, hd_Known, po_Known, sa_Known⟩, ha_Known, x_get, x_tk, mo_Known⟩, ⟨⟨pg_Given, hd_Given, po_Given, sa_Given⟩, ha_Given, x_get, x_tk, mo_Given⟩, PySem.W.mg_of X G c_Chain, PySem.W.mg_of X G c_Closure, PySem.W.mg_of X G c_Known, PySem.W.mg_of X G c_Given, ⟨n_Chain_head, n_Chain_rest, n_Chain_outside⟩, ⟨n_Closure_name, n_Closure_body, n_Closure_known, n_Closure_outside⟩, ⟨n_Known_name, n_Known_value, n_Known_others⟩, ⟨n_Given_value, n_Given_inside⟩, ⟨q_IC, q_BC, q_CC, q_LC⟩, ⟨q_IL, q_BL, q_CL, q_LL⟩, ⟨q_IG, q_BG, q_CG, q_LG, q_GG⟩, ⟨q_CI, q_LI⟩, ⟨q_AI, q_AB⟩, ⟨PySem.W.mg_of X G c_Stuck, e_excStuck⟩, ⟨PySem.W.mg_of X G c_Tired, e_excTired⟩, ⟨t_BEGIN, PySem.W.mg_of X G v_BEGIN⟩, ⟨t_END, PySem.W.mg_of X G v_END⟩⟩
  have Fi_Chain := fun_mk (st := st_Chain_init) li_Chain ci_Chain ki_Chain
  have bi_Chain := Fi_Chain.binds (ps := ["self", "head", "rest"]) fun _ _ _ _ _ _ us hl => match us, hl with | [_, _, _], _ => rfl
  have Fi_Closure := fun_mk (st := st_Closure_init) li_Closure ci_Closure ki_Closure
  have bi_Closure := Fi_Closure.binds (ps := ["self", "name", "body", "known"]) fun _ _ _ _ _ _ us hl => match us, hl with | [_, _, _, _], _ => rfl
  have Fi_Known := fun_mk (st := st_Known_init) li_Known ci_Known ki_Known
  have bi_Known := Fi_Known.binds (ps := ["self", "name", "value", "others"]) fun _ _ _ _ _ _ us hl => match us, hl with | [_, _, _, _], _ => rfl
  have Fi_Given := fun_mk (st := st_Given_init) li_Given ci_Given ki_Given
  have bi_Given := Fi_Given.binds (ps := ["self", "value"]) fun _ _ _ _ _ _ us hl => match us, hl with | [_, _], _ => rfl
  have hstr : mg "str" = none := PySem.W.mg_none_of X G y_str
  have hdict : mg "dict" = none := PySem.W.mg_none_of X G y_dict
  have hmin : mg "min" = none := PySem.W.mg_none_of X G y_min
  refine ⟨PySem.W.fnOf "law" "law" (defArgs st_law) (defBody st_law) (defScope st_law) .none kV32 dc32 pm32 an32 cd32 ct32, fun s v => .of_eq rfl, fun base _ _ => ?_⟩
  have M_Chain : Made l.prog w K mg base "Chain" C_Chain 2 mkCh := ⟨g_Chain, _, _, ⟨mk_Chain, ini_Chain, if_Chain, kc_Chain⟩, ok_ich Fi_Chain M, bi_Chain, PySem.W.mg_of X G c_Chain⟩
  have M_Closure : Made l.prog w K mg base "Closure" C_Closure 3 mkCl := ⟨g_Closure, _, _, ⟨mk_Closure, ini_Closure, if_Closure, kc_Closure⟩, ok_icl Fi_Closure M, bi_Closure, PySem.W.mg_of X G c_Closure⟩
  have M_Known : Made l.prog w K mg base "Known" C_Known 3 mkKn := ⟨g_Known, _, _, ⟨mk_Known, ini_Known, if_Known, kc_Known⟩, ok_ikn Fi_Known M, bi_Known, PySem.W.mg_of X G c_Known⟩
  have M_Given : Made l.prog w K mg base "Given" C_Given 1 mkGv := ⟨g_Given, _, _, ⟨mk_Given, ini_Given, if_Given, kc_Given⟩, ok_igv Fi_Given M, bi_Given, PySem.W.mg_of X G c_Given⟩
  have D_is_function_value : DefOk l.prog w K mg base _ "is_function_value" _ _ := ⟨f2, _, ok_isE F2 B, b2, k2, m2⟩
  have D_taken : DefOk l.prog w K mg base _ "taken" _ _ := ⟨f1, _, ok_taE F1 B M M_Given D_is_function_value, b1, k1, m1⟩
  have D_known_from_L : DefOk l.prog w K mg base _ "known_from" _ _ := ⟨f3, _, ok_knL (c := ⟨C_Chain, C_Closure, C_Known, C_Given⟩) F3 M_Known D_taken, b3, k3, m3⟩
  have D_known_from_F : DefOk l.prog w K mg base _ "known_from" _ _ := ⟨f3, _, ok_knU (c := ⟨C_Chain, C_Closure, C_Known, C_Given⟩) F3 M_Known D_taken, b3, k3, m3⟩
  have D_looked_into : DefOk l.prog w K mg base _ "looked_into" _ _ := ⟨f5, _, ok_loE (c := ⟨C_Chain, C_Closure, C_Known, C_Given⟩) F5 B M_Chain M_Closure D_taken D_known_from_F, b5, k5, m5⟩
  have D_opened_W : DefOk l.prog w K mg base _ "opened" _ _ := ⟨f4, _, ok_opW F4 B M D_looked_into, b4, k4, m4⟩
  have D_is_whole : DefOk l.prog w K mg base _ "is_whole" _ _ := ⟨f21, _, ok_isw F21 B M, b21, k21, m21⟩
  have D_value_of : DefX l.prog w K mg base _ "value_of" _ _ := ⟨f14, _, ok_vof F14 M (D_opened_W.imp fun _ _ _ _ => opnE M), b14, k14, m14⟩
  have D_chosen : DefX l.prog w K mg base _ "chosen" _ _ := ⟨f16, _, ok_cho F16 M, b16, k16, m16⟩
  have D_put_in_front : DefX l.prog w K mg base _ "put_in_front" _ _ := ⟨f19, _, ok_pif F19 B M M_Chain, b19, k19, m19⟩
  have D_called : DefX l.prog w K mg base _ "called" _ _ := ⟨f18, _, ok_cal F18 B M M_Known, b18, k18, m18⟩
  have D_parted : DefX l.prog w K mg base _ "parted" _ _ := ⟨f17, _, ok_par F17 B M M_Known, b17, k17, m17⟩
  have D_reckoned : DefX l.prog w K mg base _ "reckoned" _ _ := ⟨f20, _, ok_rec F20 M D_is_whole, b20, k20, m20⟩
  have D_begin_part : DefX l.prog w K mg base _ "begin_part" _ _ := ⟨f13, _, ok_beg F13 M M_Chain M_Closure D_value_of, b13, k13, m13⟩
  have D_end_part : DefX l.prog w K mg base _ "end_part" _ _ := ⟨f15, _, ok_fin F15 M D_chosen D_parted D_called D_put_in_front D_reckoned, b15, k15, m15⟩
  have D_outline : DefOk l.prog w K mg base _ "outline" _ _ := ⟨f7, _, ok_outE F7 B M kAC kAL (D_opened_W.imp fun _ _ _ _ => opnV M), b7, k7, m7⟩
  have D_fill_with_members : DefOk l.prog w K mg base _ "fill_with_members" _ _ := ⟨f8, _, ok_fwE F8 M D_outline, b8, k8, m8⟩
  have D_fill_with_names : DefOk l.prog w K mg base _ "fill_with_names" _ _ := ⟨f9, _, ok_fwn F9 B M D_outline, b9, k9, m9⟩
  have D_given_back : DefOk l.prog w K mg base _ "given_back" _ _ := ⟨f6, _, ok_givE F6 B M D_outline D_fill_with_members D_fill_with_names, b6, k6, m6⟩
  have D_worked_out : DefX l.prog w K mg base _ "worked_out" _ _ := ⟨f12, _, ok_wrG F12 M D_begin_part D_end_part D_given_back, b12, k12, m12⟩
  have D_run : DefX l.prog w K mg base _ "run" _ _ := ⟨f10, _, ok_ruG F10 D_worked_out D_known_from_L, b10, k10, m10⟩
  have D_applied : DefX l.prog w K mg base _ "applied" _ _ := ⟨f11, _, ok_apG F11 B M M_Known D_taken (D_opened_W.imp fun _ _ _ _ => opnE M) D_worked_out, b11, k11, m11⟩
  have D_law_so : DefOk l.prog w K mg base _ "_law_so" _ _ := ⟨f22, _, ok_soG F22 b22 k22 m22 B hstr hdict 12, b22, k22, m22⟩
  have D_law_whole : DefOk l.prog w K mg base _ "_law_whole" _ _ := ⟨f23, _, ok_whI F23 B, b23, k23, m23⟩
  have D_law_named_part : DefOk l.prog w K mg base _ "_law_named_part" _ _ := ⟨f24, _, ok_nam F24, b24, k24, m24⟩
  have D_law_add : DefOk l.prog w K mg base _ "_law_add" _ _ := ⟨f25, _, ok_adp F25, b25, k25, m25⟩
  have D_law_first_names : DefOk l.prog w K mg base _ "_law_first_names" _ _ := ⟨f26, _, ok_fst F26 D_law_named_part D_law_add, b26, k26, m26⟩
  have D_law_given : DefOk l.prog w K mg base _ "_law_given" _ _ := ⟨f27, _, ok_gvn F27 D_law_named_part D_law_add, b27, k27, m27⟩
  have D_law_unhurt : DefOk l.prog w K mg base _ "_law_unhurt" _ _ := ⟨f28, _, ok_unh F28 B D_law_first_names D_law_whole, b28, k28, m28⟩
  have D_law_worth : DefOk l.prog w K mg base _ "_law_worth" _ _ := ⟨f29, _, ok_wor F29 D_run x_T (PySem.W.mg_of X G c_Tired) D_law_first_names D_law_whole D_law_unhurt, b29, k29, m29⟩
  have D_law_given_one : DefOk l.prog w K mg base _ "_law_given_one" _ _ := ⟨f30, _, ok_gvo F30 D_applied x_T (PySem.W.mg_of X G c_Tired) D_law_whole, b30, k30, m30⟩
  have D_law_values_told : DefOk l.prog w K mg base _ "_law_values_told" _ _ := ⟨f31, _, ok_vtd F31 B D_run D_law_named_part D_law_first_names D_law_so, b31, k31, m31⟩
  exact ok_law F32 B hmin D_law_given D_law_named_part D_law_add D_law_first_names D_law_worth D_law_given_one D_law_values_told
theorem walk {l : PySem.W.OpenLaw} {q : Program} {loose : List Str} {XP : (Str → Option Value) → Heap → Prop} {YP : World → Heap → Prop} {d : DefRec} {K : Params → PySem.W.Frag} (hn : l.most = some 63) (hdf : d.params.defaults = [])
    (hY : ∀ (w : World) (h : Heap), YP w h → (K w.params).In h)
    (F : ∀ (w : World) (mg : Str → Option Value) (fa : Addr) (h : Heap), (K w.params).In h → h.Ns mainGlobals mg → mg d.name = some (.ref fa) →
      ∃ fd : FuncData, (∀ (s : Shared) (u : Value), BindsTo s fd ⟨[u], []⟩ [("_law_script", u)]) ∧ ∀ base : Heap, (K w.params).In base → base.Ns mainGlobals mg → FnOk l.prog w (K w.params) mg base CX0 15 fa fd ["_law_script"] (spV (K w.params) (RLaw (K w.params)))) :
    PySem.W.WalkO q loose XP YP l.row.toRowW d [] (fun f vs => PySem.call f vs) :=
  L2.walk_of (n := 63) (k := 15) (x := "_law_script") (CX := fun _ => CX0) (sp := fun w => spV (K w.params) (RLaw (K w.params))) hn (by decide) hdf ⟨rfl, by decide, by decide⟩ hY F (fun _ _ a ns hl ho hS => law_of hl ho hS) fun _ _ _ _ _ z => z
end Wk
def PySem.W.Fast.tw15751235312386831903 : Nat := 0
def PySem.W.Fast.tw8680793626291751772 : Nat := 0
def PySem.W.Fast.tw12824494405491134083 : Nat := 0
def PySem.W.Fast.tw11287488585255473825 : Nat := 0
def PySem.W.Fast.tw14831787087794201139 : Nat := 0
def PySem.W.Fast.tw10353750230027654740 : Nat := 0
def PySem.W.Fast.tw4693482183645297750 : Nat := 0
def PySem.W.Fast.tw11094744291095390620 : Nat := 0
def PySem.W.Fast.tw10328659939786075674 : Nat := 0
def PySem.W.Fast.tw3365827579721225338 : Nat := 0
def PySem.W.Fast.tw10295256352468857303 : Nat := 0
def PySem.W.Fast.tw17852792228521857309 : Nat := 0
def PySem.W.Fast.tw15182029414087729295 : Nat := 0
def PySem.W.Fast.tw15988039393794149374 : Nat := 0
def PySem.W.Fast.tw479977906779054477 : Nat := 0
def PySem.W.Fast.tw9713981354136901079 : Nat := 0
def PySem.W.Fast.tw8356387462398645878 : Nat := 0
def PySem.W.Fast.tw10091159086376149430 : Nat := 0
def PySem.W.Fast.tw16923486562347481853 : Nat := 0
def PySem.W.Fast.tw12268043617482333670 : Nat := 0
def PySem.W.Fast.tw18352569530198547033 : Nat := 0
def PySem.W.Fast.tw3307610737337962198 : Nat := 0
def PySem.W.Fast.tw17106849806482502333 : Nat := 0
def PySem.W.Fast.tw10571592862468140866 : Nat := 0
def PySem.W.Fast.tw17082746432541479350 : Nat := 0
def PySem.W.Fast.tw1956817768850986512 : Nat := 0
def PySem.W.Fast.tw4694264894154122555 : Nat := 0
def PySem.W.Fast.tw7949641011375482003 : Nat := 0
def PySem.W.Fast.tw9002165490553074671 : Nat := 0
def PySem.W.Fast.tw16664789528747795298 : Nat := 0
def PySem.W.Fast.tw7856099398037947964 : Nat := 0
def PySem.W.Fast.tw3962111174401906416 : Nat := 0
def PySem.W.Fast.tw5997376020255798422 : Nat := 0
def PySem.W.Fast.tw16230879561600271922 : Nat := 0
def PySem.W.Fast.tw4528182946971378256 : Nat := 0
def PySem.W.Fast.tw3915371909096199689 : Nat := 0
def PySem.W.Fast.tw14026932123487838711 : Nat := 0
def PySem.W.Fast.tw10872758506657817794 : Nat := 0
def PySem.W.Fast.tw2400517118999038970 : Nat := 0
def PySem.W.Fast.tw16725476134770723498 : Nat := 0
def PySem.W.Fast.tw5956302919114481028 : Nat := 0
def PySem.W.Fast.tw3659559059520692026 : Nat := 0
def PySem.W.Fast.tw2823240022667181625 : Nat := 0
def PySem.W.Fast.tw5058293159688110760 : Nat := 0
def PySem.W.Fast.tw6997085856187857260 : Nat := 0
def PySem.W.Fast.tw6437760795395104241 : Nat := 0
open PySem PySem.W PyProof.Rows
set_option maxRecDepth 100000 in
set_option maxHeartbeats 0 in
theorem PySem.Challenge.cw_wellkind_k06_names_as_they_were_holds : PySem.Challenge.rw_wellkind_k06_names_as_they_were.Holds := by
  w_on; o_law; k_head; (case hw => w_witness2)
  k_fill
  refine Wk.walk (l := PySem.Challenge.rw_wellkind_k06_names_as_they_were) rfl rfl (fun w h Y => PySem.W.kIn_of Y) ?F
  case F =>
    intro w mg fa h KX G hmg
    refine' Wk.all_mk KX G hmg ?a1 ?l1 ?c1 ?k1 ?a2 ?l2 ?c2 ?k2 ?a3 ?l3 ?c3 ?k3 ?a4 ?l4 ?c4 ?k4 ?a5 ?l5 ?c5 ?k5 ?a6 ?l6 ?c6 ?k6 ?a7 ?l7 ?c7 ?k7 ?a8 ?l8 ?c8 ?k8 ?a9 ?l9 ?c9 ?k9 ?a10 ?l10 ?c10 ?k10 ?a11 ?l11 ?c11 ?k11 ?a12 ?l12 ?c12 ?k12 ?a13 ?l13 ?c13 ?k13 ?a14 ?l14 ?c14 ?k14 ?a15 ?l15 ?c15 ?k15 ?a16 ?l16 ?c16 ?k16 ?a17 ?l17 ?c17 ?k17 ?a18 ?l18 ?c18 ?k18 ?a19 ?l19 ?c19 ?k19 ?a20 ?l20 ?c20 ?k20 ?a21 ?l21 ?c21 ?k21 ?a22 ?l22 ?c22 ?k22 ?a23 ?l23 ?c23 ?k23 ?a24 ?l24 ?c24 ?k24 ?a25 ?l25 ?c25 ?k25 ?a26 ?l26 ?c26 ?k26 ?a27 ?l27 ?c27 ?k27 ?a28 ?l28 ?c28 ?k28 ?a29 ?l29 ?c29 ?k29 ?a30 ?l30 ?c30 ?k30 ?a31 ?l31 ?c31 ?k31 ?a32 ?l32 ?c32 ?k32 ?z0 ?z1 ?z2 ?z3 ?z4 ?z5 ?z6 ?z7 ?z8 ?c_Chain ?pg_Chain ?hd_Chain ?po_Chain ?sa_Chain ?mk_Chain ?kc_Chain ?ha_Chain ?mo_Chain ?ini_Chain ?if_Chain ?li_Chain ?ci_Chain ?ki_Chain ?n_Chain_head ?n_Chain_rest ?n_Chain_outside ?c_Closure ?pg_Closure ?hd_Closure ?po_Closure ?sa_Closure ?mk_Closure ?kc_Closure ?ha_Closure ?mo_Closure ?ini_Closure ?if_Closure ?li_Closure ?ci_Closure ?ki_Closure ?n_Closure_name ?n_Closure_body ?n_Closure_known ?n_Closure_outside ?c_Known ?pg_Known ?hd_Known ?po_Known ?sa_Known ?mk_Known ?kc_Known ?ha_Known ?mo_Known ?ini_Known ?if_Known ?li_Known ?ci_Known ?ki_Known ?n_Known_name ?n_Known_value ?n_Known_others ?c_Given ?pg_Given ?hd_Given ?po_Given ?sa_Given ?mk_Given ?kc_Given ?ha_Given ?mo_Given ?ini_Given ?if_Given ?li_Given ?ci_Given ?ki_Given ?n_Given_value ?n_Given_inside ?x_get ?x_tk ?q_IC ?q_BC ?q_CC ?q_LC ?q_IL ?q_BL ?q_CL ?q_LL ?q_IG ?q_BG ?q_CG ?q_LG ?q_GG ?q_CI ?q_LI ?q_AI ?q_AB ?v_BEGIN ?v_END ?c_Stuck ?c_Tired ?e_excStuck ?e_excTired ?x_T ?kAC ?kAL ?y_str ?y_dict ?y_min
    (case a1 => k_is)
    (case l1 => k_is)
    (case c1 => k_is)
    (case k1 => k_is)
    (case a2 => k_is)
    (case l2 => k_is)
    (case c2 => k_is)
    (case k2 => k_is)
    (case a3 => k_is)
    (case l3 => k_is)
    (case c3 => k_is)
    (case k3 => k_is)
    (case a4 => k_is)
    (case l4 => k_is)
    (case c4 => k_is)
    (case k4 => k_is)
    (case a5 => k_is)
    (case l5 => k_is)
    (case c5 => k_is)
    (case k5 => k_is)
    (case a6 => k_is)
    (case l6 => k_is)
    (case c6 => k_is)
    (case k6 => k_is)
    (case a7 => k_is)
    (case l7 => k_is)
    (case c7 => k_is)
    (case k7 => k_is)
    (case a8 => k_is)
    (case l8 => k_is)
    (case c8 => k_is)
    (case k8 => k_is)
    (case a9 => k_is)
    (case l9 => k_is)
    (case c9 => k_is)
    (case k9 => k_is)
    (case a10 => k_is)
    (case l10 => k_is)
    (case c10 => k_is)
    (case k10 => k_is)
    (case a11 => k_is)
    (case l11 => k_is)
    (case c11 => k_is)
    (case k11 => k_is)
    (case a12 => k_is)
    (case l12 => k_is)
    (case c12 => k_is)
    (case k12 => k_is)
    (case a13 => k_is)
    (case l13 => k_is)
    (case c13 => k_is)
    (case k13 => k_is)
    (case a14 => k_is)
    (case l14 => k_is)
    (case c14 => k_is)
    (case k14 => k_is)
    (case a15 => k_is)
    (case l15 => k_is)
    (case c15 => k_is)
    (case k15 => k_is)
    (case a16 => k_is)
    (case l16 => k_is)
    (case c16 => k_is)
    (case k16 => k_is)
    (case a17 => k_is)
    (case l17 => k_is)
    (case c17 => k_is)
    (case k17 => k_is)
    (case a18 => k_is)
    (case l18 => k_is)
    (case c18 => k_is)
    (case k18 => k_is)
    (case a19 => k_is)
    (case l19 => k_is)
    (case c19 => k_is)
    (case k19 => k_is)
    (case a20 => k_is)
    (case l20 => k_is)
    (case c20 => k_is)
    (case k20 => k_is)
    (case a21 => k_is)
    (case l21 => k_is)
    (case c21 => k_is)
    (case k21 => k_is)
    (case a22 => k_is)
    (case l22 => k_is)
    (case c22 => k_is)
    (case k22 => k_is)
    (case a23 => k_is)
    (case l23 => k_is)
    (case c23 => k_is)
    (case k23 => k_is)
    (case a24 => k_is)
    (case l24 => k_is)
    (case c24 => k_is)
    (case k24 => k_is)
    (case a25 => k_is)
    (case l25 => k_is)
    (case c25 => k_is)
    (case k25 => k_is)
    (case a26 => k_is)
    (case l26 => k_is)
    (case c26 => k_is)
    (case k26 => k_is)
    (case a27 => k_is)
    (case l27 => k_is)
    (case c27 => k_is)
    (case k27 => k_is)
    (case a28 => k_is)
    (case l28 => k_is)
    (case c28 => k_is)
    (case k28 => k_is)
    (case a29 => k_is)
    (case l29 => k_is)
    (case c29 => k_is)
    (case k29 => k_is)
    (case a30 => k_is)
    (case l30 => k_is)
    (case c30 => k_is)
    (case k30 => k_is)
    (case a31 => k_is)
    (case l31 => k_is)
    (case c31 => k_is)
    (case k31 => k_is)
    (case a32 => k_is)
    (case l32 => k_is)
    (case c32 => k_is)
    (case k32 => k_is)
    (case z0 => k_is)
    (case z1 => k_is)
    (case z2 => k_is)
    (case z3 => k_is)
    (case z4 => k_is)
    (case z5 => k_is)
    (case z6 => k_is)
    (case z7 => k_is)
    (case z8 => k_is)
    (case c_Chain => first | k_is | rfl | kernel_rfl | decide +kernel)
    (case pg_Chain => first | k_is | rfl | kernel_rfl | decide +kernel)
    (case hd_Chain => first | k_is | rfl | kernel_rfl | decide +kernel)
    (case po_Chain => first | k_is | rfl | kernel_rfl | decide +kernel)
    (case sa_Chain => first | k_is | rfl | kernel_rfl | decide +kernel)
    (case mk_Chain => first | k_is | rfl | kernel_rfl | decide +kernel)
    (case kc_Chain => first | k_is | rfl | kernel_rfl | decide +kernel)
    (case ha_Chain => first | k_is | rfl | kernel_rfl | decide +kernel)
    (case mo_Chain => first | k_is | rfl | kernel_rfl | decide +kernel)
    (case ini_Chain => first | k_is | rfl | kernel_rfl | decide +kernel)
    (case if_Chain => first | k_is | rfl | kernel_rfl | decide +kernel)
    (case li_Chain => first | k_is | rfl | kernel_rfl | decide +kernel)
    (case ci_Chain => first | k_is | rfl | kernel_rfl | decide +kernel)
    (case ki_Chain => first | k_is | rfl | kernel_rfl | decide +kernel)
    (case n_Chain_head => first | k_is | rfl | kernel_rfl | decide +kernel)
    (case n_Chain_rest => first | k_is | rfl | kernel_rfl | decide +kernel)
    (case n_Chain_outside => first | k_is | rfl | kernel_rfl | decide +kernel)
    (case c_Closure => first | k_is | rfl | kernel_rfl | decide +kernel)
    (case pg_Closure => first | k_is | rfl | kernel_rfl | decide +kernel)
    (case hd_Closure => first | k_is | rfl | kernel_rfl | decide +kernel)
    (case po_Closure => first | k_is | rfl | kernel_rfl | decide +kernel)
    (case sa_Closure => first | k_is | rfl | kernel_rfl | decide +kernel)
    (case mk_Closure => first | k_is | rfl | kernel_rfl | decide +kernel)
    (case kc_Closure => first | k_is | rfl | kernel_rfl | decide +kernel)
    (case ha_Closure => first | k_is | rfl | kernel_rfl | decide +kernel)
    (case mo_Closure => first | k_is | rfl | kernel_rfl | decide +kernel)
    (case ini_Closure => first | k_is | rfl | kernel_rfl | decide +kernel)
    (case if_Closure => first | k_is | rfl | kernel_rfl | decide +kernel)
    (case li_Closure => first | k_is | rfl | kernel_rfl | decide +kernel)
    (case ci_Closure => first | k_is | rfl | kernel_rfl | decide +kernel)
    (case ki_Closure => first | k_is | rfl | kernel_rfl | decide +kernel)
    (case n_Closure_name => first | k_is | rfl | kernel_rfl | decide +kernel)
    (case n_Closure_body => first | k_is | rfl | kernel_rfl | decide +kernel)
    (case n_Closure_known => first | k_is | rfl | kernel_rfl | decide +kernel)
    (case n_Closure_outside => first | k_is | rfl | kernel_rfl | decide +kernel)
    (case c_Known => first | k_is | rfl | kernel_rfl | decide +kernel)
    (case pg_Known => first | k_is | rfl | kernel_rfl | decide +kernel)
    (case hd_Known => first | k_is | rfl | kernel_rfl | decide +kernel)
    (case po_Known => first | k_is | rfl | kernel_rfl | decide +kernel)
    (case sa_Known => first | k_is | rfl | kernel_rfl | decide +kernel)
    (case mk_Known => first | k_is | rfl | kernel_rfl | decide +kernel)
    (case kc_Known => first | k_is | rfl | kernel_rfl | decide +kernel)
    (case ha_Known => first | k_is | rfl | kernel_rfl | decide +kernel)
    (case mo_Known => first | k_is | rfl | kernel_rfl | decide +kernel)
    (case ini_Known => first | k_is | rfl | kernel_rfl | decide +kernel)
    (case if_Known => first | k_is | rfl | kernel_rfl | decide +kernel)
    (case li_Known => first | k_is | rfl | kernel_rfl | decide +kernel)
    (case ci_Known => first | k_is | rfl | kernel_rfl | decide +kernel)
    (case ki_Known => first | k_is | rfl | kernel_rfl | decide +kernel)
    (case n_Known_name => first | k_is | rfl | kernel_rfl | decide +kernel)
    (case n_Known_value => first | k_is | rfl | kernel_rfl | decide +kernel)
    (case n_Known_others => first | k_is | rfl | kernel_rfl | decide +kernel)
    (case c_Given => first | k_is | rfl | kernel_rfl | decide +kernel)
    (case pg_Given => first | k_is | rfl | kernel_rfl | decide +kernel)
    (case hd_Given => first | k_is | rfl | kernel_rfl | decide +kernel)
    (case po_Given => first | k_is | rfl | kernel_rfl | decide +kernel)
    (case sa_Given => first | k_is | rfl | kernel_rfl | decide +kernel)
    (case mk_Given => first | k_is | rfl | kernel_rfl | decide +kernel)
    (case kc_Given => first | k_is | rfl | kernel_rfl | decide +kernel)
    (case ha_Given => first | k_is | rfl | kernel_rfl | decide +kernel)
    (case mo_Given => first | k_is | rfl | kernel_rfl | decide +kernel)
    (case ini_Given => first | k_is | rfl | kernel_rfl | decide +kernel)
    (case if_Given => first | k_is | rfl | kernel_rfl | decide +kernel)
    (case li_Given => first | k_is | rfl | kernel_rfl | decide +kernel)
    (case ci_Given => first | k_is | rfl | kernel_rfl | decide +kernel)
    (case ki_Given => first | k_is | rfl | kernel_rfl | decide +kernel)
    (case n_Given_value => first | k_is | rfl | kernel_rfl | decide +kernel)
    (case n_Given_inside => first | k_is | rfl | kernel_rfl | decide +kernel)
    (case x_get => first | k_is | rfl | kernel_rfl | decide +kernel)
    (case x_tk => first | k_is | rfl | kernel_rfl | decide +kernel)
    (case q_IC => first | k_is | rfl | kernel_rfl | decide +kernel)
    (case q_BC => first | k_is | rfl | kernel_rfl | decide +kernel)
    (case q_CC => first | k_is | rfl | kernel_rfl | decide +kernel)
    (case q_LC => first | k_is | rfl | kernel_rfl | decide +kernel)
    (case q_IL => first | k_is | rfl | kernel_rfl | decide +kernel)
    (case q_BL => first | k_is | rfl | kernel_rfl | decide +kernel)
    (case q_CL => first | k_is | rfl | kernel_rfl | decide +kernel)
    (case q_LL => first | k_is | rfl | kernel_rfl | decide +kernel)
    (case q_IG => first | k_is | rfl | kernel_rfl | decide +kernel)
    (case q_BG => first | k_is | rfl | kernel_rfl | decide +kernel)
    (case q_CG => first | k_is | rfl | kernel_rfl | decide +kernel)
    (case q_LG => first | k_is | rfl | kernel_rfl | decide +kernel)
    (case q_GG => first | k_is | rfl | kernel_rfl | decide +kernel)
    (case q_CI => first | k_is | rfl | kernel_rfl | decide +kernel)
    (case q_LI => first | k_is | rfl | kernel_rfl | decide +kernel)
    (case q_AI => first | k_is | rfl | kernel_rfl | decide +kernel)
    (case q_AB => first | k_is | rfl | kernel_rfl | decide +kernel)
    (case v_BEGIN => first | k_is | rfl | kernel_rfl | decide +kernel)
    (case v_END => first | k_is | rfl | kernel_rfl | decide +kernel)
    (case c_Stuck => first | k_is | rfl | kernel_rfl | decide +kernel)
    (case c_Tired => first | k_is | rfl | kernel_rfl | decide +kernel)
    (case e_excStuck => first | k_is | rfl | kernel_rfl | decide +kernel)
    (case e_excTired => first | k_is | rfl | kernel_rfl | decide +kernel)
    (case x_T => first | k_is | rfl | kernel_rfl | decide +kernel)
    (case kAC => first | k_is | rfl | kernel_rfl | decide +kernel)
    (case kAL => first | k_is | rfl | kernel_rfl | decide +kernel)
    (case y_str => first | k_is | rfl | kernel_rfl | decide +kernel)
    (case y_dict => first | k_is | rfl | kernel_rfl | decide +kernel)
    (case y_min => first | k_is | rfl | kernel_rfl | decide +kernel)
