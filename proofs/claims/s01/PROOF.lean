import PyProof.Rows.All
import Wide.All
import OpenK.AllK
import Wide.FinOn
import PyProof.EqAt
import PyProof.EqKinds
import PyProof.TupleCall
import KE.BitLaws
import Open.SpecLaws
import KE.OsHead
import KE.OsGo
import PyProof.P3In
import PyFlatLaws
import PySem.Challenge.RW_renamedfiles_s01_answers
section
set_option Elab.async false
set_option linter.all false
set_option maxRecDepth 100000
namespace L2
open PySem PySem.Spec PyProof.Rows
abbrev Key := Sum Int Str
def keyIs : Key → Value → Bool
  | .inl k, v => Value.isInt k v
  | .inr x, v => Value.isStrOf x v
def keyH (w : World) : Key → Int
  | .inl k => hashInt k
  | .inr x => hashStr w x
theorem keyIs_shape : ∀ {k : Key} {v : Value}, keyIs k v = true → (∃ i t, k = Sum.inl i ∧ v = Value.int i t) ∨ (∃ x t, k = Sum.inr x ∧ v = Value.str x t)
  | .inl i, v, h => by
    obtain ⟨t, e⟩ := Value.isInt_shape (k := i) (v := v) h
    exact .inl ⟨i, t, rfl, e⟩
  | .inr x, v, h => by
    obtain ⟨t, e⟩ := Value.isStrOf_shape (x := x) (v := v) h
    exact .inr ⟨x, t, rfl, e⟩
theorem key_ll (a b : Int) : decide ((Sum.inl a : Key) = Sum.inl b) = (a == b) := by
  by_cases e : a = b
  · subst e; simp
  · have h : ¬ (Sum.inl a : Key) = Sum.inl b := fun q => e (Sum.inl.inj q)
    rw [decide_eq_false h]
    exact (beq_eq_false_iff_ne.mpr e).symm
theorem key_rr (a b : Str) : decide ((Sum.inr a : Key) = Sum.inr b) = decide (a = b) := by
  by_cases e : a = b
  · subst e; simp
  · have h : ¬ (Sum.inr a : Key) = Sum.inr b := fun q => e (Sum.inr.inj q)
    rw [decide_eq_false h, decide_eq_false e]
theorem key_lr (a : Int) (b : Str) : decide ((Sum.inl a : Key) = Sum.inr b) = false := decide_eq_false (fun q => nomatch q)
theorem key_rl (a : Str) (b : Int) : decide ((Sum.inr a : Key) = Sum.inl b) = false := decide_eq_false (fun q => nomatch q)
def mixKind (prog : Program) (w : World) : PySem.KeyKind prog w Key where
  is := keyIs
  hash := keyH w
  inj := fun v a b ha hb => by
    rcases keyIs_shape ha with ⟨i, t, rfl, rfl⟩ | ⟨x, t, rfl, rfl⟩
    · rcases keyIs_shape hb with ⟨j, u, rfl, e⟩ | ⟨y, u, rfl, e⟩
      · injection e with e1 _; rw [e1]
      · exact nomatch e
    · rcases keyIs_shape hb with ⟨j, u, rfl, e⟩ | ⟨y, u, rfl, e⟩
      · exact nomatch e
      · injection e with e1 _; rw [e1]
  byValue := fun k v h => by
    rcases keyIs_shape h with ⟨i, t, rfl, rfl⟩ | ⟨x, t, rfl, rfl⟩ <;> rfl
  pyHash := fun hv h => by
    rcases keyIs_shape hv with ⟨i, t, rfl, rfl⟩ | ⟨x, t, rfl, rfl⟩
    · exact wpAny_pyHash_int h
    · exact wpAny_pyHash_str h
  eqBool := fun hu hv h => by
    rcases keyIs_shape hu with ⟨i, t, rfl, rfl⟩ | ⟨x, t, rfl, rfl⟩
    · rcases keyIs_shape hv with ⟨j, u, rfl, rfl⟩ | ⟨y, u, rfl, rfl⟩
      · rw [key_ll] at h; exact wpAny_eqBool_int h
      · rw [key_lr] at h; exact SeqAt.EqAt.int_str i t y u _ _ _ _ h
    · rcases keyIs_shape hv with ⟨j, u, rfl, rfl⟩ | ⟨y, u, rfl, rfl⟩
      · rw [key_rl] at h; exact SeqAt.EqAt.str_int x t j u _ _ _ _ h
      · rw [key_rr] at h; exact wpAny_eqBool_str h
  «strs» := fun k x t v h => by
    rcases keyIs_shape h with ⟨i, u, rfl, e⟩ | ⟨y, u, rfl, e⟩
    · exact nomatch e
    · injection e with e1 _
      subst e1
      cases v <;> rfl
end L2
namespace L2
open PySem PySem.Spec PyProof.Rows
inductive V where
  | non | bl (b : Bool) | int (i : Int) | str (x : Str) | byt (b : Array UInt8) | flt (b : UInt64) | ref (a : Addr) | ty (n : String)
  deriving DecidableEq
def RelV : V → Value → Prop
  | .non, u => u = Value.none
  | .bl b, u => u = Value.bool b
  | .int i, u => ∃ t, u = Value.int i t
  | .str x, u => ∃ t, u = Value.str x t
  | .byt b, u => ∃ t, u = Value.bytes b t
  | .flt b, u => ∃ t, u = Value.float b t
  | .ref a, u => u = Value.ref a
  | .ty n, u => u = Value.type n
abbrev Vals : List V → List Value → Prop := Paired RelV
theorem Vals.length {xs : List V} {us : List Value} (r : Vals xs us) : xs.length = us.length := Paired.length r
theorem Vals.get : ∀ {xs : List V} {us : List Value} {i : Nat} {x : V}, Vals xs us → xs[i]? = some x → ∃ u, us[i]? = some u ∧ RelV x u
  | _, _, _, _, .nil, e => by simp at e
  | _, _, 0, _, .cons r _, e => by simp at e; subst e; exact ⟨_, rfl, r⟩
  | _, _, i + 1, x, .cons _ t, e => by
    obtain ⟨u, h1, h2⟩ := Vals.get (i := i) (x := x) t (by simpa using e)
    exact ⟨u, by simpa using h1, h2⟩
theorem Vals.set {x : V} {u : Value} (r : RelV x u) : ∀ {xs : List V} {us : List Value} (i : Nat), Vals xs us → Vals (xs.set i x) (us.set i u)
  | _, _, _, .nil => .nil
  | _, _, 0, .cons _ t => .cons r t
  | _, _, i + 1, .cons q t => .cons q (Vals.set r i t)
theorem Vals.append : ∀ {xs ys : List V} {us ws : List Value}, Vals xs us → Vals ys ws → Vals (xs ++ ys) (us ++ ws)
  | _, _, _, _, .nil, s => s
  | _, _, _, _, .cons r t, s => .cons r (Vals.append t s)
theorem Vals.take : ∀ {xs : List V} {us : List Value} (n : Nat), Vals xs us → Vals (xs.take n) (us.take n)
  | _, _, 0, _ => .nil
  | _, _, _ + 1, .nil => .nil
  | _, _, n + 1, .cons r t => .cons r (Vals.take n t)
theorem Vals.drop : ∀ {xs : List V} {us : List Value} (n : Nat), Vals xs us → Vals (xs.drop n) (us.drop n)
  | _, _, 0, r => r
  | _, _, _ + 1, .nil => .nil
  | _, _, n + 1, .cons _ t => Vals.drop n t
def RelO : Option V → Option Value → Prop
  | some v, some u => RelV v u
  | none, none => True
  | _, _ => False
def KV {κ : Type} : List (κ × V) → List (κ × Value) → Prop := Paired fun (p : κ × V) (q : κ × Value) => p.1 = q.1 ∧ RelV p.2 q.2
def kV : Key → V
  | .inl i => .int i
  | .inr x => .str x
inductive HO where
  /-- a list -/
  | lst (xs : List V)
  /-- a tuple (never changes) -/
  | tup (xs : List V)
  /-- a dict whose keys are ints and texts; one whose keys are tuples of ints and texts (the empty one is both) -/
  | dK (kvs : List (Key × V)) | dT (kvs : List (List Key × V))
  /-- a set of ints: its members, its size -/
  | set (S : Int → Bool) (n : Nat)
  /-- an instance of the class at C, its dict at dx, its attributes -/
  | ins (C dx : Addr) (fs : List (Str × V))
  /-- the dict of the instance at x -/
  | own (x : Addr)
  /-- the dict of an exception -/
  | xd (fs : List (Str × V))
  /-- a bound method, f of x -/
  | met (f x : Addr)
  /-- a range object lo, lo + 1, .. below hi -/
  | rng (lo hi : Int)
  /-- a thing that is known to the object (the script; a dict while a loop walks it): read, never written while it is so -/
  | frz (o : Obj) (u : HO)
  /-- a code object's table -/
  | tbl (ps : Array Value)
  /-- any other thing, by what is true of its one object (a def of one's own: SetO a S n := HO.ext fun h => ..) -/
  | ext (φ : Heap → Prop)
abbrev Hp := Addr → Option HO
def upd (H : Hp) (a : Addr) (o : HO) : Hp := fun b => if b = a then some o else H b
theorem upd_same {H : Hp} {a : Addr} {o : HO} : upd H a o a = some o := by unfold upd; rw [if_pos rfl]
theorem upd_ne {H : Hp} {a b : Addr} {o : HO} (h : b ≠ a) : upd H a o b = H b := by unfold upd; rw [if_neg h]
theorem upd_upd {H : Hp} {a : Addr} {o u : HO} : upd (upd H a o) a u = upd H a u := by
  funext b; unfold upd; split <;> rfl
theorem ne_of {H : Hp} {a b : Addr} {o u : HO} (h : H a = some o) (h' : H b = some u) (d : o ≠ u) : a ≠ b := by
  intro e; subst e; rw [h] at h'; exact d (Option.some.inj h')
theorem ne_of_none {H : Hp} {a b : Addr} {o : HO} (h : H a = some o) (h' : H b = none) : a ≠ b := by
  intro e; subst e; rw [h] at h'; cases h'
section
variable (P : Program) (w : World)
def ObjOk (H : Hp) (h : Heap) (a : Addr) : HO → Prop
  | .lst xs => xs.length ≤ sizeLine ∧ ∃ (its : List Value) (n : Nat), Vals xs its ∧ h.get? a = some { cls := .type "list", data := .seq its.toArray n }
  | .tup xs => xs.length ≤ sizeLine ∧ ∃ its : List Value, Vals xs its ∧ IsTup h a its.toArray
  | .dK kvs => kvs.length ≤ sizeLine ∧ (a == sysModules) = false ∧ ∃ vs, KV kvs vs ∧ h.DictOf (mixKind P w) a vs
  | .dT kvs => kvs.length ≤ sizeLine ∧ (a == sysModules) = false ∧ ∃ xs : List (List Key × Addr × Value),
      Paired (fun (p : List Key × V) (q : List Key × Addr × Value) => p.1 = q.1 ∧ H q.2.1 = some (.tup (p.1.map kV)) ∧ RelV p.2 q.2.2) kvs xs ∧
      ∃ o es ep, h.get? a = some o ∧ o.ExactDict ∧ o.data = .dict es ep ∧ es.toList = xs.map (entryOfKey (tupleKind (mixKind P w))) ∧ (xs.map (·.1)).Nodup
  | .set S n => h.SetOf (intKind P w) a S n
  | .ins C dx fs => H dx = some (.own a) ∧ fs.length ≤ 1000 ∧ dx ≠ a ∧ h.get? a = some (PySem.W.instObj C dx) ∧
      ∃ mA, h.Ns1 dx mA ∧ (∀ f, RelO (fs.lookup f) (mA f)) ∧ PySem.Within mA (fs.map (·.1))
  | .own _ => ∃ o, h.get? a = some o
  | .xd fs => ∃ mA, h.Ns1 a mA ∧ ∀ f, RelO (fs.lookup f) (mA f)
  | .rng lo hi => ∃ t u v, h.get? a = some { cls := .type "range", data := .fields #[.int lo t, .int hi u, .int 1 v] }
  | .frz o u => h.get? a = some o ∧ ObjOk H h a u
  | .tbl ps => h.get? a = some { cls := .none, data := .fields ps }
  | .met f x => h.get? a = some (PySem.W.methodObj (.ref f) (.ref x))
  | .ext φ => φ h ∧ (∃ o, h.get? a = some o) ∧ ∀ h1 h2 : Heap, φ h1 → (∀ o, h1.get? a = some o → h2.get? a = some o) → φ h2
def HOk (H : Hp) (h : Heap) : Prop := ∀ a o, H a = some o → ObjOk P w H h a o
end
section
variable {P : Program} {w : World} {H H' : Hp} {h h' : Heap} {a : Addr} {o : HO}
theorem ObjOk.lt (x : ObjOk P w H h a o) : a < h.objs.size := by
  cases o with
  | lst xs => obtain ⟨_, _, _, _, e⟩ := x; exact Heap.lt_size e
  | tup xs => obtain ⟨_, _, _, p⟩ := x; exact p.lt
  | dK kvs => obtain ⟨_, _, _, _, o, _, _, e, _⟩ := x; exact Heap.lt_size e
  | dT kvs => obtain ⟨_, _, _, _, o, _, _, e, _⟩ := x; exact Heap.lt_size e
  | set S n => obtain ⟨o, _, _, _, e, _⟩ := x; exact Heap.lt_size e
  | ins C dx fs => obtain ⟨_, _, _, e, _⟩ := x; exact Heap.lt_size e
  | own y => obtain ⟨_, e⟩ := x; exact Heap.lt_size e
  | xd fs => obtain ⟨_, ⟨_, _, _, e, _⟩, _⟩ := x; exact Heap.lt_size e
  | rng lo hi => obtain ⟨_, _, _, e⟩ := x; exact Heap.lt_size e
  | frz ob u => obtain ⟨e, _⟩ := x; exact Heap.lt_size e
  | tbl ps => exact Heap.lt_size (show h.get? a = some _ from x)
  | met f y => exact Heap.lt_size (show h.get? a = some _ from x)
  | ext φ => obtain ⟨_, ⟨_, e⟩, _⟩ := x; exact Heap.lt_size e
theorem Paired.mapP {α β : Type} {F G : α → β → Prop} : ∀ {l₁ : List α} {l₂ : List β}, Paired F l₁ l₂ → (∀ a b, F a b → G a b) → Paired G l₁ l₂
  | _, _, .nil, _ => .nil
  | _, _, .cons r t, f => .cons (f _ _ r) (Paired.mapP t f)
theorem ObjOk.stay (x : ObjOk P w H h a o) (k : ∀ b u, (b = a ∨ H b = some (.own a)) → h.get? b = some u → h'.get? b = some u)
    (ho : ∀ b, H b = some (.own a) → H' b = some (.own a)) (ht : ∀ b xs, H b = some (.tup xs) → H' b = some (.tup xs)) : ObjOk P w H' h' a o := by
  induction o with
  | lst xs => obtain ⟨z, its, n, r, e⟩ := x; exact ⟨z, its, n, r, k _ _ (.inl rfl) e⟩
  | tup xs => obtain ⟨z, its, r, ob, e, c⟩ := x; exact ⟨z, its, r, ob, k _ _ (.inl rfl) e, c⟩
  | dK kvs => obtain ⟨z, y, vs, r, ob, es, ep, e, c⟩ := x; exact ⟨z, y, vs, r, ob, es, ep, k _ _ (.inl rfl) e, c⟩
  | dT kvs =>
    obtain ⟨z, y, xs, r, ob, es, ep, e, c⟩ := x
    exact ⟨z, y, xs, Paired.mapP r fun p q z => ⟨z.1, ht _ _ z.2.1, z.2.2⟩, ob, es, ep, k _ _ (.inl rfl) e, c⟩
  | set S n => obtain ⟨ob, es, ep, t, e, c⟩ := x; exact ⟨ob, es, ep, t, k _ _ (.inl rfl) e, c⟩
  | ins C dx fs =>
    obtain ⟨d, z, ne, e, mA, ⟨od, es, ep, e2, c⟩, r⟩ := x
    exact ⟨ho _ d, z, ne, k _ _ (.inl rfl) e, mA, ⟨od, es, ep, k _ _ (.inr d) e2, c⟩, r⟩
  | own y => obtain ⟨ob, e⟩ := x; exact ⟨ob, k _ _ (.inl rfl) e⟩
  | xd fs => obtain ⟨mA, ⟨od, es, ep, e, c⟩, r⟩ := x; exact ⟨mA, ⟨od, es, ep, k _ _ (.inl rfl) e, c⟩, r⟩
  | rng lo hi => obtain ⟨t, u, v, e⟩ := x; exact ⟨t, u, v, k _ _ (.inl rfl) e⟩
  | frz ob u ih => obtain ⟨e, q⟩ := x; exact ⟨k _ _ (.inl rfl) e, ih q⟩
  | tbl ps =>
    have e : h.get? a = some { cls := .none, data := .fields ps } := x
    show h'.get? a = some { cls := .none, data := .fields ps }
    exact k a _ (.inl rfl) e
  | met f y =>
    have e : h.get? a = some (PySem.W.methodObj (.ref f) (.ref y)) := x
    show h'.get? a = some (PySem.W.methodObj (.ref f) (.ref y))
    exact k a _ (.inl rfl) e
  | ext φ => obtain ⟨p, ⟨o, e⟩, st⟩ := x; exact ⟨st _ _ p fun o q => k _ _ (.inl rfl) q, ⟨o, k _ _ (.inl rfl) e⟩, st⟩
theorem HOk.lt (x : HOk P w H h) (e : H a = some o) : a < h.objs.size := (x a o e).lt
theorem HOk.fresh (x : HOk P w H h) (e : h.objs.size ≤ a) : H a = none := by
  cases q : H a with
  | none => rfl
  | some u => exact absurd (Nat.lt_of_lt_of_le (x.lt q) e) (Nat.lt_irrefl _)
theorem HOk.kept (x : HOk P w H h) (k : ∀ b u, h.get? b = some u → h'.get? b = some u) : HOk P w H h' := fun a o e =>
  (x a o e).stay (fun b u _ q => k b u q) (fun _ q => q) fun _ _ q => q
theorem HOk.laid (x : HOk P w H h) (k : ∀ b u, h.get? b = some u → h'.get? b = some u) (hp : h.objs.size ≤ a) (new : ObjOk P w (upd H a o) h' a o) : HOk P w (upd H a o) h' := fun b u e => by
  have hn := x.fresh hp
  by_cases hb : b = a
  · subst hb; rw [upd_same] at e; cases e; exact new
  · rw [upd_ne hb] at e
    exact (x b u e).stay (fun c v _ q => k c v q) (fun c q => by rw [upd_ne (ne_of_none q hn)]; exact q) fun c xs q => by rw [upd_ne (ne_of_none q hn)]; exact q
end
def Rd (H : Hp) (a : Addr) (u : HO) : Prop := H a = some u ∨ ∃ o, H a = some (.frz o u)
theorem Rd.ok {P : Program} {w : World} {H : Hp} {h : Heap} {a : Addr} {u : HO} (r : Rd H a u) (x : HOk P w H h) : ObjOk P w H h a u := by
  rcases r with r | ⟨o, r⟩
  · exact x a u r
  · obtain ⟨_, q⟩ := x a _ r
    exact q
def Mut : Option HO → Prop
  | some (.lst _) => True
  | some (.dK _) => True
  | some (.dT _) => True
  | some (.set _ _) => True
  | some (.ins _ _ _) => True
  | some (.ext _) => True
  | _ => False
section
variable {P : Program} {w : World} {H : Hp} {h h' : Heap} {x e : Addr} {o' : HO}
theorem HOk.write (ok : HOk P w H h) (mu : Mut (H x)) (he : e = x ∨ H e = some (.own x)) (k : ∀ b u, b ≠ e → h.get? b = some u → h'.get? b = some u) (heo : ∃ u, h'.get? e = some u)
    (new : ObjOk P w (upd H x o') h' x o') : HOk P w (upd H x o') h' := fun b u q => by
  have nown : ∀ c y, H c = some (.own y) → c ≠ x := fun c y r z => by subst z; rw [r] at mu; exact mu
  have ntup : ∀ c xs, H c = some (.tup xs) → c ≠ x := fun c xs r z => by subst z; rw [r] at mu; exact mu
  by_cases hb : b = x
  · subst hb; rw [upd_same] at q; cases q; exact new
  · rw [upd_ne hb] at q
    by_cases hbe : b = e
    · have q' : H b = some (.own x) := by
        rcases he with z | z
        · exact absurd (hbe.trans z) hb
        · rw [hbe]; exact z
      rw [q] at q'; cases q'
      obtain ⟨v, hv⟩ := heo
      exact ⟨v, by rw [hbe]; exact hv⟩
    · refine (ok b u q).stay (fun c v hc r => k c v ?_ r) (fun c r => by rw [upd_ne (nown c b r)]; exact r) fun c xs r => by rw [upd_ne (ntup c xs r)]; exact r
      rcases hc with rfl | hc
      · exact hbe
      · rintro rfl
        rcases he with z | z
        · exact nown c b hc z
        · rw [hc] at z; cases z; exact hb rfl
end
structure Un (fs ex : List Addr) (H H' : Hp) (h h' : Heap) : Prop where
  keep : ∀ b o, h.get? b = some o → H b = none → b ∉ fs → b ∉ ex → h'.get? b = some o
  slot : ∀ b o, h.get? b = some o → H b = none → b ∈ fs → b ∉ ex → ∃ sl, h'.get? b = some { o with slots := sl }
  free : ∀ b o, h.get? b = some o → H b = none → b ∉ ex → H' b = none
  there : ∀ b o, h.get? b = some o → b ∉ ex → ∃ o', h'.get? b = some o'
  tups : ∀ b xs, H b = some (.tup xs) → H' b = some (.tup xs)
  frzs : ∀ b o u, H b = some (.frz o u) → H' b = some (.frz o u)
  tbls : ∀ b ps, H b = some (.tbl ps) → ∃ more, H' b = some (.tbl (ps ++ more))
section
variable {fs fs' ex ex' : List Addr} {H H1 H2 : Hp} {h h1 h2 h' : Heap} {a x e : Addr} {o : HO}
theorem Un.any (u : Un fs ex H H1 h h1) {b : Addr} {ob : Obj} (q : h.get? b = some ob) (n : H b = none) (hx : b ∉ ex) : ∃ sl, h1.get? b = some { ob with slots := sl } := by
  by_cases hb : b ∈ fs
  · exact u.slot b ob q n hb hx
  · exact ⟨ob.slots, u.keep b ob q n hb hx⟩
theorem Un.kept (k : ∀ b u, h.get? b = some u → h'.get? b = some u) : Un fs ex H H h h' :=
  ⟨fun b ob q _ _ _ => k b ob q, fun b ob q _ _ _ => ⟨ob.slots, k b ob q⟩, fun _ _ _ n _ => n, fun b ob q _ => ⟨ob, k b ob q⟩, fun _ _ q => q, fun _ _ _ q => q, fun _ ps q => ⟨#[], by rw [q]; simp⟩⟩
theorem Un.refl : Un fs ex H H h h := Un.kept fun _ _ q => q
theorem Un.laid (k : ∀ b u, h.get? b = some u → h'.get? b = some u) (hp : h.objs.size ≤ a) (hn : H a = none) : Un fs ex H (upd H a o) h h' where
  keep := fun b u q _ _ _ => k b u q
  slot := fun b u q _ _ _ => ⟨u.slots, k b u q⟩
  free := fun b u q n _ => by rw [upd_ne (Nat.ne_of_lt (Nat.lt_of_lt_of_le (Heap.lt_size q) hp))]; exact n
  there := fun b u q _ => ⟨u, k b u q⟩
  tups := fun b xs q => by rw [upd_ne (ne_of_none q hn)]; exact q
  frzs := fun b u xs q => by rw [upd_ne (ne_of_none q hn)]; exact q
  tbls := fun b ps q => ⟨#[], by rw [upd_ne (ne_of_none q hn), q]; simp⟩
theorem Un.write (mu : Mut (H x)) (he : e = x ∨ H e = some (.own x)) (k : ∀ b u, b ≠ e → h.get? b = some u → h'.get? b = some u) (heo : ∃ u, h'.get? e = some u) : Un fs ex H (upd H x o) h h' := by
  have hx : ∀ b, H b = none → b ≠ x := fun b n z => by subst z; rw [n] at mu; exact mu
  have hb : ∀ b, H b = none → b ≠ e := fun b n z => by
    subst z
    rcases he with r | r
    · exact hx b n r
    · rw [n] at r; cases r
  have hm : ∀ b u, H b = some u → ¬ Mut (some u) → b ≠ x := fun b u q nm z => by subst z; rw [q] at mu; exact nm mu
  refine ⟨fun b u q n _ _ => k b u (hb b n) q, fun b u q n _ _ => ⟨u.slots, k b u (hb b n) q⟩, fun b u q n _ => by rw [upd_ne (hx b n)]; exact n, fun b u q _ => ?_,
    fun b xs q => by rw [upd_ne (hm b _ q fun z => z)]; exact q, fun b u xs q => by rw [upd_ne (hm b _ q fun z => z)]; exact q, fun b ps q => ⟨#[], by rw [upd_ne (hm b _ q fun z => z), q]; simp⟩⟩
  by_cases hbe : b = e
  · subst hbe; exact heo
  · exact ⟨u, k b u hbe q⟩
end
def trk (h : Heap) (H : Hp) : List Addr := (List.range h.objs.size).filter fun a => (H a).isSome
def hidT (h : Heap) (H : Hp) : Heap := PySem.W.hideAll h (trk h H)
theorem hidT_size (h : Heap) (H : Hp) : (hidT h H).objs.size = h.objs.size := PySem.W.hideAll_size _ _
theorem hidT_get {h : Heap} {H : Hp} {b : Addr} {o : Obj} (e : h.get? b = some o) (n : H b = none) : (hidT h H).get? b = some o :=
  PySem.W.hideAll_get _ e fun hm => by
    have q : (H b).isSome = true := (List.mem_filter.mp hm).2
    rw [n] at q; simp at q
theorem of_hidT {h : Heap} {H : Hp} {b : Addr} {o : Obj} (e : (hidT h H).get? b = some o) : h.get? b = some o ∧ H b = none := by
  have e' : h.get? b = some o := PySem.W.of_hideAll (trk h H) e
  refine ⟨e', ?_⟩
  cases q : H b with
  | none => rfl
  | some x =>
    have hm : b ∈ trk h H := List.mem_filter.mpr ⟨List.mem_range.mpr (Heap.lt_size e'), by simp [q]⟩
    have z : (hidT h H).get? b = none := PySem.W.hideAll_none (trk h H) hm
    rw [z] at e; cases e
end L2
namespace L2
open PySem PySem.Spec PyProof.Rows
structure Mod (K : PySem.W.Frag) (mg : Str → Option Value) (base : Heap) : Prop where
  kin : K.In base
  glob : base.Ns mainGlobals mg
  blt : ∃ mb, base.Ns builtinsNs mb ∧ ∀ x : Str, x ≠ "__name__" → mb x = bootBuiltins x
  nolimit : base.NoLimit
structure Cx where
  prog : Program
  w : World
  K : PySem.W.Frag
  mg : Str → Option Value
  base : Heap
  A : Around
  N : List Str
  s_0 : Shared
  H_0 : Hp
  env : Env
  outer : List Env
  stack : List Env
  ex : List Addr
  fn : Str → Bool
  calm : Bool
  pn : List (Addr × Obj)
  xe : Value → Shared → Prop
def frs (l : List Env) : List Addr := l.filterMap (·.frame)
abbrev Cx.fs (X : Cx) : List Addr := frs X.outer
def Vis (sc : Scope) (x : Str) : Prop := sc.names.lookup x = some .local ∨ sc.names.lookup x = some .cell ∨ sc.names.lookup x = some .free
def Loc (sc : Scope) (x : Str) : Prop := sc.names.lookup x = some .local ∨ sc.names.lookup x = some .cell
def Look (env : Env) (h : Heap) (m : Str → Option Value) (x : Str) (u : Value) : Prop :=
  (env.kindOf x = some .local ∧ m x = some u) ∨ ((env.kindOf x = some .cell ∨ env.kindOf x = some .free) ∧ ∃ c, env.cells.lookup x = some c ∧ h.IsCell c (some u))
structure Cx.Ok (X : Cx) : Prop where
  mod : Mod X.K X.mg X.base
  kind : X.env.scope.kind = .function
  glob : X.env.globals = mainGlobals
  blt : X.env.builtins = builtinsNs
  above : X.s_0.heap.objs.size ≤ X.env.locals
  inj : ∀ x y c, X.env.cells.lookup x = some c → X.env.cells.lookup y = some c → x = y
  has : ∀ x, (X.env.kindOf x = some .cell ∨ X.env.kindOf x = some .free) → ∃ c, X.env.cells.lookup x = some c
  cab : ∀ x c, X.fn x = true → X.env.cells.lookup x = some c → X.s_0.heap.objs.size ≤ c
  hd : X.calm = true → X.A.handled = none
  frames : X.A.frames = some X.stack
  stk : X.stack = X.outer ∨ (X.stack = X.env :: X.outer ∧ X.env.frame = some X.env.locals)
  exf : ∀ b ∈ X.ex, b ≠ X.env.locals ∧ ∀ x c, X.env.cells.lookup x = some c → c ≠ b
  bs : ∀ b o, X.base.get? b = some o → X.s_0.heap.get? b = some o ∧ X.H_0 b = none
  bsz : X.base.objs.size ≤ X.s_0.heap.objs.size
  noex : ∀ b o, X.base.get? b = some o → b ∉ X.ex
  exfs : ∀ b ∈ X.ex, b ∉ X.fs
  funs : X.s_0.heap.FunFrames X.base X.outer
  frf : ∀ b ∈ X.fs, X.H_0 b = none
structure Inv (X : Cx) (pins : List (Addr × Obj)) (σ : List (Option V)) (H : Hp) (s : Shared) : Prop where
  ok : X.Ok
  os : s.os = X.s_0.os
  bare : AllBare s.gens
  base : Un X.fs X.ex X.H_0 H X.s_0.heap s.heap
  loc : ∃ m, s.heap.Ns X.env.locals m ∧ ∀ (i : Nat) (x : Str) (v : V), X.N[i]? = some x → σ[i]? = some (some v) → Vis X.env.scope x → ∃ u, RelV v u ∧ Look X.env s.heap m x u
  cell : ∀ x c, X.env.cells.lookup x = some c → ∃ v, s.heap.IsCell c v
  free : H X.env.locals = none
  freeC : ∀ x c, X.env.cells.lookup x = some c → H c = none
  pin : ∀ p ∈ X.pn ++ pins, s.heap.get? p.1 = some p.2 ∧ H p.1 = none ∧ p.1 ≠ X.env.locals ∧ p.1 ∉ X.fs ∧ ∀ v, p.2.data ≠ .cell v
  hok : HOk X.prog X.w H s.heap
  len : σ.length = X.N.length
section
variable {X : Cx} {pins : List (Addr × Obj)} {σ : List (Option V)} {H H' : Hp} {s : Shared} {h' : Heap}
theorem Cx.Ok.nofr (ok : X.Ok) {b : Addr} {o : Obj} (e : X.base.get? b = some o) : b ∉ X.fs := fun hb => by
  have := (ok.funs.mem hb).1
  rw [e] at this; cases this
theorem Inv.bs (I : Inv X pins σ H s) : ∀ b o, X.base.get? b = some o → s.heap.get? b = some o ∧ H b = none := fun b o e =>
  ⟨I.base.keep b o (I.ok.bs b o e).1 (I.ok.bs b o e).2 (I.ok.nofr e) (I.ok.noex b o e), I.base.free b o (I.ok.bs b o e).1 (I.ok.bs b o e).2 (I.ok.noex b o e)⟩
theorem Inv.bk (I : Inv X pins σ H s) : ∀ b o, X.base.get? b = some o → s.heap.get? b = some o := fun b o e => (I.bs b o e).1
theorem Inv.mod (I : Inv X pins σ H s) : Mod X.K X.mg X.base := I.ok.mod
theorem Inv.kIn (I : Inv X pins σ H s) : X.K.In s.heap := I.ok.mod.kin.keeps I.bk
theorem Inv.lt (I : Inv X pins σ H s) : X.env.locals < s.heap.objs.size := let ⟨_, hn, _⟩ := I.loc; hn.lt
theorem Inv.sz (I : Inv X pins σ H s) : X.s_0.heap.objs.size ≤ s.heap.objs.size := Nat.le_trans I.ok.above (Nat.le_of_lt I.lt)
theorem Inv.nofs (I : Inv X pins σ H s) {a : Addr} (h : s.heap.objs.size ≤ a) : a ∉ X.fs := fun hb => by
  obtain ⟨_, o, ho, _⟩ := I.ok.funs.mem hb
  exact absurd (Nat.lt_of_lt_of_le (Heap.lt_size ho) (Nat.le_trans I.sz h)) (Nat.lt_irrefl _)
theorem Inv.cne (I : Inv X pins σ H s) : ∀ x c, X.env.cells.lookup x = some c → c ≠ X.env.locals := fun x c e z => by
  obtain ⟨v, o, ho, hd⟩ := I.cell x c e
  obtain ⟨m, ⟨o', es, ep, ho', hd', _⟩, _⟩ := I.loc
  rw [z, ho'] at ho; cases ho; rw [hd'] at hd; cases hd
theorem Inv.funs (I : Inv X pins σ H s) : s.heap.FunFrames X.base X.outer := by
  have all : ∀ (l : List Env), (∀ b ∈ frs l, b ∈ X.fs) → X.s_0.heap.FunFrames X.base l → s.heap.FunFrames X.base l := by
    intro l
    induction l with
    | nil => intro _ _; trivial
    | cons env r ih =>
      intro hs hl
      obtain ⟨hk, ⟨L, o, hf, hn, ho, hd⟩, hr⟩ := hl
      have hL : L ∈ X.fs := hs L (by unfold frs; rw [List.filterMap_cons, hf]; exact List.mem_cons_self)
      obtain ⟨sl, e⟩ := I.base.slot L o ho (I.ok.frf L hL) hL fun z => I.ok.exfs L z hL
      exact ⟨hk, ⟨L, _, hf, hn, e, hd⟩, ih (fun b hb => hs b (by unfold frs; rw [List.filterMap_cons, hf]; exact List.mem_cons_of_mem _ hb)) hr⟩
  exact all X.outer (fun _ hb => hb) I.ok.funs
theorem Inv.stack (I : Inv X pins σ H s) : s.heap.FunFrames X.base X.stack := by
  rcases I.ok.stk with e | ⟨e, hf⟩
  · rw [e]; exact I.funs
  · rw [e]
    obtain ⟨m, hn, _⟩ := I.loc
    refine .cons (by rw [I.ok.kind]; decide) hf hn ?_ I.funs
    exact Heap.get?_none_of_le (Nat.le_trans I.ok.bsz I.ok.above)
theorem Inv.stkSub (I : Inv X pins σ H s) : ∀ b ∈ frs X.stack, b ∈ X.env.locals :: X.fs := fun b hb => by
  rcases I.ok.stk with e | ⟨e, hf⟩
  · rw [e] at hb; exact List.mem_cons_of_mem _ hb
  · rw [e] at hb
    unfold frs at hb
    rw [List.filterMap_cons, hf] at hb
    exact hb
theorem Inv.stkFree (I : Inv X pins σ H s) : ∀ b ∈ frs X.stack, H b = none := fun b hb => by
  rcases List.mem_cons.mp (I.stkSub b hb) with e | hb
  · rw [e]; exact I.free
  · obtain ⟨_, o, ho, _⟩ := I.ok.funs.mem hb
    exact I.base.free b o ho (I.ok.frf b hb) fun z => I.ok.exfs b z hb
theorem Inv.step {g' : Array GenState} {t' : Nat} {d' : Drawn} {ch : List Addr} (I : Inv X pins σ H s)
    (hch : ∀ b ∈ ch, (b ∈ X.ex ∨ X.s_0.heap.objs.size ≤ b) ∧ b ≠ X.env.locals ∧ (∀ x c, X.env.cells.lookup x = some c → c ≠ b) ∧ ∀ p ∈ X.pn ++ pins, p.1 ≠ b)
    (keep : ∀ b o, b ≠ X.env.locals → b ∉ X.fs → b ∉ ch → s.heap.get? b = some o → H b = none → h'.get? b = some o)
    (slot : ∀ b o, b ≠ X.env.locals → b ∈ X.fs → b ∉ ch → s.heap.get? b = some o → H b = none → ∃ sl, h'.get? b = some { o with slots := sl }) (free : ∀ b o, b ∉ ch → s.heap.get? b = some o → H b = none → H' b = none)
    (there : ∀ b o, b ∉ ch → s.heap.get? b = some o → ∃ o', h'.get? b = some o')
    (tups : ∀ b xs, H b = some (.tup xs) → H' b = some (.tup xs)) (frzs : ∀ b o u, H b = some (.frz o u) → H' b = some (.frz o u)) (tbls : ∀ b ps, H b = some (.tbl ps) → ∃ more, H' b = some (.tbl (ps ++ more)))
    (ns : ∀ m, s.heap.Ns X.env.locals m → h'.Ns X.env.locals m) (hok : HOk X.prog X.w H' h') (hg : AllBare g') :
    Inv X pins σ H' { s with heap := h', gens := g', drawn := d', toks := t' } := by
  have neL : ∀ b o, X.s_0.heap.get? b = some o → b ≠ X.env.locals := fun b o e => Nat.ne_of_lt (Nat.lt_of_lt_of_le (Heap.lt_size e) I.ok.above)
  have neC : ∀ b o, X.s_0.heap.get? b = some o → b ∉ X.ex → b ∉ ch := fun b o e hx hb => by
    rcases (hch b hb).1 with z | z
    · exact hx z
    · exact absurd (Nat.lt_of_lt_of_le (Heap.lt_size e) z) (Nat.lt_irrefl _)
  have cellK : ∀ x c, X.env.cells.lookup x = some c → ∀ v, s.heap.IsCell c v → h'.IsCell c v := fun x c e v ⟨o, ho, hd⟩ => by
    have nch : c ∉ ch := fun z => (hch c z).2.2.1 x c e rfl
    by_cases hc : c ∈ X.fs
    · obtain ⟨sl, q⟩ := slot c o (I.cne x c e) hc nch ho (I.freeC x c e)
      exact ⟨_, q, hd⟩
    · exact ⟨o, keep c o (I.cne x c e) hc nch ho (I.freeC x c e), hd⟩
  refine ⟨I.ok, I.os, hg, ⟨fun b o e n hb hx => ?_, fun b o e n hb hx => ?_, fun b o e n hx => ?_, fun b o e hx => ?_, fun b xs e => tups b xs (I.base.tups b xs e), fun b o xs e => frzs b o xs (I.base.frzs b o xs e), fun b ps e => ?_⟩, ?_, fun x c e => ?_, ?_, fun x c e => ?_, fun p hp => ?_, hok, I.len⟩
  · exact keep b o (neL b o e) hb (neC b o e hx) (I.base.keep b o e n hb hx) (I.base.free b o e n hx)
  · obtain ⟨sl, e1⟩ := I.base.slot b o e n hb hx
    obtain ⟨sl', e2⟩ := slot b _ (neL b o e) hb (neC b o e hx) e1 (I.base.free b o e n hx)
    exact ⟨sl', e2⟩
  · obtain ⟨o', e1⟩ := I.base.there b o e hx
    exact free b o' (neC b o e hx) e1 (I.base.free b o e n hx)
  · obtain ⟨o', e1⟩ := I.base.there b o e hx
    exact there b o' (neC b o e hx) e1
  · obtain ⟨m1, e1⟩ := I.base.tbls b ps e
    obtain ⟨m2, e2⟩ := tbls b _ e1
    exact ⟨m1 ++ m2, by rw [e2, Array.append_assoc]⟩
  · obtain ⟨m, hn, hl⟩ := I.loc
    refine ⟨m, ns m hn, fun i x v e1 e2 e3 => ?_⟩
    obtain ⟨u, r, l⟩ := hl i x v e1 e2 e3
    refine ⟨u, r, ?_⟩
    rcases l with l | ⟨k, c, e, z⟩
    · exact .inl l
    · exact .inr ⟨k, c, e, cellK x c e _ z⟩
  · obtain ⟨v, z⟩ := I.cell x c e
    exact ⟨v, cellK x c e v z⟩
  · obtain ⟨m, ⟨o, _, _, ho, _⟩, _⟩ := I.loc
    exact free _ o (fun z => (hch _ z).2.1 rfl) ho I.free
  · obtain ⟨v, o, ho, hd⟩ := I.cell x c e
    exact free c o (fun z => (hch c z).2.2.1 x c e rfl) ho (I.freeC x c e)
  · obtain ⟨e, n, ne, nf, d⟩ := I.pin p hp
    have nch : p.1 ∉ ch := fun z => (hch p.1 z).2.2.2 p hp rfl
    exact ⟨keep p.1 p.2 ne nf nch e n, free p.1 p.2 nch e n, ne, nf, d⟩
theorem Inv.un {t' : Nat} (I : Inv X pins σ H s) (u : Un X.fs [] H H' s.heap h') (hok : HOk X.prog X.w H' h') : Inv X pins σ H' { s with heap := h', toks := t' } := by
  obtain ⟨m, ⟨o, es, ep, ho, r⟩, _⟩ := id I.loc
  obtain ⟨sl, hL⟩ := u.any ho I.free (by simp)
  exact I.step (g' := s.gens) (d' := s.drawn) (ch := []) (fun _ z => nomatch z) (fun b o _ hb _ e n => u.keep b o e n hb (by simp)) (fun b o _ hb _ e n => u.slot b o e n hb (by simp)) (fun b o _ e n => u.free b o e n (by simp)) (fun b o _ e => u.there b o e (by simp)) u.tups u.frzs u.tbls (fun m' hm => by
    obtain ⟨o', es', ep', ho', r'⟩ := hm
    rw [ho] at ho'; cases ho'
    exact ⟨_, es', ep', hL, r'⟩) hok I.bare
theorem Inv.call {g' : Array GenState} {t' : Nat} {d' : Drawn} {ch : List Addr} (I : Inv X pins σ H s) (u : Un (frs X.stack) ch H H' s.heap h') (hok : HOk X.prog X.w H' h') (hg : AllBare g')
    (hch : ∀ b ∈ ch, (b ∈ X.ex ∨ X.s_0.heap.objs.size ≤ b) ∧ b ≠ X.env.locals ∧ (∀ x c, X.env.cells.lookup x = some c → c ≠ b) ∧ ∀ p ∈ X.pn ++ pins, p.1 ≠ b) :
    Inv X pins σ H' { s with heap := h', gens := g', drawn := d', toks := t' } := by
  obtain ⟨m, ⟨o, es, ep, ho, r⟩, _⟩ := id I.loc
  obtain ⟨sl, hL⟩ := u.any ho I.free fun z => (hch _ z).2.1 rfl
  exact I.step (ch := ch) hch (fun b o hL hb hc e n => u.keep b o e n (fun z => (List.mem_cons.mp (I.stkSub b z)).elim hL hb) hc) (fun b o _ _ hc e n => u.any e n hc) (fun b o hc e n => u.free b o e n hc) (fun b o hc e => u.there b o e hc) u.tups u.frzs u.tbls (fun m' hm => by
    obtain ⟨o', es', ep', ho', r'⟩ := hm
    rw [ho] at ho'; cases ho'
    exact ⟨_, es', ep', hL, r'⟩) hok hg
theorem Inv.turned {t' : Nat} {it : Addr} (I : Inv X pins σ H s) (k : ∀ b o, b ≠ it → s.heap.get? b = some o → h'.get? b = some o) (hn : H it = none) (hL : it ≠ X.env.locals)
    (h1 : it ∈ X.ex ∨ X.s_0.heap.objs.size ≤ it) (h2 : ∀ x c, X.env.cells.lookup x = some c → c ≠ it) (h3 : ∀ p ∈ X.pn ++ pins, p.1 ≠ it) : Inv X pins σ H { s with heap := h', toks := t' } := by
  have nit : ∀ b u, H b = some u → b ≠ it := fun b u e z => by rw [z, hn] at e; cases e
  refine I.step (g' := s.gens) (d' := s.drawn) (ch := [it]) (fun b hb => ?_) (fun b o _ _ hc e _ => k b o (fun z => hc (by simp [z])) e) (fun b o _ _ hc e _ => ⟨o.slots, k b o (fun z => hc (by simp [z])) e⟩) (fun _ _ _ _ n => n)
    (fun b o hc e => ⟨o, k b o (fun z => hc (by simp [z])) e⟩) (fun _ _ e => e) (fun _ _ _ e => e) (fun b ps e => ⟨#[], by rw [e]; simp⟩) (fun m hm => ?_) (fun b u e => ?_) I.bare
  · have e : b = it := by simpa using hb
    subst e
    exact ⟨h1, hL, h2, h3⟩
  · obtain ⟨o, es, ep, ho, r⟩ := hm
    exact ⟨o, es, ep, k _ o (Ne.symm hL) ho, r⟩
  · refine (I.hok b u e).stay (fun c v hc q => k c v ?_ q) (fun _ q => q) fun _ _ q => q
    rcases hc with z | z
    · rw [z]; exact nit b u e
    · exact nit c _ z
theorem Inv.tok (I : Inv X pins σ H s) (t : Nat) : Inv X pins σ H { s with toks := t } := I.un (h' := s.heap) (t' := t) Un.refl I.hok
theorem Inv.kept {t' : Nat} (I : Inv X pins σ H s) (k : ∀ b u, s.heap.get? b = some u → h'.get? b = some u) : Inv X pins σ H { s with heap := h', toks := t' } := I.un (Un.kept k) (I.hok.kept k)
theorem Inv.laid {a : Addr} {o : HO} {t' : Nat} (I : Inv X pins σ H s) (k : ∀ b u, s.heap.get? b = some u → h'.get? b = some u) (hp : s.heap.objs.size ≤ a) (new : ObjOk X.prog X.w (upd H a o) h' a o) :
    Inv X pins σ (upd H a o) { s with heap := h', toks := t' } := I.un (Un.laid k hp (I.hok.fresh hp)) (I.hok.laid k hp new)
theorem Inv.write {x e : Addr} {o : HO} {t' : Nat} (I : Inv X pins σ H s) (mu : Mut (H x)) (he : e = x ∨ H e = some (.own x)) (k : ∀ b u, b ≠ e → s.heap.get? b = some u → h'.get? b = some u) (heo : ∃ u, h'.get? e = some u)
    (new : ObjOk X.prog X.w (upd H x o) h' x o) : Inv X pins σ (upd H x o) { s with heap := h', toks := t' } := I.un (Un.write mu he k heo) (I.hok.write mu he k heo new)
theorem Inv.weak {σ' : List (Option V)} (I : Inv X pins σ H s) (hl : σ'.length = σ.length) (w : ∀ (i : Nat) v, σ'[i]? = some (some v) → σ[i]? = some (some v)) : Inv X pins σ' H s :=
  ⟨I.ok, I.os, I.bare, I.base, let ⟨m, hn, hl'⟩ := I.loc; ⟨m, hn, fun i x v e1 e2 e3 => hl' i x v e1 (w i v e2) e3⟩, I.cell, I.free, I.freeC, I.pin, I.hok, hl.trans I.len⟩
theorem Inv.pins_of {pins' : List (Addr × Obj)} (I : Inv X pins σ H s) (h : ∀ p ∈ pins', s.heap.get? p.1 = some p.2 ∧ H p.1 = none ∧ p.1 ≠ X.env.locals ∧ p.1 ∉ X.fs ∧ ∀ v, p.2.data ≠ .cell v) : Inv X pins' σ H s :=
  ⟨I.ok, I.os, I.bare, I.base, I.loc, I.cell, I.free, I.freeC, fun p hp => (List.mem_append.mp hp).elim (fun z => I.pin p (List.mem_append_left _ z)) (h p), I.hok, I.len⟩
theorem nodup_ix {N : List Str} (hN : N.Nodup) {i j : Nat} {x : Str} (a : N[i]? = some x) (b : N[j]? = some x) : i = j := by
  obtain ⟨h1, e1⟩ := List.getElem?_eq_some_iff.mp a
  obtain ⟨h2, e2⟩ := List.getElem?_eq_some_iff.mp b
  exact (List.getElem_inj hN).mp (e1.trans e2.symm)
theorem store_ok2 {M : Model} {A : Around} {E : Value → Shared → Prop} {i : Nat} {x : Str} {v : V} {u : Value} {Q : Unit → Shared → Prop} (I : Inv X pins σ H s) (hN : X.N.Nodup) (hi : X.N[i]? = some x) (hx : Loc X.env.scope x) (r : RelV v u)
    (h : ∀ s', Inv X pins (σ.set i (some v)) H s' → (∃ a, Heap.SameBut a s.heap s'.heap ∧ (a = X.env.locals ∨ X.env.cells.lookup x = some a)) → Q () s') (hf : X.fn x = true ∨ X.env.scope.names.lookup x = some .local := by first | exact .inl rfl | exact .inr rfl | assumption) : wpAny M A (storeName X.env x u) Q E s := by
  obtain ⟨m, hn, hl⟩ := id I.loc
  have hcls : (X.env.scope.kind == .class || (X.env.scope.kind == .module && X.env.locals != X.env.globals)) = false := by rw [I.ok.kind]; rfl
  have hiσ : i < σ.length := by rw [I.len]; exact (List.getElem?_eq_some_iff.mp hi).1
  have cne := I.cne
  have tracked : ∀ {a : Addr} {h' : Heap}, (∃ o, s.heap.get? a = some o ∧ H a = none) → Heap.SameBut a s.heap h' → HOk X.prog X.w H h' := fun {a h'} ha hs b ob e => by
    obtain ⟨_, _, hfree⟩ := ha
    refine (I.hok b ob e).stay (fun c w' hc q => (hs.2 c ?_).trans q) (fun _ q => q) fun _ _ q => q
    rintro rfl
    rcases hc with rfl | hc
    · rw [hfree] at e; cases e
    · rw [hfree] at hc; cases hc
  rcases hx with hk | hk
  · refine wpAny_storeName_local hk hn (fun h' hn' hs => ?_) hcls
    obtain ⟨oL, _, _, hoL, _⟩ := id hn
    refine h _ ⟨I.ok, I.os, I.bare, ⟨fun b o e n hb hx => ?_, fun b o e n hb hx => ?_, I.base.free, fun b o e hx => ?_, I.base.tups, I.base.frzs, I.base.tbls⟩, ⟨_, hn', fun j y v' e1 e2 e3 => ?_⟩, fun y c e => ?_, I.free, I.freeC, fun p hp => ?_, tracked ⟨oL, hoL, I.free⟩ hs, by simpa using I.len⟩ ⟨_, hs, .inl rfl⟩
    · exact (hs.2 b (Nat.ne_of_lt (Nat.lt_of_lt_of_le (Heap.lt_size e) I.ok.above))).trans (I.base.keep b o e n hb hx)
    · obtain ⟨sl, e1⟩ := I.base.slot b o e n hb hx
      exact ⟨sl, (hs.2 b (Nat.ne_of_lt (Nat.lt_of_lt_of_le (Heap.lt_size e) I.ok.above))).trans e1⟩
    · obtain ⟨o', e1⟩ := I.base.there b o e hx
      exact ⟨o', (hs.2 b (Nat.ne_of_lt (Nat.lt_of_lt_of_le (Heap.lt_size e) I.ok.above))).trans e1⟩
    · by_cases hj : j = i
      · subst hj
        rw [hi] at e1; cases e1
        rw [List.getElem?_set_self hiσ] at e2
        cases e2
        exact ⟨u, r, .inl ⟨hk, by simp⟩⟩
      · rw [List.getElem?_set_ne (Ne.symm hj)] at e2
        obtain ⟨u', r', q⟩ := hl j y v' e1 e2 e3
        refine ⟨u', r', ?_⟩
        rcases q with ⟨k, e⟩ | ⟨k, c, e, z⟩
        · refine .inl ⟨k, ?_⟩
          have : y ≠ x := fun e => hj (nodup_ix hN e1 (e ▸ hi))
          simp [this, e]
        · exact .inr ⟨k, c, e, z.sameBut hs (cne y c e)⟩
    · obtain ⟨w', z⟩ := I.cell y c e
      exact ⟨w', z.sameBut hs (cne y c e)⟩
    · obtain ⟨e, n, ne, nf, d⟩ := I.pin p hp
      exact ⟨(hs.2 p.1 ne).trans e, n, ne, nf, d⟩
  · have hfn : X.fn x = true := by
      rcases hf with z | z
      · exact z
      · rw [z] at hk; cases hk
    obtain ⟨c, hc⟩ := I.ok.has x (.inl hk)
    obtain ⟨w', z⟩ := I.cell x c hc
    refine wpAny_storeName_cell I.ok.kind hk hc z (fun h' hc' hs => ?_)
    obtain ⟨oc, hoc, hocd⟩ := id z
    refine h { s with heap := h' } ⟨I.ok, I.os, I.bare, ⟨fun b o e n hb hx => ?_, fun b o e n hb hx => ?_, I.base.free, fun b o e hx => ?_, I.base.tups, I.base.frzs, I.base.tbls⟩, ⟨m, hn.sameBut hs (Ne.symm (cne x c hc)), fun j y v' e1 e2 e3 => ?_⟩, fun y c' e => ?_, I.free, I.freeC, fun p hp => ?_, tracked ⟨oc, hoc, I.freeC x c hc⟩ hs, by simpa using I.len⟩ ⟨c, hs, .inr hc⟩
    · exact (hs.2 b (Nat.ne_of_lt (Nat.lt_of_lt_of_le (Heap.lt_size e) (I.ok.cab x c hfn hc)))).trans (I.base.keep b o e n hb hx)
    · obtain ⟨sl, e1⟩ := I.base.slot b o e n hb hx
      exact ⟨sl, (hs.2 b (Nat.ne_of_lt (Nat.lt_of_lt_of_le (Heap.lt_size e) (I.ok.cab x c hfn hc)))).trans e1⟩
    · obtain ⟨o', e1⟩ := I.base.there b o e hx
      exact ⟨o', (hs.2 b (Nat.ne_of_lt (Nat.lt_of_lt_of_le (Heap.lt_size e) (I.ok.cab x c hfn hc)))).trans e1⟩
    · by_cases hj : j = i
      · subst hj
        rw [hi] at e1; cases e1
        rw [List.getElem?_set_self hiσ] at e2
        cases e2
        exact ⟨u, r, .inr ⟨.inl hk, c, hc, hc'⟩⟩
      · rw [List.getElem?_set_ne (Ne.symm hj)] at e2
        obtain ⟨u', r', q⟩ := hl j y v' e1 e2 e3
        refine ⟨u', r', ?_⟩
        rcases q with q | ⟨k, c', e, z'⟩
        · exact .inl q
        · refine .inr ⟨k, c', e, z'.sameBut hs ?_⟩
          rintro rfl
          exact hj (nodup_ix hN e1 (I.ok.inj _ _ _ e hc ▸ hi))
    · by_cases hcc : c' = c
      · subst hcc; exact ⟨_, hc'⟩
      · obtain ⟨w2, z2⟩ := I.cell y c' e
        exact ⟨w2, z2.sameBut hs hcc⟩
    · obtain ⟨e, n, ne, nf, d⟩ := I.pin p hp
      refine ⟨(hs.2 p.1 ?_).trans e, n, ne, nf, d⟩
      intro q
      rw [q, hoc] at e
      have q' : oc = p.2 := Option.some.inj e
      exact d w' (by rw [← q']; exact hocd)
theorem store_ok {M : Model} {A : Around} {E : Value → Shared → Prop} {i : Nat} {x : Str} {v : V} {u : Value} {Q : Unit → Shared → Prop} (I : Inv X pins σ H s) (hN : X.N.Nodup) (hi : X.N[i]? = some x) (hx : Loc X.env.scope x) (r : RelV v u)
    (h : ∀ s', Inv X pins (σ.set i (some v)) H s' → Q () s') (hf : X.fn x = true ∨ X.env.scope.names.lookup x = some .local := by first | exact .inl rfl | exact .inr rfl | assumption) : wpAny M A (storeName X.env x u) Q E s :=
  store_ok2 I hN hi hx r (fun s' I' _ => h s' I') hf
theorem Inv.call' {s' : Shared} {ch : List Addr} (I : Inv X pins σ H s) (ho : s'.os = s.os) (u : Un (frs X.stack) ch H H' s.heap s'.heap) (hok : HOk X.prog X.w H' s'.heap) (hg : AllBare s'.gens)
    (hch : ∀ b ∈ ch, (b ∈ X.ex ∨ X.s_0.heap.objs.size ≤ b) ∧ b ≠ X.env.locals ∧ (∀ x c, X.env.cells.lookup x = some c → c ≠ b) ∧ ∀ p ∈ X.pn ++ pins, p.1 ≠ b) : Inv X pins σ H' s' := by
  obtain ⟨h', g', d', t', o'⟩ := s'
  have e : o' = s.os := ho
  subst e
  exact I.call (g' := g') (t' := t') (d' := d') u hok hg hch
end
abbrev XK := Value → Option Addr → Hp → Prop
abbrev St := List (Option V)
abbrev VK := V → Hp → Prop
abbrev TE := St → Hp → VK → Prop
abbrev TT := St → Hp → (Bool → Hp → Prop) → Prop
abbrev TA := St → Hp → (List V → Hp → Prop) → Prop
structure Ends where
  nx : St → Hp → Prop
  rt : VK
  bk : St → Hp → Prop := fun _ _ => False
  ct : St → Hp → Prop := fun _ _ => False
abbrev TS := Ends → St → Hp → Prop
def EP (X : Cx) (pins : List (Addr × Obj)) (σ : St) (Q : VK) (u : Value) (s' : Shared) : Prop := ∃ v H', Inv X pins σ H' s' ∧ RelV v u ∧ Q v H'
def TP (X : Cx) (pins : List (Addr × Obj)) (σ : St) (Q : Bool → Hp → Prop) (b : Bool) (s' : Shared) : Prop := ∃ H', Inv X pins σ H' s' ∧ Q b H'
def AP (X : Cx) (pins : List (Addr × Obj)) (σ : St) (Q : List V → Hp → Prop) (us : List Value) (s' : Shared) : Prop := ∃ vs H', Inv X pins σ H' s' ∧ Vals vs us ∧ Q vs H'
def SP (X : Cx) (pins : List (Addr × Obj)) (D : Ends) (f : Flow) (s' : Shared) : Prop :=
  match f with
  | .next => ∃ σ' H', Inv X pins σ' H' s' ∧ D.nx σ' H'
  | .brk => ∃ σ' H', Inv X pins σ' H' s' ∧ D.bk σ' H'
  | .cont => ∃ σ' H', Inv X pins σ' H' s' ∧ D.ct σ' H'
  | .ret u => ∃ v σ' H', Inv X pins σ' H' s' ∧ RelV v u ∧ D.rt v H'
def PE (X : Cx) (e : Expr) (t : TE) : Prop :=
  ∀ (pins : List (Addr × Obj)) (s : Shared) (σ : St) (H : Hp) (Q : VK), Inv X pins σ H s → t σ H Q → wpAny (model X.prog X.w) X.A (eval e X.env) (EP X pins σ Q) X.xe s
def PT (X : Cx) (e : Expr) (t : TT) : Prop :=
  ∀ (pins : List (Addr × Obj)) (s : Shared) (σ : St) (H : Hp) (Q : Bool → Hp → Prop), Inv X pins σ H s → t σ H Q → wpAny (model X.prog X.w) X.A (isTrue e X.env (eval e X.env)) (TP X pins σ Q) X.xe s
def PW (X : Cx) (e : Expr) (t : TT) : Prop :=
  ∀ (whole : Sem Value) (pins : List (Addr × Obj)) (s : Shared) (σ : St) (H : Hp) (Q : Bool → Hp → Prop), Inv X pins σ H s → t σ H Q → wpAny (model X.prog X.w) X.A (isTrue e X.env whole) (TP X pins σ Q) X.xe s
theorem PW.pt {X : Cx} {e : Expr} {t : TT} (h : PW X e t) : PT X e t := h _
def PA (X : Cx) (es : List Expr) (t : TA) : Prop :=
  ∀ (pos : Pos) (pins : List (Addr × Obj)) (s : Shared) (σ : St) (H : Hp) (Q : List V → Hp → Prop), Inv X pins σ H s → t σ H Q → wpAny (model X.prog X.w) X.A (spliced (backTo pos (starEach es X.env))) (AP X pins σ Q) X.xe s
def PS (X : Cx) (st : Stmt) (t : TS) : Prop :=
  ∀ (pins : List (Addr × Obj)) (s : Shared) (σ : St) (H : Hp) (D : Ends), Inv X pins σ H s → t D σ H → wpAny (model X.prog X.w) X.A (exec st X.env) (SP X pins D) X.xe s
def PSs (X : Cx) (st : List Stmt) (t : TS) : Prop :=
  ∀ (pins : List (Addr × Obj)) (s : Shared) (σ : St) (H : Hp) (D : Ends), Inv X pins σ H s → t D σ H → wpAny (model X.prog X.w) X.A (execs st X.env) (SP X pins D) X.xe s
theorem thn {α : Type} {t : Sem α} {Q Q' : α → Shared → Prop} {M : Model} {A : Around} {E : Value → Shared → Prop} {s : Shared} (h : wpAny M A t Q E s) (hQ : ∀ a s, Q a s → Q' a s) : wpAny M A t Q' E s := wpAny_mono h hQ fun _ _ x => x
end L2
namespace L2
open PySem PySem.Spec PyProof.Rows
section
variable {X : Cx}
def tVar (i : Nat) : TE := fun σ H Q => ∃ v, σ[i]? = some (some v) ∧ Q v H
def tC (v : V) : TE := fun _ H Q => Q v H
theorem pe_var {i : Nat} {x : Str} {pos : Pos} (hN : X.N[i]? = some x) (hv : Vis X.env.scope x) (hd : (x == ("__debug__" : Str)) = false := by decide) (hcd : (x == ("__classdict__" : Str)) = false := by decide) : PE X (.Name x pos) (tVar i) := by
  intro pins s σ H Q I h
  obtain ⟨v, e, h⟩ := h
  obtain ⟨m, hn, hl⟩ := I.loc
  obtain ⟨u, r, l⟩ := hl i x v hN e hv
  have fin : EP X pins σ Q u s := ⟨v, H, I, r, h⟩
  rcases l with ⟨hk, hm⟩ | ⟨hk, c, hc, hcell⟩
  · exact wpAny_Name (wpAny_loadName_local I.ok.kind hk hn hm fin) hd
  · rcases hk with hk | hk
    · exact wpAny_Name (wpAny_loadName_cell I.ok.kind hk hc hcell fin) hd
    · exact wpAny_Name (wpAny_loadName_free I.ok.kind hk hc hcell fin hcd) hd
theorem pe_int {i j pos} : PE X (.Constant (.int i) j pos) (tC (.int i)) := fun _ _ _ H _ I h => wpAny_Constant_int ⟨.int i, H, I.tok _, ⟨_, rfl⟩, h⟩
theorem pe_bl {b j pos} : PE X (.Constant (.bool b) j pos) (tC (.bl b)) := fun _ _ _ H _ I h => Constant_bool ⟨.bl b, H, I, rfl, h⟩
theorem pe_non {j pos} : PE X (.Constant .none j pos) (tC .non) := fun _ _ _ H _ I h => Constant_none ⟨.non, H, I, rfl, h⟩
theorem pe_str {x j pos} : PE X (.Constant (.str x) j pos) (tC (.str x)) := fun _ _ _ H _ I h => Calls.Constant_str ⟨.str x, H, I.tok _, ⟨_, rfl⟩, h⟩
def Gl (X : Cx) (x : Str) : Prop := X.env.kindOf x = some .globalImplicit
theorem ld_glob {E : Value → Shared → Prop} {pins : List (Addr × Obj)} {s : Shared} {σ : St} {H : Hp} {x : Str} {u : Value} {pos : Pos} {Q : Value → Shared → Prop} (I : Inv X pins σ H s) (hg : Gl X x) (hm : X.mg x = some u) (h : Q u s)
    (hd : (x == ("__debug__" : Str)) = false := by decide) : wpAny (model X.prog X.w) X.A (eval (.Name x pos) X.env) Q E s :=
  Calls.Name_function_global I.ok.kind hg (Calls.loadGlobal_global (by rw [I.ok.glob]; exact I.mod.glob.keeps I.bk) hm h) hd
theorem ld_blt {E : Value → Shared → Prop} {pins : List (Addr × Obj)} {s : Shared} {σ : St} {H : Hp} {x : Str} {u : Value} {pos : Pos} {Q : Value → Shared → Prop} (I : Inv X pins σ H s) (hg : Gl X x) (hm : X.mg x = none) (hv : bootBuiltins x = some u) (h : Q u s)
    (hn : x ≠ "__name__" := by decide) (hd : (x == ("__debug__" : Str)) = false := by decide) : wpAny (model X.prog X.w) X.A (eval (.Name x pos) X.env) Q E s := by
  obtain ⟨mb, h1, h2⟩ := I.mod.blt
  exact Calls.Name_function_global I.ok.kind hg (Calls.loadGlobal_builtin (by rw [I.ok.glob]; exact I.mod.glob.keeps I.bk) hm (by rw [I.ok.blt]; exact h1.keeps I.bk) ((h2 x hn).trans hv) h) hd
theorem pe_glob {x : Str} {v : V} {u : Value} {pos : Pos} (hg : Gl X x) (hm : X.mg x = some u) (r : RelV v u) (hd : (x == ("__debug__" : Str)) = false := by decide) : PE X (.Name x pos) (tC v) :=
  fun _ _ _ H _ I h => ld_glob I hg hm ⟨v, H, I, r, h⟩ hd
variable {a b : Expr} {ta tb : TE} {pos : Pos}
def tB (t : TE) : TT := fun σ H Q => t σ H fun x H1 => ∃ c, x = .bl c ∧ Q c H1
theorem pt_val {e : Expr} {t : TE} (h : PE X e t) (he : ∀ whole, isTrue e X.env whole = (do let v ← whole; standAt e.pos; holding [v] (truthy v)) := by intro _; rfl) : PT X e (tB t) := by
  intro pins s σ H Q I hw
  refine isTrue_plain (thn (h pins s σ H _ I hw) fun v s1 ⟨x, H1, I1, r1, q1⟩ => ?_) (he _)
  obtain ⟨d, rfl, q⟩ := q1
  cases r1
  exact wpAny_truthy_bool ⟨H1, I1, q⟩
variable {tA tB' : TT} {rest : List Expr}
def tAnd (t u : TT) : TT := fun σ H Q => t σ H fun c H1 => if c = true then u σ H1 Q else Q false H1
def tOr (t u : TT) : TT := fun σ H Q => t σ H fun c H1 => if c = true then Q true H1 else u σ H1 Q
def tNot (t : TT) : TT := fun σ H Q => t σ H fun c H1 => Q (!c) H1
theorem pw_and1 (ha : PT X a tA) : PW X (.BoolOp .And [a] pos) tA := by
  intro wh pins s σ H Q I h
  refine isTrue_and (thn (ha pins s σ H Q I h) fun c s1 e => ?_)
  cases c with
  | true => exact isTrue_and_nil e
  | false => exact e
theorem pw_or1 (ha : PT X a tA) : PW X (.BoolOp .Or [a] pos) tA := by
  intro wh pins s σ H Q I h
  refine isTrue_or (thn (ha pins s σ H Q I h) fun c s1 e => ?_)
  cases c with
  | false => exact isTrue_or_nil e
  | true => exact e
theorem pw_and (ha : PT X a tA) (hb : PW X (.BoolOp .And (b :: rest) pos) tB') : PW X (.BoolOp .And (a :: b :: rest) pos) (tAnd tA tB') := by
  intro wh pins s σ H Q I h
  refine isTrue_and (thn (ha pins s σ H _ I h) fun c s1 ⟨H1, I1, q1⟩ => ?_)
  cases c with
  | true => exact hb wh pins s1 σ H1 Q I1 q1
  | false => exact ⟨H1, I1, q1⟩
theorem pw_or (ha : PT X a tA) (hb : PW X (.BoolOp .Or (b :: rest) pos) tB') : PW X (.BoolOp .Or (a :: b :: rest) pos) (tOr tA tB') := by
  intro wh pins s σ H Q I h
  refine isTrue_or (thn (ha pins s σ H _ I h) fun c s1 ⟨H1, I1, q1⟩ => ?_)
  cases c with
  | true => exact ⟨H1, I1, q1⟩
  | false => exact hb wh pins s1 σ H1 Q I1 q1
theorem pt_not (ha : PT X a tA) : PT X (.UnaryOp .Not a pos) (tNot tA) := by
  intro pins s σ H Q I h
  exact isTrue_not (ha pins s σ H (fun c H1 => Q (!c) H1) I h)
def tAndV (ta tb : TE) : TE := fun σ H Q => ta σ H fun x H1 => ∃ c, x = .bl c ∧ if c = true then tb σ H1 Q else Q (.bl false) H1
def tOrV (ta tb : TE) : TE := fun σ H Q => ta σ H fun x H1 => ∃ c, x = .bl c ∧ if c = true then Q (.bl true) H1 else tb σ H1 Q
def tNotV (ta : TE) : TE := fun σ H Q => ta σ H fun x H1 => ∃ c, x = .bl c ∧ Q (.bl (!c)) H1
theorem pe_one {op} {t : TE} (h : PE X a t) : PE X (.BoolOp op [a] pos) t := fun pins s σ H Q I hw => BoolOp_one (h pins s σ H Q I hw)
theorem pe_and (ha : PE X a ta) (hb : PE X (.BoolOp .And (b :: rest) pos) tb) : PE X (.BoolOp .And (a :: b :: rest) pos) (tAndV ta tb) := by
  intro pins s σ H Q I h
  refine BoolOp_and (thn (ha pins s σ H _ I h) fun v s1 ⟨x, H1, I1, r1, q1⟩ => ?_)
  obtain ⟨c, rfl, q1⟩ := q1
  cases r1
  refine wpAny_truthy_bool ?_
  cases c with
  | true => exact hb pins s1 σ H1 Q I1 q1
  | false => exact ⟨.bl false, H1, I1, rfl, q1⟩
theorem pe_or (ha : PE X a ta) (hb : PE X (.BoolOp .Or (b :: rest) pos) tb) : PE X (.BoolOp .Or (a :: b :: rest) pos) (tOrV ta tb) := by
  intro pins s σ H Q I h
  refine BoolOp_or (thn (ha pins s σ H _ I h) fun v s1 ⟨x, H1, I1, r1, q1⟩ => ?_)
  obtain ⟨c, rfl, q1⟩ := q1
  cases r1
  refine wpAny_truthy_bool ?_
  cases c with
  | false => exact hb pins s1 σ H1 Q I1 q1
  | true => exact ⟨.bl true, H1, I1, rfl, q1⟩
theorem pe_not (ha : PE X a ta) : PE X (.UnaryOp .Not a pos) (tNotV ta) := by
  intro pins s σ H Q I h
  refine UnaryOp_ (thn (ha pins s σ H _ I h) fun v s1 ⟨x, H1, I1, r1, q1⟩ => ?_)
  obtain ⟨c, rfl, q1⟩ := q1
  cases r1
  exact not_of (wpAny_truthy_bool ⟨.bl (!c), H1, I1, rfl, q1⟩)
def tIf (t : TT) (ta tb : TE) : TE := fun σ H Q => t σ H fun c H1 => if c = true then ta σ H1 Q else tb σ H1 Q
theorem pe_ifExp {c : Expr} (hc : PT X c tA) (ha : PE X a ta) (hb : PE X b tb) : PE X (.IfExp c a b pos) (tIf tA ta tb) := by
  intro pins s σ H Q I h
  refine wpAny_IfExp (thn (hc pins s σ H _ I h) fun d s1 ⟨H1, I1, q1⟩ => ?_)
  cases d with
  | true => exact ha pins s1 σ H1 Q I1 q1
  | false => exact hb pins s1 σ H1 Q I1 q1
end
end L2
namespace L2
open PySem PySem.Spec PyProof.Rows
def SqL (K : PySem.W.Frag) (H : Hp) (a : Addr) (xs : List V) : Prop :=
  Rd H a (.lst xs) ∨
    ∃ (o : Obj) (its : Array Value) (n : Nat), K.lookup a = some o ∧ o.cls = .type "list" ∧ o.dict = none ∧ o.data = .seq its n ∧ its.size ≤ sizeLine ∧ Vals xs its.toList
def SqT (K : PySem.W.Frag) (H : Hp) (a : Addr) (xs : List V) : Prop :=
  Rd H a (.tup xs) ∨
    ∃ (o : Obj) (its : Array Value) (n : Nat), K.lookup a = some o ∧ o.cls = .type "tuple" ∧ o.data = .seq its n ∧ its.size ≤ sizeLine ∧ Vals xs its.toList
def absV : Value → Option V
  | .none => some .non
  | .bool b => some (.bl b)
  | .int i _ => some (.int i)
  | .str x _ => some (.str x)
  | .bytes b _ => some (.byt b)
  | .float b _ => some (.flt b)
  | .ref a => some (.ref a)
  | .type n => some (.ty n)
  | _ => none
theorem RelV.abs {x : V} {u : Value} (r : RelV x u) : absV u = some x := by
  cases x with
  | non => cases r; rfl
  | bl _ => cases r; rfl
  | int _ => obtain ⟨t, rfl⟩ := r; rfl
  | str _ => obtain ⟨t, rfl⟩ := r; rfl
  | byt _ => obtain ⟨t, rfl⟩ := r; rfl
  | flt _ => obtain ⟨t, rfl⟩ := r; rfl
  | ref _ => cases r; rfl
  | ty _ => cases r; rfl
theorem RelV.inj {x y : V} {u : Value} (r : RelV x u) (q : RelV y u) : x = y := Option.some.inj (r.abs.symm.trans q.abs)
theorem Vals.inj : ∀ {xs ys : List V} {us : List Value}, Vals xs us → Vals ys us → xs = ys
  | _, _, _, .nil, .nil => rfl
  | _, _, _, .cons r t, .cons r' t' => by rw [r.inj r', Vals.inj t t']
section
variable {X : Cx} {pins : List (Addr × Obj)} {σ : St} {H : Hp} {s : Shared} {a : Addr} {xs ys : List V}
theorem SqL.of {K : PySem.W.Frag} (h : H a = some (.lst xs)) : SqL K H a xs := .inl (.inl h)
theorem SqT.of {K : PySem.W.Frag} (h : H a = some (.tup xs)) : SqT K H a xs := .inl (.inl h)
theorem Inv.list (I : Inv X pins σ H s) (h : SqL X.K H a xs) : ∃ its : List Value, Vals xs its ∧ PlainL s.heap a its.toArray ∧ xs.length ≤ sizeLine := by
  rcases h with h | ⟨o, its, n, hk, hc, hd, hs, hz, r⟩
  · obtain ⟨z, its, n, r, e⟩ := h.ok I.hok
    exact ⟨its, r, ⟨_, n, e, rfl, rfl, rfl⟩, z⟩
  · refine ⟨its.toList, r, ⟨o, n, I.kIn a o hk, hc, hd, by simpa using hs⟩, ?_⟩
    have e := r.length
    simp only [Array.length_toList] at e
    omega
theorem Inv.tuple (I : Inv X pins σ H s) (h : SqT X.K H a xs) : ∃ its : List Value, Vals xs its ∧ IsTup s.heap a its.toArray ∧ xs.length ≤ sizeLine := by
  rcases h with h | ⟨o, its, n, hk, hc, hs, hz, r⟩
  · obtain ⟨z, its, r, p⟩ := h.ok I.hok
    exact ⟨its, r, p, z⟩
  · refine ⟨its.toList, r, ⟨o, I.kIn a o hk, hc, n, by simpa using hs⟩, ?_⟩
    have e := r.length
    simp only [Array.length_toList] at e
    omega
theorem Inv.list_inj (I : Inv X pins σ H s) (h : SqL X.K H a xs) (h' : SqL X.K H a ys) : xs = ys := by
  obtain ⟨its, r, ⟨o, n, e, _, _, d⟩, _⟩ := I.list h
  obtain ⟨its', r', ⟨o', n', e', _, _, d'⟩, _⟩ := I.list h'
  rw [e] at e'; cases e'
  rw [d] at d'
  injection d' with d1 _
  have : its = its' := by simpa using congrArg Array.toList d1
  subst this
  exact r.inj r'
theorem Inv.tuple_inj (I : Inv X pins σ H s) (h : SqT X.K H a xs) (h' : SqT X.K H a ys) : xs = ys := by
  obtain ⟨its, r, ⟨o, e, _, n, d⟩, _⟩ := I.tuple h
  obtain ⟨its', r', ⟨o', e', _, n', d'⟩, _⟩ := I.tuple h'
  rw [e] at e'; cases e'
  rw [d] at d'
  injection d' with d1 _
  have : its = its' := by simpa using congrArg Array.toList d1
  subst this
  exact r.inj r'
end
abbrev Cx.wish (X : Cx) (E : Value → Shared → Prop) : Cx := { X with xe := E }
abbrev Cx.nox (X : Cx) : Cx := X.wish fun _ _ => False
theorem Cx.Ok.wish {X : Cx} (ok : X.Ok) (E : Value → Shared → Prop) : (X.wish E).Ok :=
  ⟨ok.mod, ok.kind, ok.glob, ok.blt, ok.above, ok.inj, ok.has, ok.cab, ok.hd, ok.frames, ok.stk, ok.exf, ok.bs, ok.bsz, ok.noex, ok.exfs, ok.funs, ok.frf⟩
theorem Cx.Ok.unwish {X : Cx} {E : Value → Shared → Prop} (ok : (X.wish E).Ok) : X.Ok :=
  ⟨ok.mod, ok.kind, ok.glob, ok.blt, ok.above, ok.inj, ok.has, ok.cab, ok.hd, ok.frames, ok.stk, ok.exf, ok.bs, ok.bsz, ok.noex, ok.exfs, ok.funs, ok.frf⟩
section
variable {X : Cx} {pins : List (Addr × Obj)} {σ : St} {H : Hp} {s : Shared} {E : Value → Shared → Prop}
theorem Inv.wish (I : Inv X pins σ H s) (E : Value → Shared → Prop) : Inv (X.wish E) pins σ H s := ⟨I.ok.wish E, I.os, I.bare, I.base, I.loc, I.cell, I.free, I.freeC, I.pin, I.hok, I.len⟩
theorem Inv.unwish (I : Inv (X.wish E) pins σ H s) : Inv X pins σ H s := ⟨I.ok.unwish, I.os, I.bare, I.base, I.loc, I.cell, I.free, I.freeC, I.pin, I.hok, I.len⟩
theorem SP.unwish {D : Ends} {f : Flow} {s' : Shared} (h : SP (X.wish E) pins D f s') : SP X pins D f s' := by
  cases f with
  | next => obtain ⟨σ', H', I, q⟩ := h; exact ⟨σ', H', I.unwish, q⟩
  | brk => obtain ⟨σ', H', I, q⟩ := h; exact ⟨σ', H', I.unwish, q⟩
  | cont => obtain ⟨σ', H', I, q⟩ := h; exact ⟨σ', H', I.unwish, q⟩
  | ret u => obtain ⟨v, σ', H', I, r, q⟩ := h; exact ⟨v, σ', H', I.unwish, r, q⟩
theorem PSs.nox {st : List Stmt} {t : TS} (h : PSs X.nox st t) : PSs X st t := fun pins s σ H D I hw =>
  wpAny_mono (h pins s σ H D (I.wish _) hw) (fun _ _ q => q.unwish) fun _ _ z => False.elim z
end
section
variable {X : Cx} {st : Stmt} {rest : List Stmt} {t u : TS} {e : Expr} {te : TE} {pos : Pos}
def tNext : TS := fun D σ H => D.nx σ H
def tSeq (t u : TS) : TS := fun D σ H => t { D with nx := u D } σ H
theorem pss_nil : PSs X [] tNext := fun _ _ σ H _ I h => wpAny_execs_nil ⟨σ, H, I, h⟩
theorem pss_cons (h1 : PS X st t) (h2 : PSs X rest u) : PSs X (st :: rest) (tSeq t u) := by
  intro pins s σ H D I h
  refine wpAny_execs_cons (thn (h1 pins s σ H { D with nx := u D } I h) fun f s1 q => ?_)
  cases f with
  | next =>
    obtain ⟨σ', H', I', q⟩ := q
    exact h2 pins s1 σ' H' D I' q
  | ret v => exact q
  | brk => exact q
  | cont => exact q
theorem pss_one (h1 : PS X st t) : PSs X [st] t := by
  intro pins s σ H D I h
  refine wpAny_execs_cons (thn (h1 pins s σ H D I h) fun f s1 q => ?_)
  cases f with
  | next => exact wpAny_execs_nil q
  | ret v => exact q
  | brk => exact q
  | cont => exact q
def tBreak : TS := fun D σ H => D.bk σ H
def tCont : TS := fun D σ H => D.ct σ H
theorem ps_pass : PS X (.Pass pos) tNext := fun _ _ σ H _ I h => wpAny_Pass ⟨σ, H, I, h⟩
theorem ps_break : PS X (.Break pos) tBreak := fun _ _ σ H _ I h => wpAny_Break ⟨σ, H, I, h⟩
theorem ps_continue : PS X (.Continue pos) tCont := fun _ _ σ H _ I h => wpAny_Continue ⟨σ, H, I, h⟩
theorem Inv.quiet {pins : List (Addr × Obj)} {σ : St} {H : Hp} {s : Shared} (I : Inv X pins σ H s) : interactive X.env = false := by simp [interactive, I.ok.kind]
theorem ps_doc {x j pos pos'} : PS X (.Expr (.Constant (.str x) j pos) pos') tNext := fun _ s σ H _ I h => wpAny_Expr (Calls.Constant_str (show SP X _ _ .next { s with toks := s.toks + 1 } from ⟨σ, H, I.tok _, h⟩)) I.quiet
def tDrop (te : TE) : TS := fun D σ H => te σ H fun _ H1 => D.nx σ H1
theorem ps_expr (he : PE X e te) (hs : swapsWith e none pos.line X.env = pure false := by rfl) : PS X (.Expr e pos) (tDrop te) := by
  intro pins s σ H D I h
  exact wpAny_Expr_any (thn (he pins s σ H _ I h) fun v s1 ⟨x, H1, I1, r1, q1⟩ => ⟨σ, H1, I1, q1⟩) I.quiet hs
def tRet (te : TE) : TS := fun D σ H => te σ H D.rt
theorem ps_ret (he : PE X e te) : PS X (.Return (some e) pos) (tRet te) := by
  intro pins s σ H D I h
  exact wpAny_Return_some (thn (he pins s σ H _ I h) fun v s1 ⟨x, H1, I1, r1, q1⟩ => ⟨x, σ, H1, I1, r1, q1⟩)
def tRetN : TS := fun D _ H => D.rt .non H
theorem ps_retN : PS X (.Return none pos) tRetN := fun _ _ σ H _ I h => wpAny_Return_none ⟨.non, σ, H, I, rfl, h⟩
def tIfS (c : TT) (t u : TS) : TS := fun D σ H => c σ H fun b H1 => if b = true then t D σ H1 else u D σ H1
theorem ps_if {c : Expr} {a b : List Stmt} {tc : TT} (hc : PT X c tc) (ha : PSs X a t) (hb : PSs X b u) : PS X (.If c a b pos) (tIfS tc t u) := by
  intro pins s σ H D I h
  refine wpAny_If (thn (hc pins s σ H _ I h) fun d s1 ⟨H1, I1, q1⟩ => ?_)
  cases d with
  | true => exact ha pins s1 σ H1 D I1 q1
  | false => exact hb pins s1 σ H1 D I1 q1
def tNever : TS := fun _ _ _ => False
theorem ps_never : PS X st tNever := fun _ _ _ _ _ _ h => h.elim
theorem pss_never {sts : List Stmt} : PSs X sts tNever := fun _ _ _ _ _ _ h => h.elim
end
abbrev TG := V → St → Hp → (St → Hp → Prop) → Prop
abbrev TGs := List V → St → Hp → (St → Hp → Prop) → Prop
def PG (X : Cx) (target : Expr) (t : TG) : Prop :=
  ∀ (pins : List (Addr × Obj)) (s : Shared) (σ : St) (H : Hp) (v : V) (u : Value) (Q : St → Hp → Prop), Inv X pins σ H s → RelV v u → t v σ H Q →
    wpAny (model X.prog X.w) X.A (assign target X.env u) (fun _ s' => ∃ σ' H', Inv X pins σ' H' s' ∧ Q σ' H') X.xe s
def PGs (X : Cx) (ts : List Expr) (t : TGs) : Prop :=
  ∀ (pins : List (Addr × Obj)) (s : Shared) (σ : St) (H : Hp) (vs : List V) (us : List Value) (Q : St → Hp → Prop), Inv X pins σ H s → Vals vs us → t vs σ H Q →
    wpAny (model X.prog X.w) X.A (assignInOrder ((assignEach ts X.env).map (·.2)) us) (fun _ s' => ∃ σ' H', Inv X pins σ' H' s' ∧ Q σ' H') X.xe s
abbrev TSet := V → V → V → Hp → (Hp → Prop) → Prop
def PSet (X : Cx) (t : TSet) : Prop :=
  ∀ (pins : List (Addr × Obj)) (s : Shared) (σ : St) (H : Hp) (o i v : V) (ov iv u : Value) (Q : Hp → Prop), Inv X pins σ H s → RelV o ov → RelV i iv → RelV v u → t o i v H Q →
    wpAny (model X.prog X.w) X.A (setItem ov iv u) (fun _ s' => ∃ H', Inv X pins σ H' s' ∧ Q H') X.xe s
abbrev TIp := V → V → Hp → VK → Prop
def PIp (X : Cx) (op : Operator) (t : TIp) : Prop :=
  ∀ (pins : List (Addr × Obj)) (s : Shared) (σ : St) (H : Hp) (x y : V) (v u : Value) (Q : VK), Inv X pins σ H s → RelV x v → RelV y u → t x y H Q →
    wpAny (model X.prog X.w) X.A (inplaceOp op v u) (EP X pins σ Q) X.xe s
section
variable {X : Cx} {pos : Pos}
def gName (i : Nat) : TG := fun v σ H Q => Q (σ.set i (some v)) H
theorem pg_name {i : Nat} {x : Str} (hN : X.N.Nodup) (hi : X.N[i]? = some x) (hx : Loc X.env.scope x) (hf : X.fn x = true ∨ X.env.scope.names.lookup x = some .local := by first | exact .inl rfl | exact .inr rfl | assumption) : PG X (.Name x pos) (gName i) := by
  intro pins s σ H v u Q I r h
  exact wpAny_assign_Name (store_ok I hN hi hx r (fun s' I' => ⟨_, H, I', h⟩) hf)
def gNil : TGs := fun vs σ H Q => vs = [] ∧ Q σ H
def gCons (t : TG) (u : TGs) : TGs := fun vs σ H Q => ∃ v r, vs = v :: r ∧ t v σ H fun σ' H' => u r σ' H' Q
theorem pgs_nil : PGs X [] gNil := by
  intro pins s σ H vs us Q I r h
  obtain ⟨e, h⟩ := h
  subst e
  cases r
  exact assignInOrder_nil ⟨σ, H, I, h⟩
theorem pgs_cons {e : Expr} {es : List Expr} {t : TG} {u : TGs} (h1 : PG X e t) (h2 : PGs X es u)
    (hs : (assignEach (e :: es) X.env).map (·.2) = assign e X.env :: (assignEach es X.env).map (·.2) := by rfl) : PGs X (e :: es) (gCons t u) := by
  intro pins s σ H vs us Q I r h
  obtain ⟨v, vr, e1, h⟩ := h
  subst e1
  cases r with
  | cons r rr =>
    rw [hs]
    refine assignInOrder_cons (thn (h1 pins s σ H _ _ _ I r h) fun _ s1 ⟨σ1, H1, I1, q1⟩ => ?_)
    exact h2 pins s1 σ1 H1 _ _ Q I1 rr q1
def gTup (K : PySem.W.Frag) (n : Nat) (t : TGs) : TG := fun v σ H Q => ∃ a xs, v = .ref a ∧ SqT K H a xs ∧ xs.length = n ∧ t xs σ H Q
theorem pg_tup {es : List Expr} {k : Nat} {t : TGs} {n : Nat} (hc : X.calm = true) (h : PGs X es t)
    (hn : (assignEach es X.env).length = n := by rfl) (hst : (assignEach es X.env).findIdx? (·.1) = none := by rfl) : PG X (.Tuple es k pos) (gTup X.K n t) := by
  intro pins s σ H v u Q I r hw
  obtain ⟨a, xs, e1, hq, hl, hw⟩ := hw
  subst e1
  cases r
  obtain ⟨its, rv, ht, hz⟩ := I.tuple hq
  refine assign_Tuple_tuple (I.ok.hd hc) ht (by simp [hn, ← hl, rv.length]) hst fun h' hx => ?_
  have I1 : Inv X pins σ H { s with heap := h' } := I.kept (t' := s.toks) fun b o e => hx b o (Nat.ne_of_lt (Heap.lt_size e)) e
  exact h pins _ σ H xs _ Q I1 (by simpa using rv) hw
def gSub (to ti : TE) (t : TSet) : TG := fun v σ H Q => to σ H fun o H1 => ti σ H1 fun i H2 => t o i v H2 fun H3 => Q σ H3
theorem pg_sub {o i : Expr} {to ti : TE} {t : TSet} (ho : PE X o to) (hi : PE X i ti) (hs : PSet X t)
    (ha : ∀ v, assign (.Subscript o i pos) X.env v = (do
      let ov ← holding [v] (eval o X.env)
      let iv ← holding [v, ov] (eval i X.env)
      standAt pos
      holding [v, ov, iv] (setItem ov iv v)
      release [v, ov, iv] []) := by intro _; rfl) : PG X (.Subscript o i pos) (gSub to ti t) := by
  intro pins s σ H v u Q I r h
  rw [ha]
  refine wpAny_bind (wpAny_holding (thn (ho pins s σ H _ I h) fun ov s1 ⟨x, H1, I1, r1, q1⟩ => ?_))
  refine wpAny_bind (wpAny_holding (thn (hi pins s1 σ H1 _ I1 q1) fun iv s2 ⟨y, H2, I2, r2, q2⟩ => ?_))
  refine wpAny_bind (wpAny_standAt (wpAny_bind (wpAny_holding (thn (hs pins s2 σ H2 x y v ov iv u _ I2 r1 r2 r q2) fun _ s3 ⟨H3, I3, q3⟩ => ?_))))
  exact wpAny_release ⟨σ, H3, I3, q3⟩
def tAsg (te : TE) (g : TG) : TS := fun D σ H => te σ H fun x H1 => g x σ H1 D.nx
theorem ps_asg {tg e : Expr} {te : TE} {g : TG} (he : PE X e te) (hg : PG X tg g) (hs : swapsWithSole [tg] e pos.line X.env = pure false := by rfl) (hw : swappedStores [tg] e X.env = pure none := by rfl)
    (h1 : (assignEach [tg] X.env).map (·.2) = [assign tg X.env] := by rfl) : PS X (.Assign [tg] e pos) (tAsg te g) := by
  intro pins s σ H D I h
  refine wpAny_Assign_stores (thn (he pins s σ H _ I h) fun v s1 ⟨x, H1, I1, r1, q1⟩ => ?_) hs hw
  rw [h1]
  exact thn (hg pins s1 σ H1 x v _ I1 r1 q1) fun _ s2 q => q
theorem ps_set {i : Nat} {x : Str} {e : Expr} {te : TE} {pos' : Pos} (hN : X.N.Nodup) (hi : X.N[i]? = some x) (hx : Loc X.env.scope x) (he : PE X e te) (hs : swapsWith e (some (.Name x pos')) pos.line X.env = pure false := by rfl) (hf : X.fn x = true ∨ X.env.scope.names.lookup x = some .local := by first | exact .inl rfl | exact .inr rfl | assumption) :
    PS X (.Assign [.Name x pos'] e pos) (tAsg te (gName i)) := by
  intro pins s σ H D I h
  refine wpAny_Assign_Name (thn (he pins s σ H _ I h) fun v s1 ⟨y, H1, I1, r1, q1⟩ => ?_) hs
  exact store_ok I1 hN hi hx r1 (fun s2 I2 => ⟨_, H1, I2, q1⟩) hf
def tPar (i j : Nat) (ta : TA) : TS := fun D σ H => ta σ H fun vs H1 => ∃ v w, vs = [v, w] ∧ D.nx ((σ.set i (some v)).set j (some w)) H1
theorem ps_par {i j : Nat} {x y : Str} {a b : Expr} {ta : TA} {px py pt : Pos} {kt k2 pt2} (hc : X.calm = true) (hN : X.N.Nodup) (hi : X.N[i]? = some x) (hj : X.N[j]? = some y) (hij : i ≠ j)
    (hx : X.env.scope.names.lookup x = some .local) (hy : X.env.scope.names.lookup y = some .local) (ha : PA X [a, b] ta)
    (hw : swappedStores [.Tuple [.Name x px, .Name y py] kt pt] (.Tuple [a, b] k2 pt2) X.env = pure (some [x, y]))
    (hs : swapsWithSole [.Tuple [.Name x px, .Name y py] kt pt] (.Tuple [a, b] k2 pt2) pos.line X.env = pure false := by rfl) :
    PS X (.Assign [.Tuple [.Name x px, .Name y py] kt pt] (.Tuple [a, b] k2 pt2) pos) (tPar i j ta) := by
  intro pins s σ H D I h
  rw [exec_Assign_arm]
  refine wpAny_bind (wpAny_standAt ?_)
  rw [hs]
  refine wpAny_bind (wpAny_pure ?_)
  rw [if_neg (by decide)]
  refine wpAny_bind (Tuple_ (thn (ha _ pins s σ H _ I h) fun us s1 ⟨vs, H1, I1, r1, q1⟩ => ?_))
  obtain ⟨v, w, e1, q1⟩ := q1
  subst e1
  obtain ⟨u1, u2, rfl, rv, rw'⟩ : ∃ u1 u2, us = [u1, u2] ∧ RelV v u1 ∧ RelV w u2 := by
    cases r1 with
    | cons p q =>
      cases q with
      | cons p' q' =>
        cases q'
        exact ⟨_, _, rfl, p, p'⟩
  refine wpAny_newObj_type ?_ (by show 2 ≤ sizeLine; decide)
  have I2 : Inv X pins σ H1 { s1 with heap := s1.heap.push { cls := .type "tuple", data := .seq [u1, u2].toArray } } := I1.kept (t' := s1.toks) fun b o e => Heap.get?_push_of_some _ e
  rw [hw]
  refine wpAny_bind (wpAny_pure ?_)
  show wpAny (model X.prog X.w) X.A (do rule "assign.swapped-stores"; let items ← unpackItems (.ref s1.heap.objs.size) 2 none; assignInOrder [fun v => bindName X.env y v, fun v => bindName X.env x v] items.reverse; pure Flow.next) _ _ _
  refine wpAny_bind (wpAny_rule (wpAny_bind (unpackItems_tuple (items := #[u1, u2]) (I.ok.hd hc) (IsTup.new s1.heap _) fun h' hx' => ?_)))
  have I3 := I2.kept (h' := h') (t' := s1.toks) fun b o e => hx' b o (Nat.ne_of_lt (Heap.lt_size e)) e
  show wpAny _ _ (assignInOrder [fun v => bindName X.env y v, fun v => bindName X.env x v] [u2, u1] >>= fun _ => pure Flow.next) _ _ _
  refine wpAny_bind (assignInOrder_cons (wpAny_bindName (store_ok I3 hN hj (.inl hy) rw' (fun s2 I4 => ?_) (.inr hy))))
  refine assignInOrder_cons (wpAny_bindName (store_ok I4 hN hi (.inl hx) rv (fun s3 I5 => assignInOrder_nil (wpAny_pure ?_)) (.inr hx)))
  rw [List.set_comm _ _ (Ne.symm hij)] at I5
  exact ⟨_, H1, I5, q1⟩
def tAug (i : Nat) (te : TE) (ti : TIp) : TS := fun D σ H => ∃ x, σ[i]? = some (some x) ∧ te σ H fun y H1 => ti x y H1 fun z H2 => D.nx (σ.set i (some z)) H2
theorem ps_aug {i : Nat} {x : Str} {e : Expr} {te : TE} {op : Operator} {ti : TIp} {pos' : Pos} (hN : X.N.Nodup) (hi : X.N[i]? = some x) (hx : Loc X.env.scope x) (he : PE X e te) (ho : PIp X op ti) (hf : X.fn x = true ∨ X.env.scope.names.lookup x = some .local := by first | exact .inl rfl | exact .inr rfl | assumption) :
    PS X (.AugAssign (.Name x pos') op e pos) (tAug i te ti) := by
  intro pins s σ H D I h
  obtain ⟨v, e1, h⟩ := h
  obtain ⟨m, hn, hl⟩ := I.loc
  have vis : Vis X.env.scope x := by rcases hx with k | k; exact .inl k; exact .inr (.inl k)
  obtain ⟨u, r, l⟩ := hl i x v hi e1 vis
  refine wpAny_AugAssign_Name ?_
  have go : wpAny (model X.prog X.w) X.A (eval e X.env) (fun w s₂ => wpAny (model X.prog X.w) X.A (inplaceOp op u w) (fun r s₃ => wpAny (model X.prog X.w) X.A (storeName X.env x r) (fun _ => SP X pins D .next) X.xe s₃) X.xe s₂) X.xe s := by
    refine thn (he pins s σ H _ I h) fun w s1 ⟨y, H1, I1, r1, q1⟩ => ?_
    refine thn (ho pins s1 σ H1 v y u w _ I1 r r1 q1) fun z s2 ⟨zv, H2, I2, r2, q2⟩ => ?_
    exact store_ok I2 hN hi hx r2 (fun s3 I3 => ⟨_, H2, I3, q2⟩) hf
  rcases l with ⟨hk, hm⟩ | ⟨hk, c, hc, hcell⟩
  · exact wpAny_loadName_local I.ok.kind hk hn hm go
  · rcases hk with hk | hk
    · exact wpAny_loadName_cell I.ok.kind hk hc hcell go
    · rcases hx with k | k
      · have : X.env.scope.names.lookup x = some .free := hk
        rw [k] at this; cases this
      · have : X.env.scope.names.lookup x = some .free := hk
        rw [k] at this; cases this
def tAugS (to ti te : TE) (tget : V → V → Hp → VK → Prop) (tip : TIp) (tset : TSet) : TS := fun D σ H => to σ H fun o H1 => ti σ H1 fun i H2 => tget o i H2 fun x H3 => te σ H3 fun y H4 => tip x y H4 fun z H5 => tset o i z H5 fun H6 => D.nx σ H6
def PGet (X : Cx) (t : V → V → Hp → VK → Prop) : Prop :=
  ∀ (pins : List (Addr × Obj)) (s : Shared) (σ : St) (H : Hp) (o i : V) (ov iv : Value) (Q : VK), Inv X pins σ H s → RelV o ov → RelV i iv → t o i H Q →
    wpAny (model X.prog X.w) X.A (getItem ov iv) (EP X pins σ Q) X.xe s
theorem ps_augS {o i e : Expr} {to ti te : TE} {tget : V → V → Hp → VK → Prop} {tip : TIp} {tset : TSet} {op : Operator} {tpos : Pos} (ho : PE X o to) (hi : PE X i ti) (hg : PGet X tget) (he : PE X e te) (hp : PIp X op tip) (hs : PSet X tset)
    (ha : ∀ ov iv new, augStore i ov iv new = (do holding [new, ov, iv] (setItem ov iv new); release [new, ov, iv] []; pure .next) := by intros; rfl) : PS X (.AugAssign (.Subscript o i tpos) op e pos) (tAugS to ti te tget tip tset) := by
  intro pins s σ H D I h
  refine wpAny_AugAssign_SubscriptAny (thn (ho pins s σ H _ I h) fun ov s1 ⟨x1, H1, I1, r1, q1⟩ => ?_) ha
  refine thn (hi pins s1 σ H1 _ I1 q1) fun iv s2 ⟨x2, H2, I2, r2, q2⟩ => ?_
  refine thn (hg pins s2 σ H2 x1 x2 ov iv _ I2 r1 r2 q2) fun old s3 ⟨x3, H3, I3, r3, q3⟩ => ?_
  refine thn (he pins s3 σ H3 _ I3 q3) fun v s4 ⟨x4, H4, I4, r4, q4⟩ => ?_
  refine thn (hp pins s4 σ H4 x3 x4 old v _ I4 r3 r4 q4) fun new s5 ⟨x5, H5, I5, r5, q5⟩ => ?_
  exact thn (hs pins s5 σ H5 x1 x2 x5 ov iv new _ I5 r1 r2 r5 q5) fun _ s6 ⟨H6, I6, q6⟩ => ⟨σ, H6, I6, q6⟩
def ipI (f : Int → Int → Int) : TIp := fun x y H Q => ∃ i j, x = .int i ∧ y = .int j ∧ Q (.int (f i j)) H
theorem ip_add : PIp X .Add (ipI fun i j => i + j) := by
  intro pins s σ H x y v u Q I r1 r2 h
  obtain ⟨i, j, e1, e2, q⟩ := h
  subst e1; subst e2
  obtain ⟨t, rfl⟩ := r1
  obtain ⟨t', rfl⟩ := r2
  exact iadd_int ⟨.int _, H, I.tok _, ⟨_, rfl⟩, q⟩
theorem ip_sub : PIp X .Sub (ipI fun i j => i - j) := by
  intro pins s σ H x y v u Q I r1 r2 h
  obtain ⟨i, j, e1, e2, q⟩ := h
  subst e1; subst e2
  obtain ⟨t, rfl⟩ := r1
  obtain ⟨t', rfl⟩ := r2
  exact isub_int ⟨.int _, H, I.tok _, ⟨_, rfl⟩, q⟩
end
section
variable {X : Cx} {pos : Pos}
def tWhile (c : TT) (tb : TS) : TS := fun D σ H => ∃ W : Nat → St → Hp → Prop, (∃ m, W m σ H) ∧ ∀ m σ H, W m σ H →
  c σ H fun b H1 => if b = true then ∃ N : St → Hp → Prop, (∀ σ' H', N σ' H' → ∃ m', m' < m ∧ W m' σ' H') ∧ tb { D with nx := N, ct := N, bk := D.nx } σ H1 else D.nx σ H1
theorem ps_while {c : Expr} {body : List Stmt} {tc : TT} {tb : TS} (hp : PassesOwn (model X.prog X.w) X.A X.env X.xe) (hc : PT X c tc) (hb : PSs X body tb) : PS X (.While c body [] pos) (tWhile tc tb) := by
  intro pins s σ H D I h
  obtain ⟨W, ⟨m0, w0⟩, turn⟩ := h
  refine wpAny_While (codeAny_whileLoop (fun n s' => ∃ σ' H', Inv X pins σ' H' s' ∧ W n σ' H') ?_ m0 ⟨σ, H, I, w0⟩)
  rintro n s1 ⟨σ1, H1, I1, w1⟩
  refine wpAny_passesOwn hp (thn (hc pins s1 σ1 H1 _ I1 (turn n σ1 H1 w1)) fun b s2 ⟨H2, I2, q2⟩ => ?_)
  cases b with
  | true =>
    obtain ⟨N, hN, q2⟩ := q2
    rw [if_pos rfl]
    refine wpAny_passesOwn hp (thn (hb pins s2 σ1 H2 _ I2 q2) fun f s3 q3 => ?_)
    cases f with
    | next =>
      obtain ⟨σ3, H3, I3, n3⟩ := q3
      obtain ⟨m', hm, w3⟩ := hN σ3 H3 n3
      exact ⟨m', hm, σ3, H3, I3, w3⟩
    | cont =>
      obtain ⟨σ3, H3, I3, n3⟩ := q3
      obtain ⟨m', hm, w3⟩ := hN σ3 H3 n3
      exact ⟨m', hm, σ3, H3, I3, w3⟩
    | brk => exact q3
    | ret v => exact q3
  | false =>
    rw [if_neg Bool.false_ne_true]
    exact wpAny_execs_nil ⟨σ1, H2, I2, q2⟩
end
structure It where
  go : Nat → Hp → Prop
  yld : Nat → Hp → V → Hp → Prop
  stop : Nat → Hp → Prop
def FpOk (X : Cx) (pins : List (Addr × Obj)) (H : Hp) (b : Addr) : Prop :=
  H b = none ∧ b ≠ X.env.locals ∧ b ∉ X.fs ∧ (b ∈ X.ex ∨ X.s_0.heap.objs.size ≤ b) ∧ (∀ x c, X.env.cells.lookup x = some c → c ≠ b) ∧ ∀ p ∈ X.pn ++ pins, p.1 ≠ b
theorem Inv.fpOk {X : Cx} {pins : List (Addr × Obj)} {σ : St} {H H' : Hp} {s : Shared} {b : Addr} (I : Inv X pins σ H s) (hb : s.heap.objs.size ≤ b) (hn : H' b = none) : FpOk X pins H' b := by
  refine ⟨hn, Nat.ne_of_gt (Nat.lt_of_lt_of_le I.lt hb), I.nofs hb, .inr (Nat.le_trans I.sz hb), fun x c e z => ?_, fun p hp z => ?_⟩
  · obtain ⟨v, q⟩ := I.cell x c e
    exact absurd (Nat.lt_of_lt_of_le q.lt (by rw [z]; exact hb)) (Nat.lt_irrefl _)
  · exact absurd (Nat.lt_of_lt_of_le (Heap.lt_size (I.pin p hp).1) (by rw [z]; exact hb)) (Nat.lt_irrefl _)
structure Turn (P : Program) (w : World) (K : PySem.W.Frag) (tg : Expr) (J : It) (fp : List Addr) (it : Addr) (tn : Nat → Heap → Prop) : Prop where
  mem : it ∈ fp
  obj : ∀ i h, tn i h → ∀ b ∈ fp, ∃ o, h.get? b = some o ∧ ∀ v, o.data ≠ .cell v
  keep : ∀ i h h', tn i h → (∀ b ∈ fp, ∀ o, h.get? b = some o → h'.get? b = some o) → tn i h'
  item : ∀ (X : Cx), X.prog = P → X.w = w → X.K = K → X.calm = true → ∀ (i : Nat) (pins : List (Addr × Obj)) (s : Shared) (σ : St) (H : Hp) (E : Value → Shared → Prop), Inv X pins σ H s → (∀ b ∈ fp, FpOk X pins H b) → tn i s.heap → J.go i H →
    wpAny (model P w) X.A (pyNext (.ref it)) (fun r s1 => ∃ u, r = some u ∧
      wpAny (model P w) X.A (letOwnedTupleGo tg (.ref it) u) (fun _ s2 => ∃ x H', Inv X pins σ H' s2 ∧ RelV x u ∧ J.yld i H x H' ∧ tn (i + 1) s2.heap ∧ ∀ b ∈ fp, H' b = none) E s1) E s
  done : ∀ (X : Cx), X.prog = P → X.w = w → X.K = K → X.calm = true → ∀ (i : Nat) (pins : List (Addr × Obj)) (s : Shared) (σ : St) (H : Hp) (E : Value → Shared → Prop), Inv X pins σ H s → (∀ b ∈ fp, FpOk X pins H b) → tn i s.heap → J.stop i H →
    wpAny (model P w) X.A (pyNext (.ref it)) (fun r s1 => r = none ∧ Inv X pins σ H s1) E s
  self : ∀ (A : Around) (i : Nat) (s : Shared) (Q : Value → Shared → Prop) (E : Value → Shared → Prop), tn i s.heap → Q (.ref it) s → wpAny (model P w) A (pyIter (.ref it)) Q E s
abbrev TI := St → Hp → (It → Hp → Prop) → Prop
def PIE (X : Cx) (pins : List (Addr × Obj)) (σ : St) (tg : Expr) (R : It → Hp → Prop) (itv : Value) (s2 : Shared) : Prop :=
  ∃ (it : Addr) (fp : List Addr) (tn : Nat → Heap → Prop) (J : It) (H' : Hp), itv = .ref it ∧ Inv X pins σ H' s2 ∧ Turn X.prog X.w X.K tg J fp it tn ∧ tn 0 s2.heap ∧ (∀ b ∈ fp, FpOk X pins H' b) ∧ R J H'
def PI (X : Cx) (tg iter : Expr) (wi : TI) : Prop :=
  ∀ (pins : List (Addr × Obj)) (s : Shared) (σ : St) (H : Hp) (R : It → Hp → Prop), Inv X pins σ H s → wi σ H R →
    wpAny (model X.prog X.w) X.A (eval iter X.env) (fun v s1 => wpAny (model X.prog X.w) X.A (pyIter v) (PIE X pins σ tg R) X.xe s1) X.xe s
theorem go_of {M : Model} {A : Around} {E : Value → Shared → Prop} {s : Shared} {tg : Expr} {it : Addr} {u : Value} {o : Obj} {n : String} {vs : Array Value} {Q : Unit → Shared → Prop} (ho : s.heap.get? it = some o) (hc : o.cls = .type n) (hd : o.data = .fields vs)
    (hn : ["enumerate", "zip", "dict_itemiterator", "dict_reverseitemiterator", "odict_iterator", "itertools.zip_longest", "itertools.pairwise"].contains n = false) (hQ : Q () s) : wpAny M A (letOwnedTupleGo tg (.ref it) u) Q E s := by
  unfold letOwnedTupleGo
  cases tg <;> first
    | exact wpAny_pure hQ
    | (cases u <;> first
        | exact wpAny_pure hQ
        | (refine wpAny_bind (wpAny_load ho ?_)
           rw [hc, hd]
           show wpAny M A (if (["enumerate", "zip", "dict_itemiterator", "dict_reverseitemiterator", "odict_iterator", "itertools.zip_longest", "itertools.pairwise"].contains n && vs[0]? == some (rawInt _)) = true then _ else _) Q E s
           rw [if_neg (by intro h; rw [hn, Bool.false_and] at h; cases h)]
           exact wpAny_pure hQ))
def Itl (K : PySem.W.Frag) (a : Addr) : It :=
  ⟨fun i H => ∃ xs x, SqL K H a xs ∧ xs[i]? = some x, fun i H x H' => H' = H ∧ ∀ xs, SqL K H a xs → xs[i]? = some x, fun i H => ∃ xs, SqL K H a xs ∧ xs.length ≤ i⟩
def Itt (K : PySem.W.Frag) (a : Addr) : It :=
  ⟨fun i H => ∃ xs x, SqT K H a xs ∧ xs[i]? = some x, fun i H x H' => H' = H ∧ ∀ xs, SqT K H a xs → xs[i]? = some x, fun i H => ∃ xs, SqT K H a xs ∧ xs.length ≤ i⟩
def Itr (lo : Int) (n : Nat) : It := ⟨fun i _ => i < n, fun i H x H' => H' = H ∧ x = .int (lo + i), fun i _ => n ≤ i⟩
theorem turn_list {P : Program} {w : World} {K : PySem.W.Frag} {tg : Expr} (a it : Addr) : Turn P w K tg (Itl K a) [it] it (fun i h => h.IsListIter it a i) where
  mem := by simp
  obj := fun i h st b hb => by
    have e : b = it := by simpa using hb
    subst e
    obtain ⟨o, e, c, d⟩ := st
    exact ⟨o, e, fun v z => by rw [d] at z; cases z⟩
  keep := fun i h h' st k => st.at fun o e => k it (by simp) o e
  item := by
    intro X hP hw hK hc i pins s σ H E I hf st hg
    subst hP hw hK
    obtain ⟨xs, x, hq, hx⟩ := hg
    obtain ⟨its, rv, p, hz⟩ := I.list hq
    obtain ⟨u, hu, ru⟩ := rv.get hx
    obtain ⟨f0, f1, f2, f3, f4, f5⟩ := hf it (by simp)
    refine wpAny_pyNext_list_item st p.isList (x := u) (by simpa using hu) fun h' st' sb => ?_
    have I1 : Inv X pins σ H { s with heap := h' } := I.turned (t' := s.toks) (fun b o hb e => (sb.2 b hb).trans e) f0 f1 f3 f4 f5
    obtain ⟨o, e, c, d⟩ := id st'
    exact ⟨u, rfl, go_of (s := { s with heap := h' }) e c d (by decide) ⟨x, H, I1, ru, ⟨rfl, fun ys hy => by rw [I.list_inj hy hq]; exact hx⟩, st', fun b hb => (hf b hb).1⟩⟩
  done := by
    intro X hP hw hK hc i pins s σ H E I hf st hg
    subst hP hw hK
    obtain ⟨xs, hq, hx⟩ := hg
    obtain ⟨its, rv, p, hz⟩ := I.list hq
    obtain ⟨f0, f1, f2, f3, f4, f5⟩ := hf it (by simp)
    have hl := rv.length
    exact wpAny_pyNext_list_end (I.ok.hd hc) st p.isList (by simp; omega) fun h' eb => ⟨rfl, I.turned (t' := s.toks) (fun b o hb e => eb b o hb e) f0 f1 f3 f4 f5⟩
  self := fun _ _ _ _ _ st h => wpAny_pyIter_listiter st h
theorem turn_tuple {P : Program} {w : World} {K : PySem.W.Frag} {tg : Expr} (a it : Addr) : Turn P w K tg (Itt K a) [it] it (fun i h => h.IsTupleIter it a i) where
  mem := by simp
  obj := fun i h st b hb => by
    have e : b = it := by simpa using hb
    subst e
    obtain ⟨o, e, c, d⟩ := st
    exact ⟨o, e, fun v z => by rw [d] at z; cases z⟩
  keep := fun i h h' st k => st.at fun o e => k it (by simp) o e
  item := by
    intro X hP hw hK hc i pins s σ H E I hf st hg
    subst hP hw hK
    obtain ⟨xs, x, hq, hx⟩ := hg
    obtain ⟨its, rv, p, hz⟩ := I.tuple hq
    obtain ⟨u, hu, ru⟩ := rv.get hx
    obtain ⟨f0, f1, f2, f3, f4, f5⟩ := hf it (by simp)
    refine wpAny_pyNext_tuple_item st (show s.heap.IsTuple a its.toArray from p) (x := u) (by simpa using hu) fun h' st' sb => ?_
    have I1 : Inv X pins σ H { s with heap := h' } := I.turned (t' := s.toks) (fun b o hb e => (sb.2 b hb).trans e) f0 f1 f3 f4 f5
    obtain ⟨o, e, c, d⟩ := id st'
    exact ⟨u, rfl, go_of (s := { s with heap := h' }) e c d (by decide) ⟨x, H, I1, ru, ⟨rfl, fun ys hy => by rw [I.tuple_inj hy hq]; exact hx⟩, st', fun b hb => (hf b hb).1⟩⟩
  done := by
    intro X hP hw hK hc i pins s σ H E I hf st hg
    subst hP hw hK
    obtain ⟨xs, hq, hx⟩ := hg
    obtain ⟨its, rv, p, hz⟩ := I.tuple hq
    obtain ⟨f0, f1, f2, f3, f4, f5⟩ := hf it (by simp)
    have hl := rv.length
    exact wpAny_pyNext_tuple_end (I.ok.hd hc) st (show s.heap.IsTuple a its.toArray from p) (by simp; omega) fun h' eb => ⟨rfl, I.turned (t' := s.toks) (fun b o hb e => eb b o hb e) f0 f1 f3 f4 f5⟩
  self := fun _ _ _ _ _ st h => wpAny_pyIter_tupleiter st h
theorem turn_range {P : Program} {w : World} {K : PySem.W.Frag} {tg : Expr} (it : Addr) (lo : Int) (n : Nat) : Turn P w K tg (Itr lo n) [it] it (fun i h => IsRangeIter h it (lo + (i : Nat) * 1) ((n : Int) - (i : Nat)) 1) where
  mem := by simp
  obj := fun i h st b hb => by
    have e : b = it := by simpa using hb
    subst e
    exact ⟨_, st, fun v z => by
      have z' : Data.fields _ = Data.cell v := z
      cases z'⟩
  keep := fun i h h' st k => k it (by simp) _ st
  item := by
    intro X hP hw hK hc i pins s σ H E I hf st hg
    subst hP hw hK
    obtain ⟨f0, f1, f2, f3, f4, f5⟩ := hf it (by simp)
    have W := Walks.range (prog := X.prog) (w := X.w) (I.ok.hd hc) it lo 1 n
    refine W.item i s _ _ hg st fun v h' tk hv st' kk => ?_
    obtain ⟨t, rfl⟩ := hv
    have I1 : Inv X pins σ H { s with heap := h', toks := tk } := I.turned (fun b o hb e => kk b o (by simpa using hb) e) f0 f1 f3 f4 f5
    refine ⟨_, rfl, go_of (s := { s with heap := h', toks := tk }) (n := "range_iterator") st' rfl rfl (by decide) ⟨.int (lo + i), H, I1, ⟨t, ?_⟩, ⟨rfl, rfl⟩, st', fun b hb => (hf b hb).1⟩⟩
    rw [Int.mul_one]
  done := by
    intro X hP hw hK hc i pins s σ H E I hf st hg
    subst hP hw hK
    obtain ⟨f0, f1, f2, f3, f4, f5⟩ := hf it (by simp)
    exact wpAny_pyNext_range_end (I.ok.hd hc) st (by have : n ≤ i := hg; omega) fun h' eb => ⟨rfl, I.turned (t' := s.toks) (fun b o hb e => eb b o hb e) f0 f1 f3 f4 f5⟩
  self := fun _ _ _ _ _ st h => wpAny_pyIter_rangeiter st h
end L2
namespace L2
open PySem PySem.Spec PyProof.Rows
section
variable {X : Cx} {tg : Expr}
def iList (K : PySem.W.Frag) (tl : TE) : TI := fun σ H R => tl σ H fun x H1 => ∃ a, x = .ref a ∧ (∃ xs, SqL K H1 a xs) ∧ R (Itl K a) H1
def iTup (K : PySem.W.Frag) (tl : TE) : TI := fun σ H R => tl σ H fun x H1 => ∃ a, x = .ref a ∧ (∃ xs, SqT K H1 a xs) ∧ R (Itt K a) H1
theorem pi_list {l : Expr} {tl : TE} (hl : PE X l tl) : PI X tg l (iList X.K tl) := by
  intro pins s σ H R I h
  refine thn (hl pins s σ H _ I h) fun v s1 ⟨x, H1, I1, r1, q1⟩ => ?_
  obtain ⟨a, e, ⟨xs, hq⟩, q⟩ := q1
  subst e
  cases r1
  obtain ⟨its, rv, p, hz⟩ := I1.list hq
  refine wpAny_pyIter_list p.isList ?_
  refine ⟨s1.heap.objs.size, [s1.heap.objs.size], _, _, H1, rfl, I1.kept (t' := s1.toks) fun b o e => Heap.get?_push_of_some _ e, turn_list a _, ⟨_, Heap.get?_push_size _ rfl, rfl, rfl⟩, fun b hb => ?_, q⟩
  have e : b = s1.heap.objs.size := by simpa using hb
  subst e
  exact I1.fpOk (Nat.le_refl _) (I1.hok.fresh (Nat.le_refl _))
theorem pi_tup {l : Expr} {tl : TE} (hl : PE X l tl) : PI X tg l (iTup X.K tl) := by
  intro pins s σ H R I h
  refine thn (hl pins s σ H _ I h) fun v s1 ⟨x, H1, I1, r1, q1⟩ => ?_
  obtain ⟨a, e, ⟨xs, hq⟩, q⟩ := q1
  subst e
  cases r1
  obtain ⟨its, rv, p, hz⟩ := I1.tuple hq
  refine wpAny_pyIter_tuple (show s1.heap.IsTuple a its.toArray from p) ?_
  refine ⟨s1.heap.objs.size, [s1.heap.objs.size], _, _, H1, rfl, I1.kept (t' := s1.toks) fun b o e => Heap.get?_push_of_some _ e, turn_tuple a _, ⟨_, Heap.get?_push_size _ rfl, rfl, rfl⟩, fun b hb => ?_, q⟩
  have e : b = s1.heap.objs.size := by simpa using hb
  subst e
  exact I1.fpOk (Nat.le_refl _) (I1.hok.fresh (Nat.le_refl _))
theorem range_it {pins : List (Addr × Obj)} {σ : St} {H : Hp} {s : Shared} {R : It → Hp → Prop} {E : Value → Shared → Prop} {lo hi : Int} {t u v : Tok} {tk : Nat} (I : Inv X pins σ H s) (h1 : -(2 ^ 62) ≤ lo) (h2 : lo < 2 ^ 62) (h3 : -(2 ^ 62) ≤ hi) (h4 : hi < 2 ^ 62)
    (q : R (Itr lo (hi - lo).toNat) H) : wpAny (model X.prog X.w) X.A (pyIter (.ref s.heap.objs.size)) (PIE X pins σ tg R) E { s with heap := s.heap.push { cls := .type "range", data := .fields #[.int lo t, .int hi u, .int 1 v] }, toks := tk } := by
  refine wpAny_pyIter_range (IsRange.new ..) (small_one h1 h2 h3 h4) ?_
  have I1 : Inv X pins σ H { s with heap := s.heap.push { cls := .type "range", data := .fields #[.int lo t, .int hi u, .int 1 v] }, toks := tk } := I.kept fun b o e => Heap.get?_push_of_some _ e
  refine ⟨(s.heap.push { cls := .type "range", data := .fields #[.int lo t, .int hi u, .int 1 v] }).objs.size, [(s.heap.push { cls := .type "range", data := .fields #[.int lo t, .int hi u, .int 1 v] }).objs.size], _, _, H, rfl,
    I1.kept (t' := tk) fun b o e => Heap.get?_push_of_some _ e, turn_range _ lo (hi - lo).toNat, ?_, fun b hb => ?_, q⟩
  · have e1 : lo + ((0 : Nat) : Int) * 1 = lo := by simp
    have e2 : (((hi - lo).toNat : Nat) : Int) - ((0 : Nat) : Int) = Builtin.Range.rangeSize lo hi 1 := by rw [rangeSize_one]; split <;> omega
    show IsRangeIter _ _ (lo + ((0 : Nat) : Int) * 1) ((((hi - lo).toNat : Nat) : Int) - ((0 : Nat) : Int)) 1
    rw [e1, e2]
    exact Heap.get?_push_size _ rfl
  · have e : b = (s.heap.push { cls := .type "range", data := .fields #[.int lo t, .int hi u, .int 1 v] }).objs.size := by simpa using hb
    subst e
    exact I1.fpOk (Nat.le_refl _) (I1.hok.fresh (Nat.le_refl _))
def iRng1 (ta : TA) : TI := fun σ H R => ta σ H fun vs H1 => ∃ j : Int, vs = [.int j] ∧ -(2 ^ 62) ≤ j ∧ j < 2 ^ 62 ∧ R (Itr 0 j.toNat) H1
def iRng2 (ta : TA) : TI := fun σ H R => ta σ H fun vs H1 => ∃ i j : Int, vs = [.int i, .int j] ∧ (-(2 ^ 62) ≤ i ∧ i < 2 ^ 62 ∧ -(2 ^ 62) ≤ j ∧ j < 2 ^ 62) ∧ R (Itr i (j - i).toNat) H1
theorem pi_range1 {a : Expr} {ta : TA} {p pos : Pos} (hg : Gl X "range") (hm : X.mg "range" = none) (ha : PA X [a] ta) (hs : starEach [a] X.env = [(false, eval a X.env)] := by rfl) : PI X tg (.Call (.Name "range" p) [a] [] pos) (iRng1 ta) := by
  intro pins s σ H R I h
  refine Call_ (ld_blt I hg hm boot_range (PyProof.Rows.callWith_type1 (thn (ha pos pins s σ H _ I h) fun us s1 ⟨vs, H1, I1, r1, q1⟩ => ?_) hs rfl))
  obtain ⟨j, e, q1, q2, q⟩ := q1
  subst e
  cases r1 with
  | cons r rr =>
    cases rr
    obtain ⟨t, rfl⟩ := r
    exact call_range_1 (range_it I1 (by omega) (by omega) q1 q2 (by simpa using q))
theorem pi_range2 {a b : Expr} {ta : TA} {p pos : Pos} (hg : Gl X "range") (hm : X.mg "range" = none) (ha : PA X [a, b] ta) (hs : starEach [a, b] X.env = [(false, eval a X.env), (false, eval b X.env)] := by rfl) (hs2 : starEach [b] X.env = [(false, eval b X.env)] := by rfl) :
    PI X tg (.Call (.Name "range" p) [a, b] [] pos) (iRng2 ta) := by
  intro pins s σ H R I h
  refine Call_ (ld_blt I hg hm boot_range (PyProof.Rows.callWith_type1 (thn (ha pos pins s σ H _ I h) fun us s1 ⟨vs, H1, I1, r1, q1⟩ => ?_) (by rw [hs, hs2]) (by rw [hs2]; rfl)))
  obtain ⟨i, j, e, ⟨q1, q2, q3, q4⟩, q⟩ := q1
  subst e
  cases r1 with
  | cons r rr =>
    cases rr with
    | cons r' rr =>
      cases rr
      obtain ⟨t, rfl⟩ := r
      obtain ⟨t', rfl⟩ := r'
      exact call_range_2 (range_it I1 q1 q2 q3 q4 q)
def tFor (wi : TI) (g : TG) (tb : TS) : TS := fun D σ H => wi σ H fun J H1 => ∃ W : Nat → Nat → St → Hp → Prop, (∃ m, W 0 m σ H1) ∧ ∀ i m σ H, W i m σ H →
  (J.stop i H ∧ D.nx σ H) ∨ (J.go i H ∧ ∃ N : St → Hp → Prop, (∀ σ' H', N σ' H' → ∃ m', m' < m ∧ W (i + 1) m' σ' H') ∧ ∀ x H', J.yld i H x H' → g x σ H' fun σ2 H2 => tb { D with nx := N, ct := N, bk := D.nx } σ2 H2)
def pinsAt (fp : List Addr) (h : Heap) : List (Addr × Obj) := fp.filterMap fun b => (h.get? b).map fun o => (b, o)
theorem mem_pinsAt {fp : List Addr} {h : Heap} {b : Addr} {o : Obj} (hb : b ∈ fp) (e : h.get? b = some o) : (b, o) ∈ pinsAt fp h := List.mem_filterMap.mpr ⟨b, hb, by rw [e]; rfl⟩
theorem of_pinsAt {fp : List Addr} {h : Heap} {p : Addr × Obj} (hp : p ∈ pinsAt fp h) : p.1 ∈ fp ∧ h.get? p.1 = some p.2 := by
  obtain ⟨b, hb, e⟩ := List.mem_filterMap.mp hp
  cases q : h.get? b with
  | none => rw [q] at e; cases e
  | some o =>
    rw [q] at e
    have e' : (b, o) = p := Option.some.inj e
    subst e'
    exact ⟨hb, q⟩
theorem Inv.pinned {pins : List (Addr × Obj)} {σ : St} {H : Hp} {s : Shared} {fp : List Addr} (I : Inv X pins σ H s) (hf : ∀ b ∈ fp, FpOk X pins H b) (ho : ∀ b ∈ fp, ∃ o, s.heap.get? b = some o ∧ ∀ v, o.data ≠ .cell v) : Inv X (pins ++ pinsAt fp s.heap) σ H s :=
  I.pins_of fun p hp => (List.mem_append.mp hp).elim (fun z => I.pin p (List.mem_append_right _ z)) fun z => by
    obtain ⟨hb, e⟩ := of_pinsAt z
    obtain ⟨f0, f1, f2, _⟩ := hf p.1 hb
    obtain ⟨o, e', d⟩ := ho p.1 hb
    rw [e] at e'; cases e'
    exact ⟨e, f0, f1, f2, d⟩
theorem Inv.unpinned {pins pl : List (Addr × Obj)} {σ : St} {H : Hp} {s : Shared} (I : Inv X (pins ++ pl) σ H s) : Inv X pins σ H s := I.pins_of fun p hp => I.pin p (List.mem_append_right _ (List.mem_append_left _ hp))
theorem ps_for {iter : Expr} {body : List Stmt} {wi : TI} {g : TG} {tb : TS} {pos : Pos} (hp : PassesOwn (model X.prog X.w) X.A X.env X.xe) (hc : X.calm = true) (hi : PI X tg iter wi) (hg : PG X tg g) (hb : PSs X body tb)
    (hs : ∀ x, foldedSetIterable iter X.env x = pure x := by intro _; rfl) : PS X (.For tg iter body [] pos) (tFor wi g tb) := by
  intro pins s σ H D I h
  refine wpAny_For (thn (hi pins s σ H _ I h) fun v s1 h1 => thn h1 fun itv s2 h2 => ?_) hs
  obtain ⟨it, fp, tn, J, H2, e, I2, T, st2, f2, W, ⟨m0, w0⟩, turn⟩ := h2
  subst e
  -- what stays true of the iterator's objects through the loop
  have stat : ∀ {H' : Hp}, (∀ b ∈ fp, H' b = none) → ∀ b ∈ fp, FpOk X pins H' b := fun hn b hb => ⟨hn b hb, (f2 b hb).2⟩
  refine codeAny_forLoop_any (fun n s' => ∃ i σ' H', Inv X pins σ' H' s' ∧ tn i s'.heap ∧ (∀ b ∈ fp, H' b = none) ∧ W i n σ' H') ?_ m0 ⟨0, σ, H2, I2, st2, fun b hb => (f2 b hb).1, w0⟩
  rintro n s3 ⟨i, σ3, H3, I3, st3, fr3, w3⟩
  rcases turn i n σ3 H3 w3 with ⟨stop, qn⟩ | ⟨go, N, hN, step⟩
  · refine wpAny_passesOwn hp (thn (T.done X rfl rfl rfl hc i pins s3 σ3 H3 X.xe I3 (stat fr3) st3 stop) fun r s4 ⟨hr, I4⟩ => ?_)
    subst hr
    exact wpAny_execs_nil ⟨σ3, H3, I4, qn⟩
  · refine wpAny_passesOwn hp (thn (T.item X rfl rfl rfl hc i pins s3 σ3 H3 X.xe I3 (stat fr3) st3 go) fun r s4 ⟨u, hr, h4⟩ => ?_)
    subst hr
    refine wpAny_passesOwn hp (thn h4 fun _ s5 ⟨x, H5, I5, r5, y5, st5, fr5⟩ => ?_)
    have I5' := I5.pinned (stat fr5) (T.obj _ _ st5)
    refine wpAny_passesOwn hp (thn (hg _ s5 σ3 H5 x u _ I5' r5 (step x H5 y5)) fun _ s6 ⟨σ6, H6, I6, q6⟩ => ?_)
    refine wpAny_passesOwn hp (thn (hb _ s6 σ6 H6 _ I6 q6) fun f s7 q7 => ?_)
    have again : ∀ {σ7 : St} {H7 : Hp}, Inv X (pins ++ pinsAt fp s5.heap) σ7 H7 s7 → N σ7 H7 → ∃ m, m < n ∧ ∃ i σ' H', Inv X pins σ' H' s7 ∧ tn i s7.heap ∧ (∀ b ∈ fp, H' b = none) ∧ W i m σ' H' := fun {σ7 H7} I7 n7 => by
      obtain ⟨m', hm, w7⟩ := hN σ7 H7 n7
      refine ⟨m', hm, i + 1, σ7, H7, I7.unpinned, T.keep _ _ _ st5 fun b hb o e => (I7.pin (b, o) (List.mem_append_right _ (List.mem_append_right _ (mem_pinsAt hb e)))).1, fun b hb => ?_, w7⟩
      obtain ⟨o, e, d⟩ := T.obj _ _ st5 b hb
      exact (I7.pin (b, o) (List.mem_append_right _ (List.mem_append_right _ (mem_pinsAt hb e)))).2.1
    cases f with
    | next => obtain ⟨σ7, H7, I7, n7⟩ := q7; exact again I7 n7
    | cont => obtain ⟨σ7, H7, I7, n7⟩ := q7; exact again I7 n7
    | brk => obtain ⟨σ7, H7, I7, q7⟩ := q7; exact ⟨σ7, H7, I7.unpinned, q7⟩
    | ret v => obtain ⟨x7, σ7, H7, I7, r7, q7⟩ := q7; exact ⟨x7, σ7, H7, I7.unpinned, r7, q7⟩
end
theorem for_list {K : PySem.W.Frag} {a : Addr} {xs : List V} {g : TG} {tb : TS} {D : Ends} {σ : St} {H : Hp} (Pv : Nat → St → Hp → Prop) (h0 : Pv 0 σ H) (hl : ∀ i σ H, i ≤ xs.length → Pv i σ H → SqL K H a xs)
    (hs : ∀ i x σ H, xs[i]? = some x → Pv i σ H → g x σ H fun σ2 H2 => tb { D with nx := Pv (i + 1), ct := Pv (i + 1), bk := D.nx } σ2 H2) (hd : ∀ σ H, Pv xs.length σ H → D.nx σ H) :
    ∃ W : Nat → Nat → St → Hp → Prop, (∃ m, W 0 m σ H) ∧ ∀ i m σ H, W i m σ H →
      ((Itl K a).stop i H ∧ D.nx σ H) ∨ ((Itl K a).go i H ∧ ∃ N : St → Hp → Prop, (∀ σ' H', N σ' H' → ∃ m', m' < m ∧ W (i + 1) m' σ' H') ∧ ∀ x H', (Itl K a).yld i H x H' → g x σ H' fun σ2 H2 => tb { D with nx := N, ct := N, bk := D.nx } σ2 H2) := by
  refine ⟨fun i m σ H => m = xs.length - i ∧ i ≤ xs.length ∧ Pv i σ H, ⟨xs.length, by simp, Nat.zero_le _, h0⟩, ?_⟩
  rintro i m σ H ⟨rfl, hi, p⟩
  have q := hl i σ H hi p
  by_cases hlt : i < xs.length
  · refine .inr ⟨⟨xs, xs[i], q, by simp [hlt]⟩, Pv (i + 1), fun σ' H' p' => ⟨xs.length - (i + 1), by omega, rfl, hlt, p'⟩, fun x H' y => ?_⟩
    obtain ⟨e, y⟩ := y
    subst e
    exact hs i x σ _ (y xs q) p
  · have e : i = xs.length := by omega
    subst e
    exact .inl ⟨⟨xs, q, Nat.le_refl _⟩, hd σ H p⟩
theorem for_tup {K : PySem.W.Frag} {a : Addr} {xs : List V} {g : TG} {tb : TS} {D : Ends} {σ : St} {H : Hp} (Pv : Nat → St → Hp → Prop) (h0 : Pv 0 σ H) (hl : ∀ i σ H, i ≤ xs.length → Pv i σ H → SqT K H a xs)
    (hs : ∀ i x σ H, xs[i]? = some x → Pv i σ H → g x σ H fun σ2 H2 => tb { D with nx := Pv (i + 1), ct := Pv (i + 1), bk := D.nx } σ2 H2) (hd : ∀ σ H, Pv xs.length σ H → D.nx σ H) :
    ∃ W : Nat → Nat → St → Hp → Prop, (∃ m, W 0 m σ H) ∧ ∀ i m σ H, W i m σ H →
      ((Itt K a).stop i H ∧ D.nx σ H) ∨ ((Itt K a).go i H ∧ ∃ N : St → Hp → Prop, (∀ σ' H', N σ' H' → ∃ m', m' < m ∧ W (i + 1) m' σ' H') ∧ ∀ x H', (Itt K a).yld i H x H' → g x σ H' fun σ2 H2 => tb { D with nx := N, ct := N, bk := D.nx } σ2 H2) := by
  refine ⟨fun i m σ H => m = xs.length - i ∧ i ≤ xs.length ∧ Pv i σ H, ⟨xs.length, by simp, Nat.zero_le _, h0⟩, ?_⟩
  rintro i m σ H ⟨rfl, hi, p⟩
  have q := hl i σ H hi p
  by_cases hlt : i < xs.length
  · refine .inr ⟨⟨xs, xs[i], q, by simp [hlt]⟩, Pv (i + 1), fun σ' H' p' => ⟨xs.length - (i + 1), by omega, rfl, hlt, p'⟩, fun x H' y => ?_⟩
    obtain ⟨e, y⟩ := y
    subst e
    exact hs i x σ _ (y xs q) p
  · have e : i = xs.length := by omega
    subst e
    exact .inl ⟨⟨xs, q, Nat.le_refl _⟩, hd σ H p⟩
theorem for_range {lo : Int} {n : Nat} {g : TG} {tb : TS} {D : Ends} {σ : St} {H : Hp} (Pv : Nat → St → Hp → Prop) (h0 : Pv 0 σ H)
    (hs : ∀ i σ H, i < n → Pv i σ H → g (.int (lo + i)) σ H fun σ2 H2 => tb { D with nx := Pv (i + 1), ct := Pv (i + 1), bk := D.nx } σ2 H2) (hd : ∀ σ H, Pv n σ H → D.nx σ H) :
    ∃ W : Nat → Nat → St → Hp → Prop, (∃ m, W 0 m σ H) ∧ ∀ i m σ H, W i m σ H →
      ((Itr lo n).stop i H ∧ D.nx σ H) ∨ ((Itr lo n).go i H ∧ ∃ N : St → Hp → Prop, (∀ σ' H', N σ' H' → ∃ m', m' < m ∧ W (i + 1) m' σ' H') ∧ ∀ x H', (Itr lo n).yld i H x H' → g x σ H' fun σ2 H2 => tb { D with nx := N, ct := N, bk := D.nx } σ2 H2) := by
  refine ⟨fun i m σ H => m = n - i ∧ i ≤ n ∧ Pv i σ H, ⟨n, by simp, Nat.zero_le _, h0⟩, ?_⟩
  rintro i m σ H ⟨rfl, hi, p⟩
  by_cases hlt : i < n
  · refine .inr ⟨hlt, Pv (i + 1), fun σ' H' p' => ⟨n - (i + 1), by omega, rfl, hlt, p'⟩, fun x H' y => ?_⟩
    obtain ⟨e, y⟩ := y
    subst e y
    exact hs i σ _ hlt p
  · have e : i = n := by omega
    subst e
    exact .inl ⟨Nat.le_refl _, hd σ H p⟩
theorem while_by {c : TT} {tb : TS} {D : Ends} {σ : St} {H : Hp} (Pv : St → Hp → Prop) (μ : St → Hp → Nat) (h0 : Pv σ H)
    (hs : ∀ σ H, Pv σ H → c σ H fun b H1 => if b = true then tb { D with nx := fun σ' H' => Pv σ' H' ∧ μ σ' H' < μ σ H, ct := fun σ' H' => Pv σ' H' ∧ μ σ' H' < μ σ H, bk := D.nx } σ H1 else D.nx σ H1)
    (mono : ∀ σ H Q Q', (∀ b H1, Q b H1 → Q' b H1) → c σ H Q → c σ H Q') : tWhile c tb D σ H := by
  refine ⟨fun m σ H => m = μ σ H ∧ Pv σ H, ⟨_, rfl, h0⟩, ?_⟩
  rintro m σ H ⟨rfl, p⟩
  refine mono σ H _ _ (fun b H1 q => ?_) (hs σ H p)
  cases b with
  | true => exact ⟨_, fun σ' H' ⟨p', l⟩ => ⟨_, l, rfl, p'⟩, q⟩
  | false => exact q
end L2
namespace L2
open PySem PySem.Spec PyProof.Rows
abbrev R2 := V → V → Hp → VK → Prop
def OpR (X : Cx) (f : Value → Value → Sem Value) (r : R2) : Prop :=
  ∀ (pins : List (Addr × Obj)) (s : Shared) (σ : St) (H : Hp) (x y : V) (v u : Value) (Q : VK), Inv X pins σ H s → RelV x v → RelV y u → r x y H Q →
    wpAny (model X.prog X.w) X.A (f v u) (EP X pins σ Q) X.xe s
def UnR (X : Cx) (f : Value → Sem Value) (r : V → Hp → VK → Prop) : Prop :=
  ∀ (pins : List (Addr × Obj)) (s : Shared) (σ : St) (H : Hp) (x : V) (v : Value) (Q : VK), Inv X pins σ H s → RelV x v → r x H Q →
    wpAny (model X.prog X.w) X.A (f v) (EP X pins σ Q) X.xe s
def CallR (X : Cx) (f : Value) (r : List V → Hp → VK → Prop) : Prop :=
  ∀ (pins : List (Addr × Obj)) (s : Shared) (σ : St) (H : Hp) (xs : List V) (us : List Value) (Q : VK), Inv X pins σ H s → Vals xs us → r xs H Q →
    wpAny (model X.prog X.w) X.A (call f us) (EP X pins σ Q) X.xe s
def TruR (X : Cx) (r : V → Hp → (Bool → Hp → Prop) → Prop) : Prop :=
  ∀ (pins : List (Addr × Obj)) (s : Shared) (σ : St) (H : Hp) (x : V) (v : Value) (Q : Bool → Hp → Prop), Inv X pins σ H s → RelV x v → r x H Q →
    wpAny (model X.prog X.w) X.A (truthy v) (TP X pins σ Q) X.xe s
def tOp (r : R2) (ta tb : TE) : TE := fun σ H Q => ta σ H fun x H1 => tb σ H1 fun y H2 => r x y H2 Q
def tUn (r : V → Hp → VK → Prop) (ta : TE) : TE := fun σ H Q => ta σ H fun x H1 => r x H1 Q
def rI (C : Int → Int → Prop) (g : Int → Int → V) : R2 := fun x y H Q => ∃ i j, x = .int i ∧ y = .int j ∧ C i j ∧ Q (g i j) H
def rI0 (g : Int → Int → V) : R2 := fun x y H Q => ∃ i j, x = .int i ∧ y = .int j ∧ Q (g i j) H
def rU (g : Int → V) : V → Hp → VK → Prop := fun x H Q => ∃ i, x = .int i ∧ Q (g i) H
section
variable {X : Cx} {a b c : Expr} {ta tb tc : TE} {pos : Pos}
theorem binT (ha : PE X a ta) (hb : PE X b tb) {pins : List (Addr × Obj)} {s : Shared} {σ : St} {H : Hp} {R : V → V → Hp → Prop} (I : Inv X pins σ H s)
    (h : ta σ H fun x H1 => tb σ H1 fun y H2 => R x y H2) {Q : Value → Shared → Prop} {f : Value → Value → Sem Value}
    (hf : ∀ v u s2 x y H2, Inv X pins σ H2 s2 → RelV x v → RelV y u → R x y H2 → wpAny (model X.prog X.w) X.A (f v u) Q X.xe s2) :
    wpAny (model X.prog X.w) X.A (eval a X.env) (fun v s₁ => wpAny (model X.prog X.w) X.A (eval b X.env) (fun u s₂ => wpAny (model X.prog X.w) X.A (f v u) Q X.xe s₂) X.xe s₁) X.xe s := by
  refine thn (ha pins s σ H _ I h) fun v s1 ⟨x, H1, I1, r1, q1⟩ => ?_
  refine thn (hb pins s1 σ H1 _ I1 q1) fun u s2 ⟨y, H2, I2, r2, q2⟩ => ?_
  exact hf v u s2 x y H2 I2 r1 r2 q2
theorem pe_op {op : Operator} {r : R2} (ho : OpR X (binaryOp op) r) (ha : PE X a ta) (hb : PE X b tb) : PE X (.BinOp a op b pos) (tOp r ta tb) := by
  intro pins s σ H Q I h
  exact wpAny_BinOp (binT ha hb I h fun v u s2 x y H2 I2 rx ry q => ho pins s2 σ H2 x y v u Q I2 rx ry q)
theorem pe_un {op : UnaryOp} {r : V → Hp → VK → Prop} (ho : UnR X (unaryOp op) r) (ha : PE X a ta) : PE X (.UnaryOp op a pos) (tUn r ta) := by
  intro pins s σ H Q I h
  exact UnaryOp_ (thn (ha pins s σ H _ I h) fun v s1 ⟨x, H1, I1, r1, q1⟩ => ho pins s1 σ H1 x v Q I1 r1 q1)
theorem opI {f : Value → Value → Sem Value} {C : Int → Int → Prop} {g : Int → Int → Int}
    (rule : ∀ (i j : Int) (t u : Tok) (s : Shared) (Q : Value → Shared → Prop) (E : Value → Shared → Prop), C i j → Q (.int (g i j) s.toks) { s with toks := s.toks + 1 } → wpAny (model X.prog X.w) X.A (f (.int i t) (.int j u)) Q E s) :
    OpR X f (rI C fun i j => .int (g i j)) := by
  intro pins s σ H x y v u Q I rx ry h
  obtain ⟨i, j, rfl, rfl, hc, q⟩ := h
  obtain ⟨t, rfl⟩ := rx
  obtain ⟨t', rfl⟩ := ry
  exact rule i j t t' s _ _ hc ⟨.int (g i j), H, I.tok _, ⟨_, rfl⟩, q⟩
theorem opI0 {f : Value → Value → Sem Value} {g : Int → Int → Int}
    (rule : ∀ (i j : Int) (t u : Tok) (s : Shared) (Q : Value → Shared → Prop) (E : Value → Shared → Prop), Q (.int (g i j) s.toks) { s with toks := s.toks + 1 } → wpAny (model X.prog X.w) X.A (f (.int i t) (.int j u)) Q E s) :
    OpR X f (rI0 fun i j => .int (g i j)) := by
  intro pins s σ H x y v u Q I rx ry h
  obtain ⟨i, j, rfl, rfl, q⟩ := h
  obtain ⟨t, rfl⟩ := rx
  obtain ⟨t', rfl⟩ := ry
  exact rule i j t t' s _ _ ⟨.int (g i j), H, I.tok _, ⟨_, rfl⟩, q⟩
theorem opB0 {f : Value → Value → Sem Value} {g : Int → Int → Bool}
    (rule : ∀ (i j : Int) (t u : Tok) (s : Shared) (Q : Value → Shared → Prop) (E : Value → Shared → Prop), Q (.bool (g i j)) s → wpAny (model X.prog X.w) X.A (f (.int i t) (.int j u)) Q E s) :
    OpR X f (rI0 fun i j => .bl (g i j)) := by
  intro pins s σ H x y v u Q I rx ry h
  obtain ⟨i, j, rfl, rfl, q⟩ := h
  obtain ⟨t, rfl⟩ := rx
  obtain ⟨t', rfl⟩ := ry
  exact rule i j t t' s _ _ ⟨.bl (g i j), H, I, rfl, q⟩
def CDiv (i j : Int) : Prop := 0 < j ∧ j < 1073741824
def CMul (i j : Int) : Prop := (-(2 ^ 64) < i ∧ i < 2 ^ 64) ∨ (-(2 ^ 64) < j ∧ j < 2 ^ 64)
theorem CMul.ok {i j : Int} (h : CMul i j) : IntMulOk i j := by
  rcases h with ⟨h1, h2⟩ | ⟨h1, h2⟩
  · exact .of_left (intBits_le_64 h1 h2)
  · exact .of_right (intBits_le_64 h1 h2)
theorem op_add : OpR X (binaryOp .Add) (rI0 fun i j => .int (i + j)) := opI0 fun _ _ _ _ _ _ _ q => add_int q
theorem op_sub : OpR X (binaryOp .Sub) (rI0 fun i j => .int (i - j)) := opI0 fun _ _ _ _ _ _ _ q => sub_int q
theorem op_mul : OpR X (binaryOp .Mult) (rI CMul fun i j => .int (i * j)) := opI fun _ _ _ _ _ _ _ hc q => mul_int q hc.ok
theorem op_fdiv : OpR X (binaryOp .FloorDiv) (rI CDiv fun i j => .int (i / j)) := opI fun i j _ _ _ _ _ hc q => by
  have h1 : (0 : Int) < j := hc.1
  have h2 : j < 1073741824 := hc.2
  exact floordiv_int (by omega) (by rw [Int.fdiv_eq_ediv_of_nonneg i (by omega)]; exact q) (.inl (PyProof.noPylong_small (by omega)))
theorem op_mod : OpR X (binaryOp .Mod) (rI (fun _ j => 0 < j) fun i j => .int (i % j)) := opI fun i j _ _ _ _ _ hc q => by
  have h1 : (0 : Int) < j := hc
  exact mod_int' (by omega) (by rw [Int.fmod_eq_emod_of_nonneg i (by omega)]; exact q)
theorem unI {f : Value → Sem Value} {g : Int → Int}
    (rule : ∀ (i : Int) (t : Tok) (s : Shared) (Q : Value → Shared → Prop) (E : Value → Shared → Prop), Q (.int (g i) s.toks) { s with toks := s.toks + 1 } → wpAny (model X.prog X.w) X.A (f (.int i t)) Q E s) :
    UnR X f (rU fun i => .int (g i)) := by
  intro pins s σ H x v Q I rx h
  obtain ⟨i, rfl, q⟩ := h
  obtain ⟨t, rfl⟩ := rx
  exact rule i t s _ _ ⟨.int (g i), H, I.tok _, ⟨_, rfl⟩, q⟩
theorem un_neg : UnR X (unaryOp .USub) (rU fun i => .int (-i)) := unI fun _ _ _ _ _ q => neg_int q
end
def scal : V → V → Bool
  | .non, .non => true | .non, .int _ => true | .int _, .non => true | .non, .bl _ => true | .bl _, .non => true | .non, .str _ => true | .str _, .non => true
  | .int _, .int _ => true | .bl _, .bl _ => true | .str _, .str _ => true | .byt _, .byt _ => true
  | .int _, .str _ => true | .str _, .int _ => true | .bl _, .str _ => true | .str _, .bl _ => true
  | _, _ => false
def rEq : R2 := fun x y H Q => scal x y = true ∧ Q (.bl (decide (x = y))) H
def rNe : R2 := fun x y H Q => scal x y = true ∧ Q (.bl (!decide (x = y))) H
theorem dec_int {i j : Int} : decide (V.int i = V.int j) = (i == j) := by
  rw [Bool.eq_iff_iff]
  simp
theorem dec_bl {i j : Bool} : decide (V.bl i = V.bl j) = (i == j) := by
  rw [Bool.eq_iff_iff]
  simp
theorem dec_str {i j : Str} : decide (V.str i = V.str j) = (i == j) := by
  rw [Bool.eq_iff_iff]
  simp
theorem dec_byt {i j : Array UInt8} : decide (V.byt i = V.byt j) = (i.toList == j.toList) := by
  rw [Bool.eq_iff_iff]
  cases i
  cases j
  simp
section
variable {X : Cx} {a b c : Expr} {ta tb tc : TE} {pos : Pos}
theorem fin_bl {pins : List (Addr × Obj)} {σ : St} {H : Hp} {s : Shared} {Q : VK} {k k' : Bool} (I : Inv X pins σ H s) (q : Q (.bl k) H) (e : k = k') : EP X pins σ Q (.bool k') s := by
  subst e
  exact ⟨.bl k, H, I, rfl, q⟩
theorem op_eq : OpR X (compareOp .Eq) rEq := by
  intro pins s σ H x y v u Q I rx ry h
  obtain ⟨hs, q⟩ := h
  cases x with
  | non =>
    cases rx
    cases y with
    | non => cases ry; exact PySem.EqNone.eq_none_none (fin_bl I q (by simp))
    | bl j => cases ry; exact PySem.EqNone.eq_none_bool (fin_bl I q (by simp))
    | int j => obtain ⟨t', rfl⟩ := ry; exact PySem.EqNone.eq_none_int (fin_bl I q (by simp))
    | str j => obtain ⟨t', rfl⟩ := ry; exact PySem.EqNone.eq_none_str (fin_bl I q (by simp))
    | _ => exact absurd (show false = true from hs) Bool.false_ne_true
  | bl i =>
    cases rx
    cases y with
    | non => cases ry; exact PySem.EqNone.eq_bool_none (fin_bl I q (by simp))
    | bl j => cases ry; exact eq_bool (fin_bl I q dec_bl)
    | str j => obtain ⟨t', rfl⟩ := ry; exact PySem.EqMixed.eq_bool_str (fin_bl I q (by simp))
    | _ => exact absurd (show false = true from hs) Bool.false_ne_true
  | int i =>
    obtain ⟨t, rfl⟩ := rx
    cases y with
    | non => cases ry; exact PySem.EqNone.eq_int_none (fin_bl I q (by simp))
    | int j => obtain ⟨t', rfl⟩ := ry; exact eq_int (fin_bl I q dec_int)
    | str j => obtain ⟨t', rfl⟩ := ry; exact PySem.EqMixed.eq_int_str (fin_bl I q (by simp))
    | _ => exact absurd (show false = true from hs) Bool.false_ne_true
  | str i =>
    obtain ⟨t, rfl⟩ := rx
    cases y with
    | non => cases ry; exact PySem.EqNone.eq_str_none (fin_bl I q (by simp))
    | bl j => cases ry; exact PySem.EqMixed.eq_str_bool (fin_bl I q (by simp))
    | int j => obtain ⟨t', rfl⟩ := ry; exact PySem.EqMixed.eq_str_int (fin_bl I q (by simp))
    | str j => obtain ⟨t', rfl⟩ := ry; exact eq_str (fin_bl I q dec_str)
    | _ => exact absurd (show false = true from hs) Bool.false_ne_true
  | byt i =>
    obtain ⟨t, rfl⟩ := rx
    cases y with
    | byt j => obtain ⟨t', rfl⟩ := ry; exact PySem.W.eq_bytes (fin_bl I q dec_byt)
    | _ => exact absurd (show false = true from hs) Bool.false_ne_true
  | _ => cases y <;> exact absurd (show false = true from hs) Bool.false_ne_true
theorem op_ne : OpR X (compareOp .NotEq) rNe := by
  intro pins s σ H x y v u Q I rx ry h
  obtain ⟨hs, q⟩ := h
  cases x with
  | non =>
    cases rx
    cases y with
    | non => cases ry; exact PySem.EqNone.ne_none_none (fin_bl I q (by simp))
    | bl j => cases ry; exact PySem.EqNone.ne_none_bool (fin_bl I q (by simp))
    | int j => obtain ⟨t', rfl⟩ := ry; exact PySem.EqNone.ne_none_int (fin_bl I q (by simp))
    | str j => obtain ⟨t', rfl⟩ := ry; exact PySem.EqNone.ne_none_str (fin_bl I q (by simp))
    | _ => exact absurd (show false = true from hs) Bool.false_ne_true
  | bl i =>
    cases rx
    cases y with
    | non => cases ry; exact PySem.EqNone.ne_bool_none (fin_bl I q (by simp))
    | bl j => cases ry; exact ne_bool (fin_bl I q (congrArg not dec_bl))
    | str j => obtain ⟨t', rfl⟩ := ry; exact PySem.EqMixed.ne_bool_str (fin_bl I q (by simp))
    | _ => exact absurd (show false = true from hs) Bool.false_ne_true
  | int i =>
    obtain ⟨t, rfl⟩ := rx
    cases y with
    | non => cases ry; exact PySem.EqNone.ne_int_none (fin_bl I q (by simp))
    | int j => obtain ⟨t', rfl⟩ := ry; exact ne_int (fin_bl I q (congrArg not dec_int))
    | str j => obtain ⟨t', rfl⟩ := ry; exact PySem.EqMixed.ne_int_str (fin_bl I q (by simp))
    | _ => exact absurd (show false = true from hs) Bool.false_ne_true
  | str i =>
    obtain ⟨t, rfl⟩ := rx
    cases y with
    | non => cases ry; exact PySem.EqNone.ne_str_none (fin_bl I q (by simp))
    | bl j => cases ry; exact PySem.EqMixed.ne_str_bool (fin_bl I q (by simp))
    | int j => obtain ⟨t', rfl⟩ := ry; exact PySem.EqMixed.ne_str_int (fin_bl I q (by simp))
    | str j => obtain ⟨t', rfl⟩ := ry; exact ne_str (fin_bl I q (congrArg not dec_str))
    | _ => exact absurd (show false = true from hs) Bool.false_ne_true
  | byt i =>
    obtain ⟨t, rfl⟩ := rx
    cases y with
    | byt j => obtain ⟨t', rfl⟩ := ry; exact PySem.W.ne_bytes (fin_bl I q (congrArg not dec_byt))
    | _ => exact absurd (show false = true from hs) Bool.false_ne_true
  | _ => cases y <;> exact absurd (show false = true from hs) Bool.false_ne_true
theorem op_lt : OpR X (compareOp .Lt) (rI0 fun i j => .bl (decide (i < j))) := opB0 fun _ _ _ _ _ _ _ q => lt_int q
theorem op_le : OpR X (compareOp .LtE) (rI0 fun i j => .bl (decide (i ≤ j))) := opB0 fun _ _ _ _ _ _ _ q => le_int q
theorem op_gt : OpR X (compareOp .Gt) (rI0 fun i j => .bl (decide (j < i))) := opB0 fun _ _ _ _ _ _ _ q => gt_int q
theorem op_ge : OpR X (compareOp .GtE) (rI0 fun i j => .bl (decide (j ≤ i))) := opB0 fun _ _ _ _ _ _ _ q => ge_int q
theorem op_isN : OpR X (compareOp .Is) (fun x y H Q => y = .non ∧ Q (.bl (decide (x = .non))) H) := by
  intro pins s σ H x y v u Q I rx ry h
  obtain ⟨rfl, q⟩ := h
  cases ry
  refine is_none_gen (fin_bl I q ?_)
  cases x <;> first
    | (cases rx; rfl)
    | (obtain ⟨t, rfl⟩ := rx; rfl)
theorem op_notN : OpR X (compareOp .IsNot) (fun x y H Q => y = .non ∧ Q (.bl (!decide (x = .non))) H) := by
  intro pins s σ H x y v u Q I rx ry h
  obtain ⟨rfl, q⟩ := h
  cases ry
  refine isnot_none_gen (fin_bl I q ?_)
  cases x <;> first
    | (cases rx; rfl)
    | (obtain ⟨t, rfl⟩ := rx; rfl)
def isObj : HO → Bool
  | .lst _ => true
  | .ins _ _ _ => true
  | _ => false
theorem obj_there {pins : List (Addr × Obj)} {s : Shared} {σ : St} {H : Hp} {a : Addr} {o : HO} (I : Inv X pins σ H s) (h : H a = some o) (p : isObj o = true) : ∃ ob, s.heap.get? a = some ob ∧ ob.cls ≠ .type "tuple" := by
  cases o with
  | lst xs =>
    obtain ⟨_, its, n, _, e⟩ : xs.length ≤ sizeLine ∧ ∃ (its : List Value) (n : Nat), Vals xs its ∧ s.heap.get? a = some { cls := .type "list", data := .seq its.toArray n } := I.hok a _ h
    exact ⟨_, e, (by show Value.type "list" ≠ .type "tuple"; decide +kernel)⟩
  | ins C dx fs =>
    have x := I.hok a _ h
    obtain ⟨_, _, _, e, _⟩ := x
    exact ⟨_, e, (by show Value.ref C ≠ .type "tuple"; exact fun z => by cases z)⟩
  | _ => exact absurd (show false = true from p) Bool.false_ne_true
theorem op_is_ref : OpR X (compareOp .Is) (fun x y H Q => ∃ a b oa ob, x = .ref a ∧ y = .ref b ∧ H a = some oa ∧ isObj oa = true ∧ H b = some ob ∧ isObj ob = true ∧ Q (.bl (decide (a = b))) H) := by
  intro pins s σ H x y v u Q I rx ry h
  obtain ⟨a, b, oa, ob, rfl, rfl, ha, pa, hb, pb, q⟩ := h
  cases rx
  cases ry
  obtain ⟨o1, e1, n1⟩ := obj_there I ha pa
  obtain ⟨o2, e2, _⟩ := obj_there I hb pb
  by_cases z : a = b
  · subst z
    exact wpAny_is_ref_self (fin_bl I q (by simp))
  · exact wpAny_is_ref_other z e1 e2 n1 (fin_bl I q (by simp [z]))
theorem op_isnot_ref : OpR X (compareOp .IsNot) (fun x y H Q => ∃ a b oa ob, x = .ref a ∧ y = .ref b ∧ H a = some oa ∧ isObj oa = true ∧ H b = some ob ∧ isObj ob = true ∧ Q (.bl (!decide (a = b))) H) := by
  intro pins s σ H x y v u Q I rx ry h
  obtain ⟨a, b, oa, ob, rfl, rfl, ha, pa, hb, pb, q⟩ := h
  cases rx
  cases ry
  obtain ⟨o1, e1, n1⟩ := obj_there I ha pa
  obtain ⟨o2, e2, _⟩ := obj_there I hb pb
  by_cases z : a = b
  · subst z
    exact wpAny_isNot_ref_self (fin_bl I q (by simp))
  · exact wpAny_isNot_ref_other z e1 e2 n1 (fin_bl I q (by simp [z]))
theorem nomark (b : Expr) {op : CmpOp} (h : op ≠ .In := by decide) (h2 : op ≠ .NotIn := by decide) : behindInMarks op b = false := by
  have e1 : (op == CmpOp.In) = false := by cases op <;> first | rfl | exact absurd rfl h
  have e2 : (op == CmpOp.NotIn) = false := by cases op <;> first | rfl | exact absurd rfl h2
  cases b <;> simp [behindInMarks, e1, e2]
theorem pe_cmpR {op : CmpOp} {r : R2} (ho : OpR X (compareOp op) r) (ha : PE X a ta) (hb : PE X b tb) (hm : behindInMarks op b = false) : PE X (.Compare a [op] [b] pos) (tOp r ta tb) := by
  intro pins s σ H Q I h
  exact wpAny_Compare1 (binT ha hb I h fun v u s2 x y H2 I2 rx ry q => ho pins s2 σ H2 x y v u Q I2 rx ry q) hm
def tTest (t : TE) : TT := fun σ H Q => t σ H fun x H' => ∃ k, x = .bl k ∧ Q k H'
theorem pt_cmpR {op : CmpOp} {r : R2} (ho : OpR X (compareOp op) r) (ha : PE X a ta) (hb : PE X b tb) (hm : behindInMarks op b = false) : PT X (.Compare a [op] [b] pos) (tTest (tOp r ta tb)) := by
  intro pins s σ H Q I h
  refine wpAny_isTrue_Compare1 (thn (ha pins s σ H _ I h) fun v s1 ⟨x, H1, I1, r1, q1⟩ => thn (hb pins s1 σ H1 _ I1 q1) fun u s2 ⟨y, H2, I2, r2, q2⟩ =>
    thn (ho pins s2 σ H2 x y v u _ I2 r1 r2 q2) fun c s3 ⟨z, H3, I3, r3, k, e, q3⟩ => ?_) hm
  subst e
  cases r3
  exact wpAny_truthy_bool ⟨H3, I3, q3⟩
def tChain (r r' : R2) (ta tb tc : TE) : TE := fun σ H Q => ta σ H fun x H1 => tb σ H1 fun y H2 => r x y H2 fun z H3 => ∃ k, z = .bl k ∧
  (if k = true then tc σ H3 fun w' H4 => r' y w' H4 Q else Q (.bl false) H3)
theorem pe_chain {op op' : CmpOp} {r r' : R2} (ho : OpR X (compareOp op) r) (ho' : OpR X (compareOp op') r') (ha : PE X a ta) (hb : PE X b tb) (hc : PE X c tc)
    (hm : lastMarks [op, op'] [b, c] = false := by with_unfolding_all rfl) : PE X (.Compare a [op, op'] [b, c] pos) (tChain r r' ta tb tc) := by
  intro pins s σ H Q I h
  refine Compare_chain (thn (ha pins s σ H _ I h) fun v s1 ⟨x, H1, I1, r1, q1⟩ => chain_link (thn (hb pins s1 σ H1 _ I1 q1) fun u s2 ⟨y, H2, I2, r2, q2⟩ =>
    thn (ho pins s2 σ H2 x y v u _ I2 r1 r2 q2) fun d s3 ⟨z, H3, I3, r3, k, e, q3⟩ => ?_)) hm
  subst e
  cases r3
  refine wpAny_truthy_bool ?_
  cases k with
  | false => exact ite_ff ⟨.bl false, H3, I3, rfl, q3⟩
  | true => exact ite_tt (chain_last (thn (hc pins s3 σ H3 _ I3 q3) fun w' s4 ⟨z', H4, I4, r4, q4⟩ => ho' pins s4 σ H4 y z' u w' Q I4 r2 r4 q4))
theorem pt_chain {op op' : CmpOp} {r r' : R2} (ho : OpR X (compareOp op) r) (ho' : OpR X (compareOp op') r') (ha : PE X a ta) (hb : PE X b tb) (hc : PE X c tc)
    (hm : lastMarks [op, op'] [b, c] = false := by with_unfolding_all rfl) : PT X (.Compare a [op, op'] [b, c] pos) (tTest (tChain r r' ta tb tc)) := by
  intro pins s σ H Q I h
  refine isTrue_chain (thn (ha pins s σ H _ I h) fun v s1 ⟨x, H1, I1, r1, q1⟩ => test_link (thn (hb pins s1 σ H1 _ I1 q1) fun u s2 ⟨y, H2, I2, r2, q2⟩ =>
    thn (ho pins s2 σ H2 x y v u _ I2 r1 r2 q2) fun d s3 ⟨z, H3, I3, r3, k, e, q3⟩ => ?_)) hm
  subst e
  cases r3
  refine wpAny_truthy_bool ?_
  cases k with
  | false =>
    obtain ⟨k', e', q'⟩ := q3
    cases e'
    exact ite_ff ⟨H3, I3, q'⟩
  | true =>
    refine ite_tt (test_last (thn (hc pins s3 σ H3 _ I3 q3) fun w' s4 ⟨z', H4, I4, r4, q4⟩ => thn (ho' pins s4 σ H4 y z' u w' _ I4 r2 r4 q4) fun d' s5 ⟨z2, H5, I5, r5, k2, e2, q5⟩ => ?_))
    subst e2
    cases r5
    exact wpAny_truthy_bool ⟨H5, I5, q5⟩
def TruV (K : PySem.W.Frag) (x : V) (H : Hp) (k : Bool) : Prop :=
  match x with
  | .non => k = false
  | .bl b => k = b
  | .int i => k = (i != 0)
  | .str y => y.length ≤ sizeLine ∧ k = ((y.length : Int) != 0)
  | .byt y => y.size ≤ sizeLine ∧ k = ((y.size : Int) != 0)
  | .ref p => (∃ xs, SqL K H p xs ∧ k = !xs.isEmpty) ∨ (∃ xs, SqT K H p xs ∧ k = !xs.isEmpty) ∨ ∃ kvs, H p = some (.dK kvs) ∧ k = !kvs.isEmpty
  | _ => False
theorem isEmpty_kv {κ : Type} {kvs : List (κ × V)} {vs : List (κ × Value)} (r : KV kvs vs) : (!vs.isEmpty) = !kvs.isEmpty := by
  cases r <;> rfl
theorem isEmpty_of {xs : List V} {its : List Value} (r : Vals xs its) : (!its.toArray.isEmpty) = !xs.isEmpty := by
  cases r <;> simp
theorem line63 : (sizeLine : Nat) < 2 ^ 63 := by rw [sizeLine_eq]; decide
theorem tru_ok : TruR X (fun x H Q => ∃ k, TruV X.K x H k ∧ Q k H) := by
  intro pins s σ H x v Q I rx h
  obtain ⟨k, e, q⟩ := h
  have hl := line63
  have hs : sizeLine = 16777216 := sizeLine_eq
  cases x with
  | non =>
    cases rx
    have e' : k = false := e
    subst e'
    exact truthy_none ⟨H, I, q⟩
  | bl b =>
    cases rx
    have e' : k = b := e
    subst e'
    exact wpAny_truthy_bool ⟨H, I, q⟩
  | int i =>
    obtain ⟨t, rfl⟩ := rx
    have e' : k = (i != 0) := e
    subst e'
    exact PySem.P.truthy_int ⟨H, I, q⟩
  | str y =>
    obtain ⟨t, rfl⟩ := rx
    obtain ⟨hy, e'⟩ : y.length ≤ sizeLine ∧ k = ((y.length : Int) != 0) := e
    subst e'
    exact PySem.P.truthy_str (by omega) ⟨H, I.tok _, q⟩
  | byt y =>
    obtain ⟨t, rfl⟩ := rx
    obtain ⟨hy, e'⟩ : y.size ≤ sizeLine ∧ k = ((y.size : Int) != 0) := e
    subst e'
    exact PySem.W.truthy_bytes (by omega) ⟨H, I.tok _, q⟩
  | ref p =>
    cases rx
    have e' : (∃ xs, SqL X.K H p xs ∧ k = !xs.isEmpty) ∨ (∃ xs, SqT X.K H p xs ∧ k = !xs.isEmpty) ∨ ∃ kvs, H p = some (.dK kvs) ∧ k = !kvs.isEmpty := e
    rcases e' with ⟨xs, hx, e'⟩ | ⟨xs, hx, e'⟩ | ⟨kvs, hx, e'⟩
    · subst e'
      obtain ⟨its, r, pl, hz⟩ := I.list hx
      have hlen := r.length
      exact wpAny_truthy_list pl.isList (by simp only [List.size_toArray]; omega) ⟨H, I.tok _, by rw [isEmpty_of r]; exact q⟩
    · subst e'
      obtain ⟨its, r, pl, hz⟩ := I.tuple hx
      have hlen := r.length
      exact truthy_tuple pl (by simp only [List.size_toArray]; omega) ⟨H, I.tok _, by rw [isEmpty_of r]; exact q⟩
    · subst e'
      obtain ⟨hz, hS, vs, r, m⟩ : kvs.length ≤ sizeLine ∧ (p == sysModules) = false ∧ ∃ vs, KV kvs vs ∧ s.heap.DictOf (mixKind X.prog X.w) p vs := I.hok p _ hx
      have hlen : kvs.length = vs.length := Paired.length r
      exact wpAny_truthy_dict hS m (by omega) ⟨H, I.tok _, by rw [isEmpty_kv r]; exact q⟩
  | _ => exact (show False from e).elim
theorem pt_truth (ha : PE X a ta) (he : ∀ whole, isTrue a X.env whole = (do let v ← whole; standAt a.pos; holding [v] (truthy v))) :
    PT X a (fun σ H Q => ta σ H fun x H' => ∃ k, TruV X.K x H' k ∧ Q k H') := by
  intro pins s σ H Q I h
  exact isTrue_plain (thn (ha pins s σ H _ I h) fun v s1 ⟨x, H1, I1, r1, q1⟩ => tru_ok pins s1 σ H1 x v Q I1 r1 q1) (he _)
theorem pe_byt {x : List UInt8} {k : Nat} : PE X (.Constant (.bytes x) k pos) (fun _ H Q => Q (.byt x.toArray) H) := fun _ _ _ H _ I h => PySem.W.Constant_bytes ⟨.byt x.toArray, H, I.tok _, ⟨_, rfl⟩, h⟩
theorem vals1 {x : V} {us : List Value} (r : Vals [x] us) : ∃ u, us = [u] ∧ RelV x u := by
  cases r with
  | cons r1 r2 => cases r2; exact ⟨_, rfl, r1⟩
theorem vals2 {x y : V} {us : List Value} (r : Vals [x, y] us) : ∃ u w', us = [u, w'] ∧ RelV x u ∧ RelV y w' := by
  cases r with
  | cons r1 r2 =>
    cases r2 with
    | cons r3 r4 => cases r4; exact ⟨_, _, rfl, r1, r3⟩
theorem call_abs : CallR X (.builtin "abs") (fun xs H Q => ∃ i, xs = [.int i] ∧ Q (.int (if i < 0 then -i else i)) H) := by
  intro pins s σ H xs us Q I r h
  obtain ⟨i, rfl, q⟩ := h
  obtain ⟨u, rfl, t, rfl⟩ := vals1 r
  exact call_abs_int fun u tk => ⟨.int (if i < 0 then -i else i), H, I.tok _, ⟨_, rfl⟩, q⟩
theorem call_max2 (hc : X.calm = true) : CallR X (.builtin "max") (fun xs H Q => ∃ i j, xs = [.int i, .int j] ∧ Q (.int (if j > i then j else i)) H) := by
  intro pins s σ H xs us Q I r h
  obtain ⟨i, j, rfl, q⟩ := h
  obtain ⟨u, w', rfl, ⟨t, rfl⟩, ⟨t', rfl⟩⟩ := vals2 r
  refine max_two_ints (I.ok.hd hc) fun h' tk k => ⟨_, H, I.kept k, ?_, q⟩
  by_cases hj : j > i
  · rw [if_pos hj, if_pos hj]; exact ⟨_, rfl⟩
  · rw [if_neg hj, if_neg hj]; exact ⟨_, rfl⟩
theorem call_min2 (hc : X.calm = true) : CallR X (.builtin "min") (fun xs H Q => ∃ i j, xs = [.int i, .int j] ∧ Q (.int (if j < i then j else i)) H) := by
  intro pins s σ H xs us Q I r h
  obtain ⟨i, j, rfl, q⟩ := h
  obtain ⟨u, w', rfl, ⟨t, rfl⟩, ⟨t', rfl⟩⟩ := vals2 r
  refine min_two_ints (I.ok.hd hc) fun h' tk k => ⟨_, H, I.kept k, ?_, q⟩
  by_cases hj : j < i
  · rw [if_pos hj, if_pos hj]; exact ⟨_, rfl⟩
  · rw [if_neg hj, if_neg hj]; exact ⟨_, rfl⟩
theorem call_int1 : CallR X (.type "int") (fun xs H Q => (∃ i, xs = [.int i] ∧ Q (.int i) H) ∨ ∃ k, xs = [.bl k] ∧ Q (.int (if k then 1 else 0)) H) := by
  intro pins s σ H xs us Q I r h
  rcases h with ⟨i, rfl, q⟩ | ⟨k, rfl, q⟩
  · obtain ⟨u, rfl, t, rfl⟩ := vals1 r
    exact call_int_int ⟨.int i, H, I, ⟨_, rfl⟩, q⟩
  · obtain ⟨u, rfl, r1⟩ := vals1 r
    cases r1
    exact call_int_bool ⟨.int (if k then 1 else 0), H, I.tok _, ⟨_, rfl⟩, q⟩
theorem call_bool1 : CallR X (.type "bool") (fun xs H Q => (∃ i, xs = [.int i] ∧ Q (.bl (i != 0)) H) ∨ ∃ k, xs = [.bl k] ∧ Q (.bl k) H) := by
  intro pins s σ H xs us Q I r h
  rcases h with ⟨i, rfl, q⟩ | ⟨k, rfl, q⟩
  · obtain ⟨u, rfl, t, rfl⟩ := vals1 r
    exact call_bool_int ⟨.bl (i != 0), H, I, rfl, q⟩
  · obtain ⟨u, rfl, r1⟩ := vals1 r
    cases r1
    exact call_bool_bool ⟨.bl k, H, I, rfl, q⟩
theorem call_str_int : CallR X (.type "str") (fun xs H Q => ∃ i, xs = [.int i] ∧ i.natAbs.log2 < 1920 ∧ Q (.str (toString i)) H) := by
  intro pins s σ H xs us Q I r h
  obtain ⟨i, rfl, hz, q⟩ := h
  obtain ⟨u, rfl, t, rfl⟩ := vals1 r
  exact PySem.P.str_of_int hz ⟨.str _, H, I.tok _, ⟨_, rfl⟩, q⟩
theorem call_ord : CallR X (.builtin "ord") (fun xs H Q => ∃ x, xs = [.str x] ∧ x.length = 1 ∧ Q (.int (x.cps.getD 0 0 : Nat)) H) := by
  intro pins s σ H xs us Q I r h
  obtain ⟨x, rfl, hz, q⟩ := h
  obtain ⟨u, rfl, t, rfl⟩ := vals1 r
  exact ord_of_one hz ⟨.int _, H, I.tok _, ⟨_, rfl⟩, q⟩
def LenV (K : PySem.W.Frag) (x : V) (H : Hp) (n : Nat) : Prop :=
  match x with
  | .str y => y.length ≤ sizeLine ∧ n = y.length
  | .byt y => y.size ≤ sizeLine ∧ n = y.size
  | .ref p => (∃ xs, SqL K H p xs ∧ n = xs.length) ∨ ∃ xs, SqT K H p xs ∧ n = xs.length
  | _ => False
theorem call_len : CallR X (.builtin "len") (fun xs H Q => ∃ x n, xs = [x] ∧ LenV X.K x H n ∧ Q (.int n) H) := by
  intro pins s σ H xs us Q I r h
  obtain ⟨x, n, rfl, e, q⟩ := h
  obtain ⟨u, rfl, rx⟩ := vals1 r
  have hl := line63
  have hs : sizeLine = 16777216 := sizeLine_eq
  cases x with
  | str y =>
    obtain ⟨t, rfl⟩ := rx
    obtain ⟨hy, e'⟩ : y.length ≤ sizeLine ∧ n = y.length := e
    subst e'
    exact len_str (by omega) ⟨.int _, H, I.tok _, ⟨_, rfl⟩, q⟩
  | byt y =>
    obtain ⟨t, rfl⟩ := rx
    obtain ⟨hy, e'⟩ : y.size ≤ sizeLine ∧ n = y.size := e
    subst e'
    exact PySem.W.len_bytes (by omega) ⟨.int _, H, I.tok _, ⟨_, rfl⟩, q⟩
  | ref p =>
    cases rx
    have e' : (∃ xs, SqL X.K H p xs ∧ n = xs.length) ∨ ∃ xs, SqT X.K H p xs ∧ n = xs.length := e
    rcases e' with ⟨xs, hx, e'⟩ | ⟨xs, hx, e'⟩
    · subst e'
      obtain ⟨its, r', pl, hz⟩ := I.list hx
      have hlen := r'.length
      exact Calls.call_len_list pl.isList (by simp only [List.size_toArray]; omega) ⟨.int xs.length, H, I.tok _, ⟨_, by simp only [List.size_toArray]; rw [hlen]⟩, q⟩
    · subst e'
      obtain ⟨its, r', pl, hz⟩ := I.tuple hx
      have hlen := r'.length
      exact len_tuple pl (by simp only [List.size_toArray]; omega) ⟨.int xs.length, H, I.tok _, ⟨_, by simp only [List.size_toArray]; rw [hlen]⟩, q⟩
  | _ => exact (show False from e).elim
end
end L2
namespace L2
open PySem PySem.Spec PyProof.Rows
structure ObjM (h : Heap) (x dx C : Addr) (mA : Str → Option Value) : Prop where
  obj : h.get? x = some (PySem.W.instObj C dx)
  ns : h.Ns1 dx mA
  ne : dx ≠ x
theorem lookIn_ns {h : Heap} {dx : Addr} {mA : Str → Option Value} (n : h.Ns1 dx mA) : ∃ od, h.get? dx = some od ∧ ∀ name, PySem.W.lookIn name od = some (mA name) := by
  obtain ⟨o, es, ep, ho, hd, hk, _, hm⟩ := n
  refine ⟨o, ho, fun name => ?_⟩
  have e := hm name
  unfold nsFind findBy at e
  rw [← Array.find?_toList] at e
  unfold PySem.W.lookIn
  rw [hd]
  dsimp only
  split
  · rename_i y q
    rw [q] at e
    exact congrArg some e
  · rename_i q
    rw [q] at e
    have a : es.toList.any (·.refKey) = false := by
      rw [List.any_eq_false]
      intro y hy
      obtain ⟨z, t, hkey⟩ := hk y (Array.mem_toList_iff.mp hy)
      simp [DictEntry.refKey, hkey]
    have a' : ¬ es.toList.any (·.refKey) = true := by rw [a]; exact Bool.false_ne_true
    rw [if_neg a']
    exact congrArg some e
theorem ObjM.look {h : Heap} {x dx C : Addr} {mA : Str → Option Value} (I : ObjM h x dx C mA) : ∃ od, PySem.W.InstAt h x (PySem.W.instObj C dx) C (some od) ∧ ∀ name, PySem.W.lookIn name od = some (mA name) :=
  let ⟨od, ho, hl⟩ := lookIn_ns I.ns
  ⟨od, ⟨I.obj, rfl, rfl, ho⟩, hl⟩
section
variable {prog : Program} {w : World} {A : Around} {E : Value → Shared → Prop} {s : Shared} {K : PySem.W.Frag} {x dx C f : Addr} {mA : Str → Option Value} {name : Str} {v : Value}
theorem get_map {expr : Bool} {Q : Value → Shared → Prop} (X : K.In s.heap) (I : ObjM s.heap x dx C mA) (hg : PySem.W.plainGet K C name = true) (hh : PySem.W.hasDictIn K C = true)
    (ha : PySem.W.findIn K (.ref C) name = some none) (hv : mA name = some v) (hv' : PySem.W.handedIn v = true) (h : Q v { s with toks := s.toks + 1 }) :
    wpAny (model prog w) A (getAttr (.ref x) name expr) Q E s := by
  obtain ⟨od, J, hl⟩ := I.look
  exact PySem.W.get_value X J (PySem.W.plainGet_of hg).1 (PySem.W.findObj_own hh ha rfl (by rw [hl, hv])) hv' h
theorem get_const {expr : Bool} {a : Value} {Q : Value → Shared → Prop} (X : K.In s.heap) (I : ObjM s.heap x dx C mA) (hg : PySem.W.plainGet K C name = true) (hh : PySem.W.hasDictIn K C = true)
    (ha : PySem.W.findIn K (.ref C) name = some (some a)) (hn : PySem.W.specialIn K a "__get__" = some none) (hc : PySem.W.copiedNames.contains name = false) (hv : mA name = none) (hv' : PySem.W.handedIn a = true)
    (h : Q a { s with toks := s.toks + 1 }) : wpAny (model prog w) A (getAttr (.ref x) name expr) Q E s := by
  obtain ⟨od, J, hl⟩ := I.look
  exact PySem.W.get_value X J (PySem.W.plainGet_of hg).1 (PySem.W.findObj_cls hh ha hn hv' hc (by rw [hl, hv])) hv' h
theorem get_meth {pl : Sem Bool} {Q : Value × List Value → Shared → Prop} (X : K.In s.heap) (I : ObjM s.heap x dx C mA) (hg : PySem.W.plainGet K C name = true)
    (hf : PySem.W.findIn K (.ref C) name = some (some (.ref f))) (ht : PySem.W.isFn K (.ref f) = true) (hv : mA name = none) (h : Q (.ref f, [.ref x]) s) :
    wpAny (model prog w) A (getMethod (.ref x) name pl) Q E s := by
  obtain ⟨od, J, hl⟩ := I.look
  exact PySem.W.method_fn X J (PySem.W.plainGet_of hg).1 (PySem.W.plainGet_of hg).2 hf (beq_iff_eq.mp ht) (by show (PySem.W.lookIn name od).map (·.isSome) = some false; rw [hl, hv]; rfl) h
theorem set_map {ns : List Str} {Q : Unit → Shared → Prop} (X : K.In s.heap) (I : ObjM s.heap x dx C mA)
    (hs : PySem.W.findIn K (.ref C) "__setattr__" = some (some (.builtin "object.__setattr__"))) (hp : PySem.W.plainOver K C = true) (ht : PySem.W.takerIn K C name = some none) (hh : PySem.W.hasDictIn K C = true)
    (hw : PySem.Within mA ns) (hsz : ns.length ≤ sizeLine)
    (h : ∀ h', ObjM h' x dx C (fun y => if y = name then some v else mA y) → Heap.SameBut dx s.heap h' → Q () { s with heap := h', toks := s.toks + 2 }) :
    wpAny (model prog w) A (setAttr (.ref x) name v) Q E s := by
  obtain ⟨od, J, hl⟩ := I.look
  refine PySem.W.set_plain X J hs (PySem.W.osa_open (s := { s with toks := s.toks + 1 }) (r := none) X J hp ht fun b => ?_)
  obtain ⟨cd, hc, hd'⟩ := PySem.W.any_some hh
  have hx : s.heap.get? x = some ⟨.ref C, some dx, .plain, #[]⟩ := I.obj
  refine wpAny_bind (wpAny_pure (wpAny_bind (wpAny_bind (wpAny_loadPart hx (wpAny_bind (PySem.W.Looks.here (s := { s with toks := s.toks + 1 }) (PySem.W.looks_clsIn X hc) ?_))))))
  rw [hd']
  refine wpAny_pure (a := some dx) (wpAny_bind (wpAny_pure (wpAny_bind ?_)))
  refine wpAny_nsSet1 (s := { s with toks := s.toks + 1 }) I.ns fun h' hn2 hs2 => ?_
  obtain ⟨oD, esD, epD, hoD, hdD, hcD⟩ := hn2.count (PySem.Within.cons name v hw)
  refine wpAny_bind (wpAny_lookBehind hoD (by rw [hdD]; exact pastItsLine_dict (Nat.le_trans hcD (by rw [List.length_cons]; omega))) ?_)
  exact wpAny_pure (h _ ⟨(hs2.2 _ (Ne.symm I.ne)).trans I.obj, hn2, I.ne⟩ hs2)
theorem make_map {R : Result → Shared → Prop} {vs : List Value} {kw : List (Str × Value)} (X : K.In s.heap) (hm : PySem.W.makesIn K C = true)
    (hi : PySem.W.findIn K (.ref C) "__init__" = some (some (.ref f))) (hf : PySem.W.typeIn K (.ref f) = some (.type "function"))
    (h : codeAny (model prog w) (A.under (.builtin "type.__call__" ⟨.ref C :: vs, kw⟩)) (.call (.ref f) ⟨.ref (s.heap.objs.size + 1) :: vs, kw⟩) (PySem.W.InitBack (s.heap.objs.size + 1) R)
      { s with heap := (s.heap.push PySem.W.emptyDict).push (PySem.W.instObj C s.heap.objs.size) }) :
    codeAny (model prog w) A (.call (.ref C) ⟨vs, kw⟩) R s := by
  obtain ⟨hh, g, d, t, os⟩ := s
  exact PySem.W.make_core (PySem.W.makes_of X hm) (PySem.W.looks_findIn X hi) (fun self => PySem.W.bind_fn X self hf) (.inl rfl) h
end
def putF (f : Str) (v : V) : List (Str × V) → List (Str × V)
  | [] => [(f, v)]
  | (g, x) :: r => if g = f then (g, v) :: r else (g, x) :: putF f v r
theorem lookup_putF (f g : Str) (v : V) : ∀ fs : List (Str × V), (putF f v fs).lookup g = if g = f then some v else fs.lookup g
  | [] => by
    show List.lookup g [(f, v)] = _
    by_cases h : g = f
    · have hb : (g == f) = true := beq_iff_eq.mpr h
      simp only [List.lookup, hb, if_pos h]
    · have hb : (g == f) = false := beq_eq_false_iff_ne.mpr h
      simp only [List.lookup, hb, if_neg h]
  | (k, x) :: r => by
    have ih := lookup_putF f g v r
    rw [show putF f v ((k, x) :: r) = (if k = f then (k, v) :: r else (k, x) :: putF f v r) from rfl]
    by_cases hk : k = f
    · rw [if_pos hk]
      by_cases h : g = k
      · have hb : (g == k) = true := beq_iff_eq.mpr h
        simp only [List.lookup, hb, if_pos (h.trans hk)]
      · have hb : (g == k) = false := beq_eq_false_iff_ne.mpr h
        simp only [List.lookup, hb, if_neg (fun e : g = f => h (e.trans hk.symm))]
    · rw [if_neg hk]
      by_cases h : g = k
      · have hb : (g == k) = true := beq_iff_eq.mpr h
        simp only [List.lookup, hb, if_neg (fun e : g = f => hk (h.symm.trans e))]
      · have hb : (g == k) = false := beq_eq_false_iff_ne.mpr h
        simp only [List.lookup, hb]
        exact ih
theorem keys_putF (f : Str) (v : V) : ∀ fs : List (Str × V), f ∈ (putF f v fs).map (·.1) ∧ ∀ g, g ∈ fs.map (·.1) → g ∈ (putF f v fs).map (·.1)
  | [] => ⟨by simp [putF], fun g h => by simp at h⟩
  | (k, x) :: r => by
    obtain ⟨i1, i2⟩ := keys_putF f v r
    rw [show putF f v ((k, x) :: r) = (if k = f then (k, v) :: r else (k, x) :: putF f v r) from rfl]
    by_cases hk : k = f
    · rw [if_pos hk]
      subst hk
      exact ⟨by simp, fun g h => by simpa using h⟩
    · rw [if_neg hk]
      refine ⟨?_, fun g h => ?_⟩
      · rw [List.map_cons]
        exact List.mem_cons_of_mem _ i1
      · rw [List.map_cons] at h ⊢
        rcases List.mem_cons.mp h with e | e
        · exact List.mem_cons.mpr (.inl e)
        · exact List.mem_cons_of_mem _ (i2 g e)
theorem length_putF (f : Str) (v : V) : ∀ fs : List (Str × V), (putF f v fs).length ≤ fs.length + 1
  | [] => by simp [putF]
  | (k, x) :: r => by
    have ih := length_putF f v r
    rw [show putF f v ((k, x) :: r) = (if k = f then (k, v) :: r else (k, x) :: putF f v r) from rfl]
    by_cases hk : k = f
    · rw [if_pos hk, List.length_cons, List.length_cons]; omega
    · rw [if_neg hk, List.length_cons, List.length_cons]; omega
theorem RelO.some_of {v : V} {o : Option Value} (r : RelO (some v) o) : ∃ u, o = some u ∧ RelV v u := by
  cases o with
  | none => exact (show False from r).elim
  | some u => exact ⟨u, rfl, r⟩
theorem RelO.none_of {o : Option Value} (r : RelO none o) : o = none := by
  cases o with
  | none => rfl
  | some u => exact (show False from r).elim
theorem handed_of {v : V} {u : Value} (r : RelV v u) : PySem.W.handedIn u = true := by
  cases v with
  | non => cases (show u = Value.none from r); rfl
  | bl b => cases (show u = Value.bool b from r); rfl
  | int i => obtain ⟨t, e⟩ := (show ∃ t, u = Value.int i t from r); cases e; rfl
  | str x => obtain ⟨t, e⟩ := (show ∃ t, u = Value.str x t from r); cases e; rfl
  | byt b => obtain ⟨t, e⟩ := (show ∃ t, u = Value.bytes b t from r); cases e; rfl
  | flt b => obtain ⟨t, e⟩ := (show ∃ t, u = Value.float b t from r); cases e; rfl
  | ref a => cases (show u = Value.ref a from r); rfl
  | ty n => cases (show u = Value.type n from r); rfl
section
variable {P : Program} {w : World} {H H' : Hp} {h h' : Heap} {a C dx : Addr} {fs fs' : List (Str × V)}
theorem ins_get (hok : HOk P w H h) (e : H a = some (.ins C dx fs)) : ∃ mA, ObjM h a dx C mA ∧ (∀ f, RelO (fs.lookup f) (mA f)) ∧ PySem.Within mA (fs.map (·.1)) ∧ fs.length ≤ 1000 ∧ H dx = some (.own a) := by
  obtain ⟨d, z, ne, ob, mA, n, r, q⟩ := (show ObjOk P w H h a (.ins C dx fs) from hok a _ e)
  exact ⟨mA, ⟨ob, n, ne⟩, r, q, z, d⟩
end
structure Cls (K : PySem.W.Frag) (C : Addr) : Prop where
  pg : PySem.W.plainGet K C Str.empty = true
  hd : PySem.W.hasDictIn K C = true
  po : PySem.W.plainOver K C = true
  sa : PySem.W.findIn K (.ref C) "__setattr__" = some (some (.builtin "object.__setattr__"))
theorem Cls.get {K : PySem.W.Frag} {C : Addr} (c : Cls K C) (f : Str) : PySem.W.plainGet K C f = true := c.pg
def NoAttr (K : PySem.W.Frag) (C : Addr) (f : Str) : Prop := PySem.W.findIn K (.ref C) f = some none
theorem NoAttr.taker {K : PySem.W.Frag} {C : Addr} {f : Str} (n : NoAttr K C f) : PySem.W.takerIn K C f = some none := by
  unfold PySem.W.takerIn
  rw [show PySem.W.findIn K (.ref C) f = some none from n]
  rfl
structure Con (K : PySem.W.Frag) (C : Addr) (f : Str) (v : V) (u : Value) : Prop where
  at_ : PySem.W.findIn K (.ref C) f = some (some u)
  rel : RelV v u
  get : PySem.W.specialIn K u "__get__" = some none
  cp : PySem.W.copiedNames.contains f = false
structure Meth (K : PySem.W.Frag) (C : Addr) (m : Str) (f : Addr) : Prop where
  at_ : PySem.W.findIn K (.ref C) m = some (some (.ref f))
  fn : PySem.W.isFn K (.ref f) = true
  kp : PySem.W.keepIn K (.ref f) = true
section
variable {X : Cx} {pins : List (Addr × Obj)} {σ : St} {H : Hp} {s : Shared} {a C dx : Addr} {fs : List (Str × V)} {f : Str} {v : V} {A : Around} {E : Value → Shared → Prop}
theorem getattr_ok {b : Bool} {Q : Value → Shared → Prop} (I : Inv X pins σ H s) (e : H a = some (.ins C dx fs)) (c : Cls X.K C) (n : NoAttr X.K C f) (l : fs.lookup f = some v)
    (h : ∀ u s', Inv X pins σ H s' → RelV v u → Q u s') : wpAny (model X.prog X.w) A (getAttr (.ref a) f b) Q E s := by
  obtain ⟨mA, O, r, _, _, _⟩ := ins_get I.hok e
  obtain ⟨u, hu, ru⟩ := RelO.some_of (v := v) (o := mA f) (by rw [← l]; exact r f)
  exact get_map I.kIn O (c.get f) c.hd n hu (handed_of ru) (h u _ (I.tok _) ru)
theorem getcon_ok {b : Bool} {u : Value} {Q : Value → Shared → Prop} (I : Inv X pins σ H s) (e : H a = some (.ins C dx fs)) (c : Cls X.K C) (k : Con X.K C f v u) (l : fs.lookup f = none)
    (h : ∀ s', Inv X pins σ H s' → Q u s') : wpAny (model X.prog X.w) A (getAttr (.ref a) f b) Q E s := by
  obtain ⟨mA, O, r, _, _, _⟩ := ins_get I.hok e
  have hn : mA f = none := RelO.none_of (by rw [← l]; exact r f)
  exact get_const I.kIn O (c.get f) c.hd k.at_ k.get k.cp hn (handed_of k.rel) (h _ (I.tok _))
theorem getmeth_ok {m : Str} {g : Addr} {pl : Sem Bool} {Q : Value × List Value → Shared → Prop} (I : Inv X pins σ H s) (e : H a = some (.ins C dx fs)) (c : Cls X.K C) (k : Meth X.K C m g) (l : fs.lookup m = none)
    (h : Q (.ref g, [.ref a]) s) : wpAny (model X.prog X.w) A (getMethod (.ref a) m pl) Q E s := by
  obtain ⟨mA, O, r, _, _, _⟩ := ins_get I.hok e
  have hn : mA m = none := RelO.none_of (by rw [← l]; exact r m)
  exact get_meth I.kIn O (c.get m) k.at_ k.fn hn h
theorem setattr_ok {y : V} {u : Value} {Q : Unit → Shared → Prop} (I : Inv X pins σ H s) (e : H a = some (.ins C dx fs)) (c : Cls X.K C) (n : NoAttr X.K C f) (hl : fs.length < 1000) (ry : RelV y u)
    (h : ∀ s', Inv X pins σ (upd H a (.ins C dx (putF f y fs))) s' → Q () s') : wpAny (model X.prog X.w) A (setAttr (.ref a) f u) Q E s := by
  obtain ⟨mA, O, r, wi, _, ho⟩ := ins_get I.hok e
  have hz : (fs.map (·.1)).length ≤ sizeLine := by rw [List.length_map, sizeLine_eq]; omega
  refine set_map I.kIn O c.sa c.po n.taker c.hd wi hz fun h' O' sb => h _ ?_
  have hd : ∃ o, h'.get? dx = some o := let ⟨o, _, _, e', _⟩ := O'.ns; ⟨o, e'⟩
  refine I.write (x := a) (e := dx) (by rw [e]; exact True.intro) (.inr ho) (fun b q hb z => (sb.2 b hb).trans z) hd ?_
  refine ⟨by rw [upd_ne O.ne]; exact ho, ?_, O.ne, O'.obj, _, O'.ns, fun g => ?_, fun g hg => ?_⟩
  · have := length_putF f y fs; omega
  · show RelO ((putF f y fs).lookup g) (if g = f then some u else mA g)
    rw [lookup_putF]
    by_cases q : g = f
    · rw [if_pos q, if_pos q]; exact ry
    · rw [if_neg q, if_neg q]; exact r g
  · by_cases q : g = f
    · rw [q]; exact (keys_putF f y fs).1
    · refine (keys_putF f y fs).2 g (wi g fun z => hg ?_)
      show (if g = f then some u else mA g) = none
      rw [if_neg q]; exact z
theorem Inv.made (I : Inv X pins σ H s) : Inv X pins σ (upd (upd H s.heap.objs.size (.own (s.heap.objs.size + 1))) (s.heap.objs.size + 1) (.ins C s.heap.objs.size []))
    { s with heap := (s.heap.push PySem.W.emptyDict).push (PySem.W.instObj C s.heap.objs.size) } := by
  have e1 : (s.heap.push PySem.W.emptyDict).get? s.heap.objs.size = some PySem.W.emptyDict := Heap.get?_push_size s.heap rfl
  have e2 : ((s.heap.push PySem.W.emptyDict).push (PySem.W.instObj C s.heap.objs.size)).get? (s.heap.objs.size + 1) = some (PySem.W.instObj C s.heap.objs.size) := by
    have := Heap.get?_push_size (s.heap.push PySem.W.emptyDict) (o := PySem.W.instObj C s.heap.objs.size) rfl
    rwa [Heap.size_push] at this
  have e3 : (s.heap.push PySem.W.emptyDict).Ns s.heap.objs.size (fun _ => none) := ⟨PySem.W.emptyDict, #[], _, e1, rfl, (fun e he => absurd he (by simp)), fun _ => rfl⟩
  have I1 := I.laid (a := s.heap.objs.size) (o := .own (s.heap.objs.size + 1)) (h' := s.heap.push PySem.W.emptyDict) (t' := s.toks) (fun b u q => Heap.get?_push_of_some _ q) (Nat.le_refl _) ⟨_, e1⟩
  refine I1.laid (a := s.heap.objs.size + 1) (o := .ins C s.heap.objs.size []) (t' := s.toks) (fun b u q => Heap.get?_push_of_some _ q) (Nat.le_of_eq (Heap.size_push _ _)) ?_
  have ne : s.heap.objs.size ≠ s.heap.objs.size + 1 := Nat.ne_of_lt (Nat.lt_succ_self _)
  refine ⟨by rw [upd_ne ne, upd_same], Nat.zero_le _, ne, e2, fun _ => none, (Heap.Ns1.of_empty e3).at fun o q => Heap.get?_push_of_some _ q, fun _ => True.intro, fun y hy => absurd rfl hy⟩
theorem attr_of {prog : Program} {w : World} {env : Env} {e : Expr} {f : Str} {pos : Pos} {s : Shared} {Q : Value → Shared → Prop} (hb : attributeBase e f env (eval e env) = eval e env)
    (h : wpAny (model prog w) A (eval e env) (fun o s₁ => wpAny (model prog w) A (getAttr o f true) Q E s₁) E s) : wpAny (model prog w) A (eval (.Attribute e f pos) env) Q E s :=
  Attribute_any_ h (by rw [arm_eval_Attribute, hb])
end
def tFld (K : PySem.W.Frag) (ta : TE) (f : Str) : TE := fun σ H Q => ta σ H fun x H1 => ∃ a C dx fs v, x = .ref a ∧ H1 a = some (.ins C dx fs) ∧ Cls K C ∧ NoAttr K C f ∧ fs.lookup f = some v ∧ Q v H1
def tCon (K : PySem.W.Frag) (ta : TE) (f : Str) : TE := fun σ H Q => ta σ H fun x H1 => ∃ a C dx fs v u, x = .ref a ∧ H1 a = some (.ins C dx fs) ∧ Cls K C ∧ Con K C f v u ∧ fs.lookup f = none ∧ Q v H1
def sFld (K : PySem.W.Frag) (ta tv : TE) (f : Str) : TS := fun D σ H => tv σ H fun y H1 => ta σ H1 fun x H2 => ∃ a C dx fs, x = .ref a ∧ H2 a = some (.ins C dx fs) ∧ Cls K C ∧ NoAttr K C f ∧ fs.length < 1000 ∧
  D.nx σ (upd H2 a (.ins C dx (putF f y fs)))
def InOp (X : Cx) (op : Operator) (rd : V → V → Hp → VK → Prop) : Prop :=
  ∀ (pins : List (Addr × Obj)) (s : Shared) (σ : St) (H : Hp) (x y : V) (u v : Value) (Q : VK), Inv X pins σ H s → RelV x u → RelV y v → rd x y H Q → wpAny (model X.prog X.w) X.A (inplaceOp op u v) (EP X pins σ Q) X.xe s
def sFldAug (K : PySem.W.Frag) (ta tv : TE) (rd : V → V → Hp → VK → Prop) (f : Str) : TS := fun D σ H => ta σ H fun x H1 => ∃ a C dx fs v, x = .ref a ∧ H1 a = some (.ins C dx fs) ∧ Cls K C ∧ NoAttr K C f ∧ fs.lookup f = some v ∧
  tv σ H1 fun y H2 => rd v y H2 fun z H3 => ∃ dx' fs', H3 a = some (.ins C dx' fs') ∧ fs'.length < 1000 ∧ D.nx σ (upd H3 a (.ins C dx' (putF f z fs')))
section
variable {X : Cx} {o e value : Expr} {f : Str} {pos pos' tpos : Pos} {ta tv : TE}
theorem pe_fld (he : PE X e ta) (hb : attributeBase e f X.env (eval e X.env) = eval e X.env) : PE X (.Attribute e f pos) (tFld X.K ta f) := by
  intro pins s σ H Q I h
  refine attr_of hb (thn (he pins s σ H _ I h) fun u s1 ⟨x, H1, I1, rx, a, C, dx, fs, v, ex, ea, c, n, l, q⟩ => ?_)
  subst ex
  obtain rfl : u = Value.ref a := rx
  exact getattr_ok I1 ea c n l fun u' s2 I2 ru => ⟨v, H1, I2, ru, q⟩
theorem pe_con (he : PE X e ta) (hb : attributeBase e f X.env (eval e X.env) = eval e X.env) : PE X (.Attribute e f pos) (tCon X.K ta f) := by
  intro pins s σ H Q I h
  refine attr_of hb (thn (he pins s σ H _ I h) fun u s1 ⟨x, H1, I1, rx, a, C, dx, fs, v, u0, ex, ea, c, k, l, q⟩ => ?_)
  subst ex
  obtain rfl : u = Value.ref a := rx
  exact getcon_ok I1 ea c k l fun s2 I2 => ⟨v, H1, I2, k.rel, q⟩
theorem ps_fld (ha : PE X o ta) (hv : PE X value tv) (hs : swapsWith value (some (.Attribute o f pos')) pos.line X.env = pure false) : PS X (.Assign [.Attribute o f pos'] value pos) (sFld X.K ta tv f) := by
  intro pins s σ H D I h
  refine plainObj_wpAny_Assign_Attribute (thn (hv pins s σ H _ I h) fun u s1 ⟨y, H1, I1, ry, q⟩ => thn (ha pins s1 σ H1 _ I1 q) fun ov s2 ⟨x, H2, I2, rx, a, C, dx, fs, ex, ea, c, n, l, q2⟩ => ?_) hs
  subst ex
  obtain rfl : ov = Value.ref a := rx
  exact setattr_ok I2 ea c n l ry fun s3 I3 => ⟨σ, _, I3, q2⟩
theorem ps_fldaug {op : Operator} {rd : V → V → Hp → VK → Prop} (ha : PE X o ta) (hv : PE X value tv) (hop : InOp X op rd) : PS X (.AugAssign (.Attribute o f tpos) op value pos) (sFldAug X.K ta tv rd f) := by
  intro pins s σ H D I h
  refine wpAny_AugAssign_AttributeAny (thn (ha pins s σ H _ I h) fun ov s1 ⟨x, H1, I1, rx, a, C, dx, fs, v, ex, ea, c, n, l, q⟩ => ?_)
  subst ex
  obtain rfl : ov = Value.ref a := rx
  refine getattr_ok I1 ea c n l fun u s2 I2 ru => thn (hv pins s2 σ H1 _ I2 q) fun w3 s3 ⟨y, H2, I3, ry, q3⟩ => thn (hop pins s3 σ H2 v y u w3 _ I3 ru ry q3) fun w4 s4 ⟨z, H3, I4, rz, dx', fs', ea', l', q4⟩ => ?_
  exact setattr_ok I4 ea' c n l' rz fun s5 I5 => ⟨σ, _, I5, q4⟩
def rAdd : V → V → Hp → VK → Prop := fun x y H Q => ∃ i j, x = .int i ∧ y = .int j ∧ Q (.int (i + j)) H
def rSub : V → V → Hp → VK → Prop := fun x y H Q => ∃ i j, x = .int i ∧ y = .int j ∧ Q (.int (i - j)) H
theorem in_add : InOp X .Add rAdd := by
  rintro pins s σ H x y u v Q I rx ry ⟨i, j, rfl, rfl, q⟩
  obtain ⟨t, rfl⟩ := (show ∃ t, u = Value.int i t from rx)
  obtain ⟨t', rfl⟩ := (show ∃ t', v = Value.int j t' from ry)
  exact PyProof.Rows.iadd_int ⟨.int (i + j), H, I.tok _, ⟨_, rfl⟩, q⟩
theorem in_sub : InOp X .Sub rSub := by
  rintro pins s σ H x y u v Q I rx ry ⟨i, j, rfl, rfl, q⟩
  obtain ⟨t, rfl⟩ := (show ∃ t, u = Value.int i t from rx)
  obtain ⟨t', rfl⟩ := (show ∃ t', v = Value.int j t' from ry)
  exact PyProof.Rows.isub_int ⟨.int (i - j), H, I.tok _, ⟨_, rfl⟩, q⟩
end
section
variable {X : Cx} {pins : List (Addr × Obj)} {σ : St} {H : Hp} {s : Shared} {A : Around} {E : Value → Shared → Prop} {Q : Value → Shared → Prop} {c : Value} {b : Bool}
end
end L2
namespace L2
open PySem PySem.Spec PyProof.Rows
structure Room (k : Nat) (A : Around) : Prop where
  hd : A.handled = none
  dp : A.depth + 3 * k + 5 < recursionLimit
  un : A.units + 16 * k + 200 < cLine
theorem Room.mono {j k : Nat} {A : Around} (r : Room k A) (h : j ≤ k) : Room j A := ⟨r.hd, by have := r.dp; omega, by have := r.un; omega⟩
theorem Room.deeper {k : Nat} {A : Around} (r : Room (k + 1) A) (env : Env) : Room k (A.deeper env) :=
  ⟨r.hd, by have := r.dp; show A.depth + 1 + 3 * k + 5 < _; omega, by have := r.un; show A.units + 3 + 16 * k + 200 < _; omega⟩
theorem make_depth {A : Around} {C : Addr} {us : List Value} {kw : List (Str × Value)} : (A.under (.builtin "type.__call__" ⟨.ref C :: us, kw⟩)).depth = A.depth + 1 := by
  first | rfl | simp [Around.under, Code.weight, Code.isCreation, Code.isGuard, Code.isCaller, Code.frames, Code.isFrame, guardIds]
theorem make_units {A : Around} {C : Addr} {us : List Value} {kw : List (Str × Value)} : (A.under (.builtin "type.__call__" ⟨.ref C :: us, kw⟩)).units = A.units + 1 := by
  first | rfl | simp [Around.under, Code.cUnits, Code.frames, Code.isFrame]
theorem Room.make {k : Nat} {A : Around} (r : Room (k + 1) A) (C : Addr) (us : List Value) (kw : List (Str × Value)) : Room k (A.under (.builtin "type.__call__" ⟨.ref C :: us, kw⟩)) :=
  ⟨r.hd, by have := r.dp; rw [make_depth]; omega, by have := r.un; rw [make_units]; omega⟩
theorem Room.depth {k : Nat} {A : Around} (r : Room k A) : A.depth < recursionLimit := by have := r.dp; omega
theorem Room.units {k : Nat} {A : Around} (r : Room k A) : A.units + 64 < cLine := by have := r.un; omega
def tNil : TA := fun _ H Q => Q [] H
def tCons (ta : TE) (tr : TA) : TA := fun σ H Q => ta σ H fun x H1 => tr σ H1 fun xs H2 => Q (x :: xs) H2
section
variable {X : Cx} {e : Expr} {es : List Expr} {te : TE} {t : TA} {pos : Pos}
theorem pa_nil : PA X [] tNil := fun _ _ _ _ H Q I h => Calls.spliced_nil ⟨[], H, I, .nil, h⟩
theorem pa_cons (ha : PE X e te) (hr : PA X es t) (hs : starEach (e :: es) X.env = (false, eval e X.env) :: starEach es X.env := by rfl) : PA X (e :: es) (tCons te t) := by
  intro pos pins s σ H Q I h
  rw [hs]
  show wpAny _ _ (spliced ((false, eval e X.env) :: backTo pos (starEach es X.env))) _ _ s
  refine Calls.spliced_cons (thn (ha pins s σ H _ I h) fun u s1 ⟨x, H1, I1, r1, q1⟩ => ?_)
  exact thn (hr pos pins s1 σ H1 _ I1 q1) fun us s2 ⟨xs, H2, I2, r2, q2⟩ => ⟨x :: xs, H2, I2, .cons r1 r2, q2⟩
def tTup (t : TA) : TE := fun σ H Q => t σ H fun xs H1 => xs.length ≤ sizeLine ∧ ∀ p, H1 p = none → Q (.ref p) (upd H1 p (.tup xs))
def tLst (t : TA) : TE := fun σ H Q => t σ H fun xs H1 => xs.length ≤ sizeLine ∧ ∀ p, H1 p = none → Q (.ref p) (upd H1 p (.lst xs))
theorem pe_tup {x1} (h : PA X es t) : PE X (.Tuple es x1 pos) (tTup t) := by
  intro pins s σ H Q I hq
  refine wpAny_Tuple_spliced (thn (h pos pins s σ H _ I hq) fun us s1 ⟨xs, H1, I1, r, z, q⟩ => ⟨by rw [← r.length]; exact z, ?_⟩)
  have hf : H1 s1.heap.objs.size = none := I1.hok.fresh (Nat.le_refl _)
  refine ⟨.ref s1.heap.objs.size, upd H1 s1.heap.objs.size (.tup xs), I1.laid (t' := s1.toks) (fun b u e => Heap.get?_push_of_some _ e) (Nat.le_refl _) ?_, rfl, q _ hf⟩
  exact ⟨z, us, r, ⟨_, Heap.get?_push_size _ rfl, rfl, _, rfl⟩⟩
theorem pe_lst (h : PA X es t) : PE X (.List es pos) (tLst t) := by
  intro pins s σ H Q I hq
  refine wpAny_List_spliced (thn (h pos pins s σ H _ I hq) fun us s1 ⟨xs, H1, I1, r, z, q⟩ => ⟨by rw [← r.length]; exact z, ?_⟩)
  have hf : H1 s1.heap.objs.size = none := I1.hok.fresh (Nat.le_refl _)
  refine ⟨.ref s1.heap.objs.size, upd H1 s1.heap.objs.size (.lst xs), I1.laid (t' := s1.toks) (fun b u e => Heap.get?_push_of_some _ e) (Nat.le_refl _) ?_, rfl, q _ hf⟩
  exact ⟨z, us, 0, r, Heap.get?_push_size _ rfl⟩
end
abbrev Sp := List V → Hp → VK → XK → Prop
abbrev CXT := List Env → Hp → Shared → XK → Value → Shared → Prop
structure Env0 (P : Program) (w : World) (K : PySem.W.Frag) (mg : Str → Option Value) (base : Heap) (A : Around) (outer : List Env) (s : Shared) (H : Hp) : Prop where
  frames : A.frames = some outer
  mod : Mod K mg base
  bs : ∀ b o, base.get? b = some o → s.heap.get? b = some o ∧ H b = none
  bsz : base.objs.size ≤ s.heap.objs.size
  funs : s.heap.FunFrames base outer
  frf : ∀ b ∈ frs outer, H b = none
  hok : HOk P w H s.heap
  bare : AllBare s.gens
def CE (outer : List Env) (P : Program) (w : World) (H : Hp) (s : Shared) (Q : VK) (u : Value) (s' : Shared) : Prop :=
  ∃ v H', s'.os = s.os ∧ AllBare s'.gens ∧ Un (frs outer) [] H H' s.heap s'.heap ∧ HOk P w H' s'.heap ∧ RelV v u ∧ Q v H'
def CR (CX : CXT) (outer : List Env) (P : Program) (w : World) (H : Hp) (s : Shared) (Q : VK) (E : XK) (r : Result) (s' : Shared) : Prop :=
  match r with
  | .ok (.ret u) => CE outer P w H s Q u s'
  | .ok _ => False
  | .error e => CX outer H s E e s'
structure FnOk (P : Program) (w : World) (K : PySem.W.Frag) (mg : Str → Option Value) (base : Heap) (CX : CXT) (k : Nat) (f : Addr) (fd : FuncData) (ps : List Str) (sp : Sp) : Prop where
  len : ∀ vs H Q E, sp vs H Q E → vs.length = ps.length
  run : ∀ (A : Around) (outer : List Env) (s : Shared) (H : Hp) (args : Args) (us : List Value) (vs : List V) (Q : VK) (E : XK), Room k A → Env0 P w K mg base A outer s H → BindsTo s fd args (ps.zip us) → Vals vs us → sp vs H Q E →
    codeAny (model P w) A (.call (.ref f) args) (CR CX outer P w H s Q E) s
theorem Env0.make {P : Program} {w : World} {K : PySem.W.Frag} {mg : Str → Option Value} {base : Heap} {A : Around} {outer : List Env} {s : Shared} {H : Hp} (e : Env0 P w K mg base A outer s H) (C : Addr) (us : List Value) (kw : List (Str × Value)) :
    Env0 P w K mg base (A.under (.builtin "type.__call__" ⟨.ref C :: us, kw⟩)) outer s H := ⟨by first | exact e.frames | (simpa [Around.under, Code.envs, Code.isFrame, pushEnvs] using e.frames), e.mod, e.bs, e.bsz, e.funs, e.frf, e.hok, e.bare⟩
section
variable {X : Cx} {pins : List (Addr × Obj)} {σ : St} {H : Hp} {s s' : Shared}
theorem Inv.env0 (I : Inv X pins σ H s) : Env0 X.prog X.w X.K X.mg X.base X.A X.stack s H :=
  ⟨I.ok.frames, I.ok.mod, I.bs, Nat.le_trans I.ok.bsz I.sz, I.stack, I.stkFree, I.hok, I.bare⟩
theorem Inv.after {Q : VK} {u : Value} (I : Inv X pins σ H s) (h : CE X.stack X.prog X.w H s Q u s') : EP X pins σ Q u s' := by
  obtain ⟨v, H', os, bare, un, hok, r, q⟩ := h
  obtain ⟨hh, g, d, t, os'⟩ := s'
  obtain rfl : os' = s.os := os
  exact ⟨v, H', I.call (h' := hh) (g' := g) (d' := d) (t' := t) (ch := []) un hok bare (fun b z => absurd z (by simp)), r, q⟩
end
def tCall (sp : Sp) (dvs : List V) (E : XK) (t : TA) : TE := fun σ H Q => t σ H fun vs H1 => sp (vs ++ dvs) H1 Q E
def tMeth (C : Addr) (m : Str) (sp : Sp) (dvs : List V) (E : XK) (ta : TE) (t : TA) : TE := fun σ H Q => ta σ H fun x H1 => ∃ a dx fs, x = .ref a ∧ H1 a = some (.ins C dx fs) ∧ fs.lookup m = none ∧
  t σ H1 fun vs H2 => sp (x :: (vs ++ dvs)) H2 Q E
def tMake (C : Addr) (sp : Sp) (dvs : List V) (E : XK) (t : TA) : TE := fun σ H Q => t σ H fun vs H1 => ∀ x dx, H1 x = none → H1 dx = none → dx ≠ x →
  sp (.ref x :: (vs ++ dvs)) (upd (upd H1 dx (.own x)) x (.ins C dx [])) (fun v H2 => v = .non ∧ Q (.ref x) H2) E
def Binds (K : PySem.W.Frag) (fd : FuncData) (ps : List Str) (ds : List Value) : Prop :=
  ∀ (s : Shared) (us : List Value), K.In s.heap → (us ++ ds).length = ps.length → BindsTo s fd ⟨us, []⟩ (ps.zip (us ++ ds))
theorem Binds.all {K : PySem.W.Frag} {fd : FuncData} {ps : List Str} (h : ∀ us : List Value, us.length = ps.length → bindArgs fd ⟨us, []⟩ = pure (ps.zip us)) : Binds K fd ps [] := fun s us _ hl => by
  rw [List.append_nil] at hl ⊢
  exact .of_eq (h us hl)
def Passes (CX : CXT) (X : Cx) (E : XK) : Prop := ∀ (pins : List (Addr × Obj)) (σ : St) (H : Hp) (s : Shared) (e : Value) (s' : Shared), Inv X pins σ H s → CX X.stack H s E e s' → X.xe e s'
section
variable {X : Cx} {CX : CXT} {k : Nat} {f C : Addr} {fd : FuncData} {ps : List Str} {sp : Sp} {dvs : List V} {ds : List Value} {E : XK} {x m : Str} {p pos apos : Pos} {e o : Expr} {es : List Expr} {ta : TE} {t : TA}
theorem run_fn {pins : List (Addr × Obj)} {σ : St} {H : Hp} {s : Shared} {Q : VK} {us : List Value} {vs : List V} (F : FnOk X.prog X.w X.K X.mg X.base CX k f fd ps sp) (hr : Room k X.A) (hb : Binds X.K fd ps ds) (hd : Vals dvs ds) (hx : Passes CX X E)
    (I : Inv X pins σ H s) (r : Vals vs us) (h : sp (vs ++ dvs) H Q E) : wpAny (model X.prog X.w) X.A (call (.ref f) us) (EP X pins σ Q) X.xe s := by
  have r2 : Vals (vs ++ dvs) (us ++ ds) := r.append hd
  have hl : (us ++ ds).length = ps.length := by rw [← r2.length]; exact F.len _ _ _ _ h
  refine wpAny_call (codeAny_mono (F.run X.A X.stack s H ⟨us, []⟩ (us ++ ds) (vs ++ dvs) Q E hr I.env0 (hb s us I.kIn hl) r2 h) fun r s' hq => ?_)
  cases r with
  | error e => exact hx pins σ H s e s' I hq
  | ok fl =>
    cases fl with
    | ret u => exact I.after hq
    | next => exact False.elim hq
    | brk => exact False.elim hq
    | cont => exact False.elim hq
theorem pe_call (F : FnOk X.prog X.w X.K X.mg X.base CX k f fd ps sp) (hr : Room k X.A) (hg : Gl X x) (hm : X.mg x = some (.ref f)) (hk : PySem.W.keepIn X.K (.ref f) = true) (hb : Binds X.K fd ps ds) (hd : Vals dvs ds) (hx : Passes CX X E)
    (ha : PA X (e :: es) t) (hdb : (x == ("__debug__" : Str)) = false := by decide) (he : starEach (e :: es) X.env = (false, eval e X.env) :: starEach es X.env := by rfl) (hpl : (backTo pos (starEach es X.env)).any (·.1) = false := by rfl) :
    PE X (.Call (.Name x p) (e :: es) [] pos) (tCall sp dvs E t) := by
  intro pins s σ H Q I h
  refine wpAny_Call_Name_kw (ld_glob I hg hm ?_ hdb)
  refine PySem.W.callWith_K (h₀ := X.base) I.ok.mod.kin hk (thn (ha pos pins s σ H _ I h) fun us s1 ⟨vs, H1, I1, r, q⟩ => ⟨I1.kIn, ?_⟩) he hpl
  exact run_fn F hr hb hd hx I1 r q
theorem pe_call0 (F : FnOk X.prog X.w X.K X.mg X.base CX k f fd ps sp) (hr : Room k X.A) (hg : Gl X x) (hm : X.mg x = some (.ref f)) (hk : PySem.W.keepIn X.K (.ref f) = true) (hb : Binds X.K fd ps ds) (hd : Vals dvs ds) (hx : Passes CX X E)
    (hdb : (x == ("__debug__" : Str)) = false := by decide) : PE X (.Call (.Name x p) [] [] pos) (tCall sp dvs E tNil) := by
  intro pins s σ H Q I h
  refine wpAny_Call_Name_kw (ld_glob I hg hm ?_ hdb)
  exact PySem.W.callWith_K0 I.kIn hk (run_fn (us := []) F hr hb hd hx I .nil h)
theorem pe_meth {pl : Sem Bool} (he : PE X o ta) (c : Cls X.K C) (hm : Meth X.K C m f) (F : FnOk X.prog X.w X.K X.mg X.base CX k f fd ps sp) (hr : Room k X.A) (hb : Binds X.K fd ps ds) (hd : Vals dvs ds) (hx : Passes CX X E) (ha : PA X (e :: es) t)
    (hst : starEach (e :: es) X.env = (false, eval e X.env) :: starEach es X.env := by rfl) (hpl : (backTo pos (starEach es X.env)).any (·.1) = false := by rfl)
    (ht : eval (.Call (.Attribute o m apos) (e :: es) [] pos) X.env = (do
      let ov ← eval o X.env
      standAt apos.atName
      let (f, first) ← holding [ov] (getMethod ov m pl)
      callWith pos f first (backTo pos (starEach (e :: es) X.env)) (backToKw pos (keywordEach [] X.env))) := by rfl) :
    PE X (.Call (.Attribute o m apos) (e :: es) [] pos) (tMeth C m sp dvs E ta t) := by
  intro pins s σ H Q I h
  refine PySem.W.methodCall_KW (pl := pl) (thn (he pins s σ H _ I h) fun u s1 ⟨x, H1, I1, rx, a, dx, fs, ex, ea, l, q⟩ => ?_) ht
  subst ex
  obtain rfl : u = Value.ref a := rx
  refine getmeth_ok I1 ea c hm l ?_
  refine PySem.W.callWith_K (first := [.ref a]) (h₀ := X.base) I.ok.mod.kin hm.kp (thn (ha pos pins s1 σ H1 _ I1 q) fun us s2 ⟨vs, H2, I2, r, q2⟩ => ⟨I2.kIn, ?_⟩) hst hpl
  exact run_fn (us := .ref a :: us) (vs := .ref a :: vs) F hr hb hd hx I2 (.cons rfl r) q2
theorem pe_meth0 {pl : Sem Bool} (he : PE X o ta) (c : Cls X.K C) (hm : Meth X.K C m f) (F : FnOk X.prog X.w X.K X.mg X.base CX k f fd ps sp) (hr : Room k X.A) (hb : Binds X.K fd ps ds) (hd : Vals dvs ds) (hx : Passes CX X E)
    (ht : eval (.Call (.Attribute o m apos) [] [] pos) X.env = (do
      let ov ← eval o X.env
      standAt apos.atName
      let (f, first) ← holding [ov] (getMethod ov m pl)
      callWith pos f first (backTo pos (starEach [] X.env)) (backToKw pos (keywordEach [] X.env))) := by rfl) :
    PE X (.Call (.Attribute o m apos) [] [] pos) (tMeth C m sp dvs E ta tNil) := by
  intro pins s σ H Q I h
  refine PySem.W.methodCall_KW (pl := pl) (thn (he pins s σ H _ I h) fun u s1 ⟨x, H1, I1, rx, a, dx, fs, ex, ea, l, q⟩ => ?_) ht
  subst ex
  obtain rfl : u = Value.ref a := rx
  refine getmeth_ok I1 ea c hm l ?_
  exact PySem.W.callWith_K0 (first := [.ref a]) I1.kIn hm.kp (run_fn (us := [.ref a]) (vs := [.ref a]) F hr hb hd hx I1 (.cons rfl .nil) q)
structure Mk (K : PySem.W.Frag) (C f : Addr) : Prop where
  makes : PySem.W.makesIn K C = true
  init : PySem.W.findIn K (.ref C) "__init__" = some (some (.ref f))
  fn : PySem.W.isFn K (.ref f) = true
  kp : PySem.W.keepIn K (.ref C) = true
theorem run_make {pins : List (Addr × Obj)} {σ : St} {H : Hp} {s : Shared} {Q : VK} {us : List Value} {vs : List V} (M : Mk X.K C f) (F : FnOk X.prog X.w X.K X.mg X.base CX k f fd ps sp) (hr : Room (k + 1) X.A) (hb : Binds X.K fd ps ds) (hd : Vals dvs ds)
    (hx : Passes CX X E) (I : Inv X pins σ H s) (r : Vals vs us)
    (h : ∀ x dx, H x = none → H dx = none → dx ≠ x → sp (.ref x :: (vs ++ dvs)) (upd (upd H dx (.own x)) x (.ins C dx [])) (fun v H2 => v = .non ∧ Q (.ref x) H2) E) :
    wpAny (model X.prog X.w) X.A (call (.ref C) us) (EP X pins σ Q) X.xe s := by
  have hq := h (s.heap.objs.size + 1) s.heap.objs.size (I.hok.fresh (Nat.le_succ _)) (I.hok.fresh (Nat.le_refl _)) (Nat.ne_of_lt (Nat.lt_succ_self _))
  have I2 := Inv.made (C := C) I
  have r2 : Vals (V.ref (s.heap.objs.size + 1) :: (vs ++ dvs)) (Value.ref (s.heap.objs.size + 1) :: (us ++ ds)) := .cons rfl (r.append hd)
  have hl : (Value.ref (s.heap.objs.size + 1) :: us ++ ds).length = ps.length := by
    have e := r2.length
    rw [F.len _ _ _ _ hq] at e
    exact e.symm
  refine wpAny_call (make_map (f := f) I.kIn M.makes M.init (beq_iff_eq.mp M.fn) (codeAny_mono (F.run _ X.stack _ _ ⟨Value.ref (s.heap.objs.size + 1) :: us, []⟩ (Value.ref (s.heap.objs.size + 1) :: (us ++ ds)) _ _ E (hr.make C us [])
    (I2.env0.make C us []) (hb _ (Value.ref (s.heap.objs.size + 1) :: us) I2.kIn hl) r2 hq) fun r s' hq' => ?_))
  cases r with
  | error e => exact hx pins σ _ _ e s' I2 hq'
  | ok fl =>
    cases fl with
    | ret u =>
      obtain ⟨v, H', I3, rv, ev, q3⟩ := I2.after hq'
      subst ev
      exact ⟨rv, ⟨V.ref (s.heap.objs.size + 1), H', I3, rfl, q3⟩⟩
    | next => exact False.elim hq'
    | brk => exact False.elim hq'
    | cont => exact False.elim hq'
theorem pe_make (M : Mk X.K C f) (F : FnOk X.prog X.w X.K X.mg X.base CX k f fd ps sp) (hr : Room (k + 1) X.A) (hg : Gl X x) (hm : X.mg x = some (.ref C)) (hb : Binds X.K fd ps ds) (hd : Vals dvs ds) (hx : Passes CX X E)
    (ha : PA X (e :: es) t) (hdb : (x == ("__debug__" : Str)) = false := by decide) (he : starEach (e :: es) X.env = (false, eval e X.env) :: starEach es X.env := by rfl) (hpl : (backTo pos (starEach es X.env)).any (·.1) = false := by rfl) :
    PE X (.Call (.Name x p) (e :: es) [] pos) (tMake C sp dvs E t) := by
  intro pins s σ H Q I h
  refine wpAny_Call_Name_kw (ld_glob I hg hm ?_ hdb)
  refine PySem.W.callWith_K (h₀ := X.base) I.ok.mod.kin M.kp (thn (ha pos pins s σ H _ I h) fun us s1 ⟨vs, H1, I1, r, q⟩ => ⟨I1.kIn, ?_⟩) he hpl
  exact run_make M F hr hb hd hx I1 r q
theorem pe_make0 (M : Mk X.K C f) (F : FnOk X.prog X.w X.K X.mg X.base CX k f fd ps sp) (hr : Room (k + 1) X.A) (hg : Gl X x) (hm : X.mg x = some (.ref C)) (hb : Binds X.K fd ps ds) (hd : Vals dvs ds) (hx : Passes CX X E)
    (hdb : (x == ("__debug__" : Str)) = false := by decide) : PE X (.Call (.Name x p) [] [] pos) (tMake C sp dvs E tNil) := by
  intro pins s σ H Q I h
  refine wpAny_Call_Name_kw (ld_glob I hg hm ?_ hdb)
  exact PySem.W.callWith_K0 I.kIn M.kp (run_make (us := []) M F hr hb hd hx I .nil h)
end
section
variable {X : Cx} {CX : CXT} {k : Nat} {f C : Addr} {fd : FuncData} {ps ks : List Str} {sp : Sp} {E : XK} {x m : Str} {p pos apos kpos : Pos} {e o : Expr} {es : List Expr} {kws : List Keyword} {te ta : TE} {t tk : TA} {nm : Option Str}
variable {g : List Value → List Value → List Value} {gV : List V → List V → List V}
end
structure FnScope (N P : List Str) (sc : Scope) : Prop where
  kind : sc.kind = .function
  co : sc.isCoroutine = false
  gen : sc.isGenerator = false
  nd : N.Nodup
  pre : N.take P.length = P
  par : ∀ x ∈ P, sc.names.lookup x = some .local ∨ sc.names.lookup x = some .cell
  nofree : ∀ y ∈ sc.names, y.2 ≠ .free
theorem bindL_out {kindOf : Str → Option NameKind} {x : Str} : ∀ {binds : List (Str × Value)} {m : Str → Option Value}, (∀ v, (x, v) ∉ binds) → bindL kindOf binds m x = m x
  | [], _, _ => rfl
  | (n, v) :: r, m, h => by
    unfold bindL
    rw [bindL_out fun w hw => h w (List.mem_cons_of_mem _ hw)]
    split
    · have : x ≠ n := by rintro rfl; exact h v List.mem_cons_self
      simp [this]
    · rfl
theorem bindC_out {kindOf : Str → Option NameKind} {x : Str} : ∀ {binds : List (Str × Value)} {m : Str → Option Value}, (∀ v, (x, v) ∉ binds) → bindC kindOf binds m x = m x
  | [], _, _ => rfl
  | (n, v) :: r, m, h => by
    unfold bindC
    rw [bindC_out fun w hw => h w (List.mem_cons_of_mem _ hw)]
    split
    · rfl
    · have : x ≠ n := by rintro rfl; exact h v List.mem_cons_self
      simp [this]
theorem bindL_get {kindOf : Str → Option NameKind} {x : Str} {v : Value} : ∀ {P : List Str} {vs : List Value} {i : Nat} {m : Str → Option Value}, P.Nodup → P[i]? = some x → vs[i]? = some v → kindOf x = some .local →
    bindL kindOf (P.zip vs) m x = some v
  | [], _, _, _, _, h, _, _ => by simp at h
  | _ :: _, [], _, _, _, _, h, _ => by simp at h
  | p :: P, w :: vs, 0, m, nd, h1, h2, hk => by
    simp at h1 h2; subst h1; subst h2
    show bindL kindOf ((p, w) :: P.zip vs) m p = _
    unfold bindL
    rw [bindL_out fun v hv => (List.nodup_cons.mp nd).1 (List.of_mem_zip hv).1, if_pos hk]
    simp
  | p :: P, w :: vs, i + 1, m, nd, h1, h2, hk => by
    show bindL kindOf ((p, w) :: P.zip vs) m x = _
    unfold bindL
    exact bindL_get (i := i) (List.nodup_cons.mp nd).2 (by simpa using h1) (by simpa using h2) hk
theorem bindC_get {kindOf : Str → Option NameKind} {x : Str} {v : Value} : ∀ {P : List Str} {vs : List Value} {i : Nat} {m : Str → Option Value}, P.Nodup → P[i]? = some x → vs[i]? = some v → kindOf x ≠ some .local →
    bindC kindOf (P.zip vs) m x = some v
  | [], _, _, _, _, h, _, _ => by simp at h
  | _ :: _, [], _, _, _, _, h, _ => by simp at h
  | p :: P, w :: vs, 0, m, nd, h1, h2, hk => by
    simp at h1 h2; subst h1; subst h2
    show bindC kindOf ((p, w) :: P.zip vs) m p = _
    unfold bindC
    rw [bindC_out fun v hv => (List.nodup_cons.mp nd).1 (List.of_mem_zip hv).1, if_neg hk]
    simp
  | p :: P, w :: vs, i + 1, m, nd, h1, h2, hk => by
    show bindC kindOf ((p, w) :: P.zip vs) m x = _
    unfold bindC
    exact bindC_get (i := i) (List.nodup_cons.mp nd).2 (by simpa using h1) (by simpa using h2) hk
def start (N : List Str) (vs : List V) : St := vs.map some ++ List.replicate (N.length - vs.length) none
def cxOf (CX : CXT) (P : Program) (w : World) (K : PySem.W.Frag) (mg : Str → Option Value) (base : Heap) (N : List Str) (qual : Str) (scope : Scope) (f : Addr) (cd : Value) (A : Around) (outer : List Env) (s : Shared) (H : Hp) (E : XK) : Cx where
  prog := P
  w := w
  K := K
  mg := mg
  base := base
  A := A.deeper (envOfC qual scope s.heap.objs.size f cd)
  N := N
  s_0 := s
  H_0 := H
  env := envOfC qual scope s.heap.objs.size f cd
  outer := outer
  stack := envOfC qual scope s.heap.objs.size f cd :: outer
  ex := []
  calm := true
  fn := fun _ => true
  pn := []
  xe := fun e s' => wpAny (model P w) (A.deeper (envOfC qual scope s.heap.objs.size f cd)) (leaving (envOfC qual scope s.heap.objs.size f cd) e) (fun _ s'' => CX outer H s E e s'') (fun e' s'' => CX outer H s E e' s'') s'
theorem cell_has {sc : Scope} {n : Nat} {x : Str} (h : sc.names.lookup x = some .cell) : ∃ c, (cellsFrom n sc.names []).lookup x = some c := by
  have q := PySem.W.cellsFrom_some sc.names n [] (.inl h)
  exact Option.isSome_iff_exists.mp q
theorem inv_start {CX : CXT} {P : Program} {w : World} {K : PySem.W.Frag} {mg : Str → Option Value} {base : Heap} {N ps : List Str} {qual : Str} {scope : Scope} {f : Addr} {cd : Value} {A : Around} {outer : List Env} {s s1 : Shared} {H : Hp} {E : XK} {us : List Value} {vs : List V}
    (S : FnScope N ps scope) (hd : A.handled = none) (e0 : Env0 P w K mg base A outer s H) (hl : vs.length = ps.length) (r : Vals vs us)
    (x : InCallC s s.heap.objs.size (bindL (envOfC qual scope s.heap.objs.size f cd).kindOf (ps.zip us) fun _ => none) (cellsFrom (s.heap.objs.size + 1) scope.names []) (bindC (envOfC qual scope s.heap.objs.size f cd).kindOf (ps.zip us) fun _ => none) s1) :
    Inv (cxOf CX P w K mg base N qual scope f cd A outer s H E) [] (start N vs) H s1 := by
  have hpl : ps.length ≤ N.length := by have := congrArg List.length S.pre; rw [List.length_take] at this; omega
  obtain ⟨h1, tk, rfl, hk⟩ := x.done
  have noA : ∀ b : Addr, b ∉ (cxOf CX P w K mg base N qual scope f cd A outer s H E).ex := fun b z => absurd (show b ∈ ([] : List Addr) from z) (by simp)
  refine ⟨⟨e0.mod, S.kind, rfl, rfl, Nat.le_refl _, fun y z c h1 h2 => ?_, fun y hy => ?_, fun y c _ h => ?_, fun _ => hd, Around.frames_deeper e0.frames, .inr ⟨rfl, rfl⟩, fun b z => absurd z (noA b), e0.bs, e0.bsz, fun b _ _ => noA b, fun b z => absurd z (noA b), e0.funs, e0.frf⟩,
    rfl, e0.bare, Un.kept hk, ⟨_, x.toInCall.ns, fun i y v h1 h2 h3 => ?_⟩, fun y c h => ⟨_, x.cell y c h⟩, e0.hok.fresh (Nat.le_refl _), fun y c h => ?_, fun p hp => absurd (show p ∈ ([] : List (Addr × Obj)) from hp) (by simp), e0.hok.kept hk, ?_⟩
  · exact name_of_addr x.apart (PySem.mem_of_lookup h1) (PySem.mem_of_lookup h2)
  · have hy : scope.names.lookup y = some .cell ∨ scope.names.lookup y = some .free := hy
    rcases hy with hy | hy
    · exact cell_has hy
    · exact absurd rfl (S.nofree _ (PySem.mem_of_lookup hy))
  · exact Nat.le_of_lt (x.above y c (PySem.mem_of_lookup h))
  · have hi : i < vs.length := by
      unfold start at h2
      by_cases hi : i < vs.length
      · exact hi
      · rw [List.getElem?_append_right (by simpa using hi)] at h2
        rw [List.getElem?_replicate] at h2
        split at h2 <;> cases h2
    have ha : vs[i]? = some v := by
      unfold start at h2
      rw [List.getElem?_append_left (by simpa using hi), List.getElem?_map] at h2
      cases e : vs[i]? with
      | none => rw [e] at h2; cases h2
      | some a => rw [e] at h2; cases h2; rfl
    obtain ⟨u, hu, rv⟩ := r.get ha
    have hp : ps[i]? = some y := by
      rw [← S.pre, List.getElem?_take_of_lt (by omega)]; exact h1
    have ndP : ps.Nodup := by rw [← S.pre]; exact S.nd.sublist (List.take_sublist _ _)
    refine ⟨u, rv, ?_⟩
    rcases S.par y (List.mem_of_getElem? hp) with k | k
    · exact .inl ⟨k, bindL_get ndP hp hu k⟩
    · obtain ⟨c, e⟩ := cell_has (n := s.heap.objs.size + 1) k
      refine .inr ⟨.inl k, c, e, ?_⟩
      have q := x.cell y c e
      rw [bindC_get ndP hp hu (by show scope.names.lookup y ≠ _; rw [k]; decide)] at q
      exact q
  · exact e0.hok.fresh (Nat.le_of_lt (x.above y c (PySem.mem_of_lookup h)))
  · unfold start
    show _ = N.length
    rw [List.length_append, List.length_map, List.length_replicate]
    omega
theorem fn_of {CX : CXT} {P : Program} {w : World} {K : PySem.W.Frag} {mg : Str → Option Value} {base : Heap} {k : Nat} {f : Addr} {name qual : Str} {params : Arguments} {body : List Stmt} {scope : Scope} {dV kV doc pm cdv ct oc : Value} {an od : Option Addr}
    {osl : Array (Option Value)} {N ps : List Str} {sp : Sp} (lk : K.lookup f = some ⟨oc, od, .func (PySem.W.fnOf name qual params body scope dV kV doc pm an cdv ct), osl⟩) (hcd : PySem.W.codeIn K cdv qual = true) (S : FnScope N ps scope)
    (len : ∀ vs H Q E, sp vs H Q E → vs.length = ps.length)
    (hbody : ∀ (A : Around) (outer : List Env) (s : Shared) (H : Hp) (vs : List V) (Q : VK) (E : XK), Room k (A.deeper (envOfC qual scope s.heap.objs.size f cdv)) → sp vs H Q E →
      ∃ t, PSs (cxOf CX P w K mg base N qual scope f cdv A outer s H E) body t ∧ t { nx := fun _ H' => Q .non H', rt := Q } (start N vs) H) :
    FnOk P w K mg base CX (k + 1) f (PySem.W.fnOf name qual params body scope dV kV doc pm an cdv ct) ps sp := by
  refine ⟨len, fun A outer s H args us vs Q E hr e0 hb r hsp => ?_⟩
  have hl := len _ _ _ _ hsp
  have KX : K.In s.heap := e0.mod.kin.keeps fun b o e => (e0.bs b o e).1
  have lim : s.heap.NoLimit := e0.mod.nolimit.keeps fun b o e => (e0.bs b o e).1
  have hkind : ∀ y ∈ ps.zip us, scope.names.lookup y.1 = some .local ∨ (scope.names.lookup y.1 = some .cell ∧ ((cellsFrom (s.heap.objs.size + 1) scope.names []).lookup y.1).isSome = true) := fun ⟨n, v⟩ hy => by
    rcases S.par n (List.of_mem_zip hy).1 with q | q
    · exact .inl q
    · exact .inr ⟨q, PySem.W.cellsFrom_some _ _ _ (.inl q)⟩
  refine codeAny_call_function hr.depth (KX _ _ lk) rfl S.co S.gen rfl (PySem.W.codeRec_of KX hcd) (hb _ _ _ _ ?_)
  refine wpAny_newFunctionEnv_cells S.kind hkind fun env he s1 x => ?_
  subst he
  refine ⟨lim.keeps x.toInCall.keep, codeAny_func ?_⟩
  obtain ⟨t, ht, hq⟩ := hbody A outer s H vs Q E (hr.deeper _) hsp
  have I : Inv (cxOf CX P w K mg base N qual scope f cdv A outer s H E) [] (start N vs) H s1 := inv_start S hr.hd e0 hl r x
  refine wpAny_mono (ht [] s1 (start N vs) H _ I hq) (fun fl s' hs => ?_) fun e s' hs => hs
  have fin : ∀ {σ' : St} {H' : Hp} {v : V} {u : Value}, Inv (cxOf CX P w K mg base N qual scope f cdv A outer s H E) [] σ' H' s' → RelV v u → Q v H' → CE outer P w H s Q u s' :=
    fun {σ' H' v u} J rv q => ⟨v, H', J.os, J.bare, J.base, J.hok, rv, q⟩
  cases fl with
  | ret u =>
    obtain ⟨v, σ', H', J, rv, q⟩ := hs
    exact fin J rv q
  | next =>
    obtain ⟨σ', H', J, q⟩ := hs
    exact fin (v := V.non) (u := Value.none) J rfl q
  | brk =>
    obtain ⟨_, _, _, q⟩ := hs
    exact False.elim q
  | cont =>
    obtain ⟨_, _, _, q⟩ := hs
    exact False.elim q
end L2
namespace L2
open PySem PySem.Spec PyProof.Rows
section
variable {X : Cx} {x : Str} {p pos : Pos} {e : Expr} {es : List Expr} {t : TA} {id T : String} {r : List V → Hp → VK → Prop}
def tCB (r : List V → Hp → VK → Prop) (t : TA) : TE := fun σ H Q => t σ H fun vs H1 => r vs H1 Q
theorem pe_callB (hc : CallR X (.builtin id) r) (hg : Gl X x) (hm : X.mg x = none) (hv : bootBuiltins x = some (.builtin id)) (ha : PA X (e :: es) t) (hn : x ≠ "__name__" := by decide) (hdb : (x == ("__debug__" : Str)) = false := by decide)
    (he : starEach (e :: es) X.env = (false, eval e X.env) :: starEach es X.env := by rfl) (hpl : (backTo pos (starEach es X.env)).any (·.1) = false := by rfl) : PE X (.Call (.Name x p) (e :: es) [] pos) (tCB r t) := by
  intro pins s σ H Q I h
  refine wpAny_Call_Name_kw (ld_blt I hg hm hv ?_ hn hdb)
  exact PyProof.Rows.callWith_builtin1 (thn (ha pos pins s σ H _ I h) fun us s1 ⟨vs, H1, I1, r1, q1⟩ => hc pins s1 σ H1 vs us Q I1 r1 q1) he hpl
theorem pe_callTy (hc : CallR X (.type T) r) (hg : Gl X x) (hm : X.mg x = none) (hv : bootBuiltins x = some (.type T)) (ha : PA X (e :: es) t) (hn : x ≠ "__name__" := by decide) (hdb : (x == ("__debug__" : Str)) = false := by decide)
    (he : starEach (e :: es) X.env = (false, eval e X.env) :: starEach es X.env := by rfl) (hpl : (backTo pos (starEach es X.env)).any (·.1) = false := by rfl) : PE X (.Call (.Name x p) (e :: es) [] pos) (tCB r t) := by
  intro pins s σ H Q I h
  refine wpAny_Call_Name_kw (ld_blt I hg hm hv ?_ hn hdb)
  exact PyProof.Rows.callWith_type1 (thn (ha pos pins s σ H _ I h) fun us s1 ⟨vs, H1, I1, r1, q1⟩ => hc pins s1 σ H1 vs us Q I1 r1 q1) he hpl
theorem pe_callTy0 (hc : CallR X (.type T) r) (hg : Gl X x) (hm : X.mg x = none) (hv : bootBuiltins x = some (.type T)) (hn : x ≠ "__name__" := by decide) (hdb : (x == ("__debug__" : Str)) = false := by decide) :
    PE X (.Call (.Name x p) [] [] pos) (tCB r tNil) := by
  intro pins s σ H Q I h
  refine wpAny_Call_Name_kw (ld_blt I hg hm hv ?_ hn hdb)
  exact PyProof.Rows.callWith_type0 (hc pins s σ H [] [] Q I .nil h)
end
end L2
namespace HT
open PySem PyProof.Rows
section
open PySem.SeqAt
open PySem.AutoSeq1 (wpAny_loadPart')
open PySem.MeetsSeq PySem.MeetsSeq2 PySem.MeetsSeq3
end
section
variable {prog : Program} {w : World} {A : Around} {E : Value → Shared → Prop} {s : Shared}
theorem cat_tup {t b : Addr} {vs ws : List Value} {Q : Value → Shared → Prop} (ht : IsTup s.heap t vs.toArray) (hb : IsTup s.heap b ws.toArray) (hv : vs ≠ [])
    (h1 : ws = [] → Q (.ref t) s) (h2 : ws ≠ [] → Q (.ref s.heap.objs.size) { s with heap := s.heap.push { cls := .type "tuple", data := .seq (vs ++ ws).toArray } })
    (hsz : vs.length + ws.length ≤ sizeLine) : wpAny (model prog w) A (binaryOp .Add (.ref t) (.ref b)) Q E s := by
  obtain ⟨⟨cls, dd, data, sl⟩, ho, hc, n, hd⟩ := id ht
  obtain ⟨⟨cls2, dd2, data2, sl2⟩, ho2, hc2, n2, hd2⟩ := id hb
  simp only at hc hd hc2 hd2
  subst hc hd hc2 hd2
  have e : vs.toArray ++ ws.toArray = (vs ++ ws).toArray := by simp
  by_cases hw : ws = []
  · exact concat_meets ⟨_, ho, rfl⟩ ⟨_, ho2, rfl⟩ noFill_tuple_add seq_tuple_add PySem.F.slot_tuple_add PySem.F.entry_tuple_add (PySem.F.args_tuple_add_2 _ _)
      (tuple_addW1 t b vs.toArray ws.toArray n n2 dd dd2 sl sl2 (by simpa using hv) (by simp [hw])) ⟨ho, ho2, h1 hw⟩
  · refine concat_meets ⟨_, ho, rfl⟩ ⟨_, ho2, rfl⟩ noFill_tuple_add seq_tuple_add PySem.F.slot_tuple_add PySem.F.entry_tuple_add (PySem.F.args_tuple_add_2 _ _)
      (tuple_addW2 t b vs.toArray ws.toArray n n2 dd dd2 sl sl2 (by simpa using hv) (by simpa using hw) (by rw [List.size_toArray, List.size_toArray]; exact hsz)) ⟨ho, ho2, ?_⟩
    rw [e]
    exact h2 hw
def sIx (n d : Nat) : Option Int → Nat
  | none => d
  | some v => if v < 0 then (v + (n : Int)).toNat else min v.toNat n
theorem sIx_none (n d : Nat) : sIx n d none = d := rfl
theorem sIx_nat (n d k : Nat) : sIx n d (some (k : Int)) = min k n := by
  show (if (k : Int) < 0 then ((k : Int) + (n : Int)).toNat else min (k : Int).toNat n) = min k n
  rw [if_neg (by omega), Int.toNat_natCast]
theorem sIx_le (n d : Nat) (hd : d ≤ n) (o : Option Int) : sIx n d o ≤ n := by
  cases o with
  | none => exact hd
  | some v =>
    show (if v < 0 then (v + (n : Int)).toNat else min v.toNat n) ≤ n
    by_cases hv : v < 0
    · rw [if_pos hv]; omega
    · rw [if_neg hv]; exact Nat.min_le_right _ _
theorem clip_eq (v : Int) (n d : Nat) : (if v < 0 then max (v + (n : Int)) 0 else min v (n : Int)) = ((sIx n d (some v) : Nat) : Int) := by
  show (if v < 0 then max (v + (n : Int)) 0 else min v (n : Int)) = (((if v < 0 then (v + (n : Int)).toNat else min v.toNat n) : Nat) : Int)
  by_cases hv : v < 0
  · simp only [if_pos hv]; omega
  · simp only [if_neg hv]; omega
theorem adjust_gen (lo hi : Option Int) (n : Nat) : Builtin.Slice.sliceAdjust lo hi 1 (n : Int) = (((sIx n 0 lo : Nat) : Int), ((sIx n n hi : Nat) : Int)) := by
  have h1 : ¬ ((1 : Int) < 0) := by omega
  unfold Builtin.Slice.sliceAdjust
  simp only [h1, if_false]
  refine Prod.ext ?_ ?_
  · cases lo with
    | none => rfl
    | some v => exact clip_eq v n 0
  · cases hi with
    | none => rfl
    | some v => exact clip_eq v n n
theorem places_gen (i j : Nat) : Builtin.Slice.slicePlaces (i : Int) (j : Int) 1 = j - i := by
  unfold Builtin.Slice.slicePlaces
  have h1 : (1 : Int) > 0 := by omega
  simp only [h1, if_true, Int.ediv_one]
  split <;> omega
theorem slicePart_ {v : Value} {o : Option Int} {Q : Option Int → Shared → Prop} (p : IsPart v o) (h : Q o s) : wpAny (model prog w) A (Builtin.Slice.slicePartIndex v) Q E s := by
  cases p with
  | none => exact slicePart_none h
  | int i t => exact slicePart_int h
theorem sliceApplied_gen {sl : Addr} {vl vu : Value} {lo hi : Option Int} {n : Nat} {Q : Int × Int × Nat → Shared → Prop} (hs : s.heap.IsSliceOf sl vl vu .none) (pl : IsPart vl lo) (pu : IsPart vu hi)
    (h : Q (((sIx n 0 lo : Nat) : Int), 1, sIx n n hi - sIx n 0 lo) s) : wpAny (model prog w) A (Builtin.Slice.sliceApplied (.ref sl) (pure (n : Int))) Q E s := by
  obtain ⟨os, hos, hcs, hds⟩ := id hs
  unfold Builtin.Slice.sliceApplied Builtin.Slice.sliceFields
  refine wpAny_bind (wpAny_bind (wpAny_field hos hds (x := vl) rfl (wpAny_bind (wpAny_field hos hds (x := vu) rfl (wpAny_bind (wpAny_field hos hds (x := .none) rfl (wpAny_pure ?_)))))))
  refine wpAny_bind (slicePart_none ?_)
  show wpAny _ _ (if ((1 : Int) == 0) = true then _ else _) _ _ s
  rw [if_neg (by decide)]
  refine wpAny_bind (slicePart_ pl (wpAny_bind (slicePart_ pu (wpAny_bind (wpAny_pure ?_)))))
  show wpAny _ _ (match Builtin.Slice.sliceAdjust lo hi 1 (n : Int) with | (lo, hi) => pure (lo, (1 : Int), Builtin.Slice.slicePlaces lo hi 1)) _ _ s
  rw [adjust_gen lo hi n]
  show wpAny _ _ (pure (((sIx n 0 lo : Nat) : Int), (1 : Int), Builtin.Slice.slicePlaces ((sIx n 0 lo : Nat) : Int) ((sIx n n hi : Nat) : Int) 1)) _ _ s
  rw [places_gen]
  exact wpAny_pure h
theorem pick_gen (xs : Array Value) (i k : Nat) : ((List.range k).filterMap fun (m : Nat) => xs[((i : Int) + (m : Int) * 1).toNat]?).toArray = ((xs.toList.drop i).take k).toArray := by
  have e : (fun (m : Nat) => xs[((i : Int) + (m : Int) * 1).toNat]?) = fun m => xs[i + m]? := by
    funext m
    have : ((i : Int) + (m : Int) * 1).toNat = i + m := by omega
    rw [this]
  rw [e]
  have := pick_run xs i k
  rw [List.filterMap_map] at this
  have e2 : ((fun x => xs[x]?) ∘ fun x => i + x) = fun m => xs[i + m]? := rfl
  rw [e2] at this
  rw [this]
theorem getItem_tuple_cut {t sl : Addr} {items : Array Value} {vl vu : Value} {lo hi : Option Int} {Q : Value → Shared → Prop} (ht : IsTup s.heap t items) (hs : s.heap.IsSliceOf sl vl vu .none) (pl : IsPart vl lo) (pu : IsPart vu hi)
    (hw : ¬ (sIx items.size 0 lo = 0 ∧ sIx items.size items.size hi = items.size))
    (h : Q (.ref s.heap.objs.size) { s with heap := s.heap.push { cls := .type "tuple", data := .seq ((items.toList.drop (sIx items.size 0 lo)).take (sIx items.size items.size hi - sIx items.size 0 lo)).toArray } })
    (hsz : items.size ≤ sizeLine) : wpAny (model prog w) A (getItem (.ref t) (.ref sl)) Q E s := by
  have htake : sizeOk (.seq ((items.toList.drop (sIx items.size 0 lo)).take (sIx items.size items.size hi - sIx items.size 0 lo)).toArray) := by
    show ((items.toList.drop (sIx items.size 0 lo)).take (sIx items.size items.size hi - sIx items.size 0 lo)).toArray.size ≤ sizeLine
    rw [List.size_toArray, List.length_take, List.length_drop, Array.length_toList]
    omega
  have hj : sIx items.size items.size hi ≤ items.size := sIx_le _ _ (Nat.le_refl _) hi
  obtain ⟨os, hos, hcs, hds⟩ := id hs
  have hTs : s.TypeIs (.ref sl) "slice" := ⟨os, hos, hcs⟩
  unfold getItem
  try with_reducible refine wpAny_holding ?_
  first | refine wpAny_bind (wpAny_pure ?_) | skip
  refine wpAny_bind (wpAny_sequenceKey ht.typeIs (by decide) ?_)
  refine wpAny_bind (wpAny_callSpecial?_slot (name := Str.ofString "__getitem__") ht.typeIs PyProof.Rows.slot_tuple_getitem
    (wpAny_call_entry PyProof.Rows.slot_tuple_getitem ht.typeIs entry_tuple_getitem ?_ (args_tuple_getitem _ _)))
  show wpAny _ _ (Builtin.Tuple.tupleItemsOf (.ref t) >>= _) _ _ s
  refine wpAny_bind (tupleItemsOf_ ht ?_)
  refine wpAny_bind (wpAny_typeOf hTs ?_)
  rw [if_pos (by decide)]
  refine wpAny_bind (sliceApplied_gen hs pl pu ?_)
  have hno : ¬ ((((sIx items.size 0 lo : Nat) : Int) == 0 && (1 : Int) == 1 && (sIx items.size items.size hi - sIx items.size 0 lo) == items.size) = true) := by
    intro q
    rw [Bool.and_eq_true, Bool.and_eq_true] at q
    have q1 : ((sIx items.size 0 lo : Nat) : Int) = 0 := eq_of_beq q.1.1
    have q2 : sIx items.size items.size hi - sIx items.size 0 lo = items.size := eq_of_beq q.2
    exact hw ⟨by omega, by omega⟩
  show wpAny _ _ (if (((sIx items.size 0 lo : Nat) : Int) == 0 && (1 : Int) == 1 && (sIx items.size items.size hi - sIx items.size 0 lo) == items.size) = true then _ else _) _ _ s
  rw [if_neg hno, pick_gen]
  first
    | exact wpAny_bind (m := Builtin.Tuple.tupleExact _) (wpAny_newObj_type (wpAny_pure ⟨_, rfl, wpAny_pure h⟩) htake)
    | exact wpAny_bind (m := Builtin.Tuple.tupleExact _) (wpAny_newObj_type (wpAny_bind (wpAny_pure (wpAny_pure ⟨_, rfl, wpAny_pure h⟩))) htake)
    | exact wpAny_bind (wpAny_bind (m := Builtin.Tuple.tupleExact _) (wpAny_newObj_type (wpAny_pure (wpAny_pure ⟨_, rfl, wpAny_pure h⟩)) htake))
    | exact wpAny_bind (wpAny_bind (m := Builtin.Tuple.tupleExact _) (wpAny_newObj_type (wpAny_pure ⟨_, rfl, wpAny_pure h⟩) htake))
end
end HT
namespace L2
open PySem PySem.Spec PyProof.Rows
abbrev TO := St → Hp → (Option Int → Hp → Prop) → Prop
def PO (X : Cx) (e : Option Expr) (t : TO) : Prop :=
  ∀ (pins : List (Addr × Obj)) (s : Shared) (σ : St) (H : Hp) (Q : Option Int → Hp → Prop), Inv X pins σ H s → t σ H Q →
    wpAny (model X.prog X.w) X.A (evalPart e X.env) (fun u s' => ∃ o H', Inv X pins σ H' s' ∧ IsPart u o ∧ Q o H') X.xe s
def tNoPart : TO := fun _ H Q => Q none H
def tPart (t : TE) : TO := fun σ H Q => t σ H fun x H1 => ∃ i, x = .int i ∧ Q (some i) H1
section
variable {X : Cx} {e : Expr} {te : TE} {lo hi : Option Expr} {tl th : TO} {pos p2 : Pos}
theorem po_none : PO X none tNoPart := by
  intro pins s σ H Q I h
  rw [evalPart_none]
  exact wpAny_pure ⟨none, H, I, .none, h⟩
theorem po_some (h : PE X e te) : PO X (some e) (tPart te) := by
  intro pins s σ H Q I hw
  rw [evalPart_some]
  refine thn (h pins s σ H _ I hw) fun u s1 ⟨x, H1, I1, r1, q1⟩ => ?_
  obtain ⟨i, rfl, q⟩ := q1
  obtain ⟨t, rfl⟩ := r1
  exact ⟨some i, H1, I1, .int i t, q⟩
def SlR (X : Cx) (r : V → Option Int → Option Int → Hp → VK → Prop) : Prop :=
  ∀ (pins : List (Addr × Obj)) (s : Shared) (σ : St) (H : Hp) (x : V) (v vl vu : Value) (lo hi : Option Int) (sl : Addr) (Q : VK), Inv X pins σ H s → RelV x v → s.heap.IsSliceOf sl vl vu .none → IsPart vl lo → IsPart vu hi → r x lo hi H Q →
    ∃ T id, typeLookup (.type T) "__getitem__" = pure (some (.builtin id)) ∧ s.TypeIs v T ∧ wpAny (model X.prog X.w) X.A (getItem v (.ref sl)) (EP X pins σ Q) X.xe s
theorem SlR.or {r r' : V → Option Int → Option Int → Hp → VK → Prop} (h : SlR X r) (h' : SlR X r') : SlR X (fun x lo hi H Q => r x lo hi H Q ∨ r' x lo hi H Q) := by
  intro pins s σ H x v vl vu lo hi sl Q I rx hs pl pu q
  rcases q with q | q
  · exact h pins s σ H x v vl vu lo hi sl Q I rx hs pl pu q
  · exact h' pins s σ H x v vl vu lo hi sl Q I rx hs pl pu q
def tSl (r : V → Option Int → Option Int → Hp → VK → Prop) (te : TE) (tl th : TO) : TE := fun σ H Q => te σ H fun x H1 => tl σ H1 fun l H2 => th σ H2 fun u H3 => r x l u H3 Q
theorem pe_slice {r : V → Option Int → Option Int → Hp → VK → Prop} (hr : SlR X r) (he : PE X e te) (hl : PO X lo tl) (hu : PO X hi th) : PE X (.Subscript e (.Slice lo hi none p2) pos) (tSl r te tl th) := by
  intro pins s σ H Q I h
  refine Subscript_ (thn (he pins s σ H _ I h) fun v s1 ⟨x, H1, I1, r1, q1⟩ => ?_)
  refine wpAny_Slice (thn (hl pins s1 σ H1 _ I1 q1) fun vl s2 ⟨l, H2, I2, pl, q2⟩ => thn (hu pins s2 σ H2 _ I2 q2) fun vu s3 ⟨u, H3, I3, pu, q3⟩ => ?_)
  rw [evalPart_none]
  refine wpAny_pure ?_
  have I4 : Inv X pins σ H3 { s3 with heap := s3.heap.push { cls := .type "slice", data := .fields #[vl, vu, .none] } } := I3.kept (t' := s3.toks) fun b ob q => Heap.get?_push_of_some _ q
  obtain ⟨T, id, hT, ht, hg⟩ := hr pins { s3 with heap := s3.heap.push { cls := .type "slice", data := .fields #[vl, vu, .none] } } σ H3 x v vl vu l u s3.heap.objs.size Q I4 r1 (Heap.IsSliceOf.new ..) pl pu q3
  show wpAny (model X.prog X.w) X.A (subscriptTail e (.Slice lo hi none p2) v (.ref s3.heap.objs.size)) (EP X pins σ Q) X.xe { s3 with heap := s3.heap.push { cls := .type "slice", data := .fields #[vl, vu, .none] } }
  exact tail_any (ops := [.ref s3.heap.objs.size, v]) ht hT hg (by with_unfolding_all rfl)
def cutV (xs : List V) (lo hi : Option Int) : List V := (xs.drop (HT.sIx xs.length 0 lo)).take (HT.sIx xs.length xs.length hi - HT.sIx xs.length 0 lo)
theorem cutV_length (xs : List V) (lo hi : Option Int) : (cutV xs lo hi).length ≤ xs.length := by
  unfold cutV
  rw [List.length_take, List.length_drop]
  omega
def rSlT (K : PySem.W.Frag) : V → Option Int → Option Int → Hp → VK → Prop := fun x lo hi H Q => ∃ a xs, x = .ref a ∧ SqT K H a xs ∧
  ¬ (HT.sIx xs.length 0 lo = 0 ∧ HT.sIx xs.length xs.length hi = xs.length) ∧ ∀ p, H p = none → Q (.ref p) (upd H p (.tup (cutV xs lo hi)))
theorem sl_tup : SlR X (rSlT X.K) := by
  intro pins s σ H x v vl vu lo hi sl Q I rx hs pl pu h
  obtain ⟨a, xs, rfl, hx, hw, q⟩ := h
  cases rx
  obtain ⟨its, r, ht, hz⟩ := I.tuple hx
  have hlen : its.toArray.size = xs.length := by rw [List.size_toArray]; exact r.length.symm
  refine ⟨"tuple", _, PyProof.Rows.slot_tuple_getitem.lookup, ht.typeIs, ?_⟩
  refine HT.getItem_tuple_cut ht hs pl pu (by rw [hlen]; exact hw) ?_ (by rw [hlen]; exact hz)
  rw [hlen]
  refine ⟨.ref s.heap.objs.size, _, I.laid (t' := s.toks) (o := .tup (cutV xs lo hi)) (fun b ob q => Heap.get?_push_of_some _ q) (Nat.le_refl _) ?_, rfl, q _ (I.hok.fresh (Nat.le_refl _))⟩
  exact ⟨Nat.le_trans (cutV_length xs lo hi) hz, _, (r.drop (HT.sIx xs.length 0 lo)).take (HT.sIx xs.length xs.length hi - HT.sIx xs.length 0 lo), IsTup.new _ _⟩
def rCatT (K : PySem.W.Frag) : R2 := fun x y H Q => ∃ a b xs ys, x = .ref a ∧ y = .ref b ∧ SqT K H a xs ∧ SqT K H b ys ∧ xs ≠ [] ∧ xs.length + ys.length ≤ sizeLine ∧
  (ys = [] → Q (.ref a) H) ∧ (ys ≠ [] → ∀ p, H p = none → Q (.ref p) (upd H p (.tup (xs ++ ys))))
theorem Vals.nil_iff {xs : List V} {us : List Value} (r : Vals xs us) : us = [] ↔ xs = [] := by
  cases r with
  | nil => simp
  | cons _ _ => simp
theorem op_catT : OpR X (binaryOp .Add) (rCatT X.K) := by
  intro pins s σ H x y v u Q I rx ry h
  obtain ⟨a, b, xs, ys, rfl, rfl, ha, hb, hx, hz, q1, q2⟩ := h
  cases rx
  cases ry
  obtain ⟨its, r1, p1, _⟩ := I.tuple ha
  obtain ⟨its2, r2, p2, _⟩ := I.tuple hb
  refine HT.cat_tup p1 p2 (fun z => hx (r1.nil_iff.mp z)) (fun z => ⟨.ref a, H, I, rfl, q1 (r2.nil_iff.mp z)⟩) (fun z => ?_) (by rw [← r1.length, ← r2.length]; exact hz)
  refine ⟨.ref s.heap.objs.size, _, I.laid (t' := s.toks) (o := .tup (xs ++ ys)) (fun b ob q => Heap.get?_push_of_some _ q) (Nat.le_refl _) ?_, rfl, q2 (fun w => z (r2.nil_iff.mpr w)) _ (I.hok.fresh (Nat.le_refl _))⟩
  exact ⟨by rw [List.length_append]; exact hz, _, r1.append r2, IsTup.new _ _⟩
end
end L2
namespace L2
open PySem PySem.Spec PyProof.Rows
def ixN (n : Nat) (i : Int) : Option Nat := if 0 ≤ i then (if i < n then some i.toNat else none) else if -(n : Int) ≤ i then some (i + n).toNat else none
def atI {α : Type} (xs : List α) (i : Int) : Option α := (ixN xs.length i).bind fun j => xs[j]?
theorem ixN_seq {n : Nat} {i : Int} {j : Nat} (h : ixN n i = some j) : seqIndex? i n = some j ∧ j < n ∧ -(n : Int) ≤ i ∧ i < n := by
  unfold ixN at h
  by_cases h0 : 0 ≤ i
  · rw [if_pos h0] at h
    by_cases h1 : i < n
    · rw [if_pos h1] at h
      have e : i.toNat = j := Option.some.inj h
      exact ⟨by rw [seqIndex_of h0 h1, e], by omega, by omega, h1⟩
    · rw [if_neg h1] at h; cases h
  · rw [if_neg h0] at h
    by_cases h1 : -(n : Int) ≤ i
    · rw [if_pos h1] at h
      have e : (i + n).toNat = j := Option.some.inj h
      exact ⟨by rw [seqIndex_neg (by omega) h1, e], by omega, h1, by omega⟩
    · rw [if_neg h1] at h; cases h
theorem atI_get {α : Type} {xs : List α} {i : Int} {v : α} (h : atI xs i = some v) : ∃ j, seqIndex? i xs.length = some j ∧ xs[j]? = some v ∧ j < xs.length ∧ -(xs.length : Int) ≤ i ∧ i < xs.length := by
  unfold atI at h
  cases e : ixN xs.length i with
  | none => rw [e] at h; cases h
  | some j =>
    rw [e] at h
    obtain ⟨h1, h2, h3, h4⟩ := ixN_seq e
    exact ⟨j, h1, h, h2, h3, h4⟩
theorem atI_nat {α : Type} {xs : List α} {j : Nat} {v : α} (h : xs[j]? = some v) : atI xs (j : Int) = some v := by
  have hj : j < xs.length := (List.getElem?_eq_some_iff.mp h).1
  have e : ixN xs.length (j : Int) = some j := by
    unfold ixN
    rw [if_pos (by omega), if_pos (by omega)]; simp
  unfold atI; rw [e]; exact h
theorem atI_last {α : Type} (xs : List α) (v : α) : atI (xs ++ [v]) (-1) = some v := by
  have hl : (xs ++ [v]).length = xs.length + 1 := by simp
  have e : ixN (xs ++ [v]).length (-1) = some xs.length := by
    unfold ixN
    rw [hl, if_neg (by decide), if_pos (by omega)]
    congr 1
    omega
  unfold atI
  rw [e]
  show (xs ++ [v])[xs.length]? = some v
  simp
def PlainIx (b : Expr) : Prop := ∀ o i, subscripted b false o i = operate [o, i] (getItem o i)
def IxR (X : Cx) (r : R2) : Prop :=
  ∀ (value slice : Expr) (pins : List (Addr × Obj)) (s : Shared) (σ : St) (H : Hp) (x y : V) (v u : Value) (Q : VK), Inv X pins σ H s → RelV x v → RelV y u → r x y H Q →
    subscripted slice false v u = operate [v, u] (getItem v u) → wpAny (model X.prog X.w) X.A (subscriptTail value slice v u) (EP X pins σ Q) X.xe s
def MtR (X : Cx) (id : String) (r : V → List V → Hp → VK → Prop) : Prop :=
  ∀ (pins : List (Addr × Obj)) (s : Shared) (σ : St) (H : Hp) (x : V) (xs : List V) (v : Value) (us : List Value) (Q : VK), Inv X pins σ H s → RelV x v → Vals xs us → r x xs H Q →
    wpAny (model X.prog X.w) X.A (call (.builtin id) (v :: us)) (EP X pins σ Q) X.xe s
section
variable {X : Cx} {a b : Expr} {ta tb : TE} {pos : Pos}
theorem pe_ix {r : R2} (hr : IxR X r) (ha : PE X a ta) (hb : PE X b tb) (hs : PlainIx b) : PE X (.Subscript a b pos) (tOp r ta tb) := by
  intro pins s σ H Q I h
  exact Subscript_ (binT ha hb I h fun v u s2 x y H2 I2 rx ry q => hr a b pins s2 σ H2 x y v u Q I2 rx ry q (hs _ _))
def rIxL (K : PySem.W.Frag) : R2 := fun x y H Q => ∃ p xs i v, x = .ref p ∧ y = .int i ∧ SqL K H p xs ∧ atI xs i = some v ∧ Q v H
def rIxT (K : PySem.W.Frag) : R2 := fun x y H Q => ∃ p xs i v, x = .ref p ∧ y = .int i ∧ SqT K H p xs ∧ atI xs i = some v ∧ Q v H
theorem ix_list : IxR X (rIxL X.K) := by
  intro value slice pins s σ H x y v u Q I rx ry h hs
  obtain ⟨p, xs, i, z, rfl, rfl, hq, he, q⟩ := h
  cases rx
  obtain ⟨t, rfl⟩ := ry
  obtain ⟨its, r, pl, hz⟩ := I.list hq
  obtain ⟨j, h1, h2, h3, h4, h5⟩ := atI_get he
  obtain ⟨w, ew, rw'⟩ := r.get h2
  have hl := r.length
  have hn := line63
  have fin : EP X pins σ Q w s := ⟨z, H, I, rw', q⟩
  by_cases h0 : 0 ≤ i
  · have hj : i.toNat = j := by
      rw [seqIndex_of h0 h5] at h1
      exact Option.some.inj h1
    exact item_listR pl.isList h0 (by omega) (by rw [hj]; simpa using ew) fin hs
  · have hj : (i + (its.toArray.size : Int)).toNat = j := by
      rw [seqIndex_neg (by omega) h4] at h1
      rw [List.size_toArray, ← hl]
      exact Option.some.inj h1
    exact subscriptTail_builtinR (x := w) pl.isList.typeIs slot_list_getitem.lookup
      (wpAny_getItem_list_neg (Q := fun r s' => r = w ∧ EP X pins σ Q r s') pl.isList (by omega) (by rw [List.size_toArray] <;> omega) (by omega) (by rw [hj]; simpa using ew) ⟨rfl, fin⟩) hs
theorem ix_tup : IxR X (rIxT X.K) := by
  intro value slice pins s σ H x y v u Q I rx ry h hs
  obtain ⟨p, xs, i, z, rfl, rfl, hq, he, q⟩ := h
  cases rx
  obtain ⟨t, rfl⟩ := ry
  obtain ⟨its, r, pl, hz⟩ := I.tuple hq
  obtain ⟨j, h1, h2, h3, h4, h5⟩ := atI_get he
  obtain ⟨w, ew, rw'⟩ := r.get h2
  have hl := r.length
  have hn := line63
  have fin : EP X pins σ Q w s := ⟨z, H, I, rw', q⟩
  exact subscriptTail_builtinR (x := w) pl.typeIs slot_tuple_getitem.lookup
    (getItem_tuple (j := j) (Q := fun r s' => r = w ∧ EP X pins σ Q r s') pl (by omega) (by omega) (by rw [List.size_toArray, ← hl]; exact h1) (by simpa using ew) ⟨rfl, fin⟩) hs
theorem mapSeq_set (its : List Value) (n j : Nat) (u : Value) : Obj.mapSeq (·.setIfInBounds j u) { cls := .type "list", data := .seq its.toArray n } = { cls := .type "list", data := .seq (its.set j u).toArray n } := by
  simp [Obj.mapSeq]
theorem Inv.lst {pins : List (Addr × Obj)} {σ : St} {H : Hp} {s : Shared} {p : Addr} {xs : List V} (I : Inv X pins σ H s) (h : H p = some (.lst xs)) :
    ∃ (its : List Value) (n : Nat), Vals xs its ∧ s.heap.get? p = some { cls := .type "list", data := .seq its.toArray n } ∧ xs.length ≤ sizeLine := by
  obtain ⟨z, its, n, r, e⟩ := I.hok p _ h
  exact ⟨its, n, r, e, z⟩
theorem Inv.lstUpd {pins : List (Addr × Obj)} {σ : St} {H : Hp} {s : Shared} {p : Addr} {xs ys : List V} {its its' : List Value} {n n' : Nat} {f : Obj → Obj} (I : Inv X pins σ H s) (h : H p = some (.lst xs))
    (ho : s.heap.get? p = some { cls := .type "list", data := .seq its.toArray n }) (hf : f { cls := .type "list", data := .seq its.toArray n } = { cls := .type "list", data := .seq its'.toArray n' }) (r : Vals ys its') (hz : ys.length ≤ sizeLine) (t : Nat) :
    Inv X pins σ (upd H p (.lst ys)) { s with heap := s.heap.update p f, toks := t } := by
  have e : (s.heap.update p f).get? p = some { cls := .type "list", data := .seq its'.toArray n' } := by
    rw [Heap.get?_update_self f ho (by rw [hf] <;> rfl), hf]
  refine I.write (x := p) (e := p) (by rw [h]; trivial) (.inl rfl) (fun b u hb q => (Heap.get?_update_other _ _ (Ne.symm hb)).trans q) ⟨_, e⟩ ?_
  exact ⟨hz, its', n', r, e⟩
def rSetL : V → V → V → Hp → (Hp → Prop) → Prop := fun o i v H Q => ∃ p xs k j, o = .ref p ∧ i = .int k ∧ H p = some (.lst xs) ∧ ixN xs.length k = some j ∧ Q (upd H p (.lst (xs.set j v)))
theorem set_list : PSet X rSetL := by
  intro pins s σ H o i v ov iv u Q I ro ri rv h
  obtain ⟨p, xs, k, j, rfl, rfl, hp, hj, q⟩ := h
  cases ro
  obtain ⟨t, rfl⟩ := ri
  obtain ⟨its, n, r, ho, hz⟩ := I.lst hp
  obtain ⟨h1, h2, h3, h4⟩ := ixN_seq hj
  have hl := r.length
  have hn := line63
  have I' : Inv X pins σ (upd H p (.lst (xs.set j v))) { s with heap := s.heap.update p (Obj.mapSeq (·.setIfInBounds j u)) } :=
    I.lstUpd hp ho (mapSeq_set its n j u) (r.set rv j) (by rw [List.length_set]; exact hz) s.toks
  by_cases h0 : 0 ≤ k
  · have hk : k.toNat = j := by
      rw [seqIndex_of h0 h4] at h1
      exact Option.some.inj h1
    exact PySem.W.ki_setAt ho h0 (by omega) (by rw [List.size_toArray, ← hl]; exact h4) (by rw [hk]; exact ⟨_, I', q⟩)
  · have hk : (k + (its.toArray.size : Int)).toNat = j := by
      rw [seqIndex_neg (by omega) h3] at h1
      rw [List.size_toArray, ← hl]
      exact Option.some.inj h1
    exact PySem.W.ki_setBack ho (by omega) (by rw [List.size_toArray, ← hl]; exact h3) (by omega) (by rw [hk]; exact ⟨_, I', q⟩)
theorem slice_bounds (lo hi : Option Int) (n : Nat) : (sliceBounds lo hi none n).1 = ((HT.sIx n 0 lo : Nat) : Int) ∧ (sliceBounds lo hi none n).2.1 = ((HT.sIx n n hi : Nat) : Int) ∧ (sliceBounds lo hi none n).2.2 = 1 := by
  refine ⟨?_, ?_, rfl⟩
  · cases lo with
    | none => simp [sliceBounds, HT.sIx]
    | some i =>
      simp only [sliceBounds, HT.sIx, Option.getD_none, show (1 : Int) > 0 by decide, if_true]
      by_cases h : i < 0
      · simp only [h, if_true] <;> omega
      · simp only [h, if_false] <;> omega
  · cases hi with
    | none => simp [sliceBounds, HT.sIx]
    | some i =>
      simp only [sliceBounds, HT.sIx, Option.getD_none, show (1 : Int) > 0 by decide, if_true]
      by_cases h : i < 0
      · simp only [h, if_true] <;> omega
      · simp only [h, if_false] <;> omega
theorem slicePick_cut (its : List Value) (lo hi : Option Int) : slicePick its.toArray lo hi none = ((its.drop (HT.sIx its.length 0 lo)).take (HT.sIx its.length its.length hi - HT.sIx its.length 0 lo)).toArray := by
  obtain ⟨h1, h2, h3⟩ := slice_bounds lo hi its.toArray.size
  unfold slicePick
  rw [h1, h2, h3]
  simp only [sliceRange_one, pick_run, List.size_toArray] <;> rfl
def rSlL (K : PySem.W.Frag) : V → Option Int → Option Int → Hp → VK → Prop := fun x lo hi H Q => ∃ a xs, x = .ref a ∧ SqL K H a xs ∧ ∀ p, H p = none → Q (.ref p) (upd H p (.lst (cutV xs lo hi)))
theorem sl_list : SlR X (rSlL X.K) := by
  intro pins s σ H x v vl vu lo hi sl Q I rx hs pl pu h
  obtain ⟨a, xs, rfl, hx, q⟩ := h
  cases rx
  obtain ⟨its, r, ht, hz⟩ := I.list hx
  have hlen := r.length
  refine ⟨"list", _, slot_list_getitem.lookup, ht.isList.typeIs, ?_⟩
  refine wpAny_getItem_list_slice ht.isList hs pl pu .none (by simp) ?_ (by rw [List.size_toArray] <;> omega)
  rw [slicePick_cut, ← hlen]
  refine ⟨.ref s.heap.objs.size, _, I.laid (t' := s.toks) (o := .lst (cutV xs lo hi)) (fun b ob q => Heap.get?_push_of_some _ q) (Nat.le_refl _) ?_, rfl, q _ (I.hok.fresh (Nat.le_refl _))⟩
  exact ⟨Nat.le_trans (cutV_length xs lo hi) hz, _, 0, (r.drop (HT.sIx xs.length 0 lo)).take (HT.sIx xs.length xs.length hi - HT.sIx xs.length 0 lo), Heap.get?_push_size _ rfl⟩
def flatV : V → Bool
  | .non => true
  | .bl _ => true
  | .int _ => true
  | .str _ => true
  | _ => false
def eqV : V → V → Bool
  | .non, .non => true
  | .bl a, .bl b => a == b
  | .bl a, .int b => (if a then 1 else 0) == b
  | .int a, .bl b => a == (if b then 1 else 0)
  | .int a, .int b => a == b
  | .str a, .str b => a == b
  | _, _ => false
theorem eqAt_V {A : Around} {s : Shared} {y x : V} {u v : Value} (ry : RelV y u) (rx : RelV x v) (fy : flatV y = true) (fx : flatV x = true) : SeqAt.EqAt A s u v (eqV y x) := by
  cases y with
  | non =>
    cases ry
    cases x with
    | non => cases rx; exact SeqAt.EqAt.same _
    | bl b => cases rx; exact SeqAt.EqAt.none_bool b
    | int b => obtain ⟨t, rfl⟩ := rx; exact SeqAt.EqAt.none_int b t
    | str b => obtain ⟨t, rfl⟩ := rx; exact SeqAt.EqAt.none_str b t
    | _ => exact absurd (show false = true from fx) Bool.false_ne_true
  | bl a =>
    cases ry
    cases x with
    | non => cases rx; exact SeqAt.EqAt.bool_none a
    | bl b => cases rx; exact SeqAt.EqAt.bool_bool a b
    | int b => obtain ⟨t, rfl⟩ := rx; exact SeqAt.EqAt.bool_int a b t
    | str b => obtain ⟨t, rfl⟩ := rx; exact SeqAt.EqAt.bool_str a b t
    | _ => exact absurd (show false = true from fx) Bool.false_ne_true
  | int a =>
    obtain ⟨t', rfl⟩ := ry
    cases x with
    | non => cases rx; exact SeqAt.EqAt.int_none a t'
    | bl b => cases rx; exact SeqAt.EqAt.int_bool a t' b
    | int b => obtain ⟨t, rfl⟩ := rx; exact SeqAt.EqAt.int_int a t' b t
    | str b => obtain ⟨t, rfl⟩ := rx; exact SeqAt.EqAt.int_str a t' b t
    | _ => exact absurd (show false = true from fx) Bool.false_ne_true
  | str a =>
    obtain ⟨t', rfl⟩ := ry
    cases x with
    | non => cases rx; exact SeqAt.EqAt.str_none a t'
    | bl b => cases rx; exact SeqAt.EqAt.str_bool a t' b
    | int b => obtain ⟨t, rfl⟩ := rx; exact SeqAt.EqAt.str_int a t' b t
    | str b => obtain ⟨t, rfl⟩ := rx; exact SeqAt.EqAt.str_str a t' b t
    | _ => exact absurd (show false = true from fx) Bool.false_ne_true
  | _ => exact absurd (show false = true from fy) Bool.false_ne_true
def eqU (x : V) (u : Value) : Bool := match u with
  | .none => eqV .non x
  | .bool b => eqV (.bl b) x
  | .int i _ => eqV (.int i) x
  | .str z _ => eqV (.str z) x
  | _ => false
theorem eqU_of {x y : V} {u : Value} (r : RelV y u) (f : flatV y = true) : eqU x u = eqV y x := by
  cases y with
  | non => cases r; rfl
  | bl b => cases r; rfl
  | int i => obtain ⟨t, rfl⟩ := r; rfl
  | str z => obtain ⟨t, rfl⟩ := r; rfl
  | _ => exact absurd (show false = true from f) Bool.false_ne_true
theorem any_eqU {x : V} : ∀ {xs : List V} {us : List Value}, Vals xs us → xs.all flatV = true → us.any (eqU x) = xs.any fun y => eqV y x
  | _, _, .nil, _ => rfl
  | y :: xs, u :: us, .cons r t, f => by
    rw [List.all_cons, Bool.and_eq_true] at f
    rw [List.any_cons, List.any_cons, eqU_of r f.1, any_eqU t f.2]
theorem mem_eqAt {A : Around} {s : Shared} {x : V} {v : Value} (rx : RelV x v) (fx : flatV x = true) : ∀ {xs : List V} {us : List Value}, Vals xs us → xs.all flatV = true → ∀ u ∈ us, SeqAt.EqAt A s u v (eqU x u)
  | _, _, .nil, _ => fun u hu => by cases hu
  | y :: xs, u :: us, .cons r t, f => fun u' hu => by
    rw [List.all_cons, Bool.and_eq_true] at f
    rcases List.mem_cons.mp hu with rfl | hu
    · rw [eqU_of r f.1]; exact eqAt_V r rx f.1 fx
    · exact mem_eqAt rx fx t f.2 u' hu
def inV (x : V) (xs : List V) : Bool := xs.any fun y => eqV y x
def rIn (K : PySem.W.Frag) (neg : Bool) : R2 := fun x y H Q => ∃ p xs, y = .ref p ∧ (SqL K H p xs ∨ SqT K H p xs) ∧ flatV x = true ∧ xs.all flatV = true ∧ Q (.bl (if neg then !inV x xs else inV x xs)) H
theorem op_in_seq : OpR X (compareOp .In) (rIn X.K false) := by
  intro pins s σ H x y v u Q I rx ry h
  obtain ⟨p, xs, rfl, hq, fx, fs, q⟩ := h
  cases ry
  rcases hq with hq | hq
  · obtain ⟨its, r, pl, hz⟩ := I.list hq
    refine SeqAt.in_listAt (eqU x) pl.isList (fun w hw => mem_eqAt rx fx r fs w (by simpa using hw)) ⟨.bl _, H, I, rfl, ?_⟩
    rw [show its.toArray.any (eqU x) = its.any (eqU x) by simp, any_eqU r fs]
    exact q
  · obtain ⟨its, r, pl, hz⟩ := I.tuple hq
    refine SeqAt.in_tupleAt (eqU x) pl (fun w hw => mem_eqAt rx fx r fs w (by simpa using hw)) ⟨.bl _, H, I, rfl, ?_⟩
    rw [show its.toArray.any (eqU x) = its.any (eqU x) by simp, any_eqU r fs]
    exact q
theorem op_notIn_seq : OpR X (compareOp .NotIn) (rIn X.K true) := by
  intro pins s σ H x y v u Q I rx ry h
  obtain ⟨p, xs, rfl, hq, fx, fs, q⟩ := h
  cases ry
  rcases hq with hq | hq
  · obtain ⟨its, r, pl, hz⟩ := I.list hq
    refine SeqAt.notIn_listAt (eqU x) pl.isList (fun w hw => mem_eqAt rx fx r fs w (by simpa using hw)) ⟨.bl _, H, I, rfl, ?_⟩
    rw [show its.toArray.any (eqU x) = its.any (eqU x) by simp, any_eqU r fs]
    exact q
  · obtain ⟨its, r, pl, hz⟩ := I.tuple hq
    refine SeqAt.notIn_tupleAt (eqU x) pl (fun w hw => mem_eqAt rx fx r fs w (by simpa using hw)) ⟨.bl _, H, I, rfl, ?_⟩
    rw [show its.toArray.any (eqU x) = its.any (eqU x) by simp, any_eqU r fs]
    exact q
theorem call_len_seq : CallR X (.builtin "len") (fun xs H Q => ∃ p ys, xs = [.ref p] ∧ (SqL X.K H p ys ∨ SqT X.K H p ys) ∧ Q (.int ys.length) H) := by
  intro pins s σ H xs us Q I r h
  obtain ⟨p, ys, rfl, hq, q⟩ := h
  obtain ⟨u, rfl, rx⟩ := vals1 r
  cases rx
  have hn := line63
  rcases hq with hq | hq
  · obtain ⟨its, r', pl, hz⟩ := I.list hq
    have hlen := r'.length
    exact Calls.call_len_list pl.isList (by simp only [List.size_toArray] <;> omega) ⟨.int ys.length, H, I.tok _, ⟨s.toks + 1, by rw [List.size_toArray, hlen]⟩, q⟩
  · obtain ⟨its, r', pl, hz⟩ := I.tuple hq
    have hlen := r'.length
    exact len_tuple pl (by simp only [List.size_toArray] <;> omega) ⟨.int ys.length, H, I.tok _, ⟨s.toks + 1, by rw [List.size_toArray, hlen]⟩, q⟩
theorem call_list_of : CallR X (.type "list") (fun xs H Q => ∃ p ys, xs = [.ref p] ∧ (SqL X.K H p ys ∨ SqT X.K H p ys) ∧ ∀ l, H l = none → Q (.ref l) (upd H l (.lst ys))) := by
  intro pins s σ H xs us Q I r h
  obtain ⟨p, ys, rfl, hq, q⟩ := h
  obtain ⟨u, rfl, rx⟩ := vals1 r
  cases rx
  have fin : ∀ (its : List Value), Vals ys its → ys.length ≤ sizeLine → ∀ (h' : Heap) (c' : Nat), (∀ b o', s.heap.get? b = some o' → h'.get? b = some o') →
      h'.get? s.heap.objs.size = some { cls := .type "list", dict := none, data := .seq its.toArray c', slots := #[] } → EP X pins σ Q (.ref s.heap.objs.size) { s with heap := h' } := fun its r' hz h' c' kp e =>
    ⟨.ref s.heap.objs.size, _, I.laid (t' := s.toks) kp (Nat.le_refl _) (show ObjOk X.prog X.w _ h' _ (.lst ys) from ⟨hz, its, c', r', e⟩), rfl, q _ (I.hok.fresh (Nat.le_refl _))⟩
  rcases hq with hq | hq
  · obtain ⟨its, r', pl, hz⟩ := I.list hq
    have hlen := r'.length
    obtain ⟨o, ho, hc, n, hd⟩ := pl.isList
    exact call_list_seq p (.inl rfl) ho hc hd (fun h' c' kp e => fin its r' hz h' c' kp e) (by simp only [List.size_toArray] <;> omega)
  · obtain ⟨its, r', pl, hz⟩ := I.tuple hq
    have hlen := r'.length
    obtain ⟨o, ho, hc, n, hd⟩ := pl
    exact call_list_seq p (.inr rfl) ho hc hd (fun h' c' kp e => fin its r' hz h' c' kp e) (by simp only [List.size_toArray] <;> omega)
theorem call_tuple_of : CallR X (.type "tuple") (fun xs H Q => ∃ p ys, xs = [.ref p] ∧ ((SqL X.K H p ys ∧ ∀ l, H l = none → Q (.ref l) (upd H l (.tup ys))) ∨ (SqT X.K H p ys ∧ Q (.ref p) H))) := by
  intro pins s σ H xs us Q I r h
  obtain ⟨p, ys, rfl, h⟩ := h
  obtain ⟨u, rfl, rx⟩ := vals1 r
  cases rx
  rcases h with ⟨hq, q⟩ | ⟨hq, q⟩
  · obtain ⟨its, r', pl, hz⟩ := I.list hq
    have hlen := r'.length
    refine call_tuple_list pl.isList (fun h' kp => ?_) (by simp only [List.size_toArray] <;> omega)
    have I1 : Inv X pins σ H { s with heap := h' } := I.kept (t' := s.toks) kp
    have I2 : Inv X pins σ (upd H h'.objs.size (.tup ys)) { s with heap := h'.push { cls := .type "tuple", data := .seq its.toArray } } :=
      I1.laid (t' := s.toks) (fun b o e => Heap.get?_push_of_some _ e) (Nat.le_refl _) (show ObjOk X.prog X.w _ _ _ (.tup ys) from ⟨hz, its, r', IsTup.new _ _⟩)
    exact ⟨.ref h'.objs.size, _, I2, rfl, q _ (I1.hok.fresh (Nat.le_refl _))⟩
  · obtain ⟨its, r', pl, hz⟩ := I.tuple hq
    exact call_tuple_same pl ⟨.ref p, H, I, rfl, q⟩
def tyV (K : PySem.W.Frag) (T : String) (x : V) (H : Hp) : Prop := match x with
  | .str _ => T = "str"
  | .int _ => T = "int"
  | .ref p => (T = "list" ∧ ∃ xs, SqL K H p xs) ∨ (T = "tuple" ∧ ∃ o, K.lookup p = some o ∧ o.cls = .type "tuple" ∧ o.dict = none) ∨
      (T = "dict" ∧ ((∃ kvs, H p = some (.dK kvs)) ∨ ∃ kvs, H p = some (.dT kvs))) ∨ (T = "set" ∧ ∃ S n, H p = some (.set S n))
  | _ => False
theorem tyV_is {pins : List (Addr × Obj)} {σ : St} {H : Hp} {s : Shared} {T : String} {x : V} {v : Value} (I : Inv X pins σ H s) (r : RelV x v) (ty : tyV X.K T x H) :
    s.TypeIs v T ∧ ∀ a, v = .ref a → ∃ ob, s.heap.get? a = some ob ∧ ob.dict = none := by
  cases x with
  | str z =>
    obtain ⟨t, rfl⟩ := r
    cases (show T = "str" from ty)
    exact ⟨typeIs_str s z t, fun _ e => nomatch e⟩
  | int i =>
    obtain ⟨t, rfl⟩ := r
    cases (show T = "int" from ty)
    exact ⟨typeIs_int s i t, fun _ e => nomatch e⟩
  | ref p =>
    cases r
    rcases ty with ⟨rfl, xs, hq⟩ | ⟨rfl, o, hk, hc, hd⟩ | ⟨rfl, hk⟩ | ⟨rfl, S, n, hk⟩
    · obtain ⟨its, _, pl, _⟩ := I.list hq
      refine ⟨pl.isList.typeIs, fun a e => ?_⟩
      cases e
      obtain ⟨o, n, e, c, hd, _⟩ := pl
      exact ⟨o, e, hd⟩
    · refine ⟨⟨o, I.kIn p o hk, hc⟩, fun a e => ?_⟩
      cases e
      exact ⟨o, I.kIn _ o hk, hd⟩
    · have z : ∃ o, s.heap.get? p = some o ∧ o.ExactDict := by
        rcases hk with ⟨kvs, hk⟩ | ⟨kvs, hk⟩
        · obtain ⟨_, _, _, _, o, _, _, e, ex, _⟩ := I.hok p _ hk
          exact ⟨o, e, ex⟩
        · obtain ⟨_, _, _, _, o, _, _, e, ex, _⟩ := I.hok p _ hk
          exact ⟨o, e, ex⟩
      obtain ⟨o, e, ex⟩ := z
      refine ⟨⟨o, e, ex.1⟩, fun a e2 => ?_⟩
      cases e2
      exact ⟨o, e, ex.2.1⟩
    · obtain ⟨o, _, _, _, e, ex, _⟩ := I.hok p _ hk
      refine ⟨⟨o, e, ex.1⟩, fun a e2 => ?_⟩
      cases e2
      exact ⟨o, e, ex.2.1⟩
  | _ => exact False.elim ty
def tBM0 (K : PySem.W.Frag) (T : String) (r : V → List V → Hp → VK → Prop) (to : TE) : TE := fun σ H Q => to σ H fun x H1 => tyV K T x H1 ∧ r x [] H1 Q
def tBM (K : PySem.W.Frag) (T : String) (r : V → List V → Hp → VK → Prop) (to : TE) (t : TA) : TE := fun σ H Q => to σ H fun x H1 => tyV K T x H1 ∧ t σ H1 fun xs H2 => r x xs H2 Q
variable {o e : Expr} {es : List Expr} {to : TE} {t : TA} {name : Str} {apos cpos : Pos} {T id : String} {r : V → List V → Hp → VK → Prop}
theorem pe_bm0 (pa : PlainAttrs T) (slot : Slot T name id) (hty : typeOf (.builtin id) = pure (.type "method_descriptor")) (hm : MtR X id r) (ho : PE X o to)
    (hbase : attributeBase o name X.env (eval o X.env) = eval o X.env := by rfl) (hline : (apos.endLine == cpos.line) = true := by rfl) : PE X (.Call (.Attribute o name apos) [] [] cpos) (tBM0 X.K T r to) := by
  intro pins s σ H Q I h
  refine wpAny_Call_method0_late hbase hline (thn (ho pins s σ H _ I h) fun v s1 ⟨x, H1, I1, r1, ty, q1⟩ => ?_)
  obtain ⟨h1, h2⟩ := tyV_is I1 r1 ty
  exact ⟨T, id, pa, slot, hty, h1, h2, Calls.callWith_builtin rfl (PySem.evalArgs_none (hm pins s1 σ H1 x [] v [] Q I1 r1 .nil q1))⟩
theorem pe_bm (pa : PlainAttrs T) (slot : Slot T name id) (hty : typeOf (.builtin id) = pure (.type "method_descriptor")) (hm : MtR X id r) (ho : PE X o to) (ha : PA X (e :: es) t)
    (hbase : attributeBase o name X.env (eval o X.env) = eval o X.env := by rfl)
    (hfew : ((backTo cpos (starEach (e :: es) X.env)).all (fun x => !x.1) && (backToKw cpos (keywordEach [] X.env)).all (fun x => x.1.isSome)
      && decide ((e :: es).length + ([] : List Keyword).length + (if ([] : List Keyword).isEmpty then 0 else 1) < 30)) = true := by rfl)
    (hline : (apos.endLine == cpos.line) = true := by rfl) (hs : starEach (e :: es) X.env = (false, eval e X.env) :: starEach es X.env := by rfl) (hplain : (backTo cpos (starEach es X.env)).any (·.1) = false := by rfl) :
    PE X (.Call (.Attribute o name apos) (e :: es) [] cpos) (tBM X.K T r to t) := by
  intro pins s σ H Q I h
  refine wpAny_Call_method_late hbase hfew hline rfl (thn (ho pins s σ H _ I h) fun v s1 ⟨x, H1, I1, r1, ty, q1⟩ => ?_)
  obtain ⟨h1, h2⟩ := tyV_is I1 r1 ty
  refine ⟨T, id, pa, slot, hty, h1, h2, ?_⟩
  have hA := ha cpos pins s1 σ H1 _ I1 q1
  rw [hs] at hA ⊢
  refine Calls.callWith_builtin (by show (false || (backTo cpos (starEach es X.env)).any (·.1)) = false; rw [hplain] <;> rfl) (Calls.evalArgs_plain ?_)
  exact thn hA fun us s2 ⟨vs, H2, I2, r2, q2⟩ => hm pins s2 σ H2 x vs v us Q I2 r1 r2 q2
end
end L2
namespace L2
open PySem PySem.Spec PyProof.Rows
def MtM (X : Cx) (id : String) (r : V → List V → Hp → VK → Prop) : Prop :=
  ∀ (pins : List (Addr × Obj)) (s : Shared) (σ : St) (H : Hp) (x : V) (xs : List V) (v : Value) (us : List Value) (Q : VK), Inv X pins σ H s → RelV x v → Vals xs us → r x xs H Q →
    wpAny (model X.prog X.w) X.A (call (.builtin id) (v :: us)) (EP X pins σ Q) X.xe s
theorem Vals.one : ∀ {x : V} {us : List Value}, Vals [x] us → ∃ u, us = [u] ∧ RelV x u
  | _, _, .cons r .nil => ⟨_, rfl, r⟩
theorem Vals.zero : ∀ {us : List Value}, Vals [] us → us = []
  | _, .nil => rfl
theorem Vals.dropLast {xs : List V} {us : List Value} (h : Vals xs us) : Vals xs.dropLast us.dropLast := by
  induction h with
  | nil => exact .nil
  | cons r t ih =>
    cases t with
    | nil => exact .nil
    | cons q t' => exact .cons r ih
theorem Vals.eraseIdx : ∀ {xs : List V} {us : List Value} (i : Nat), Vals xs us → Vals (xs.eraseIdx i) (us.eraseIdx i)
  | _, _, _, .nil => .nil
  | _, _, 0, .cons _ t => t
  | _, _, i + 1, .cons r t => .cons r (Vals.eraseIdx i t)
theorem Vals.reverse {xs : List V} {us : List Value} (h : Vals xs us) : Vals xs.reverse us.reverse := by
  induction h with
  | nil => exact .nil
  | cons r t ih => rw [List.reverse_cons, List.reverse_cons]; exact Vals.append ih (.cons r .nil)
theorem Vals.rep {xs : List V} {us : List Value} (h : Vals xs us) : ∀ k : Nat, Vals (List.replicate k xs).flatten (List.replicate k us).flatten
  | 0 => .nil
  | k + 1 => by
    rw [List.replicate_succ, List.replicate_succ, List.flatten_cons, List.flatten_cons]
    exact Vals.append h (Vals.rep h k)
theorem erase_last {α : Type} (l : List α) : l.eraseIdx (l.length - 1) = l.dropLast := by
  induction l with
  | nil => rfl
  | cons a r ih =>
    cases r with
    | nil => rfl
    | cons b r =>
      have e : (a :: b :: r).length - 1 = ((b :: r).length - 1) + 1 := by
        have h1 : (a :: b :: r).length = r.length + 2 := rfl
        have h2 : (b :: r).length = r.length + 1 := rfl
        omega
      rw [e, List.eraseIdx_cons_succ, ih]
      all_goals rfl
theorem len_erase {α : Type} : ∀ (l : List α) (i : Nat), (l.eraseIdx i).length ≤ l.length
  | [], _ => Nat.le_refl _
  | _ :: _, 0 => Nat.le_succ _
  | _ :: r, i + 1 => Nat.succ_le_succ (len_erase r i)
theorem foldl_rep (its : List Value) : ∀ (k : Nat) (acc : List Value),
    List.foldl (fun x1 x2 => x1 ++ x2) acc.toArray (List.replicate k its.toArray) = (acc ++ (List.replicate k its).flatten).toArray
  | 0, acc => by simp
  | k + 1, acc => by
    have e : acc.toArray ++ its.toArray = (acc ++ its).toArray := by simp
    have e2 : (acc ++ its) ++ (List.replicate k its).flatten = acc ++ (List.replicate (k + 1) its).flatten := by
      rw [List.replicate_succ, List.flatten_cons, List.append_assoc]
    rw [← e2, ← foldl_rep its k (acc ++ its), ← e, List.replicate_succ, List.foldl_cons]
section
variable {X : Cx} {pins : List (Addr × Obj)} {σ : St} {H : Hp} {s : Shared} {l b : Addr} {xs ys zs : List V}
theorem Inv.lset {its its' : List Value} {n : Nat} {f : Array Value → Array Value} {t' : Nat} (I : Inv X pins σ H s) (hH : H l = some (.lst xs))
    (e : s.heap.get? l = some { cls := .type "list", data := .seq its.toArray n }) (hf : f its.toArray = its'.toArray) (hv : Vals ys its') (hz : ys.length ≤ sizeLine) :
    Inv X pins σ (upd H l (.lst ys)) { s with heap := s.heap.update l (Obj.mapSeq f), toks := t' } := by
  have q := PySem.IsL.update e f
  rw [hf] at q
  refine I.write (x := l) (e := l) (by rw [hH]; exact trivial) (.inl rfl) (fun b' u hb hu => (Heap.get?_update_other s.heap (Obj.mapSeq f) (Ne.symm hb)).trans hu) ⟨_, q⟩ ?_
  exact ⟨hz, its', _, hv, q⟩
theorem Inv.lnew {its : List Value} {t' : Nat} (I : Inv X pins σ H s) (hv : Vals ys its) (hz : ys.length ≤ sizeLine) :
    Inv X pins σ (upd H s.heap.objs.size (.lst ys)) { s with heap := s.heap.push { cls := .type "list", data := .seq its.toArray }, toks := t' } :=
  I.laid (fun _ _ q => Heap.get?_push_of_some _ q) (Nat.le_refl _) ⟨hz, its, 0, hv, Heap.get?_push_size _ rfl⟩
theorem Inv.fresh (I : Inv X pins σ H s) : H s.heap.objs.size = none := I.hok.fresh (Nat.le_refl _)
theorem Inv.lstM (I : Inv X pins σ H s) (hH : H l = some (.lst xs)) : xs.length ≤ sizeLine ∧ ∃ (its : List Value) (n : Nat), Vals xs its ∧ xs.length = its.length ∧ s.heap.get? l = some { cls := .type "list", data := .seq its.toArray n } := by
  obtain ⟨z, its, n, r, e⟩ := I.hok l _ hH
  exact ⟨z, its, n, r, r.length, e⟩
theorem notLongL {n : Nat} (h : n ≤ sizeLine) : Builtin.List.listTooLong n = false := by
  unfold Builtin.List.listTooLong
  exact decide_eq_false (by omega)
end
section
variable {X : Cx}
def rAppend : V → List V → Hp → VK → Prop := fun x vs H Q => ∃ l xs y, x = .ref l ∧ vs = [y] ∧ H l = some (.lst xs) ∧ xs.length < sizeLine ∧ Q .non (upd H l (.lst (xs ++ [y])))
theorem mt_append : MtM X "list.append" rAppend := by
  intro pins s σ H x vs v us Q I rx rv h
  obtain ⟨l, xs, y, rfl, rfl, hH, hz, q⟩ := h
  cases rx
  obtain ⟨u, rfl, ru⟩ := rv.one
  obtain ⟨z, its, n, r, hl, e⟩ := I.lstM hH
  refine call_meets F.slot_list_append ⟨_, e, rfl⟩ F.entry_list_append (F.args_list_append_2 _ _) (PySem.list_append l its.toArray n u (by rw [List.size_toArray]; omega)) ⟨e, ?_⟩
  refine ⟨.non, _, I.lset (its' := its ++ [u]) hH e (by simp) (r.append (.cons ru .nil)) ?_, rfl, q⟩
  rw [List.length_append, List.length_singleton]
  omega
def rExtend : V → List V → Hp → VK → Prop := fun x vs H Q => ∃ l b xs zs, x = .ref l ∧ vs = [.ref b] ∧ H l = some (.lst xs) ∧ H b = some (.lst zs) ∧ xs.length + zs.length ≤ sizeLine ∧ Q .non (upd H l (.lst (xs ++ zs)))
theorem mt_extend : MtM X "list.extend" rExtend := by
  intro pins s σ H x vs v us Q I rx rv h
  obtain ⟨l, b, xs, zs, rfl, rfl, hH, hB, hz, q⟩ := h
  cases rx
  obtain ⟨u, rfl, ru⟩ := rv.one
  cases ru
  obtain ⟨z, its, n, r, hl, e⟩ := I.lstM hH
  obtain ⟨z2, its2, n2, r2, hl2, e2⟩ := I.lstM hB
  have hsz : its.toArray.size + its2.toArray.size ≤ sizeLine := by rw [List.size_toArray, List.size_toArray]; omega
  have hlong : ¬ (!its.toArray.isEmpty && Builtin.List.listTooLong (its.toArray.size + its2.toArray.size)) = true := by
    rw [notLongL hsz, Bool.and_false]
    exact Bool.false_ne_true
  refine call_meets F.slot_list_extend ⟨_, e, rfl⟩ F.entry_list_extend (F.args_list_extend_2 _ _)
    (AutoSeq1.list_extend_list_list_0 l its.toArray n b its2.toArray n2 hlong (by rw [List.size_toArray]; omega) (by omega)) ⟨e, e2, ?_⟩
  refine ⟨.non, _, I.lset (its' := its ++ its2) hH e (by simp) (r.append r2) ?_, rfl, q⟩
  rw [List.length_append]
  omega
def rPop : V → List V → Hp → VK → Prop := fun x vs H Q => ∃ l xs y, x = .ref l ∧ vs = [] ∧ H l = some (.lst xs) ∧ xs[xs.length - 1]? = some y ∧ Q y (upd H l (.lst xs.dropLast))
theorem mt_pop : MtM X "list.pop" rPop := by
  intro pins s σ H x vs v us Q I rx rv h
  obtain ⟨l, xs, y, rfl, rfl, hH, hy, q⟩ := h
  cases rx
  have hus := rv.zero
  subst hus
  obtain ⟨z, its, n, r, hl, e⟩ := I.lstM hH
  obtain ⟨u, hu, ru⟩ := r.get hy
  have hy' : its.toArray[its.toArray.size - 1]? = some u := by
    show its.toArray[its.length - 1]? = some u
    rw [← Array.getElem?_toList, ← hl]
    exact hu
  refine call_meets F.slot_list_pop ⟨_, e, rfl⟩ F.entry_list_pop (F.args_list_pop_1 _) (MeetsSeq.list_pop_last l its.toArray n u hy' (by rw [List.size_toArray]; omega)) ⟨e, ?_⟩
  refine ⟨y, _, I.lset (its' := its.dropLast) hH e ?_ r.dropLast ?_, ru, q⟩
  · show its.toArray.eraseIdxIfInBounds (its.toArray.size - 1) = its.dropLast.toArray
    rw [List.size_toArray, List.eraseIdxIfInBounds_toArray, erase_last]
  · rw [List.length_dropLast]
    omega
def rPopAt : V → List V → Hp → VK → Prop := fun x vs H Q => ∃ l xs i k y, x = .ref l ∧ vs = [.int i] ∧ H l = some (.lst xs) ∧ -(2 ^ 63) ≤ i ∧ i < 2 ^ 63 ∧ seqIndex? i xs.length = some k ∧ xs[k]? = some y ∧ Q y (upd H l (.lst (xs.eraseIdx k)))
theorem mt_popAt : MtM X "list.pop" rPopAt := by
  intro pins s σ H x vs v us Q I rx rv h
  obtain ⟨l, xs, i, k, y, rfl, rfl, hH, h1, h2, hk, hy, q⟩ := h
  cases rx
  obtain ⟨u, rfl, ru⟩ := rv.one
  obtain ⟨t, rfl⟩ := ru
  obtain ⟨z, its, n, r, hl, e⟩ := I.lstM hH
  obtain ⟨w, hw, rw'⟩ := r.get hy
  refine call_meets F.slot_list_pop ⟨_, e, rfl⟩ F.entry_list_pop (F.args_list_pop_2 _ _)
    (MeetsSeq.list_pop_at l its.toArray n i t k w (fitsIndex_both h1 h2) (by rw [List.size_toArray, ← hl]; exact hk) (by rw [← Array.getElem?_toList]; exact hw) (by rw [List.size_toArray]; omega)) ⟨e, ?_⟩
  refine ⟨y, _, I.lset (its' := its.eraseIdx k) hH e ?_ (r.eraseIdx k) ?_, rw', q⟩
  · show its.toArray.eraseIdxIfInBounds k = (its.eraseIdx k).toArray
    rw [List.eraseIdxIfInBounds_toArray]
  · have := len_erase xs k
    omega
def rReverse : V → List V → Hp → VK → Prop := fun x vs H Q => ∃ l xs, x = .ref l ∧ vs = [] ∧ H l = some (.lst xs) ∧ Q .non (upd H l (.lst xs.reverse))
theorem mt_reverse : MtM X "list.reverse" rReverse := by
  intro pins s σ H x vs v us Q I rx rv h
  obtain ⟨l, xs, rfl, rfl, hH, q⟩ := h
  cases rx
  have hus := rv.zero
  subst hus
  obtain ⟨z, its, n, r, hl, e⟩ := I.lstM hH
  refine call_meets F.slot_list_reverse ⟨_, e, rfl⟩ F.entry_list_reverse (F.args_list_reverse_1 _) (AutoSeq1.list_reverse_list_0 l its.toArray n (by rw [List.size_toArray]; omega)) ⟨e, ?_⟩
  refine ⟨.non, _, I.lset (its' := its.reverse) hH e (by simp) r.reverse ?_, rfl, q⟩
  rw [List.length_reverse]
  omega
def rClear : V → List V → Hp → VK → Prop := fun x vs H Q => ∃ l xs, x = .ref l ∧ vs = [] ∧ H l = some (.lst xs) ∧ Q .non (upd H l (.lst []))
theorem mt_clear : MtM X "list.clear" rClear := by
  intro pins s σ H x vs v us Q I rx rv h
  obtain ⟨l, xs, rfl, rfl, hH, q⟩ := h
  cases rx
  have hus := rv.zero
  subst hus
  obtain ⟨z, its, n, r, hl, e⟩ := I.lstM hH
  refine call_meets F.slot_list_clear ⟨_, e, rfl⟩ F.entry_list_clear (F.args_list_clear_1 _) (AutoSeq1.list_clear_list_0 l its.toArray n (by rw [List.size_toArray]; omega)) ⟨e, ?_⟩
  exact ⟨.non, _, I.lset (its' := []) (ys := []) hH e rfl .nil (Nat.zero_le _), rfl, q⟩
def rCat : R2 := fun x y H Q => ∃ l b xs zs, x = .ref l ∧ y = .ref b ∧ H l = some (.lst xs) ∧ H b = some (.lst zs) ∧ xs.length + zs.length ≤ sizeLine ∧ ∀ p, H p = none → Q (.ref p) (upd H p (.lst (xs ++ zs)))
theorem op_cat : OpR X (binaryOp .Add) rCat := by
  intro pins s σ H x y v u Q I rx ry h
  obtain ⟨l, b, xs, zs, rfl, rfl, hH, hB, hz, q⟩ := h
  cases rx
  cases ry
  obtain ⟨z, its, n, r, hl, e⟩ := I.lstM hH
  obtain ⟨z2, its2, n2, r2, hl2, e2⟩ := I.lstM hB
  refine PySem.P.add_list e e2 ?_ (by rw [List.size_toArray, List.size_toArray]; omega)
  have ea : its.toArray ++ its2.toArray = (its ++ its2).toArray := by simp
  rw [ea]
  exact ⟨.ref _, _, I.lnew (t' := s.toks) (r.append r2) (by rw [List.length_append]; omega), rfl, q _ I.fresh⟩
def rRep : R2 := fun x y H Q => ∃ l k xs, x = .ref l ∧ y = .int k ∧ H l = some (.lst xs) ∧ -(2 ^ 63) ≤ k ∧ k < 2 ^ 63 ∧ xs.length * k.toNat ≤ sizeLine ∧
  ∀ p, H p = none → Q (.ref p) (upd H p (.lst (List.replicate k.toNat xs).flatten))
theorem len_rep {α : Type} (xs : List α) (k : Nat) : (List.replicate k xs).flatten.length = k * xs.length := by
  induction k with
  | zero => simp
  | succ k ih => rw [List.replicate_succ, List.flatten_cons, List.length_append, ih, Nat.succ_mul, Nat.add_comm]
theorem op_rep : OpR X (binaryOp .Mult) rRep := by
  intro pins s σ H x y v u Q I rx ry h
  obtain ⟨l, k, xs, rfl, rfl, hH, h1, h2, hz, q⟩ := h
  cases rx
  obtain ⟨t, rfl⟩ := ry
  obtain ⟨z, its, n, r, hl, e⟩ := I.lstM hH
  have hlen : its.toArray.size * k.toNat ≤ sizeLine := by rw [List.size_toArray, ← hl]; exact hz
  have hcap : ¬ its.toArray.size * k.toNat > (2 ^ 63 - 1) / 8 := by
    have : (sizeLine : Nat) ≤ (2 ^ 63 - 1) / 8 := by decide
    omega
  have hfit : ¬ (!Builtin.List.listFitsIndex k) = true := by
    rw [fitsIndex_both h1 h2]
    exact Bool.false_ne_true
  have hlong : ¬ Builtin.List.listTooLong (its.toArray.size * k.toNat) = true := by
    rw [notLongL hlen]
    exact Bool.false_ne_true
  have hnew : List.foldl (fun x1 x2 => x1 ++ x2) #[] (List.replicate (if its.toArray.isEmpty = true then 0 else k.toNat) its.toArray) = (List.replicate k.toNat its).flatten.toArray := by
    have f0 : ∀ m : Nat, List.foldl (fun x1 x2 => x1 ++ x2) #[] (List.replicate m its.toArray) = (List.replicate m its).flatten.toArray := fun m => by
      have := foldl_rep its m []
      rw [List.nil_append] at this
      exact this
    rw [f0]
    cases its with
    | nil => simp
    | cons a r' => rw [if_neg (by simp)]
  refine wpAny_binaryOp_repeat_ref (T := "list") (U := "int") (by decide) ⟨_, e, rfl⟩ (fun s' => typeIs_int s' k t) noFill_list_mul F.fills_int_mul F.slot_int_rmul repeat_list F.slot_int_index.lookup
    (call_meets F.slot_int_rmul (typeIs_int s k t) F.entry_int_rmul (F.args_int_rmul_2 _ _) (int___rmul___int_list k t l its.toArray n)
      ⟨e, rfl, ⟨_, e, rfl⟩, call_meets F.slot_list_mul ⟨_, e, rfl⟩ F.entry_list_mul (F.args_list_mul_2 _ _) (AutoListH.list___mul___list_int_3 l its.toArray n k t hfit hcap hlong) ⟨e, ?_⟩⟩)
  rw [hnew]
  exact ⟨.ref _, _, I.lnew (t' := s.toks) (r.rep k.toNat) (by rw [len_rep, Nat.mul_comm]; exact hz), rfl, q _ I.fresh⟩
theorem del_list {pins : List (Addr × Obj)} {s : Shared} {σ : St} {H : Hp} {l : Addr} {xs : List V} {i : Int} {t : Tok} {k : Nat} {Q : Unit → Shared → Prop} (I : Inv X pins σ H s) (hH : H l = some (.lst xs))
    (h1 : -(2 ^ 63) ≤ i) (h2 : i < 2 ^ 63) (hk : seqIndex? i xs.length = some k) (h : ∀ s', Inv X pins σ (upd H l (.lst (xs.eraseIdx k))) s' → Q () s') :
    wpAny (model X.prog X.w) X.A (delItem (.ref l) (.int i t)) Q X.xe s := by
  obtain ⟨z, its, n, r, hl, e⟩ := I.lstM hH
  refine PySem.P.delItem_list (k := k) e (fitsIndex_both h1 h2) (by rw [List.size_toArray, ← hl]; exact hk) (h _ ?_) (by rw [List.size_toArray]; omega)
  refine I.lset (its' := its.eraseIdx k) (t' := s.toks) hH e ?_ (r.eraseIdx k) ?_
  · show its.toArray.eraseIdxIfInBounds k = (its.eraseIdx k).toArray
    rw [List.eraseIdxIfInBounds_toArray]
  · have := len_erase xs k
    omega
end
section
variable {prog : Program} {w : World} {A : Around} {E : Value → Shared → Prop} {s : Shared}
end
section
variable {X : Cx}
end
end L2
namespace L2
open PySem PySem.Spec PyProof.Rows
theorem Vals.ints : ∀ {ns : List Int} {us : List Value}, Vals (ns.map V.int) us → IntsAre us ns
  | [], us, h => by
    rw [List.map_nil] at h
    cases h
    exact IntsAre.nil
  | n :: ns, us, h => by
    rw [List.map_cons] at h
    cases h with
    | cons r t =>
      obtain ⟨k, rfl⟩ := r
      exact IntsAre.cons n k (Vals.ints t)
theorem Vals.bls : ∀ {bs : List Bool} {us : List Value}, Vals (bs.map V.bl) us → us = bs.map Value.bool
  | [], us, h => by
    rw [List.map_nil] at h
    cases h
    rfl
  | b :: bs, us, h => by
    rw [List.map_cons] at h
    cases h with
    | cons r t =>
      cases r
      rw [Vals.bls t, List.map_cons]
theorem Vals.ref1 {a : Addr} {us : List Value} (r : Vals [V.ref a] us) : us = [Value.ref a] := by
  cases r with
  | cons r t =>
    cases t
    cases r
    rfl
section
variable {prog : Program} {w : World} {A : Around} {E : Value → Shared → Prop} {s : Shared} {l : Addr} {its : List Value} {ns : List Int} {Q : Value → Shared → Prop}
theorem sum_raw (hh : A.handled = none) (hl : s.heap.IsList l its.toArray) (hi : IntsAre its ns)
    (h : ∀ h' tk t', (∀ b o, s.heap.get? b = some o → h'.get? b = some o) → Q (.int ns.sum t') { s with heap := h', toks := tk }) : wpAny (model prog w) A (call (.builtin "sum") [.ref l]) Q E s := by
  obtain ⟨xs, e⟩ := hi.allInts.items
  have hn : numsOf (intItems xs).toList = ns := by rw [← e]; exact hi.numsOf
  rw [nums_intItems] at hn
  rw [e] at hl
  refine PySem.sum_intListG hh hl fun h' tk t' hk => ?_
  have := h h' tk t' hk
  rw [preSum_eq, List.take_of_length_le (by simp), hn]; exact this
end
section
variable {X : Cx}
def rSum (K : PySem.W.Frag) : List V → Hp → VK → Prop := fun vs H Q => ∃ (a : Addr) (ns : List Int), vs = [V.ref a] ∧ SqL K H a (ns.map V.int) ∧ Q (.int ns.sum) H
theorem cr_sum (hc : X.calm = true) : CallR X (.builtin "sum") (rSum X.K) := by
  intro pins s σ H vs us Q I r h
  obtain ⟨a, ns, rfl, hs, q⟩ := h
  obtain ⟨its, rv, hl, _⟩ := I.list hs
  rw [Vals.ref1 r]
  exact sum_raw (I.ok.hd hc) hl.isList rv.ints fun h' tk t' hk => ⟨.int _, H, I.kept hk, ⟨_, rfl⟩, q⟩
end
section
variable {X : Cx}
def rIndex (K : PySem.W.Frag) : V → List V → Hp → VK → Prop := fun x xs H Q => ∃ (a : Addr) (ys : List V) (y : V) (j : Nat) (z : V), x = V.ref a ∧ xs = [y] ∧ SqL K H a ys ∧ flatV y = true ∧ ys.all flatV = true ∧ ys[j]? = some z ∧ eqV z y = true ∧
  (∀ (m : Nat) (z' : V), m < j → ys[m]? = some z' → eqV z' y = false) ∧ Q (.int (j : Nat)) H
theorem flat_at {ys : List V} (f : ys.all flatV = true) {j : Nat} {z : V} (h : ys[j]? = some z) : flatV z = true := List.all_eq_true.mp f z (List.mem_of_getElem? h)
theorem mt_index : MtR X "list.index" (rIndex X.K) := by
  intro pins s σ H x xs v us Q I rx rxs h
  obtain ⟨a, ys, y, j, z, rfl, rfl, hs, fy, fys, hz, hzj, hno, q⟩ := h
  cases rx
  cases rxs with
  | cons ry rt =>
    rename_i uy ut
    cases rt
    obtain ⟨its, rv, ⟨⟨cls, dd, data, sl⟩, n, ho, hc, hdn, hd⟩, hlen⟩ := I.list hs
    simp only at hc hd
    subst hc hd
    obtain ⟨u, hu, ru⟩ := rv.get hz
    obtain ⟨hjl, hje⟩ := List.getElem?_eq_some_iff.mp hu
    have hvl := rv.length
    have hj : j < its.toArray.size := by simpa using hjl
    have hsl := sizeLine_eq
    refine call_meets PySem.F.slot_list_index ⟨_, ho, rfl⟩ PySem.F.entry_list_index (PySem.F.args_list_index_2 _ _)
      (SeqAt.list_indexAt a its.toArray n dd sl uy (eqU y) j hj (by omega) ?_ ?_) ⟨ho, fun u' hu' => mem_eqAt ry fy rv fys u' (by simpa using hu'), ?_⟩
    · have e1 : its.toArray[j] = u := by simpa using hje
      rw [e1, eqU_of ru (flat_at fys hz)]
      exact hzj
    · intro m hm hmj
      have hml : m < its.length := by simpa using hm
      have hmy : m < ys.length := by omega
      have hy' : ys[m]? = some ys[m] := List.getElem?_eq_getElem hmy
      obtain ⟨u2, hu2, ru2⟩ := rv.get hy'
      obtain ⟨_, hme⟩ := List.getElem?_eq_some_iff.mp hu2
      have e1 : its.toArray[m] = u2 := by simpa using hme
      rw [e1, eqU_of ru2 (flat_at fys hy')]
      exact hno m _ hmj hy'
    · exact ⟨.int (j : Nat), H, I.tok _, ⟨_, rfl⟩, q⟩
end
section
variable {X : Cx}
end
theorem iter_any {prog : Program} {w : World} {A : Around} {E : Value → Shared → Prop} {s : Shared} {l : Addr} {items : Array Value} {Q : Value → Shared → Prop} (hl : s.heap.IsList l items)
    (h : ∀ s₂ : Shared, s₂ = { s with heap := s.heap.push { cls := .type "list_iterator", data := .fields #[.ref l, .int 0 0] } } →
      (s₂.heap.IsListIter s.heap.objs.size l 0 ∧ s₂.heap.IsList l items) → l ≠ s.heap.objs.size → Q (.ref s.heap.objs.size) s₂) : wpAny (model prog w) A (pyIter (.ref l)) Q E s := by
  have hlt : l < s.heap.objs.size := by obtain ⟨_, e, _⟩ := hl; exact Heap.lt_size e
  exact wpAny_pyIter_list hl (h _ rfl ⟨⟨_, Heap.get?_push_size _ rfl, rfl, rfl⟩, hl.push _⟩ (Nat.ne_of_lt hlt))
theorem truth_bools {prog : Program} {w : World} {A : Around} {bs : List Bool} {its : List Value} (e : its = bs.map Value.bool) :
    TruthOf prog w A (fun i v => its.toArray[i]? = some v) (fun i => bs.getD i false) := fun i v s Q E hv hq => by
  have hv' : its[i]? = some v := by simpa using hv
  rw [e, List.getElem?_map] at hv'
  obtain ⟨b, hb, rfl⟩ := Option.map_eq_some_iff.mp hv'
  have hg : bs.getD i false = b := by rw [List.getD_eq_getElem?_getD, hb] <;> rfl
  have hq' : Q (bs.getD i false) s := hq
  rw [hg] at hq'
  exact wpAny_truthy_bool hq'
theorem any_range : ∀ bs : List Bool, (List.range bs.length).any (fun i => bs.getD i false) = bs.any id
  | [] => rfl
  | b :: bs => by
    rw [List.length_cons, List.range_succ_eq_map, List.any_cons, List.any_map, List.any_cons, ← any_range bs]
    all_goals rfl
theorem all_range : ∀ bs : List Bool, (List.range bs.length).all (fun i => bs.getD i false) = bs.all id
  | [] => rfl
  | b :: bs => by
    rw [List.length_cons, List.range_succ_eq_map, List.all_cons, List.all_map, List.all_cons, ← all_range bs]
    all_goals rfl
section
variable {X : Cx}
def rAny (K : PySem.W.Frag) : List V → Hp → VK → Prop := fun vs H Q => ∃ (a : Addr) (bs : List Bool), vs = [V.ref a] ∧ SqL K H a (bs.map V.bl) ∧ Q (.bl (bs.any id)) H
def rAll (K : PySem.W.Frag) : List V → Hp → VK → Prop := fun vs H Q => ∃ (a : Addr) (bs : List Bool), vs = [V.ref a] ∧ SqL K H a (bs.map V.bl) ∧ Q (.bl (bs.all id)) H
theorem cr_any (hc : X.calm = true) : CallR X (.builtin "any") (rAny X.K) := by
  intro pins s σ H vs us Q I r h
  obtain ⟨a, bs, rfl, hs, q⟩ := h
  obtain ⟨its, rv, hl, _⟩ := I.list hs
  rw [Vals.ref1 r]
  have hb := rv.bls
  refine call_any_walk (iter_any hl.isList fun s₂ e2 st hne => ?_)
  subst e2
  refine ⟨_, _, _, _, _, _, _, rfl, Walks.list (A := X.A.in1) (I.ok.hd hc) _ a hne its.toArray, st, truth_bools hb, fun h' tk hk => ?_⟩
  refine ⟨.bl _, H, I.kept fun b o eo => hk b o (fun hmem => ?_) (Heap.get?_push_of_some _ eo), ?_, q⟩
  · rcases List.mem_cons.mp hmem with e1 | hmem
    · exact absurd (e1 ▸ Heap.lt_size eo) (Nat.lt_irrefl _)
    · cases hmem
  · show Value.bool _ = Value.bool _
    rw [← any_range, hb, List.size_toArray, List.length_map]
theorem cr_all (hc : X.calm = true) : CallR X (.builtin "all") (rAll X.K) := by
  intro pins s σ H vs us Q I r h
  obtain ⟨a, bs, rfl, hs, q⟩ := h
  obtain ⟨its, rv, hl, _⟩ := I.list hs
  rw [Vals.ref1 r]
  have hb := rv.bls
  refine call_all_walk (iter_any hl.isList fun s₂ e2 st hne => ?_)
  subst e2
  refine ⟨_, _, _, _, _, _, _, rfl, Walks.list (A := X.A.in1) (I.ok.hd hc) _ a hne its.toArray, st, truth_bools hb, fun h' tk hk => ?_⟩
  refine ⟨.bl _, H, I.kept fun b o eo => hk b o (fun hmem => ?_) (Heap.get?_push_of_some _ eo), ?_, q⟩
  · rcases List.mem_cons.mp hmem with e1 | hmem
    · exact absurd (e1 ▸ Heap.lt_size eo) (Nat.lt_irrefl _)
    · cases hmem
  · show Value.bool _ = Value.bool _
    rw [← all_range, hb, List.size_toArray, List.length_map]
end
mutual
inductive Dp (K : PySem.W.Frag) (H : Hp) : V → PyData → Prop
  | non : Dp K H .non .none
  | bl (b : Bool) : Dp K H (.bl b) (.bool b)
  | int (i : Int) : Dp K H (.int i) (.int i)
  | str (x : Str) : Dp K H (.str x) (.str x)
  | lst {a : Addr} {xs : List V} {ds : List PyData} : SqL K H a xs → DpAll K H xs ds → Dp K H (.ref a) (.list ds)
  | tup {a : Addr} {xs : List V} {ds : List PyData} : SqT K H a xs → DpAll K H xs ds → Dp K H (.ref a) (.tuple ds)
inductive DpAll (K : PySem.W.Frag) (H : Hp) : List V → List PyData → Prop
  | nil : DpAll K H [] []
  | cons {v : V} {vs : List V} {d : PyData} {ds : List PyData} : Dp K H v d → DpAll K H vs ds → DpAll K H (v :: vs) (d :: ds)
end
section
variable {X : Cx} {pins : List (Addr × Obj)} {σ : St} {H : Hp} {s : Shared}
mutual
theorem Dp.reads (I : Inv X pins σ H s) : ∀ (d : PyData) (v : V) (u : Value), Dp X.K H v d → RelV v u → ∃ as, Reads s.heap u d as
  | .none, _, _, h, r => by
    cases h
    cases r
    exact ⟨_, Reads.none⟩
  | .bool b, _, _, h, r => by
    cases h
    cases r
    exact ⟨_, Reads.bool b⟩
  | .int i, _, _, h, r => by
    cases h
    obtain ⟨t, rfl⟩ := r
    exact ⟨_, Reads.int i t⟩
  | .str x, _, _, h, r => by
    cases h
    obtain ⟨t, rfl⟩ := r
    exact ⟨_, Reads.str x t⟩
  | .list ds, _, _, h, r => by
    cases h with
    | lst hs ha =>
      cases r
      obtain ⟨its, rv, ⟨o, n, ho, hc, _, hd⟩, _⟩ := I.list hs
      obtain ⟨as, hr⟩ := Dp.readsAll I ds _ its ha rv
      exact ⟨_, Reads.list ho hc hd hr⟩
  | .tuple ds, _, _, h, r => by
    cases h with
    | tup hs ha =>
      cases r
      obtain ⟨its, rv, ⟨o, ho, hc, n, hd⟩, _⟩ := I.tuple hs
      obtain ⟨as, hr⟩ := Dp.readsAll I ds _ its ha rv
      exact ⟨_, Reads.tuple ho hc hd hr⟩
  | .dict _, _, _, h, _ => by cases h
theorem Dp.readsAll (I : Inv X pins σ H s) : ∀ (ds : List PyData) (vs : List V) (us : List Value), DpAll X.K H vs ds → Vals vs us → ∃ as, ReadsAll s.heap us ds as
  | [], _, _, h, r => by
    cases h
    cases r
    exact ⟨_, ReadsAll.nil⟩
  | d :: ds, _, _, h, r => by
    cases h with
    | cons h1 h2 =>
      cases r with
      | cons r1 r2 =>
        obtain ⟨as, q1⟩ := Dp.reads I d _ _ h1 r1
        obtain ⟨bs, q2⟩ := Dp.readsAll I ds _ _ h2 r2
        exact ⟨_, ReadsAll.cons q1 q2⟩
end
end
section
variable {X : Cx}
def rEqD (K : PySem.W.Frag) : R2 := fun x y H Q => ∃ d e, Dp K H x d ∧ Dp K H y e ∧ SeqAt.shaped d = true ∧ SeqAt.shaped e = true ∧ Q (.bl (PyData.eqv d e)) H
def rNeD (K : PySem.W.Frag) : R2 := fun x y H Q => ∃ d e, Dp K H x d ∧ Dp K H y e ∧ SeqAt.shaped d = true ∧ SeqAt.shaped e = true ∧ Q (.bl (!PyData.eqv d e)) H
theorem op_eqD (hu : X.A.units + 64 < cLine) : OpR X (compareOp .Eq) (rEqD X.K) := by
  intro pins s σ H x y v u Q I rx ry h
  obtain ⟨d, e, hd, he, sd, se, q⟩ := h
  obtain ⟨as, r1⟩ := Dp.reads I d x v hd rx
  obtain ⟨bs, r2⟩ := Dp.reads I e y u he ry
  exact SeqAt.compareEq_shaped r1 r2 sd se hu ⟨.bl _, H, I, rfl, q⟩
theorem op_neD (hu : X.A.units + 64 < cLine) : OpR X (compareOp .NotEq) (rNeD X.K) := by
  intro pins s σ H x y v u Q I rx ry h
  obtain ⟨d, e, hd, he, sd, se, q⟩ := h
  obtain ⟨as, r1⟩ := Dp.reads I d x v hd rx
  obtain ⟨bs, r2⟩ := Dp.reads I e y u he ry
  exact SeqAt.compareNe_shaped r1 r2 sd se hu ⟨.bl _, H, I, rfl, q⟩
end
end L2
namespace L2
open PySem PySem.Spec PyProof.Rows
abbrev CellAt (h : Heap) (c : Addr) (v : Option Value) : Prop := h.IsCell c v
def relS (scope sc : Scope) : Scope :=
  { scope with names := scope.names.map fun (n, k) => if (k == .free && sc.kind == .function && sc.names.lookup n == some .cell) then (n, .cell) else (n, k) }
def cloFrom (cells : List (Str × Addr)) : List (Str × NameKind) → List (Str × Addr) → List (Str × Addr)
  | [], acc => acc
  | (n, k) :: r, acc => if k == .free then cloFrom cells r ((n, (cells.lookup n).getD 0) :: acc) else cloFrom cells r acc
theorem closure_loop (env : Env) (f : Str × NameKind → List (Str × Addr) → Sem (ForInStep (List (Str × Addr))))
    (hf : ∀ n k c, f (n, k) c = if k == .free then (do let a ← cellOf env n; pure (.yield ((n, a) :: c))) else pure (.yield c)) :
    ∀ (names : List (Str × NameKind)) (acc : List (Str × Addr)), (∀ y ∈ names, y.2 = .free → ∃ c, env.cells.lookup y.1 = some c) → forIn names acc f = pure (cloFrom env.cells names acc)
  | [], acc, _ => by rw [List.forIn_nil]; rfl
  | (n, k) :: r, acc, h => by
    rw [List.forIn_cons, hf]
    have ih := fun acc => closure_loop env f hf r acc fun y hy => h y (List.mem_cons_of_mem _ hy)
    unfold cloFrom
    by_cases hk : (k == NameKind.free) = true
    · rw [if_pos hk, if_pos hk]
      obtain ⟨c, hc⟩ := h (n, k) List.mem_cons_self (by simpa using hk)
      have e : cellOf env n = pure c := by unfold cellOf; rw [hc]
      rw [e]
      have e2 : (env.cells.lookup n).getD 0 = c := by rw [hc]; rfl
      rw [e2]
      exact ih _
    · rw [if_neg hk, if_neg hk]
      exact ih _
theorem closure_ok {scope : Scope} {env : Env} (h : ∀ y ∈ scope.names, y.2 = .free → ∃ c, env.cells.lookup y.1 = some c) : closureFor scope env = pure (cloFrom env.cells scope.names []) := by
  simp only [closureFor]
  rw [closure_loop env _ (fun n k c => rfl) scope.names [] h]
  rfl
theorem mem_lookup {α : Type} : ∀ {l : List (Str × α)} {n : Str} {c : α}, (n, c) ∈ l → ∃ c', l.lookup n = some c'
  | (k, v) :: r, n, c, h => by
    rw [List.lookup_cons]
    cases hb : n == k with
    | true => exact ⟨_, rfl⟩
    | false =>
      rcases List.mem_cons.mp h with e | h
      · cases e; simp at hb
      · exact mem_lookup h
theorem cloFrom_mem {cells : List (Str × Addr)} : ∀ {names : List (Str × NameKind)} {acc : List (Str × Addr)} {n : Str} {c : Addr}, (n, c) ∈ cloFrom cells names acc → (n, c) ∈ acc ∨ ((n, .free) ∈ names ∧ c = (cells.lookup n).getD 0)
  | [], _, _, _, h => .inl h
  | (m, k) :: r, acc, n, c, h => by
    unfold cloFrom at h
    split at h
    · rename_i hk
      have hk : k = .free := by simpa using hk
      rcases cloFrom_mem h with h | ⟨h1, h2⟩
      · rcases List.mem_cons.mp h with e | h
        · cases e; exact .inr ⟨hk ▸ List.mem_cons_self, rfl⟩
        · exact .inl h
      · exact .inr ⟨List.mem_cons_of_mem _ h1, h2⟩
    · rcases cloFrom_mem h with h | ⟨h1, h2⟩
      · exact .inl h
      · exact .inr ⟨List.mem_cons_of_mem _ h1, h2⟩
theorem cloFrom_acc {cells : List (Str × Addr)} : ∀ {names : List (Str × NameKind)} {acc : List (Str × Addr)} {p : Str × Addr}, p ∈ acc → p ∈ cloFrom cells names acc
  | [], _, _, h => h
  | (m, k) :: r, acc, p, h => by
    unfold cloFrom
    split
    · exact cloFrom_acc (List.mem_cons_of_mem _ h)
    · exact cloFrom_acc h
theorem cloFrom_has {cells : List (Str × Addr)} : ∀ {names : List (Str × NameKind)} {acc : List (Str × Addr)} {n : Str}, (n, .free) ∈ names → (n, (cells.lookup n).getD 0) ∈ cloFrom cells names acc
  | (m, k) :: r, acc, n, h => by
    unfold cloFrom
    rcases List.mem_cons.mp h with e | h
    · cases e
      exact cloFrom_acc List.mem_cons_self
    · split
      · exact cloFrom_has h
      · exact cloFrom_has h
theorem cells_mem : ∀ {names : List (Str × NameKind)} {h : Heap} {acc : List (Str × Addr)} {x : Str} {c : Addr}, (x, c) ∈ cellsFrom h.objs.size names acc →
    (x, c) ∈ acc ∨ ((x, .cell) ∈ names ∧ h.objs.size ≤ c ∧ CellAt (pushCells h names) c none)
  | [], _, _, _, _, h => .inl h
  | (n, k) :: r, h, acc, x, c, hm => by
    unfold cellsFrom at hm
    unfold pushCells
    split at hm
    · rename_i hk
      rw [if_pos hk]
      have hk : k = .cell := by simpa using hk
      rw [← Heap.size_push h { cls := .type "cell", data := .cell none }] at hm
      rcases cells_mem hm with hm | ⟨h1, h2, h3⟩
      · rcases List.mem_cons.mp hm with e | hm
        · cases e
          exact .inr ⟨hk ▸ List.mem_cons_self, Nat.le_refl _, _, pushCells_keeps r _ _ _ (Heap.get?_push_size _ rfl), rfl⟩
        · exact .inl hm
      · rw [Heap.size_push] at h2
        exact .inr ⟨List.mem_cons_of_mem _ h1, Nat.le_of_succ_le h2, h3⟩
    · rename_i hk
      rw [if_neg hk]
      rcases cells_mem hm with hm | ⟨h1, h2, h3⟩
      · exact .inl hm
      · exact .inr ⟨List.mem_cons_of_mem _ h1, h2, h3⟩
theorem cells_acc : ∀ {names : List (Str × NameKind)} {n : Nat} {acc : List (Str × Addr)} {p : Str × Addr}, p ∈ acc → p ∈ cellsFrom n names acc
  | [], _, _, _, h => h
  | (m, k) :: r, n, acc, p, h => by
    unfold cellsFrom
    split
    · exact cells_acc (List.mem_cons_of_mem _ h)
    · exact cells_acc h
theorem cells_has : ∀ {names : List (Str × NameKind)} {n : Nat} {acc : List (Str × Addr)} {x : Str}, (x, .cell) ∈ names → ∃ c, (x, c) ∈ cellsFrom n names acc
  | (m, k) :: r, n, acc, x, h => by
    unfold cellsFrom
    rcases List.mem_cons.mp h with e | h
    · cases e
      exact ⟨n, cells_acc List.mem_cons_self⟩
    · split
      · exact cells_has h
      · exact cells_has h
theorem cells_inj : ∀ {names : List (Str × NameKind)} {h : Heap} {acc : List (Str × Addr)} {x y : Str} {c : Addr}, (∀ p ∈ acc, p.2 < h.objs.size) → (∀ x y c, (x, c) ∈ acc → (y, c) ∈ acc → x = y) →
    (x, c) ∈ cellsFrom h.objs.size names acc → (y, c) ∈ cellsFrom h.objs.size names acc → x = y
  | [], _, _, _, _, _, _, hi, h1, h2 => hi _ _ _ h1 h2
  | (n, k) :: r, h, acc, x, y, c, hl, hi, h1, h2 => by
    unfold cellsFrom at h1 h2
    split at h1
    · rename_i hk
      rw [if_pos hk] at h2
      rw [← Heap.size_push h { cls := .type "cell", data := .cell none }] at h1 h2
      refine cells_inj (h := h.push _) (fun p hp => ?_) (fun x y c a b => ?_) h1 h2
      · rw [Heap.size_push]
        rcases List.mem_cons.mp hp with rfl | hp
        · exact Nat.lt_succ_self _
        · exact Nat.lt_succ_of_lt (hl p hp)
      · rcases List.mem_cons.mp a with e | a <;> rcases List.mem_cons.mp b with e' | b
        · cases e; cases e'; rfl
        · cases e; exact absurd (hl _ b) (Nat.lt_irrefl _)
        · cases e'; exact absurd (hl _ a) (Nat.lt_irrefl _)
        · exact hi _ _ _ a b
    · rename_i hk
      rw [if_neg hk] at h2
      exact cells_inj hl hi h1 h2
theorem newEnv_comp {M : Model} {A : Around} {E : Value → Shared → Prop} {s : Shared} {scope : Scope} {globals : Addr} {closure : List (Str × Addr)} {qual : Str} {func : Option Addr} {code : Value} {around : Env} {builtins : Addr} {Q : Env → Shared → Prop}
    (h : Q (newEnv scope s.heap.objs.size globals (cellsFrom (s.heap.objs.size + 1) scope.names closure) qual func code (some around) builtins)
      { s with heap := pushCells (s.heap.push { cls := .type "dict", data := .dict #[] }) scope.names }) :
    wpAny M A (newFunctionEnv scope globals closure [] qual func code (some around) builtins) Q E s := by
  simp only [newFunctionEnv, Option.isSome_some, if_true]
  refine wpAny_bind (wpAny_alloc ?_)
  refine wpAny_bind (wpAny_layCells _ (fun n k c => rfl) scope.names closure _ _ ?_)
  rw [show ({ s with heap := s.heap.push { cls := .type "dict", data := .dict #[] } } : Shared).heap.objs.size = s.heap.objs.size + 1 from Heap.size_push ..]
  rw [List.forIn_nil]
  exact wpAny_bind (wpAny_pure (wpAny_pure h))
theorem lookup_relS {sc : Scope} : ∀ {names : List (Str × NameKind)} {x : Str} {k : NameKind},
    (names.map fun (n, k) => if (k == NameKind.free && sc.kind == .function && sc.names.lookup n == some .cell) then (n, NameKind.cell) else (n, k)).lookup x = some k →
    ∃ k', names.lookup x = some k' ∧ (k = k' ∨ (k' = .free ∧ k = .cell))
  | [], _, _, h => by simp at h
  | (n, k₀) :: r, x, k, h => by
    have ih := @lookup_relS sc r x k
    have h' : List.lookup x ((if (k₀ == NameKind.free && sc.kind == .function && sc.names.lookup n == some .cell) = true then (n, NameKind.cell) else (n, k₀)) :: (r.map _)) = some k := h
    cases hx : x == n with
    | true =>
      simp only [List.lookup_cons, hx]
      by_cases hc : (k₀ == NameKind.free && sc.kind == .function && sc.names.lookup n == some .cell) = true
      · rw [if_pos hc] at h'
        simp only [List.lookup_cons, hx] at h'
        cases h'
        simp only [Bool.and_eq_true, beq_iff_eq] at hc
        exact ⟨k₀, rfl, .inr ⟨hc.1.1, rfl⟩⟩
      · rw [if_neg hc] at h'
        simp only [List.lookup_cons, hx] at h'
        cases h'
        exact ⟨_, rfl, .inl rfl⟩
    | false =>
      simp only [List.lookup_cons, hx]
      by_cases hc : (k₀ == NameKind.free && sc.kind == .function && sc.names.lookup n == some .cell) = true
      · rw [if_pos hc] at h'
        simp only [List.lookup_cons, hx] at h'
        exact ih h'
      · rw [if_neg hc] at h'
        simp only [List.lookup_cons, hx] at h'
        exact ih h'
structure BlkOk (N : List Str) (sc scope : Scope) (own : List (Str × Nat)) : Prop where
  kind : scope.kind = .function
  uniq : ∀ y ∈ scope.names, scope.names.lookup y.1 = some y.2
  ix : ∀ p ∈ own, N[p.2]? = some p.1
  free : ∀ y ∈ scope.names, y.2 = .free → sc.names.lookup y.1 = some .cell ∨ sc.names.lookup y.1 = some .free
  own : ∀ y ∈ scope.names, y.2 = .local ∨ y.2 = .cell → y.1 ∈ own.map (·.1) ∨ y.1 ∉ N
def wipe (σ : St) : List Nat → St
  | [] => σ
  | v :: vs => (wipe σ vs).set v none
theorem wipe_length (σ : St) : ∀ vs : List Nat, (wipe σ vs).length = σ.length
  | [] => rfl
  | v :: vs => by unfold wipe; rw [List.length_set, wipe_length σ vs]
theorem wipe_some {σ : St} {i : Nat} {x : V} : ∀ {vs : List Nat}, (wipe σ vs)[i]? = some (some x) → σ[i]? = some (some x) ∧ i ∉ vs
  | [], h => ⟨h, by simp⟩
  | v :: vs, h => by
    unfold wipe at h
    by_cases hi : v = i
    · subst hi
      by_cases hv : v < (wipe σ vs).length
      · rw [List.getElem?_set_self hv] at h; cases h
      · rw [List.getElem?_eq_none (by simpa using hv)] at h; cases h
    · rw [List.getElem?_set_ne hi] at h
      obtain ⟨h1, h2⟩ := wipe_some h
      exact ⟨h1, by simp only [List.mem_cons, not_or]; exact ⟨fun e => hi e.symm, h2⟩⟩
abbrev Cx.blk (X : Cx) (s : Shared) (H : Hp) (scope : Scope) (cenv : Env) (fp : List Addr) : Cx := { X with s_0 := s, H_0 := H, env := cenv, outer := X.stack, ex := fp, fn := fun x => scope.names.lookup x == some .cell, pn := [], xe := fun _ _ => False }
section
variable {X : Cx} {pins : List (Addr × Obj)} {σ : St} {H : Hp} {s : Shared}
theorem block_start {scope : Scope} {own : List (Str × Nat)} {fp : List Addr} (I : Inv X pins σ H s) (ok : BlkOk X.N X.env.scope scope own) (hN : X.N.Nodup) (hfp : ∀ b ∈ fp, FpOk X pins H b ∧ b < s.heap.objs.size) :
    Inv (X.blk s H scope (compEnvC scope (cellsFrom (s.heap.objs.size + 1) scope.names (cloFrom X.env.cells scope.names [])) s.heap.objs.size X.env) fp) [] (wipe σ (own.map (·.2))) H { s with heap := pushCells (s.heap.push { cls := .type "dict", data := .dict #[] }) scope.names } := by
  have hfree : ∀ y ∈ scope.names, y.2 = .free → ∃ c, X.env.cells.lookup y.1 = some c := fun y hy e => by
    rcases ok.free y hy e with k | k
    · exact I.ok.has _ (.inl k)
    · exact I.ok.has _ (.inr k)
  generalize hcenv : compEnvC scope (cellsFrom (s.heap.objs.size + 1) scope.names (cloFrom X.env.cells scope.names [])) s.heap.objs.size X.env = cenv
  have kp : ∀ b o, s.heap.get? b = some o → (pushCells (s.heap.push { cls := .type "dict", data := .dict #[] }) scope.names).get? b = some o := fun b o e => pushCells_keeps _ _ _ _ (Heap.get?_push_of_some _ e)
  have hL : cenv.locals = s.heap.objs.size := by rw [← hcenv]; rfl
  have hcl : cenv.cells = cellsFrom (s.heap.objs.size + 1) scope.names (cloFrom X.env.cells scope.names []) := by rw [← hcenv]; rfl
  have hsc : cenv.scope = relS scope X.env.scope := by rw [← hcenv]; rfl
  rw [← Heap.size_push s.heap { cls := .type "dict", data := .dict #[] }] at hcl
  have cm : ∀ {y c}, (y, c) ∈ cloFrom X.env.cells scope.names [] → X.env.cells.lookup y = some c ∧ c < s.heap.objs.size := fun {y c} hm => by
    rcases cloFrom_mem hm with hm | ⟨h1, rfl⟩
    · cases hm
    · obtain ⟨c, hc⟩ := hfree _ h1 rfl
      rw [hc]
      obtain ⟨w, z⟩ := I.cell _ _ hc
      exact ⟨rfl, z.lt⟩
  have mem : ∀ {y c}, cenv.cells.lookup y = some c → (X.env.cells.lookup y = some c ∧ c < s.heap.objs.size) ∨ (s.heap.objs.size + 1 ≤ c ∧ CellAt (pushCells (s.heap.push { cls := .type "dict", data := .dict #[] }) scope.names) c none) := fun {y c} e => by
    rw [hcl] at e
    rcases cells_mem (PySem.mem_of_lookup e) with hm | ⟨_, h2, h3⟩
    · exact .inl (cm hm)
    · rw [Heap.size_push] at h2; exact .inr ⟨h2, h3⟩
  have look : ∀ {y}, scope.names.lookup y = some .free → ∃ c, cenv.cells.lookup y = some c ∧ X.env.cells.lookup y = some c := fun {y} hl => by
    have hy : (y, NameKind.free) ∈ scope.names := PySem.mem_of_lookup hl
    obtain ⟨c', e'⟩ := mem_lookup (cells_acc (names := scope.names) (n := (s.heap.push { cls := .type "dict", data := .dict #[] }).objs.size) (cloFrom_has (cells := X.env.cells) (acc := []) hy))
    rw [← hcl] at e'
    refine ⟨c', e', ?_⟩
    rw [hcl] at e'
    rcases cells_mem (PySem.mem_of_lookup e') with hm | ⟨h1, _, _⟩
    · exact (cm hm).1
    · have := ok.uniq _ h1
      rw [hl] at this; cases this
  have okB : (X.blk s H scope cenv fp).Ok := by
    refine ⟨I.ok.mod, by show cenv.scope.kind = _; rw [hsc]; exact ok.kind, by show cenv.globals = _; rw [← hcenv]; exact I.ok.glob, by show cenv.builtins = _; rw [← hcenv]; exact I.ok.blt, by show s.heap.objs.size ≤ cenv.locals; rw [hL]; exact Nat.le_refl _,
      fun y z c e1 e2 => ?_, fun y hy => ?_, fun y c z e => ?_, I.ok.hd, I.ok.frames, .inl rfl, fun b hb => ⟨?_, fun y c e z => ?_⟩, I.bs, Nat.le_trans I.ok.bsz I.sz, fun b o e hb => ?_, fun b hb z => ?_, I.stack, I.stkFree⟩
    · have e1 : cenv.cells.lookup y = some c := e1
      have e2 : cenv.cells.lookup z = some c := e2
      rw [hcl] at e1 e2
      refine cells_inj (fun p hp => ?_) (fun y z c a b => I.ok.inj y z c (cm a).1 (cm b).1) (PySem.mem_of_lookup e1) (PySem.mem_of_lookup e2)
      rw [Heap.size_push]
      exact Nat.lt_succ_of_lt (cm (y := p.1) (c := p.2) hp).2
    · show ∃ c, cenv.cells.lookup y = some c
      have key : ∀ k, cenv.kindOf y = some k → (k = .cell ∨ k = .free) → ∃ c, cenv.cells.lookup y = some c := fun k hk hk' => by
        unfold Env.kindOf at hk
        rw [hsc] at hk
        obtain ⟨k', e, r⟩ := lookup_relS hk
        have : k' = .cell ∨ k' = .free := by
          rcases r with rfl | ⟨rfl, _⟩
          · exact hk'
          · exact .inr rfl
        rcases this with rfl | rfl
        · obtain ⟨c, hm⟩ := cells_has (n := (s.heap.push { cls := .type "dict", data := .dict #[] }).objs.size) (acc := cloFrom X.env.cells scope.names []) (PySem.mem_of_lookup e)
          obtain ⟨c', e'⟩ := mem_lookup hm
          exact ⟨c', by rw [hcl]; exact e'⟩
        · obtain ⟨c, h1, _⟩ := look e
          exact ⟨c, h1⟩
      rcases hy with hy | hy
      · exact key _ hy (.inl rfl)
      · exact key _ hy (.inr rfl)
    · have z : (scope.names.lookup y == some NameKind.cell) = true := z
      have z : scope.names.lookup y = some .cell := by simpa using z
      have e : cenv.cells.lookup y = some c := e
      rw [hcl] at e
      rcases cells_mem (PySem.mem_of_lookup e) with hm | ⟨_, h2, _⟩
      · rcases cloFrom_mem hm with hm | ⟨h1, _⟩
        · cases hm
        · have q := ok.uniq _ h1
          rw [z] at q; cases q
      · rw [Heap.size_push] at h2
        exact Nat.le_of_succ_le h2
    · show b ≠ cenv.locals
      rw [hL]; exact Nat.ne_of_lt (hfp b hb).2
    · have e : cenv.cells.lookup y = some c := e
      rcases mem e with ⟨h1, _⟩ | ⟨h1, _⟩
      · exact (hfp b hb).1.2.2.2.2.1 y c h1 z
      · have h2 : s.heap.objs.size + 1 ≤ b := by rw [← z]; exact h1
        exact absurd (Nat.lt_of_lt_of_le (hfp b hb).2 (Nat.le_of_succ_le h2)) (Nat.lt_irrefl _)
    · rcases (hfp b hb).1.2.2.2.1 with z | z
      · exact I.ok.noex b o e z
      · exact absurd (Nat.lt_of_lt_of_le (Heap.lt_size e) (Nat.le_trans I.ok.bsz z)) (Nat.lt_irrefl _)
    · rcases List.mem_cons.mp (I.stkSub b z) with z | z
      · exact (hfp b hb).1.2.1 z
      · exact (hfp b hb).1.2.2.1 z
  refine ⟨okB, rfl, I.bare, Un.kept kp, ⟨fun _ => none, ?_, fun i y av e1 e2 e3 => ?_⟩, fun y c e => ?_, ?_, fun y c e => ?_, fun p hp => ?_, I.hok.kept kp, by rw [wipe_length]; exact I.len⟩
  · show Heap.Ns _ cenv.locals _
    rw [hL]
    exact Heap.Ns.keeps (Heap.Ns.new ..) fun b o e => pushCells_keeps _ _ _ _ e
  · obtain ⟨e2, hne⟩ := wipe_some e2
    have hfr : scope.names.lookup y = some .free ∧ (cenv.kindOf y = some .cell ∨ cenv.kindOf y = some .free) := by
      have key : ∀ k, cenv.scope.names.lookup y = some k → k = .local ∨ k = .cell ∨ k = .free → scope.names.lookup y = some .free ∧ (cenv.kindOf y = some .cell ∨ cenv.kindOf y = some .free) := fun k hk hk' => by
        have hk0 := hk
        rw [hsc] at hk
        obtain ⟨k', e, r⟩ := lookup_relS hk
        have no : ¬ (k' = .local ∨ k' = .cell) := fun hh => by
          rcases ok.own _ (PySem.mem_of_lookup e) hh with e' | e'
          · obtain ⟨p, hp, hpy⟩ := List.mem_map.mp e'
            have e3 := ok.ix p hp
            have : p.1 = y := hpy
            rw [this] at e3
            exact hne (List.mem_map.mpr ⟨p, hp, nodup_ix hN e3 e1⟩)
          · exact e' (List.mem_of_getElem? e1)
        rcases r with rfl | ⟨rfl, rfl⟩
        · rcases hk' with rfl | rfl | rfl
          · exact absurd (.inl rfl) no
          · exact absurd (.inr rfl) no
          · exact ⟨e, .inr hk0⟩
        · exact ⟨e, .inl hk0⟩
      have e3 : Vis cenv.scope y := e3
      rcases e3 with e3 | e3 | e3
      · exact key _ e3 (.inl rfl)
      · exact key _ e3 (.inr (.inl rfl))
      · exact key _ e3 (.inr (.inr rfl))
    obtain ⟨m, hn, hl⟩ := I.loc
    have hvis : Vis X.env.scope y := (ok.free _ (PySem.mem_of_lookup hfr.1) rfl).elim (fun k => .inr (.inl k)) (fun k => .inr (.inr k))
    obtain ⟨w, r, q⟩ := hl i y av e1 e2 hvis
    refine ⟨w, r, .inr ⟨hfr.2, ?_⟩⟩
    obtain ⟨c, h1, h2⟩ := look hfr.1
    rcases q with ⟨k, _⟩ | ⟨_, c', e', z⟩
    · have k : X.env.scope.names.lookup y = some .local := k
      rcases ok.free _ (PySem.mem_of_lookup hfr.1) rfl with k' | k' <;> rw [show X.env.scope.names.lookup y = _ from k'] at k <;> cases k
    · rw [h2] at e'; cases e'
      exact ⟨c, h1, z.keeps kp⟩
  · have e : cenv.cells.lookup y = some c := e
    rcases mem e with ⟨h1, _⟩ | ⟨_, z⟩
    · obtain ⟨w, z⟩ := I.cell y c h1
      exact ⟨w, z.keeps kp⟩
    · exact ⟨_, z⟩
  · show H cenv.locals = none
    rw [hL]; exact I.hok.fresh (Nat.le_refl _)
  · have e : cenv.cells.lookup y = some c := e
    rcases mem e with ⟨h1, _⟩ | ⟨h1, _⟩
    · exact I.freeC y c h1
    · exact I.hok.fresh (Nat.le_of_succ_le h1)
  · exact absurd (show p ∈ ([] : List (Addr × Obj)) ++ [] from hp) (by simp)
theorem app_ok {E : Value → Shared → Prop} {D : Addr} {xs : List V} {y : V} {v : Value} {Q : Value → Shared → Prop} (I : Inv X pins σ H s) (hD : H D = some (.lst xs)) (hz : xs.length < sizeLine) (r : RelV y v)
    (h : ∀ s', Inv X pins σ (upd H D (.lst (xs ++ [y]))) s' → Q .none s') : wpAny (model X.prog X.w) X.A (call (.builtin "list.append") [.ref D, v]) Q E s := by
  obtain ⟨hz', its, n, ri, e⟩ := I.hok D _ hD
  have hl := ri.length
  refine append_at (hsz := by rw [List.size_toArray]; omega) e fun h' sb ho' => ?_
  refine h { s with heap := h' } (I.write (t' := s.toks) (by rw [hD]; trivial) (.inl rfl) (fun b u hb q => (sb.2 b hb).trans q) ⟨_, ho'⟩ ⟨by rw [List.length_append]; exact hz, its ++ [v], n + 1, ri.append (.cons r .nil), ?_⟩)
  rw [ho']
  simp
def PTs (X : Cx) (ifs : List Expr) (t : TT) : Prop :=
  ∀ (pins : List (Addr × Obj)) (s : Shared) (σ : St) (H : Hp) (Q : Bool → Hp → Prop), Inv X pins σ H s → t σ H Q →
    wpAny (model X.prog X.w) X.A (forIn ifs true fun c r => if r = true then do let ok ← isTrue c X.env (eval c X.env); pure (ForInStep.yield ok) else pure (ForInStep.yield r)) (TP X pins σ Q) X.xe s
def tYes : TT := fun _ H Q => Q true H
theorem pts_nil : PTs X [] tYes := fun _ _ _ H _ I h => wpAny_tests_nil ⟨H, I, h⟩
theorem pts_one {c : Expr} {t : TT} (h : PT X c t) : PTs X [c] t := fun pins s σ H Q I hw => wpAny_tests_one (h pins s σ H Q I hw)
end
theorem thnF {α : Type} {t : Sem α} {Q Q' : α → Shared → Prop} {M : Model} {A : Around} {E : Value → Shared → Prop} {s : Shared} (h : wpAny M A t Q (fun _ _ => False) s) (hQ : ∀ a s, Q a s → Q' a s) : wpAny M A t Q' E s := wpAny_mono h hQ fun _ _ z => False.elim z
theorem compLoop_any {prog : Program} {w : World} {A : Around} {R : Result → Shared → Prop} {s : Shared} {elt target iter : Expr} {ifs : List Expr} {scope : Scope} {pos : Pos} {it acc : Value} {env : Env} (I : Nat → Shared → Prop)
    (turn : ∀ n s, I n s → wpAny (model prog w) A (pyNext it) (fun r s₁ => match r with
      | none => R (.ok .next) s₁
      | some v => wpAny (model prog w) A (letOwnedTupleGo target it v) (fun _ s₁' => wpAny (model prog w) A (assign target env v) (fun _ s₂ =>
          wpAny (model prog w) A (forIn ifs true fun c r => if r = true then do let ok ← isTrue c env (eval c env); pure (ForInStep.yield ok) else pure (ForInStep.yield r)) (fun ok s₃ =>
            if ok = true then wpAny (model prog w) A (eval elt env) (fun x s₄ =>
              wpAny (model prog w) A (call (.builtin "list.append") [acc, x]) (fun _ s₅ => ∃ m, m < n ∧ I m s₅) (notedBy (model prog w) A env fun e s' => R (.error e) s') s₄) (notedBy (model prog w) A env fun e s' => R (.error e) s') s₃
            else ∃ m, m < n ∧ I m s₃) (notedBy (model prog w) A env fun e s' => R (.error e) s') s₂) (notedBy (model prog w) A env fun e s' => R (.error e) s') s₁') (notedBy (model prog w) A env fun e s' => R (.error e) s') s₁) (notedBy (model prog w) A env fun e s' => R (.error e) s') s)
    (n : Nat) (h : I n s) :
    codeAny (model prog w) A (.compLoop (.ListComp elt [⟨target, iter, ifs, 0⟩] scope pos) 0 it acc env) R s := by
  refine codeAny_loop rfl I (fun n s hI => ?_) n h
  show wpAny _ A ((compTurn (.ListComp elt [⟨target, iter, ifs, 0⟩] scope pos) 0 it acc env).onRaise (fun x => do noteFrame x env; theTreesLotGoes x)) _ _ s
  refine wpAny_noted ?_
  rw [compTurn_list]
  refine wpAny_bind (wpAny_standAt (wpAny_bind (wpAny_mono (turn n s hI) (fun r s₁ h₁ => ?_) fun _ _ h' => h')))
  cases r with
  | none => exact wpAny_pure h₁
  | some v =>
    refine wpAny_bind (wpAny_mono h₁ (fun _ s₁' h₁' => ?_) fun _ _ h' => h')
    refine wpAny_bind (wpAny_mono h₁' (fun _ s₂ h₂ => wpAny_bind (wpAny_mono h₂ (fun ok s₃ h₃ => ?_) fun _ _ h' => h')) fun _ _ h' => h')
    cases ok with
    | false => exact wpAny_pure ⟨rfl, h₃⟩
    | true =>
      exact wpAny_bind (wpAny_bind (wpAny_mono h₃ (fun x s₄ h₄ => wpAny_bind (wpAny_mono h₄ (fun _ s₅ h₅ => wpAny_pure (wpAny_pure ⟨rfl, h₅⟩)) fun _ _ h' => h')) fun _ _ h' => h'))
section
variable {X : Cx}
def tLc (wi : TI) (g : TG) (tt : TT) (te : TE) (vs : List Nat) : TE := fun σ H Q => wi σ H fun J H1 => ∀ D, H1 D = none → ∃ W : Nat → Nat → Hp → Prop, (∃ m, W 0 m (upd H1 D (.lst []))) ∧ ∀ i m H, W i m H →
  (J.stop i H ∧ Q (.ref D) H) ∨ (J.go i H ∧ ∃ Nx : Hp → Prop, (∀ H', Nx H' → ∃ m', m' < m ∧ W (i + 1) m' H') ∧ ∀ x H', J.yld i H x H' → g x (wipe σ vs) H' fun σ2 H2 => wipe σ2 vs = wipe σ vs ∧ tt σ2 H2 fun b H3 =>
    if b = true then te σ2 H3 fun y H4 => ∃ acc, H4 D = some (.lst acc) ∧ acc.length < sizeLine ∧ Nx (upd H4 D (.lst (acc ++ [y]))) else Nx H3)
theorem lc_core {pins : List (Addr × Obj)} {s : Shared} {σ : St} {H : Hp} {Q : VK} {elt tg iter : Expr} {ifs : List Expr} {scope : Scope} {own : List (Str × Nat)} {pos pos' : Pos} {wi : TI} {g : TG} {tt : TT} {te : TE} {use : Option (Value → Sem Unit)} {Qf : Value → Shared → Prop}
    (hc : X.calm = true) (hN : X.N.Nodup) (I : Inv X pins σ H s) (hi : PI X tg iter wi) (ok : BlkOk X.N X.env.scope scope own)
    (hg : ∀ (s : Shared) (H : Hp) (C : Addr) (cl : List (Str × Addr)) (fp : List Addr), PG (X.blk s H scope (compEnvC scope cl C X.env) fp) tg g) (ht : ∀ (s : Shared) (H : Hp) (C : Addr) (cl : List (Str × Addr)) (fp : List Addr), PTs (X.blk s H scope (compEnvC scope cl C X.env) fp) ifs tt)
    (he : ∀ (s : Shared) (H : Hp) (C : Addr) (cl : List (Str × Addr)) (fp : List Addr), PE (X.blk s H scope (compEnvC scope cl C X.env) fp) elt te) (hs : ∀ x, foldedSetIterable iter X.env x = pure x)
    (h : tLc wi g tt te (own.map (·.2)) σ H Q)
    (hRR : ∀ D C s' m H', Inv X pins σ H' s' → Q (.ref D) H' → s'.heap.Ns C m → FpOk X pins H' C → compPost (model X.prog X.w) X.A X.xe use Qf (.ref D) C (.ok .next) s') :
    wpAny (model X.prog X.w) X.A (comprehension (.ListComp elt [⟨tg, iter, ifs, 0⟩] scope pos) scope X.env pos' (newList []) false (eval iter X.env) use) Qf X.xe s := by
  have hfree : ∀ y ∈ scope.names, y.2 = .free → ∃ c, X.env.cells.lookup y.1 = some c := fun y hy e => by
    rcases ok.free y hy e with k | k
    · exact I.ok.has _ (.inl k)
    · exact I.ok.has _ (.inr k)
  refine wpAny_comprehension_free (use := use) rfl hs (closure_ok hfree) ok.kind (fun y hy e => by rw [ok.uniq y hy, e])
    (thn (hi pins s σ H _ I h) fun xv s1 hx => thn hx fun itv s2 h2 => ?_)
  obtain ⟨it, fp, tn, J, H2, e, I2, T, st2, f2, q⟩ := h2
  subst e
  refine wpAny_newObj_type (newEnv_comp ?_) (by show 0 ≤ sizeLine; decide)
  generalize hD : s2.heap.objs.size = D
  have hDn : H2 D = none := I2.hok.fresh (Nat.le_of_eq hD)
  obtain ⟨W, ⟨m0, w0⟩, turn⟩ := q D hDn
  -- the new list
  generalize hs3 : ({ s2 with heap := s2.heap.push { cls := .type "list", data := .seq ([] : List Value).toArray } } : Shared) = s3
  have I3 : Inv X pins σ (upd H2 D (.lst [])) s3 := by
    rw [← hs3]
    refine I2.laid (t' := s2.toks) (fun b o e => Heap.get?_push_of_some _ e) (Nat.le_of_eq hD) ⟨Nat.zero_le _, [], 0, .nil, ?_⟩
    rw [← hD]
    exact Heap.get?_push_size _ rfl
  have h3 : s3.heap = s2.heap.push { cls := .type "list", data := .seq ([] : List Value).toArray } := by rw [← hs3]
  have sz : ∀ b ∈ fp, b < s2.heap.objs.size := fun b hb => by
    obtain ⟨o, e, _⟩ := T.obj _ _ st2 b hb
    exact Heap.lt_size e
  have f3 : ∀ b ∈ fp, FpOk X pins (upd H2 D (.lst [])) b ∧ b < s3.heap.objs.size := fun b hb => by
    have hlt := sz b hb
    refine ⟨⟨?_, (f2 b hb).2⟩, by rw [h3, Heap.size_push]; exact Nat.lt_succ_of_lt hlt⟩
    rw [upd_ne (by rw [← hD]; exact Nat.ne_of_lt hlt)]
    exact (f2 b hb).1
  have st3 : tn 0 s3.heap := T.keep _ _ _ st2 fun b _ o e => by rw [h3]; exact Heap.get?_push_of_some _ e
  have I4 := block_start I3 ok hN f3
  have pg := hg s3 (upd H2 D (.lst [])) s3.heap.objs.size (cellsFrom (s3.heap.objs.size + 1) scope.names (cloFrom X.env.cells scope.names [])) fp
  have pt := ht s3 (upd H2 D (.lst [])) s3.heap.objs.size (cellsFrom (s3.heap.objs.size + 1) scope.names (cloFrom X.env.cells scope.names [])) fp
  have pe := he s3 (upd H2 D (.lst [])) s3.heap.objs.size (cellsFrom (s3.heap.objs.size + 1) scope.names (cloFrom X.env.cells scope.names [])) fp
  show codeAny _ _ (.compStart (.ListComp elt [⟨tg, iter, ifs, 0⟩] scope pos) 0 (.ref it) (.ref D) (compEnvC scope (cellsFrom (s3.heap.objs.size + 1) scope.names (cloFrom X.env.cells scope.names [])) s3.heap.objs.size X.env)) (compPost (model X.prog X.w) X.A X.xe use Qf (.ref D) s3.heap.objs.size) { s3 with heap := pushCells (s3.heap.push { cls := .type "dict", data := .dict #[] }) scope.names }
  have nfp : ∀ b ∈ fp, (upd H2 D (.lst [])) b = none := fun b hb => (f3 b hb).1.1
  generalize hce : compEnvC scope (cellsFrom (s3.heap.objs.size + 1) scope.names (cloFrom X.env.cells scope.names [])) s3.heap.objs.size X.env = ce at I4 pg pt pe ⊢
  have cL : ce.locals = s3.heap.objs.size := by subst hce; rfl
  generalize hH3 : upd H2 D (.lst []) = H3 at I3 I4 pg pt pe w0 nfp f3
  generalize hs4 : ({ s3 with heap := pushCells (s3.heap.push { cls := .type "dict", data := .dict #[] }) scope.names } : Shared) = s4 at I4 ⊢
  have st4 : tn 0 s4.heap := T.keep _ _ _ st3 fun b _ o e => by rw [← hs4]; exact pushCells_keeps _ _ _ _ (Heap.get?_push_of_some _ e)
  have stat : ∀ {σ' : St} {H' : Hp} {s' : Shared}, Inv (X.blk s3 H3 scope ce fp) [] σ' H' s' → (∀ b ∈ fp, H' b = none) → ∀ b ∈ fp, FpOk (X.blk s3 H3 scope ce fp) [] H' b := fun {σ' H' s'} I' hn b hb =>
    ⟨hn b hb, (I'.ok.exf b hb).1, I'.ok.exfs b hb, .inl hb, fun x c e => (I'.ok.exf b hb).2 x c e, fun p hp => absurd (show p ∈ ([] : List (Addr × Obj)) ++ [] from hp) (by simp)⟩
  have loop : codeAny (model X.prog X.w) X.A (.compLoop (.ListComp elt [⟨tg, iter, ifs, 0⟩] scope pos) 0 (.ref it) (.ref D) ce) (compPost (model X.prog X.w) X.A X.xe use Qf (.ref D) s3.heap.objs.size) s4 := by
    refine compLoop_any (fun n s' => ∃ i H', Inv (X.blk s3 H3 scope ce fp) [] (wipe σ (own.map (·.2))) H' s' ∧ tn i s'.heap ∧ (∀ b ∈ fp, H' b = none) ∧ W i n H') ?_ m0 ⟨0, H3, I4, st4, nfp, w0⟩
    rintro n s5 ⟨i, H5, I5, st5, n5, w5⟩
    rcases turn i n H5 w5 with ⟨stop, qq⟩ | ⟨go, Nx, hNx, step⟩
    · have td := T.done (X.blk s3 H3 scope ce fp) rfl rfl rfl hc i [] s5 _ H5 (fun _ _ => False) I5 (stat I5 n5) st5 stop
      refine thnF td fun r s6 ⟨hr, I6⟩ => ?_
      subst hr
      -- back in the def's context
      have I7 : Inv X pins σ H5 s6 := I3.call' (ch := fp) I6.os I6.base I6.hok I6.bare fun b hb => ⟨(f3 b hb).1.2.2.2.1, (f3 b hb).1.2.1, (f3 b hb).1.2.2.2.2.1, (f3 b hb).1.2.2.2.2.2⟩
      have nC : H5 s3.heap.objs.size = none := by
        have z : H5 ce.locals = none := I6.free
        rw [cL] at z
        exact z
      obtain ⟨m, hn, _⟩ := I6.loc
      have hn : s6.heap.Ns ce.locals m := hn
      rw [cL] at hn
      exact hRR D s3.heap.objs.size s6 m H5 I7 qq hn (I3.fpOk (Nat.le_refl _) nC)
    · have ti := T.item (X.blk s3 H3 scope ce fp) rfl rfl rfl hc i [] s5 _ H5 (fun _ _ => False) I5 (stat I5 n5) st5 go
      refine thnF ti fun r s6 ⟨u, hr, h6⟩ => ?_
      subst hr
      refine thnF h6 fun _ s7 ⟨x, H7, I7, r7, y7, st7, n7⟩ => ?_
      have I7' := I7.pinned (stat I7 n7) (T.obj _ _ st7)
      refine thnF (pg _ s7 _ H7 x u _ I7' r7 (step x H7 y7)) fun _ s8 ⟨σ8, H8, I8, hw8, q8⟩ => ?_
      refine thnF (pt _ s8 σ8 H8 _ I8 q8) fun b s9 ⟨H9, I9, q9⟩ => ?_
      -- the turn's end
      have fin : ∀ {s' : Shared} {H' : Hp}, Inv (X.blk s3 H3 scope ce fp) ([] ++ pinsAt fp s7.heap) σ8 H' s' → Nx H' → ∃ m, m < n ∧ ∃ i H', Inv (X.blk s3 H3 scope ce fp) [] (wipe σ (own.map (·.2))) H' s' ∧ tn i s'.heap ∧ (∀ b ∈ fp, H' b = none) ∧ W i m H' := fun {s' H'} I' nx => by
        obtain ⟨m', hm, w'⟩ := hNx H' nx
        have pin' : ∀ b ∈ fp, ∀ o, s7.heap.get? b = some o → s'.heap.get? b = some o ∧ H' b = none := fun b hb o e =>
          let z := I'.pin (b, o) (List.mem_append_right _ (List.mem_append_right _ (mem_pinsAt hb e)))
          ⟨z.1, z.2.1⟩
        have hl : (wipe σ (own.map (·.2))).length = σ8.length := by rw [← hw8, wipe_length]
        refine ⟨m', hm, i + 1, H', (I'.unpinned (pins := [])).weak hl (fun j v e => ?_), T.keep _ _ _ st7 fun b hb o e => (pin' b hb o e).1, fun b hb => ?_, w'⟩
        · rw [← hw8] at e
          exact (wipe_some e).1
        · obtain ⟨o, e, _⟩ := T.obj _ _ st7 b hb
          exact (pin' b hb o e).2
      cases b with
      | false =>
        simp only [Bool.false_eq_true, if_false] at q9 ⊢
        exact fin I9 q9
      | true =>
        simp only [if_true] at q9 ⊢
        refine thnF (pe _ s9 σ8 H9 _ I9 q9) fun z s10 ⟨yv, H10, I10, r10, acc, hD10, hz10, nx⟩ => ?_
        exact app_ok (X := X.blk s3 H3 scope ce fp) I10 hD10 hz10 r10 fun s11 I11 => fin I11 nx
  exact codeAny_compStart_list loop (T.self X.A 0 _ _ _ st4 loop)
theorem pe_lc {elt tg iter : Expr} {ifs : List Expr} {scope : Scope} {own : List (Str × Nat)} {pos : Pos} {wi : TI} {g : TG} {tt : TT} {te : TE} (hc : X.calm = true) (hN : X.N.Nodup) (hi : PI X tg iter wi) (ok : BlkOk X.N X.env.scope scope own)
    (hg : ∀ (s : Shared) (H : Hp) (C : Addr) (cl : List (Str × Addr)) (fp : List Addr), PG (X.blk s H scope (compEnvC scope cl C X.env) fp) tg g) (ht : ∀ (s : Shared) (H : Hp) (C : Addr) (cl : List (Str × Addr)) (fp : List Addr), PTs (X.blk s H scope (compEnvC scope cl C X.env) fp) ifs tt)
    (he : ∀ (s : Shared) (H : Hp) (C : Addr) (cl : List (Str × Addr)) (fp : List Addr), PE (X.blk s H scope (compEnvC scope cl C X.env) fp) elt te) (hs : ∀ x, foldedSetIterable iter X.env x = pure x := by intro _; rfl) :
    PE X (.ListComp elt [⟨tg, iter, ifs, 0⟩] scope pos) (tLc wi g tt te (own.map (·.2))) := by
  intro pins s σ H Q I h
  rw [eval_ListComp]
  refine lc_core hc hN I hi ok hg ht he hs h fun D C s' m H' I' q hn f => ⟨m, hn, fun h'' sb => ?_⟩
  obtain ⟨f0, f1, f2, f3, f4, f5⟩ := f
  exact ⟨.ref D, H', I'.turned (t' := s'.toks) (fun b o hb e => (sb.2 b hb).trans e) f0 f1 f3 f4 f5, rfl, q⟩
theorem ps_setLc {i : Nat} {y : Str} {py : Pos} {elt tg iter : Expr} {ifs : List Expr} {scope : Scope} {own : List (Str × Nat)} {pos spos : Pos} {wi : TI} {g : TG} {tt : TT} {te : TE} (hc : X.calm = true) (hN : X.N.Nodup) (hy : X.N[i]? = some y) (hyl : X.env.scope.names.lookup y = some .local)
    (hsw : swapsWith (.ListComp elt [⟨tg, iter, ifs, 0⟩] scope pos) (some (.Name y py)) spos.line X.env = pure true) (hi : PI X tg iter wi) (ok : BlkOk X.N X.env.scope scope own)
    (hg : ∀ (s : Shared) (H : Hp) (C : Addr) (cl : List (Str × Addr)) (fp : List Addr), PG (X.blk s H scope (compEnvC scope cl C X.env) fp) tg g) (ht : ∀ (s : Shared) (H : Hp) (C : Addr) (cl : List (Str × Addr)) (fp : List Addr), PTs (X.blk s H scope (compEnvC scope cl C X.env) fp) ifs tt)
    (he : ∀ (s : Shared) (H : Hp) (C : Addr) (cl : List (Str × Addr)) (fp : List Addr), PE (X.blk s H scope (compEnvC scope cl C X.env) fp) elt te) (hs : ∀ x, foldedSetIterable iter X.env x = pure x := by intro _; rfl) :
    PS X (.Assign [.Name y py] (.ListComp elt [⟨tg, iter, ifs, 0⟩] scope pos) spos) (tAsg (tLc wi g tt te (own.map (·.2))) (gName i)) := by
  intro pins s σ H D I h
  rw [exec_Assign_Name_used _ _ _ _ hsw]
  refine wpAny_bind (wpAny_standAt (wpAny_bind ?_))
  show wpAny _ X.A (do let _ ← comprehension (.ListComp elt [⟨tg, iter, ifs, 0⟩] scope pos) scope X.env (firstIterPos [⟨tg, iter, ifs, 0⟩] pos) (newList []) false (eval iter X.env) (some (assign (.Name y py) X.env))) _ _ s
  have h : tLc wi g tt te (own.map (·.2)) σ H (fun x H1 => gName i x σ H1 D.nx) := h
  refine wpAny_bind (thn (lc_core (Qf := fun _ s' => SP X pins D .next s') hc hN I hi ok hg ht he hs h fun L C s' m H' I' q hn f => ?_) fun _ s' hq => wpAny_pure (wpAny_pure hq))
  show wpAny _ _ (assign (.Name y py) X.env (.ref L)) _ _ _
  refine wpAny_assign_Name (store_ok2 (v := V.ref L) I' hN hy (.inl hyl) rfl (fun s2 I2 ⟨a, sb, ha⟩ => ?_) (.inr hyl))
  obtain ⟨f0, f1, f2, f3, f4, f5⟩ := f
  have haC : C ≠ a := by
    rcases ha with z | z
    · rw [z]; exact f1
    · exact fun e => f4 y a z e.symm
  refine ⟨m, hn.sameBut sb haC, fun h3 sb3 => ?_⟩
  exact ⟨_, H', I2.turned (t' := s2.toks) (fun b o hb e => (sb3.2 b hb).trans e) f0 f1 f3 f4 f5, q⟩
theorem sw_true {elt : Expr} {gs : List Comprehension} {scope : Scope} {pos py : Pos} {y : Str} {l : Nat} {env : Env} (hk : env.scope.kind = .function) (hy : env.scope.names.lookup y = some .local) (hl : (py.line == pos.line) = true)
    (ha : (scope.names.any fun (n, k) => n == y && (k == .local || k == .cell)) = false) : swapsWith (.ListComp elt gs scope pos) (some (.Name y py)) l env = pure true := by
  have ky : env.kindOf y = some .local := hy
  have hb : env.blockKind = .function := by unfold Env.blockKind; rw [hk]; rfl
  unfold swapsWith
  simp only [hb, ky, ha, Expr.pos, hl]
  rfl
end
theorem lc_range {lo : Int} {n : Nat} {g : TG} {tt : TT} {te : TE} {vs : List Nat} {σ : St} {H1 : Hp} {D : Addr} {Qd : Hp → Prop} (Pv : Nat → Hp → Prop) (h0 : Pv 0 (upd H1 D (.lst [])))
    (hs : ∀ i H, i < n → Pv i H → g (.int (lo + i)) (wipe σ vs) H fun σ2 H2 => wipe σ2 vs = wipe σ vs ∧ tt σ2 H2 fun b H3 =>
      if b = true then te σ2 H3 fun y H4 => ∃ acc, H4 D = some (.lst acc) ∧ acc.length < sizeLine ∧ Pv (i + 1) (upd H4 D (.lst (acc ++ [y]))) else Pv (i + 1) H3) (hd : ∀ H, Pv n H → Qd H) :
    ∃ W : Nat → Nat → Hp → Prop, (∃ m, W 0 m (upd H1 D (.lst []))) ∧ ∀ i m H, W i m H →
      ((Itr lo n).stop i H ∧ Qd H) ∨ ((Itr lo n).go i H ∧ ∃ Nx : Hp → Prop, (∀ H', Nx H' → ∃ m', m' < m ∧ W (i + 1) m' H') ∧ ∀ x H', (Itr lo n).yld i H x H' → g x (wipe σ vs) H' fun σ2 H2 => wipe σ2 vs = wipe σ vs ∧ tt σ2 H2 fun b H3 =>
        if b = true then te σ2 H3 fun y H4 => ∃ acc, H4 D = some (.lst acc) ∧ acc.length < sizeLine ∧ Nx (upd H4 D (.lst (acc ++ [y]))) else Nx H3) := by
  refine ⟨fun i m H => m = n - i ∧ i ≤ n ∧ Pv i H, ⟨n, by simp, Nat.zero_le _, h0⟩, ?_⟩
  rintro i m H ⟨rfl, hi, p⟩
  by_cases hlt : i < n
  · refine .inr ⟨hlt, Pv (i + 1), fun H' p' => ⟨n - (i + 1), by omega, rfl, hlt, p'⟩, fun x H' y => ?_⟩
    obtain ⟨e, y⟩ := y
    subst e y
    exact hs i _ hlt p
  · have e : i = n := by omega
    subst e
    exact .inl ⟨Nat.le_refl _, hd H p⟩
theorem lc_list {K : PySem.W.Frag} {a : Addr} {xs : List V} {g : TG} {tt : TT} {te : TE} {vs : List Nat} {σ : St} {H1 : Hp} {D : Addr} {Qd : Hp → Prop} (Pv : Nat → Hp → Prop) (h0 : Pv 0 (upd H1 D (.lst []))) (hl : ∀ i H, i ≤ xs.length → Pv i H → SqL K H a xs)
    (hs : ∀ i x H, xs[i]? = some x → Pv i H → g x (wipe σ vs) H fun σ2 H2 => wipe σ2 vs = wipe σ vs ∧ tt σ2 H2 fun b H3 =>
      if b = true then te σ2 H3 fun y H4 => ∃ acc, H4 D = some (.lst acc) ∧ acc.length < sizeLine ∧ Pv (i + 1) (upd H4 D (.lst (acc ++ [y]))) else Pv (i + 1) H3) (hd : ∀ H, Pv xs.length H → Qd H) :
    ∃ W : Nat → Nat → Hp → Prop, (∃ m, W 0 m (upd H1 D (.lst []))) ∧ ∀ i m H, W i m H →
      ((Itl K a).stop i H ∧ Qd H) ∨ ((Itl K a).go i H ∧ ∃ Nx : Hp → Prop, (∀ H', Nx H' → ∃ m', m' < m ∧ W (i + 1) m' H') ∧ ∀ x H', (Itl K a).yld i H x H' → g x (wipe σ vs) H' fun σ2 H2 => wipe σ2 vs = wipe σ vs ∧ tt σ2 H2 fun b H3 =>
        if b = true then te σ2 H3 fun y H4 => ∃ acc, H4 D = some (.lst acc) ∧ acc.length < sizeLine ∧ Nx (upd H4 D (.lst (acc ++ [y]))) else Nx H3) := by
  refine ⟨fun i m H => m = xs.length - i ∧ i ≤ xs.length ∧ Pv i H, ⟨xs.length, by simp, Nat.zero_le _, h0⟩, ?_⟩
  rintro i m H ⟨rfl, hi, p⟩
  have q := hl i H hi p
  by_cases hlt : i < xs.length
  · refine .inr ⟨⟨xs, xs[i], q, by simp [hlt]⟩, Pv (i + 1), fun H' p' => ⟨xs.length - (i + 1), by omega, rfl, hlt, p'⟩, fun x H' y => ?_⟩
    obtain ⟨e, y⟩ := y
    subst e
    exact hs i x _ (y xs q) p
  · have e : i = xs.length := by omega
    subst e
    exact .inl ⟨⟨xs, q, Nat.le_refl _⟩, hd H p⟩
theorem lc_tup {K : PySem.W.Frag} {a : Addr} {xs : List V} {g : TG} {tt : TT} {te : TE} {vs : List Nat} {σ : St} {H1 : Hp} {D : Addr} {Qd : Hp → Prop} (Pv : Nat → Hp → Prop) (h0 : Pv 0 (upd H1 D (.lst []))) (hl : ∀ i H, i ≤ xs.length → Pv i H → SqT K H a xs)
    (hs : ∀ i x H, xs[i]? = some x → Pv i H → g x (wipe σ vs) H fun σ2 H2 => wipe σ2 vs = wipe σ vs ∧ tt σ2 H2 fun b H3 =>
      if b = true then te σ2 H3 fun y H4 => ∃ acc, H4 D = some (.lst acc) ∧ acc.length < sizeLine ∧ Pv (i + 1) (upd H4 D (.lst (acc ++ [y]))) else Pv (i + 1) H3) (hd : ∀ H, Pv xs.length H → Qd H) :
    ∃ W : Nat → Nat → Hp → Prop, (∃ m, W 0 m (upd H1 D (.lst []))) ∧ ∀ i m H, W i m H →
      ((Itt K a).stop i H ∧ Qd H) ∨ ((Itt K a).go i H ∧ ∃ Nx : Hp → Prop, (∀ H', Nx H' → ∃ m', m' < m ∧ W (i + 1) m' H') ∧ ∀ x H', (Itt K a).yld i H x H' → g x (wipe σ vs) H' fun σ2 H2 => wipe σ2 vs = wipe σ vs ∧ tt σ2 H2 fun b H3 =>
        if b = true then te σ2 H3 fun y H4 => ∃ acc, H4 D = some (.lst acc) ∧ acc.length < sizeLine ∧ Nx (upd H4 D (.lst (acc ++ [y]))) else Nx H3) := by
  refine ⟨fun i m H => m = xs.length - i ∧ i ≤ xs.length ∧ Pv i H, ⟨xs.length, by simp, Nat.zero_le _, h0⟩, ?_⟩
  rintro i m H ⟨rfl, hi, p⟩
  have q := hl i H hi p
  by_cases hlt : i < xs.length
  · refine .inr ⟨⟨xs, xs[i], q, by simp [hlt]⟩, Pv (i + 1), fun H' p' => ⟨xs.length - (i + 1), by omega, rfl, hlt, p'⟩, fun x H' y => ?_⟩
    obtain ⟨e, y⟩ := y
    subst e
    exact hs i x _ (y xs q) p
  · have e : i = xs.length := by omega
    subst e
    exact .inl ⟨⟨xs, q, Nat.le_refl _⟩, hd H p⟩
def blkC (N : List Str) (sc scope : Scope) (own : List (Str × Nat)) : Bool :=
  (match scope.kind with | .function => true | _ => false) && (scope.names.all fun y => decide (scope.names.lookup y.1 = some y.2)) && (own.all fun p => decide (N[p.2]? = some p.1)) &&
    (scope.names.all fun y => match y.2 with
      | .free => (match sc.names.lookup y.1 with | some .cell => true | some .free => true | _ => false)
      | .local => decide (y.1 ∈ own.map (·.1)) || decide (y.1 ∉ N)
      | .cell => decide (y.1 ∈ own.map (·.1)) || decide (y.1 ∉ N)
      | _ => true)
theorem blkOk_by {N : List Str} {sc scope : Scope} {own : List (Str × Nat)} (h : blkC N sc scope own = true) : BlkOk N sc scope own := by
  unfold blkC at h
  simp only [Bool.and_eq_true, List.all_eq_true, decide_eq_true_eq] at h
  obtain ⟨⟨⟨h1, h2⟩, h3⟩, h4⟩ := h
  refine ⟨?_, h2, h3, fun y hy e => ?_, fun y hy e => ?_⟩
  · split at h1
    · assumption
    · cases h1
  · have q := h4 y hy
    simp only [e] at q
    split at q <;> first | exact .inl (by assumption) | exact .inr (by assumption) | cases q
  · have q := h4 y hy
    rcases e with e | e <;> (simp only [e, Bool.or_eq_true, decide_eq_true_eq] at q; exact q)
end L2
namespace L2
open PySem PySem.Spec PyProof.Rows
section
variable {prog : Program} {w : World} {A : Around} {R : Result → Shared → Prop} {s : Shared} {elt t0 i0 t1 i1 : Expr} {ifs0 ifs1 : List Expr} {scope : Scope} {pos : Pos} {it acc : Value} {env : Env}
end
section
variable {X : Cx}
end
end L2
namespace L2
open PySem PySem.Spec PyProof.Rows
section
variable {κ : Type} [DecidableEq κ]
end
section
variable {P : Program} {w : World} {H : Hp} {h : Heap} {a : Addr}
end
section
variable {X : Cx} {pins : List (Addr × Obj)} {σ : St} {H : Hp} {s : Shared} {a : Addr} {y v : V} {u r : Value} {o : Option V} {A : Around} {E : Value → Shared → Prop}
end
section
variable {X : Cx} {pins : List (Addr × Obj)} {σ : St} {H : Hp} {s : Shared} {a : Addr} {kvs : List (Key × V)} {k : Key} {u : Value} {A : Around} {E : Value → Shared → Prop}
end
section
variable {X : Cx} {o i e value : Expr} {pos pos' tpos : Pos} {td ty tv : TE}
end
section
variable {X : Cx} {pos : Pos}
end
section
variable {X : Cx} {pins : List (Addr × Obj)} {σ : St} {H : Hp} {s : Shared} {a : Addr} {y d : V} {u r : Value} {o : Option V} {A : Around} {E : Value → Shared → Prop}
end
section
variable {X : Cx} {o e f : Expr} {apos cpos : Pos} {td ty tx : TE}
end
section
variable {X : Cx} {pins : List (Addr × Obj)} {σ : St} {H : Hp} {s : Shared} {a : Addr} {kvs : List (Key × V)} {A : Around} {E : Value → Shared → Prop}
end
section
variable {X : Cx} {pins : List (Addr × Obj)} {σ : St} {H : Hp} {s : Shared} {a : Addr} {y : V} {u : Value} {A : Around} {E : Value → Shared → Prop}
end
end L2
namespace L2
open PySem PySem.Spec PyProof.Rows
section
variable {prog : Program} {w : World} {A : Around} {E : Value → Shared → Prop}
end
section
variable {X : Cx}
end
end L2
namespace L2
open PySem PySem.Spec PyProof.Rows
theorem boot_reversed5 : bootBuiltins "reversed" = some (.type "reversed") := by decide +kernel
section
variable {X : Cx} {pins : List (Addr × Obj)} {σ : St} {H : Hp} {s : Shared} {h' : Heap}
theorem Inv.turnedNew {t' : Nat} {ch : List Addr} {T : Addr} {ob : HO} (I : Inv X pins σ H s) (k : ∀ b o, b ∉ ch → s.heap.get? b = some o → h'.get? b = some o) (hf : ∀ b ∈ ch, FpOk X pins H b) (hT : s.heap.objs.size ≤ T)
    (new : ObjOk X.prog X.w (upd H T ob) h' T ob) : Inv X pins σ (upd H T ob) { s with heap := h', toks := t' } := by
  have hn : H T = none := I.hok.fresh hT
  have nit : ∀ b u, H b = some u → b ∉ ch := fun b u e z => by
    have q := (hf b z).1
    rw [q] at e; cases e
  refine I.step (g' := s.gens) (d' := s.drawn) (ch := ch) (fun b hb => ⟨(hf b hb).2.2.2.1, (hf b hb).2.1, (hf b hb).2.2.2.2.1, (hf b hb).2.2.2.2.2⟩) (fun b o _ _ hc e _ => k b o hc e) (fun b o _ _ hc e _ => ⟨o.slots, k b o hc e⟩)
    (fun b o _ e n => ?_) (fun b o hc e => ⟨o, k b o hc e⟩) (fun b xs e => ?_) (fun b o u e => ?_) (fun b ps e => ⟨#[], ?_⟩) (fun m hm => ?_) (fun b u e => ?_) I.bare
  · rw [upd_ne (Nat.ne_of_lt (Nat.lt_of_lt_of_le (Heap.lt_size e) hT))]; exact n
  · rw [upd_ne (ne_of_none e hn)]; exact e
  · rw [upd_ne (ne_of_none e hn)]; exact e
  · rw [upd_ne (ne_of_none e hn), e]; simp
  · obtain ⟨o, es, ep, ho, r⟩ := hm
    exact ⟨o, es, ep, k _ o (fun z => (hf _ z).2.1 rfl) ho, r⟩
  · by_cases hb : b = T
    · subst hb
      rw [upd_same] at e
      cases e
      exact new
    · rw [upd_ne hb] at e
      refine (I.hok b u e).stay (fun c v hc q => k c v ?_ q) (fun c q => by rw [upd_ne (ne_of_none q hn)]; exact q) fun c xs q => by rw [upd_ne (ne_of_none q hn)]; exact q
      rcases hc with z | z
      · rw [z]; exact nit b u e
      · exact nit c _ z
theorem Inv.lock {d : Addr} {u : HO} (I : Inv X pins σ H s) (h : H d = some u) (mu : Mut (some u)) : ∃ od, Inv X pins σ (upd H d (.frz od u)) s := by
  have x := I.hok d u h
  have ex : ∃ od, s.heap.get? d = some od := by
    cases u with
    | lst xs => obtain ⟨_, _, _, _, e⟩ := x; exact ⟨_, e⟩
    | dK kvs => obtain ⟨_, _, _, _, o, _, _, e, _⟩ := x; exact ⟨o, e⟩
    | dT kvs => obtain ⟨_, _, _, _, o, _, _, e, _⟩ := x; exact ⟨o, e⟩
    | set S n => obtain ⟨o, _, _, _, e, _⟩ := x; exact ⟨o, e⟩
    | ins C dx fs => obtain ⟨_, _, _, e, _⟩ := x; exact ⟨_, e⟩
    | ext φ => obtain ⟨_, ⟨_, e⟩, _⟩ := x; exact ⟨_, e⟩
    | _ => exact False.elim mu
  obtain ⟨od, e⟩ := ex
  have new : ObjOk X.prog X.w (upd H d (.frz od u)) s.heap d (.frz od u) := by
    refine ⟨e, x.stay (fun b v _ q => q) (fun b q => ?_) fun b xs q => ?_⟩
    · rw [upd_ne (fun z => by rw [z, h] at q; cases q; exact mu)]; exact q
    · rw [upd_ne (fun z => by rw [z, h] at q; cases q; exact mu)]; exact q
  exact ⟨od, I.write (x := d) (e := d) (t' := s.toks) (h' := s.heap) (by rw [h]; exact mu) (.inl rfl) (fun b v _ q => q) ⟨od, e⟩ new⟩
theorem Inv.nofrz {d : Addr} {u : HO} (I : Inv X pins σ H s) (h : H d = some u) (mu : Mut (some u)) : ∀ o' u', X.H_0 d ≠ some (.frz o' u') := fun o' u' e => by
  have q := I.base.frzs d o' u' e
  rw [h] at q
  cases q
  exact mu
theorem Inv.unlock {d : Addr} {od : Obj} {u : HO} (I : Inv X pins σ H s) (h : H d = some (.frz od u)) (hn : ∀ o' u', X.H_0 d ≠ some (.frz o' u')) : Inv X pins σ (upd H d u) s := by
  have neH : ∀ b o, H b = some o → (∀ o' u', o ≠ .frz o' u') → b ≠ d := fun b o e hne z => by
    rw [z, h] at e
    cases e
    exact hne _ _ rfl
  have neN : ∀ b, H b = none → b ≠ d := fun b e z => by rw [z, h] at e; cases e
  refine ⟨I.ok, I.os, I.bare, ⟨I.base.keep, I.base.slot, fun b o e n hx => ?_, I.base.there, fun b xs e => ?_, fun b o x e => ?_, fun b ps e => ?_⟩, I.loc, I.cell, ?_, fun x c e => ?_, fun p hp => ?_, fun b o e => ?_, I.len⟩
  · rw [upd_ne (neN b (I.base.free b o e n hx))]; exact I.base.free b o e n hx
  · have q := I.base.tups b xs e
    rw [upd_ne (neH b _ q (fun _ _ z => nomatch z))]; exact q
  · have q := I.base.frzs b o x e
    rw [upd_ne (fun z => by rw [z] at e; exact hn _ _ e)]; exact q
  · obtain ⟨m, q⟩ := I.base.tbls b ps e
    exact ⟨m, by rw [upd_ne (neH b _ q (fun _ _ z => nomatch z))]; exact q⟩
  · rw [upd_ne (neN _ I.free)]; exact I.free
  · rw [upd_ne (neN c (I.freeC x c e))]; exact I.freeC x c e
  · obtain ⟨e, n, r⟩ := I.pin p hp
    exact ⟨e, by rw [upd_ne (neN _ n)]; exact n, r⟩
  · by_cases hb : b = d
    · rw [hb, upd_same] at e
      cases e
      rw [hb]
      obtain ⟨_, x⟩ := I.hok d _ h
      exact x.stay (fun c v _ q => q) (fun c q => by rw [upd_ne (neH c _ q (fun _ _ z => nomatch z))]; exact q) fun c xs q => by rw [upd_ne (neH c _ q (fun _ _ z => nomatch z))]; exact q
    · rw [upd_ne hb] at e
      exact (I.hok b o e).stay (fun c v _ q => q) (fun c q => by rw [upd_ne (neH c _ q (fun _ _ z => nomatch z))]; exact q) fun c xs q => by rw [upd_ne (neH c _ q (fun _ _ z => nomatch z))]; exact q
end
def tLock (t : TS) : TS := fun D σ H => ∃ d u, H d = some u ∧ Mut (some u) ∧ ∀ od, t ⟨fun σ' H' => H' d = some (.frz od u) ∧ D.nx σ' (upd H' d u), fun v H' => H' d = some (.frz od u) ∧ D.rt v (upd H' d u), fun σ' H' => H' d = some (.frz od u) ∧ D.bk σ' (upd H' d u), fun σ' H' => H' d = some (.frz od u) ∧ D.ct σ' (upd H' d u)⟩ σ (upd H d (.frz od u))
def tLockE (t : TE) : TE := fun σ H Q => ∃ d u, H d = some u ∧ Mut (some u) ∧ ∀ od, t σ (upd H d (.frz od u)) fun v H' => H' d = some (.frz od u) ∧ Q v (upd H' d u)
section
variable {X : Cx}
theorem ps_lock {st : Stmt} {t : TS} (h : PS X st t) : PS X st (tLock t) := by
  intro pins s σ H D I hw
  obtain ⟨d, u, hd, mu, hw⟩ := hw
  obtain ⟨od, I1⟩ := I.lock hd mu
  refine thn (h pins s σ _ _ I1 (hw od)) fun f s1 q => ?_
  cases f with
  | next => obtain ⟨σ', H', I2, e, q⟩ := q; exact ⟨σ', _, I2.unlock e (I.nofrz hd mu), q⟩
  | brk => obtain ⟨σ', H', I2, e, q⟩ := q; exact ⟨σ', _, I2.unlock e (I.nofrz hd mu), q⟩
  | cont => obtain ⟨σ', H', I2, e, q⟩ := q; exact ⟨σ', _, I2.unlock e (I.nofrz hd mu), q⟩
  | ret v => obtain ⟨x, σ', H', I2, r, e, q⟩ := q; exact ⟨x, σ', _, I2.unlock e (I.nofrz hd mu), r, q⟩
theorem pe_lock {e : Expr} {t : TE} (h : PE X e t) : PE X e (tLockE t) := by
  intro pins s σ H Q I hw
  obtain ⟨d, u, hd, mu, hw⟩ := hw
  obtain ⟨od, I1⟩ := I.lock hd mu
  refine thn (h pins s σ _ _ I1 (hw od)) fun v s1 ⟨x, H1, I2, r, e2, q⟩ => ?_
  exact ⟨x, _, I2.unlock e2 (I.nofrz hd mu), r, q⟩
theorem pi_one {tg : Expr} {pins : List (Addr × Obj)} {σ : St} {H : Hp} {s : Shared} {R : It → Hp → Prop} {J : It} {tn : Nat → Heap → Prop} {tk : Nat} (I : Inv X pins σ H s) (o : Obj)
    (T : Turn X.prog X.w X.K tg J [s.heap.objs.size] s.heap.objs.size tn) (st : tn 0 (s.heap.push o)) (q : R J H) : PIE X pins σ tg R (.ref s.heap.objs.size) { s with heap := s.heap.push o, toks := tk } := by
  refine ⟨s.heap.objs.size, [s.heap.objs.size], tn, J, H, rfl, I.kept fun b ob e => Heap.get?_push_of_some _ e, T, st, fun b hb => ?_, q⟩
  have e : b = s.heap.objs.size := by simpa using hb
  subst e
  exact I.fpOk (Nat.le_refl _) (I.hok.fresh (Nat.le_refl _))
end
def Itc (lo c : Int) (n : Nat) : It := ⟨fun i _ => i < n, fun i H x H' => H' = H ∧ x = .int (lo + (i : Nat) * c), fun i _ => n ≤ i⟩
theorem turn_rangeC {P : Program} {w : World} {K : PySem.W.Frag} {tg : Expr} (it : Addr) (lo c : Int) (n : Nat) : Turn P w K tg (Itc lo c n) [it] it (fun i h => IsRangeIter h it (lo + (i : Nat) * c) ((n : Int) - (i : Nat)) c) where
  mem := by simp
  obj := fun i h st b hb => by
    have e : b = it := by simpa using hb
    subst e
    exact ⟨_, st, fun v z => nomatch z⟩
  keep := fun i h h' st k => k it (by simp) _ st
  item := by
    intro X hP hw hK hc i pins s σ H E I hf st hg
    subst hP hw hK
    obtain ⟨f0, f1, f2, f3, f4, f5⟩ := hf it (by simp)
    have W := Walks.range (prog := X.prog) (w := X.w) (I.ok.hd hc) it lo c n
    refine W.item i s _ _ hg st fun v h' tk hv st' kk => ?_
    obtain ⟨t, rfl⟩ := hv
    have I1 : Inv X pins σ H { s with heap := h', toks := tk } := I.turned (fun b o hb e => kk b o (by simpa using hb) e) f0 f1 f3 f4 f5
    exact ⟨_, rfl, go_of (s := { s with heap := h', toks := tk }) (n := "range_iterator") st' rfl rfl (by decide) ⟨.int (lo + (i : Nat) * c), H, I1, ⟨t, rfl⟩, ⟨rfl, rfl⟩, st', fun b hb => (hf b hb).1⟩⟩
  done := by
    intro X hP hw hK hc i pins s σ H E I hf st hg
    subst hP hw hK
    obtain ⟨f0, f1, f2, f3, f4, f5⟩ := hf it (by simp)
    exact wpAny_pyNext_range_end (I.ok.hd hc) st (by have : n ≤ i := hg; omega) fun h' eb => ⟨rfl, I.turned (t' := s.toks) (fun b o hb e => eb b o hb e) f0 f1 f3 f4 f5⟩
  self := fun A i s Q E st h => wpAny_pyIter_rangeiter st h
def RgC (i j c : Int) (n : Nat) : Prop := c ≠ 0 ∧ c.natAbs < 1073741824 ∧ Builtin.Range.small i j c = true ∧ Builtin.Range.rangeSize i j c = n
theorem RgC.neg {i j : Int} (ha : -(2 ^ 62) ≤ i) (ha' : i < 2 ^ 62) (hb : -(2 ^ 62) ≤ j) (hb' : j < 2 ^ 62) : RgC i j (-1) (i - j).toNat :=
  ⟨by decide, by decide, PySem.W.small_down ha ha' hb hb', PySem.W.rangeSize_downNat i j⟩
def iRng3 (ta : TA) : TI := fun σ H R => ta σ H fun vs H1 => ∃ (i j c : Int) (n : Nat), vs = [.int i, .int j, .int c] ∧ RgC i j c n ∧ R (Itc i c n) H1
section
variable {X : Cx} {tg : Expr}
theorem pi_range3 {a b c : Expr} {ta : TA} {p pos : Pos} (hg : Gl X "range") (hm : X.mg "range" = none) (ha : PA X [a, b, c] ta)
    (hs : starEach [a, b, c] X.env = (false, eval a X.env) :: starEach [b, c] X.env := by rfl) (hpl : (backTo pos (starEach [b, c] X.env)).any (·.1) = false := by rfl) :
    PI X tg (.Call (.Name "range" p) [a, b, c] [] pos) (iRng3 ta) := by
  intro pins s σ H R I h
  refine Call_ (ld_blt I hg hm boot_range (PyProof.Rows.callWith_type1 (thn (ha pos pins s σ H _ I h) fun us s1 ⟨vs, H1, I1, r1, q1⟩ => ?_) hs hpl))
  obtain ⟨i, j, k, n, e, ⟨c0, c1, c2, c3⟩, q⟩ := q1
  subst e
  cases r1 with
  | cons r rr =>
    cases rr with
    | cons r' rr =>
      cases rr with
      | cons r'' rr =>
        cases rr
        obtain ⟨t, rfl⟩ := r
        obtain ⟨t', rfl⟩ := r'
        obtain ⟨t'', rfl⟩ := r''
        refine call_range_3 c0 ?_ (.inl (PyProof.noPylong_small c1))
        refine wpAny_pyIter_range (IsRange.new ..) c2 ?_
        have I2 : Inv X pins σ H1 { s1 with heap := s1.heap.push { cls := .type "range", data := .fields #[.int i t, .int j t', .int k t''] } } := I1.kept (t' := s1.toks) fun b o e => Heap.get?_push_of_some _ e
        refine pi_one (tk := s1.toks) I2 _ (turn_rangeC _ i k n) ?_ q
        have e1 : i + ((0 : Nat) : Int) * k = i := by simp
        have e2 : (n : Int) - ((0 : Nat) : Int) = Builtin.Range.rangeSize i j k := by rw [c3]; simp
        show IsRangeIter _ _ (i + ((0 : Nat) : Int) * k) ((n : Int) - ((0 : Nat) : Int)) k
        rw [e1, e2]
        exact Heap.get?_push_size _ rfl
end
theorem for_rangeC {lo c : Int} {n : Nat} {g : TG} {tb : TS} {D : Ends} {σ : St} {H : Hp} (Pv : Nat → St → Hp → Prop) (h0 : Pv 0 σ H)
    (hs : ∀ i σ H, i < n → Pv i σ H → g (.int (lo + (i : Nat) * c)) σ H fun σ2 H2 => tb { D with nx := Pv (i + 1), ct := Pv (i + 1), bk := D.nx } σ2 H2) (hd : ∀ σ H, Pv n σ H → D.nx σ H) :
    ∃ W : Nat → Nat → St → Hp → Prop, (∃ m, W 0 m σ H) ∧ ∀ i m σ H, W i m σ H →
      ((Itc lo c n).stop i H ∧ D.nx σ H) ∨ ((Itc lo c n).go i H ∧ ∃ N : St → Hp → Prop, (∀ σ' H', N σ' H' → ∃ m', m' < m ∧ W (i + 1) m' σ' H') ∧ ∀ x H', (Itc lo c n).yld i H x H' → g x σ H' fun σ2 H2 => tb { D with nx := N, ct := N, bk := D.nx } σ2 H2) := by
  refine ⟨fun i m σ H => m = n - i ∧ i ≤ n ∧ Pv i σ H, ⟨n, by simp, Nat.zero_le _, h0⟩, ?_⟩
  rintro i m σ H ⟨rfl, hi, p⟩
  by_cases hlt : i < n
  · refine .inr ⟨hlt, Pv (i + 1), fun σ' H' p' => ⟨n - (i + 1), by omega, rfl, hlt, p'⟩, fun x H' y => ?_⟩
    obtain ⟨e, y⟩ := y
    subst e y
    exact hs i σ _ hlt p
  · have e : i = n := by omega
    subst e
    exact .inl ⟨Nat.le_refl _, hd σ H p⟩
def Itv (K : PySem.W.Frag) (a : Addr) (n : Nat) : It :=
  ⟨fun i H => i < n ∧ ∃ (xs : List V) (x : V), SqL K H a xs ∧ xs[n - 1 - i]? = some x, fun i H x H' => H' = H ∧ ∀ xs, SqL K H a xs → xs[n - 1 - i]? = some x, fun i _ => n ≤ i⟩
theorem turn_rev {P : Program} {w : World} {K : PySem.W.Frag} {tg : Expr} (a it : Addr) (n : Nat) : Turn P w K tg (Itv K a n) [it] it (fun i h => i ≤ n ∧ h.IsRevIter it a ((n : Int) - 1 - (i : Nat))) where
  mem := by simp
  obj := fun i h st b hb => by
    have e : b = it := by simpa using hb
    subst e
    obtain ⟨_, o, e, c, d⟩ := st
    exact ⟨o, e, fun v z => by rw [d] at z; cases z⟩
  keep := fun i h h' st k => ⟨st.1, st.2.at fun o e => k it (by simp) o e⟩
  item := by
    intro X hP hw hK hc i pins s σ H E I hf st hg
    subst hP hw hK
    obtain ⟨hin, xs, x, hq, hx⟩ := hg
    obtain ⟨its, rv, p, hz⟩ := I.list hq
    obtain ⟨u, hu, ru⟩ := rv.get hx
    obtain ⟨f0, f1, f2, f3, f4, f5⟩ := hf it (by simp)
    obtain ⟨_, hit⟩ := st
    have e1 : (n : Int) - 1 - ((i : Nat) : Int) = ((n - 1 - i : Nat) : Int) := by omega
    rw [e1] at hit
    refine wpAny_pyNext_rev_item hit p.isList (x := u) (by simpa using hu) fun h' st' sb => ?_
    have e2 : ((n - 1 - i : Nat) : Int) - 1 = (n : Int) - 1 - ((i + 1 : Nat) : Int) := by omega
    rw [e2] at st'
    have I1 : Inv X pins σ H { s with heap := h' } := I.turned (t' := s.toks) (fun b o hb e => (sb.2 b hb).trans e) f0 f1 f3 f4 f5
    obtain ⟨o, e, c, d⟩ := id st'
    exact ⟨u, rfl, go_of (s := { s with heap := h' }) e c d (by decide) ⟨x, H, I1, ru, ⟨rfl, fun ys hy => by rw [I.list_inj hy hq]; exact hx⟩, ⟨hin, st'⟩, fun b hb => (hf b hb).1⟩⟩
  done := by
    intro X hP hw hK hc i pins s σ H E I hf st hg
    subst hP hw hK
    obtain ⟨f0, f1, f2, f3, f4, f5⟩ := hf it (by simp)
    obtain ⟨hin, hit⟩ := st
    have hge : n ≤ i := hg
    have e1 : (n : Int) - 1 - ((i : Nat) : Int) = -1 := by omega
    rw [e1] at hit
    exact wpAny_pyNext_rev_end (I.ok.hd hc) hit fun h' eb => ⟨rfl, I.turned (t' := s.toks) (fun b o hb e => eb b o hb e) f0 f1 f3 f4 f5⟩
  self := fun A i s Q E st h => wpAny_pyIter_revIter st.2 h
def iRev (K : PySem.W.Frag) (ta : TA) : TI := fun σ H R => ta σ H fun vs H1 => ∃ (a : Addr) (xs : List V), vs = [.ref a] ∧ SqL K H1 a xs ∧ R (Itv K a xs.length) H1
section
variable {X : Cx} {tg : Expr}
theorem pi_reversed {e : Expr} {ta : TA} {p pos : Pos} (hg : Gl X "reversed") (hm : X.mg "reversed" = none) (ha : PA X [e] ta) (hs : starEach [e] X.env = [(false, eval e X.env)] := by rfl) : PI X tg (.Call (.Name "reversed" p) [e] [] pos) (iRev X.K ta) := by
  intro pins s σ H R I h
  refine Call_ (ld_blt I hg hm boot_reversed5 (PyProof.Rows.callWith_type1 (thn (ha pos pins s σ H _ I h) fun us s1 ⟨vs, H1, I1, r1, q1⟩ => ?_) hs rfl))
  obtain ⟨a, xs, e, hq, q⟩ := q1
  subst e
  cases r1 with
  | cons r rr =>
    cases rr
    cases r
    obtain ⟨its, rv, p', hz⟩ := I1.list hq
    have hl := rv.length
    have e1 : ((its.toArray.size : Nat) : Int) - 1 = (xs.length : Int) - 1 - ((0 : Nat) : Int) := by simp only [List.size_toArray]; omega
    refine call_reversed_list p'.isList (wpAny_pyIter_revIter (l := a) (i := ((its.toArray.size : Nat) : Int) - 1) ⟨_, Heap.get?_push_size _ rfl, rfl, rfl⟩ ?_)
    refine pi_one (tk := s1.toks) I1 _ (turn_rev a _ xs.length) ⟨Nat.zero_le _, ?_⟩ q
    rw [← e1]
    exact ⟨_, Heap.get?_push_size _ rfl, rfl, rfl⟩
end
def Its (x : Str) : It := ⟨fun i _ => i < x.cps.size, fun i H v H' => H' = H ∧ ∃ c, x.cps[i]? = some c ∧ v = .str ⟨#[c]⟩, fun i _ => x.cps.size ≤ i⟩
theorem turn_str {P : Program} {w : World} {K : PySem.W.Frag} {tg : Expr} (it : Addr) (x : Str) (t : Tok) (ty : String) (hty : ty = "str_ascii_iterator" ∨ ty = "str_iterator") :
    Turn P w K tg (Its x) [it] it (fun i h => h.IsStrIter it ty x t i) where
  mem := by simp
  obj := fun i h st b hb => by
    have e : b = it := by simpa using hb
    subst e
    obtain ⟨o, e, c, d⟩ := st
    exact ⟨o, e, fun v z => by rw [d] at z; cases z⟩
  keep := fun i h h' st k => let ⟨o, ho, r⟩ := st; ⟨o, k it (by simp) o ho, r⟩
  item := by
    intro X hP hw hK hc i pins s σ H E I hf st hg
    subst hP hw hK
    obtain ⟨f0, f1, f2, f3, f4, f5⟩ := hf it (by simp)
    have W : Walks X.prog X.w X.A it [it] [it] x.cps.size (SignAt x) (fun i h => h.IsStrIter it ty x t i) := by
      rcases hty with e | e
      · rw [e]; exact Walks.strAscii (I.ok.hd hc) it x t
      · rw [e]; exact Walks.strWide (I.ok.hd hc) it x t
    have hno : ["enumerate", "zip", "dict_itemiterator", "dict_reverseitemiterator", "odict_iterator", "itertools.zip_longest", "itertools.pairwise"].contains ty = false := by
      rcases hty with e | e
      · rw [e]; decide
      · rw [e]; decide
    refine W.item i s _ _ hg st fun v h' tk hv st' kk => ?_
    obtain ⟨c, u, hcx, rfl⟩ := hv
    have I1 : Inv X pins σ H { s with heap := h', toks := tk } := I.turned (fun b o hb e => kk b o (by simpa using hb) e) f0 f1 f3 f4 f5
    obtain ⟨oi, e, cc, dd⟩ := id st'
    exact ⟨_, rfl, go_of (s := { s with heap := h', toks := tk }) e cc dd hno ⟨.str ⟨#[c]⟩, H, I1, ⟨u, rfl⟩, ⟨rfl, c, hcx, rfl⟩, st', fun b hb => (hf b hb).1⟩⟩
  done := by
    intro X hP hw hK hc i pins s σ H E I hf st hg
    subst hP hw hK
    obtain ⟨f0, f1, f2, f3, f4, f5⟩ := hf it (by simp)
    have hx : x.cps[i]? = none := Array.getElem?_eq_none hg
    rcases hty with e | e
    · rw [e] at st
      exact wpAny_pyNext_ascii_end (I.ok.hd hc) st hx fun h' eb => ⟨rfl, I.turned (t' := s.toks) (fun b o hb e => eb b o hb e) f0 f1 f3 f4 f5⟩
    · rw [e] at st
      exact wpAny_pyNext_wide_end (I.ok.hd hc) st hx fun h' eb => ⟨rfl, I.turned (t' := s.toks) (fun b o hb e => eb b o hb e) f0 f1 f3 f4 f5⟩
  self := fun A i s Q E st h => by
    rcases hty with e | e
    · rw [e] at st; exact wpAny_pyIter_striter_ascii st h
    · rw [e] at st; exact wpAny_pyIter_striter_wide st h
def iStr (te : TE) : TI := fun σ H R => te σ H fun v H1 => ∃ x, v = .str x ∧ R (Its x) H1
theorem pi_str {X : Cx} {tg e : Expr} {te : TE} (he : PE X e te) : PI X tg e (iStr te) := by
  intro pins s σ H R I h
  refine thn (he pins s σ H _ I h) fun v s1 ⟨y, H1, I1, r1, x, ex, q⟩ => ?_
  subst ex
  obtain ⟨t, rfl⟩ := r1
  cases ha : x.cps.all (· < 128)
  · exact wpAny_pyIter_wide ha (pi_one (tk := s1.toks) I1 _ (turn_str _ x t "str_iterator" (.inr rfl)) ⟨_, Heap.get?_push_size _ rfl, rfl, rfl⟩ q)
  · exact wpAny_pyIter_ascii ha (pi_one (tk := s1.toks) I1 _ (turn_str _ x t "str_ascii_iterator" (.inl rfl)) ⟨_, Heap.get?_push_size _ rfl, rfl, rfl⟩ q)
section
variable {prog : Program} {w : World} {A : Around} {E : Value → Shared → Prop} {s : Shared}
end
section
variable {X : Cx} {pins : List (Addr × Obj)} {σ : St} {H : Hp} {s : Shared} {d : Addr} {o : Obj}
end
section
variable {P : Program} {w : World} {K : PySem.W.Frag} {tg : Expr} {d : Addr} {o : Obj} {es : Array DictEntry} {ep : Nat}
end
section
variable {X : Cx} {tg e : Expr} {td : TE} {apos cpos : Pos}
end
def Ite (K : PySem.W.Frag) (a : Addr) : It :=
  ⟨fun i H => ∃ (xs : List V) (x : V), SqL K H a xs ∧ xs[i]? = some x, fun i H v H' => ∃ T x, v = .ref T ∧ H T = none ∧ H' = upd H T (.tup [.int (i : Nat), x]) ∧ ∀ xs, SqL K H a xs → xs[i]? = some x, fun i H => ∃ xs : List V, SqL K H a xs ∧ xs.length ≤ i⟩
theorem turn_enum {P : Program} {w : World} {K : PySem.W.Frag} {elts : List Expr} {kk : Nat} {tpos : Pos} (a e it : Addr) :
    Turn P w K (.Tuple elts kk tpos) (Ite K a) [e, it] e (fun i h => (∃ old, IsEnum h e it ((i : Nat) : Int) old) ∧ h.IsListIter it a i ∧ e ≠ it) where
  mem := by simp
  obj := fun i h st b hb => by
    obtain ⟨⟨old, he⟩, ⟨o, ho, hc, hd⟩, _⟩ := st
    have e' : b = e ∨ b = it := by simpa using hb
    rcases e' with z | z
    · rw [z]; exact ⟨_, he, fun v q => nomatch q⟩
    · rw [z]; exact ⟨o, ho, fun v q => by rw [hd] at q; cases q⟩
  keep := fun i h h' st k => let ⟨⟨old, he⟩, hi, hne⟩ := st; ⟨⟨old, k e (by simp) _ he⟩, hi.at fun o q => k it (by simp) o q, hne⟩
  item := by
    intro X hP hw hK hc i pins s σ H E I hf st hg
    subst hP hw hK
    obtain ⟨⟨old, he⟩, hit, hne⟩ := st
    obtain ⟨xs, x, hq, hx⟩ := hg
    obtain ⟨its, rv, p, hz⟩ := I.list hq
    obtain ⟨u, hu, ru⟩ := rv.get hx
    have hel : e < s.heap.objs.size := Heap.lt_size he
    have hil : it < s.heap.objs.size := by obtain ⟨_, q, _⟩ := hit; exact Heap.lt_size q
    refine wpAny_pyNext_enum_item he hit p.isList (x := u) (by simpa using hu) hne fun h' ho hit' hT hsz hk => ?_
    refine ⟨_, rfl, wpAny_letOwnedTupleGo_enum (s := { s with heap := h', toks := s.toks + 1 }) ho fun h'' he' sb => ?_⟩
    have hT2 : h''.get? s.heap.objs.size = some { cls := .type "tuple", data := .seq #[.int i s.toks, u] } := (sb.2 _ (Nat.ne_of_gt hel)).trans hT
    have new : ObjOk X.prog X.w (upd H s.heap.objs.size (.tup [.int (i : Nat), x])) h'' s.heap.objs.size (.tup [.int (i : Nat), x]) :=
      ⟨by show 2 ≤ sizeLine; decide, [.int i s.toks, u], .cons ⟨_, rfl⟩ (.cons ru .nil), ⟨_, hT2, rfl, _, rfl⟩⟩
    have I1 : Inv X pins σ (upd H s.heap.objs.size (.tup [.int (i : Nat), x])) { s with heap := h'', toks := s.toks + 1 } :=
      I.turnedNew (ch := [e, it]) (fun b ob hb q => (sb.2 b (fun z => hb (by simp [z]))).trans (hk b ob (fun z => hb (by simp [z])) (fun z => hb (by simp [z])) q)) hf (Nat.le_refl _) new
    refine ⟨.ref s.heap.objs.size, _, I1, rfl, ⟨_, x, rfl, I.hok.fresh (Nat.le_refl _), rfl, fun ys hy => by rw [I.list_inj hy hq]; exact hx⟩, ⟨⟨u, ?_⟩, hit'.at fun o q => (sb.2 it (Ne.symm hne)).trans q, hne⟩, fun b hb => ?_⟩
    · have e1 : ((i + 1 : Nat) : Int) = (i : Int) + 1 := by omega
      rw [e1]; exact he'
    · have hb' : b < s.heap.objs.size := by
        have e' : b = e ∨ b = it := by simpa using hb
        rcases e' with z | z
        · rw [z]; exact hel
        · rw [z]; exact hil
      rw [upd_ne (Nat.ne_of_lt hb')]
      exact (hf b hb).1
  done := by
    intro X hP hw hK hc i pins s σ H E I hf st hg
    subst hP hw hK
    obtain ⟨⟨old, he⟩, hit, hne⟩ := st
    obtain ⟨xs, hq, hx⟩ := hg
    obtain ⟨its, rv, p, hz⟩ := I.list hq
    obtain ⟨f0, f1, f2, f3, f4, f5⟩ := hf it (by simp)
    have hl := rv.length
    exact wpAny_pyNext_enum_end (I.ok.hd hc) he hit p.isList (by simp; omega) fun h' eb => ⟨rfl, I.turned (t' := s.toks) (fun b o hb q => eb b o hb q) f0 f1 f3 f4 f5⟩
  self := fun A i s Q E st h => let ⟨⟨_, he⟩, _⟩ := st; wpAny_pyIter_enum he h
def iEnum (K : PySem.W.Frag) (ta : TA) : TI := fun σ H R => ta σ H fun vs H1 => ∃ a xs, vs = [.ref a] ∧ SqL K H1 a xs ∧ R (Ite K a) H1
theorem pi_enum {X : Cx} {e : Expr} {ta : TA} {p pos tpos : Pos} {elts : List Expr} {kk : Nat} (hg : Gl X "enumerate") (hm : X.mg "enumerate" = none) (ha : PA X [e] ta) (hs : starEach [e] X.env = [(false, eval e X.env)] := by rfl) :
    PI X (.Tuple elts kk tpos) (.Call (.Name "enumerate" p) [e] [] pos) (iEnum X.K ta) := by
  intro pins s σ H R I h
  refine Call_ (ld_blt I hg hm boot_enumerate (PyProof.Rows.callWith_type1 (thn (ha pos pins s σ H _ I h) fun us s1 ⟨vs, H1, I1, r1, q1⟩ => ?_) hs rfl))
  obtain ⟨a, xs, ex, hq, q⟩ := q1
  subst ex
  cases r1 with
  | cons r rr =>
    cases rr
    cases r
    obtain ⟨its, rv, p', hz⟩ := I1.list hq
    refine call_enumerate_list p'.isList fun h' he hit hsz hk => wpAny_pyIter_enum he ?_
    have I2 : Inv X pins σ H1 { s1 with heap := h' } := I1.kept (t' := s1.toks) hk
    refine ⟨s1.heap.objs.size + 1, [s1.heap.objs.size + 1, s1.heap.objs.size], _, _, H1, rfl, I2, turn_enum a (s1.heap.objs.size + 1) s1.heap.objs.size, ⟨⟨.none, he⟩, hit, Nat.succ_ne_self _⟩, fun b hb => ?_, q⟩
    have e' : b = s1.heap.objs.size + 1 ∨ b = s1.heap.objs.size := by simpa using hb
    have hle : s1.heap.objs.size ≤ b := by
      rcases e' with z | z
      · rw [z]; exact Nat.le_add_right _ _
      · rw [z]; exact Nat.le_refl _
    exact I1.fpOk hle (I1.hok.fresh hle)
end L2
section 
namespace Bits
open PySem PyProof.Rows
end Bits
end 
section 
namespace TL
open PySem PySem.Builtin PySem.Builtin.Str PySem.StrLaws
abbrev tl (x : Str) : List Nat := x.cps.toList
theorem len_tl (x : Str) : x.length = (tl x).length := by simp [tl, Str.length]
def numL (n : Nat) : List Nat := (Nat.toDigits 10 n).map Char.toNat
theorem tl_num (n : Nat) : tl (Str.ofString (toString ((n : Nat) : Int))) = numL n := PySem.W.KIN.signs_num n
theorem digitChar_nat : ∀ d : Nat, d < 10 → (Nat.digitChar d).toNat = 48 + d := by decide
theorem numL_lt {n : Nat} (h : n < 10) : numL n = [48 + n] := by
  unfold numL
  rw [Nat.toDigits_of_lt_base h]
  show [(Nat.digitChar n).toNat] = _
  rw [digitChar_nat n h]
theorem numL_step {n : Nat} (h : 10 ≤ n) : numL n = numL (n / 10) ++ [48 + n % 10] := by
  have hm : n % 10 < 10 := Nat.mod_lt n (by decide)
  have t : Nat.toDigits 10 (n / 10) ++ Nat.toDigits 10 (n % 10) = Nat.toDigits 10 (10 * (n / 10) + n % 10) := Nat.toDigits_append_toDigits (by decide) (by omega) hm
  rw [Nat.div_add_mod] at t
  show (Nat.toDigits 10 n).map Char.toNat = _
  rw [← t, List.map_append, Nat.toDigits_of_lt_base hm]
  show (Nat.toDigits 10 (n / 10)).map Char.toNat ++ [(Nat.digitChar (n % 10)).toNat] = _
  rw [digitChar_nat _ hm] <;> rfl
theorem numL_digits (n : Nat) : NumText.AllDigits (numL n) := by
  induction n using Nat.strongRecOn with
  | _ n ih =>
    by_cases h : n < 10
    · rw [numL_lt h]
      intro c hc
      rw [List.mem_singleton.mp hc]
      omega
    · rw [numL_step (by omega)]
      intro c hc
      rcases List.mem_append.mp hc with hc | hc
      · exact ih (n / 10) (by omega) c hc
      · have hm : n % 10 < 10 := Nat.mod_lt n (by decide)
        rw [List.mem_singleton.mp hc]
        omega
theorem numL_free {n s : Nat} (h : s < 48 ∨ 57 < s) : s ∉ numL n := fun hm => by
  have r := numL_digits n s hm
  omega
end TL
end 
namespace L2
open PySem PySem.Spec PyProof.Rows
section
variable {X : Cx} {pins : List (Addr × Obj)} {σ : St} {H : Hp} {s : Shared} {Q : VK}
end
section
variable {X : Cx}
end
section
variable {X : Cx} {o e : Expr} {to te : TE}
def tM1 (r : V → List V → Hp → VK → Prop) (to te : TE) : TE := fun σ H Q => to σ H fun x H1 => (∃ a, x = .str a) ∧ te σ H1 fun y H2 => r x [y] H2 Q
theorem pe_m1 {id : String} {name : Str} {apos pos : Pos} {r : V → List V → Hp → VK → Prop} (slot : Slot "str" name id) (ty : typeOf (.builtin id) = pure (.type "method_descriptor")) (rule : MtR X id r) (ho : PE X o to) (he : PE X e te)
    (hs : starEach [e] X.env = [(false, eval e X.env)] := by rfl) (hbase : attributeBase o name X.env (eval o X.env) = eval o X.env := by rfl) (hline : (apos.endLine == pos.line) = true := by rfl) :
    PE X (.Call (.Attribute o name apos) [e] [] pos) (tM1 r to te) := by
  intro pins s σ H Q I h
  refine PySem.Call_method1 hbase hs hline (thn (ho pins s σ H _ I h) fun v s1 ⟨x, H1, I1, r1, q1⟩ => ?_)
  obtain ⟨⟨a, rfl⟩, q1⟩ := q1
  obtain ⟨t, rfl⟩ := _root_.id r1
  refine ⟨"str", _, F.plainAttrs_str, slot, ty, typeIs_str _ _ _, (fun _ e => nomatch e), Calls.callWith_builtin rfl (Calls.evalArgs_plain (Calls.spliced_cons ?_))⟩
  exact thn (he pins s1 σ H1 _ I1 q1) fun u s2 ⟨y, H2, I2, r2, q2⟩ => Calls.spliced_nil (rule pins s2 σ H2 _ [y] _ [u] Q I2 r1 (.cons r2 .nil) q2)
end
end L2
namespace L2
open PySem PySem.Spec PyProof.Rows
section
variable {X : Cx}
end
end L2
namespace Att
open PySem PySem.W PySem.Calls PyProof.Rows
section
variable {prog : Program} {w : World} {A : Around} {E : Value → Shared → Prop} {s : Shared} {K : Frag}
end
end Att
namespace L2
open PySem PySem.Spec PyProof.Rows
end L2
namespace L2
open PySem PySem.Spec PyProof.Rows
end L2
namespace L2
open PySem PySem.Spec PyProof.Rows
def inClass (s : Stmt) (j : Nat) : Stmt := match s with
  | .ClassDef _ _ _ body _ _ _ _ _ _ _ => body.getD j (.Pass ⟨0, 0, 0, 0⟩)
  | _ => .Pass ⟨0, 0, 0, 0⟩
def defArgs (s : Stmt) : Arguments := match s with
  | .FunctionDef _ a _ _ _ _ _ _ _ _ => a
  | _ => { posonlyargs := [], args := [], vararg := none, kwonlyargs := [], kw_defaults := [], kwarg := none, defaults := [] }
def defBody (s : Stmt) : List Stmt := match s with
  | .FunctionDef _ _ b _ _ _ _ _ _ _ => b
  | _ => []
def defScope (s : Stmt) : Scope := match s with
  | .FunctionDef _ _ _ _ _ _ sc _ _ _ => sc
  | _ => { kind := .function, names := [], isGenerator := false, isCoroutine := false }
abbrev CX0 : CXT := fun _ _ _ _ _ _ => False
abbrev E0 : XK := fun _ _ _ => False
theorem pass0 {X : Cx} : Passes CX0 X E0 := fun _ _ _ _ _ _ _ h => h.elim
structure Fun (K : PySem.W.Frag) (x qual : Str) (st : Stmt) (f : Addr) (fd : FuncData) : Prop where
  ex : ∃ (oc : Value) (od : Option Addr) (kV doc pm : Value) (an : Option Addr) (cdv ct : Value) (osl : Array (Option Value)),
    fd = PySem.W.fnOf x qual (defArgs st) (defBody st) (defScope st) .none kV doc pm an cdv ct ∧ K.lookup f = some ⟨oc, od, .func fd, osl⟩ ∧ PySem.W.codeIn K cdv qual = true
  kp : PySem.W.keepIn K (.ref f) = true
section
variable {P : Program} {w : World} {K : PySem.W.Frag} {mg : Str → Option Value} {base : Heap}
theorem Fun.ok {x qual : Str} {st : Stmt} {f : Addr} {fd : FuncData} {N ps : List Str} {k : Nat} {sp : Sp} (F : Fun K x qual st f fd) (S : FnScope N ps (defScope st)) (len : ∀ vs H Q E, sp vs H Q E → vs.length = ps.length)
    (hbody : ∀ (cdv : Value) (A : Around) (outer : List Env) (s : Shared) (H : Hp) (vs : List V) (Q : VK) (E : XK), Room k (A.deeper (envOfC qual (defScope st) s.heap.objs.size f cdv)) → sp vs H Q E →
      ∃ t, PSs (cxOf CX0 P w K mg base N qual (defScope st) f cdv A outer s H E).nox (defBody st) t ∧ t { nx := fun _ H' => Q .non H', rt := Q } (start N vs) H) : FnOk P w K mg base CX0 (k + 1) f fd ps sp := by
  obtain ⟨oc, od, kV, doc, pm, an, cdv, ct, osl, rfl, lk, hcd⟩ := F.ex
  refine fn_of lk hcd S len fun A outer s H vs Q E hr hsp => ?_
  obtain ⟨t, h, q⟩ := hbody cdv A outer s H vs Q E hr hsp
  exact ⟨t, h.nox, q⟩
theorem Fun.binds {x qual : Str} {st : Stmt} {f : Addr} {fd : FuncData} {ps : List Str} (F : Fun K x qual st f fd)
    (h : ∀ (kV doc pm : Value) (an : Option Addr) (cdv ct : Value) (us : List Value), us.length = ps.length → bindArgs (PySem.W.fnOf x qual (defArgs st) (defBody st) (defScope st) .none kV doc pm an cdv ct) ⟨us, []⟩ = pure (ps.zip us)) : Binds K fd ps [] := by
  obtain ⟨oc, od, kV, doc, pm, an, cdv, ct, osl, rfl, lk, hcd⟩ := F.ex
  exact .all (h kV doc pm an cdv ct)
theorem fun_mk {x qual : Str} {st : Stmt} {f : Addr} {oc : Value} {od an : Option Addr} {osl : Array (Option Value)} {kV doc pm cdv ct : Value} (l : K.lookup f = some ⟨oc, od, .func (PySem.W.fnOf x qual (defArgs st) (defBody st) (defScope st) .none kV doc pm an cdv ct), osl⟩)
    (c : PySem.W.codeIn K cdv qual = true) (k : PySem.W.keepIn K (.ref f) = true) : Fun K x qual st f (PySem.W.fnOf x qual (defArgs st) (defBody st) (defScope st) .none kV doc pm an cdv ct) := ⟨⟨oc, od, kV, doc, pm, an, cdv, ct, osl, rfl, l, c⟩, k⟩
end
section
variable {X : Cx}
theorem pv (i : Nat) {x : Str} {pos : Pos} (hN : X.N[i]? = some x := by rfl) (hv : Vis X.env.scope x := by first | exact Or.inl rfl | exact Or.inr (Or.inl rfl) | exact Or.inr (Or.inr rfl)) (hd : (x == ("__debug__" : Str)) = false := by decide)
    (hcd : (x == ("__classdict__" : Str)) = false := by decide) : PE X (.Name x pos) (tVar i) := pe_var hN hv hd hcd
end
theorem iteF {A B : Prop} (h : B) : if false = true then A else B := by
  rw [if_neg Bool.false_ne_true]
  exact h
theorem iteT {A B : Prop} (h : A) : if true = true then A else B := by
  rw [if_pos rfl]
  exact h
theorem ite2 {c A B : Prop} [Decidable c] (h1 : c → A) (h2 : ¬ c → B) : if c then A else B := by
  by_cases h : c
  · rw [if_pos h]
    exact h1 h
  · rw [if_neg h]
    exact h2 h
theorem iteNS {c A B : Prop} [Decidable c] (hc : c) (h : B) : if (!decide c) = true then A else B := by
  rw [decide_eq_true hc]
  exact iteF h
def Same (H H' : Hp) : Prop := ∀ b o, H b = some o → H' b = some o
theorem Same.refl (H : Hp) : Same H H := fun _ _ h => h
theorem Same.trans {H H1 H2 : Hp} (a : Same H H1) (b : Same H1 H2) : Same H H2 := fun c o h => b c o (a c o h)
theorem Same.free {H H' : Hp} (e : Same H H') {l : Addr} (h : H' l = Option.none) : H l = Option.none := by
  cases q : H l with
  | none => rfl
  | some o =>
    rw [e l o q] at h
    cases h
theorem Same.seq {K : PySem.W.Frag} {H H' : Hp} {a : Addr} {xs : List V} (e : Same H H') (h : SqL K H a xs) : SqL K H' a xs := by
  rcases h with (h | ⟨o, h⟩) | h
  · exact .inl (.inl (e _ _ h))
  · exact .inl (.inr ⟨o, e _ _ h⟩)
  · exact .inr h
section
variable {κ : Type} [DecidableEq κ]
end
theorem at_of {xs : List V} {z : Int} {j : Nat} {v : V} (e : z = (j : Int)) (h : xs[j]? = some v) : atI xs z = some v := by
  rw [e]
  exact atI_nat h
end L2
section
set_option Elab.async false
set_option linter.all false
set_option maxRecDepth 100000
set_option maxHeartbeats 2000000
namespace L2
open PySem PySem.Spec PyProof.Rows
open PySem.W (WData Codec OpenSpec Well WellAll ReadsW ReadsAllW)
mutual
/-- x stands for the datum d, lists and tuples all the way -/
inductive Dw (K : PySem.W.Frag) (H : Hp) : V → WData → Prop
  | non : Dw K H .non .none
  | bl (b : Bool) : Dw K H (.bl b) (.bool b)
  | int (i : Int) : Dw K H (.int i) (.int i)
  | str (x : Str) : Dw K H (.str x) (.str x)
  | byt (b : Array UInt8) : Dw K H (.byt b) (.bytes b.toList)
  | lst {a : Addr} {xs : List V} {ds : List WData} : SqL K H a xs → DwAll K H xs ds → Dw K H (.ref a) (.list ds)
  | tup {a : Addr} {xs : List V} {ds : List WData} : SqT K H a xs → DwAll K H xs ds → Dw K H (.ref a) (.tuple ds)
inductive DwAll (K : PySem.W.Frag) (H : Hp) : List V → List WData → Prop
  | nil : DwAll K H [] []
  | cons {v : V} {vs : List V} {d : WData} {ds : List WData} : Dw K H v d → DwAll K H vs ds → DwAll K H (v :: vs) (d :: ds)
end
theorem dw_ints {K : PySem.W.Frag} {H : Hp} : ∀ ns : List Int, DwAll K H (ns.map V.int) (ns.map WData.int)
  | [] => .nil
  | n :: r => .cons (.int n) (dw_ints r)
theorem ints_dw {K : PySem.W.Frag} {H : Hp} : ∀ (ns : List Int) (xs : List V), DwAll K H xs (ns.map WData.int) → xs = ns.map V.int
  | [], xs, h => by
    cases h
    rfl
  | n :: r, xs, h => by
    cases h with
    | cons h1 h2 =>
      cases h1
      rw [ints_dw r _ h2] <;> rfl
section
variable {P : Program} {w : World} {K : PySem.W.Frag} {H : Hp} {h : Heap} {R : PySem.W.WRecords} {cl : Str → Option Addr}
theorem sqL_at {a : Addr} {xs : List V} (hok : HOk P w H h) (KX : K.In h) (q : SqL K H a xs) : ∃ (its : List Value) (o : Obj) (n : Nat), Vals xs its ∧ h.get? a = some o ∧ o.cls = .type "list" ∧ o.data = .seq its.toArray n := by
  rcases q with q | ⟨o, its, n, e, hc, _, hd, _, hv⟩
  · obtain ⟨_, its, n, hv, e⟩ := (show ObjOk P w H h a (.lst xs) from q.ok hok)
    exact ⟨its, _, n, hv, e, rfl, rfl⟩
  · exact ⟨its.toList, o, n, hv, KX _ _ e, hc, by simp [hd]⟩
theorem sqT_at {a : Addr} {xs : List V} (hok : HOk P w H h) (KX : K.In h) (q : SqT K H a xs) : ∃ (its : List Value) (o : Obj) (n : Nat), Vals xs its ∧ h.get? a = some o ∧ o.cls = .type "tuple" ∧ o.data = .seq its.toArray n := by
  rcases q with q | ⟨o, its, n, e, hc, hd, _, hv⟩
  · obtain ⟨_, its, hv, o, e, hc, n, hd⟩ := (show ObjOk P w H h a (.tup xs) from q.ok hok)
    exact ⟨its, o, n, hv, e, hc, hd⟩
  · exact ⟨its.toList, o, n, hv, KX _ _ e, hc, by simp [hd]⟩
mutual
theorem Dw.reads (hok : HOk P w H h) (KX : K.In h) : ∀ (d : WData) (v : V) (u : Value), Dw K H v d → RelV v u → ∃ as, ReadsW R cl h u d as
  | .none, _, _, x, r => by
    cases x
    cases r
    exact ⟨_, ReadsW.none⟩
  | .bool b, _, _, x, r => by
    cases x
    cases r
    exact ⟨_, ReadsW.bool b⟩
  | .int i, _, _, x, r => by
    cases x
    obtain ⟨t, rfl⟩ := r
    exact ⟨_, ReadsW.int i t⟩
  | .str s, _, _, x, r => by
    cases x
    obtain ⟨t, rfl⟩ := r
    exact ⟨_, ReadsW.str s t⟩
  | .bytes b, _, _, x, r => by
    cases x
    obtain ⟨t, rfl⟩ := r
    exact ⟨_, ReadsW.bytes _ t⟩
  | .list ds, _, _, x, r => by
    cases x with
    | lst hs ha =>
      cases r
      obtain ⟨its, o, n, rv, ho, hc, hd⟩ := sqL_at hok KX hs
      obtain ⟨as, hr⟩ := Dw.readsAll hok KX ds _ its ha rv
      exact ⟨_, ReadsW.list ho hc hd hr⟩
  | .tuple ds, _, _, x, r => by
    cases x with
    | tup hs ha =>
      cases r
      obtain ⟨its, o, n, rv, ho, hc, hd⟩ := sqT_at hok KX hs
      obtain ⟨as, hr⟩ := Dw.readsAll hok KX ds _ its ha rv
      exact ⟨_, ReadsW.tuple ho hc hd hr⟩
  | .float _, _, _, x, _ => by cases x
  | .dict _, _, _, x, _ => by cases x
  | .bytearray _, _, _, x, _ => by cases x
  | .set _, _, _, x, _ => by cases x
  | .frozenset _, _, _, x, _ => by cases x
  | .obj _ _, _, _, x, _ => by cases x
theorem Dw.readsAll (hok : HOk P w H h) (KX : K.In h) : ∀ (ds : List WData) (vs : List V) (us : List Value), DwAll K H vs ds → Vals vs us → ∃ as, ReadsAllW R cl h us ds as
  | [], _, _, x, r => by
    cases x
    cases r
    exact ⟨_, ReadsAllW.nil⟩
  | d :: ds, _, _, x, r => by
    cases x with
    | cons h1 h2 =>
      cases r with
      | cons r1 r2 =>
        obtain ⟨as, q1⟩ := Dw.reads hok KX d _ _ h1 r1
        obtain ⟨bs, q2⟩ := Dw.readsAll hok KX ds _ _ h2 r2
        exact ⟨_, ReadsAllW.cons q1 q2⟩
end
end
mutual
/-- data that a codec tells -/
def plW : WData → Bool
  | .none => true
  | .bool _ => true
  | .int _ => true
  | .str _ => true
  | .bytes _ => true
  | .list xs => plWs xs
  | .tuple xs => plWs xs
  | _ => false
def plWs : List WData → Bool
  | [] => true
  | x :: r => plW x && plWs r
end
theorem plWs_map {α : Type} {f : α → WData} (h : ∀ a, plW (f a) = true) : ∀ l : List α, plWs (l.map f) = true
  | [] => rfl
  | x :: r => by
    show (plW (f x) && plWs (r.map f)) = true
    rw [h x, plWs_map h r] <;> rfl
theorem pl_enc : ∀ (c : Codec) (a : c.denote), plW (c.enc a) = true
  | .unit, _ => rfl
  | .bool, _ => rfl
  | .int _ _, _ => rfl
  | .nat _ _, _ => rfl
  | .u8, _ => rfl
  | .bytes _ _, _ => rfl
  | .text _ _ _ _, _ => rfl
  | .list _ _ c, a => plWs_map (fun x => pl_enc c x) a
  | .pair c d, a => by
    show (plW (c.enc a.1) && (plW (d.enc a.2) && true)) = true
    rw [pl_enc c a.1, pl_enc d a.2] <;> rfl
  | .triple c d e, a => by
    show (plW (c.enc a.1) && (plW (d.enc a.2.1) && (plW (e.enc a.2.2) && true))) = true
    rw [pl_enc c a.1, pl_enc d a.2.1, pl_enc e a.2.2] <;> rfl
  | .option c, none => rfl
  | .option c, some x => pl_enc c x
theorem pl_encAll : ∀ (cs : List Codec) (a : Codec.denoteAll cs), plWs (Codec.encAll cs a) = true
  | [], _ => rfl
  | c :: cs, a => by
    show (plW (c.enc a.1) && plWs (Codec.encAll cs a.2)) = true
    rw [pl_enc c a.1, pl_encAll cs a.2] <;> rfl
theorem weight_mem : ∀ {xs : List WData} {d : WData}, d ∈ xs → d.weight ≤ WData.weightAll xs
  | [], d, h => absurd h (by simp)
  | x :: r, d, h => by
    show d.weight ≤ x.weight + 1 + WData.weightAll r
    rcases List.mem_cons.mp h with e | m
    · rw [e]
      omega
    · have z := weight_mem m
      omega
def toV : Value → V
  | .none => .non
  | .bool b => .bl b
  | .int i _ => .int i
  | .str x _ => .str x
  | .bytes b _ => .byt b
  | .ref a => .ref a
  | _ => .non
def OkU (A : List Addr) : Value → Prop
  | .none => True
  | .bool _ => True
  | .int _ _ => True
  | .str _ _ => True
  | .bytes _ _ => True
  | .ref a => a ∈ A
  | _ => False
theorem OkU.mono {A B : List Addr} (h : ∀ a ∈ A, a ∈ B) : ∀ {u : Value}, OkU A u → OkU B u := fun {u} x => by
  cases u with
  | ref a => exact h a x
  | none => trivial
  | bool b => trivial
  | int i t => trivial
  | str s t => trivial
  | bytes b t => trivial
  | _ => exact False.elim x
theorem relV_toV {A : List Addr} {u : Value} (x : OkU A u) : RelV (toV u) u := by
  cases u with
  | ref a => rfl
  | none => rfl
  | bool b => rfl
  | int i t => exact ⟨t, rfl⟩
  | str s t => exact ⟨t, rfl⟩
  | bytes b t => exact ⟨t, rfl⟩
  | _ => exact False.elim x
theorem vals_toV {A : List Addr} : ∀ {vs : List Value}, (∀ u ∈ vs, OkU A u) → Vals (vs.map toV) vs
  | [], _ => .nil
  | u :: r, h => .cons (relV_toV (h u (List.mem_cons_self ..))) (vals_toV fun x hx => h x (List.mem_cons_of_mem _ hx))
def ArgOb (h : Heap) (A : List Addr) (a : Addr) : Prop := ∃ vs : List Value, vs.length ≤ sizeLine ∧ (∀ u ∈ vs, OkU A u) ∧
  (h.get? a = some { cls := .type "list", data := .seq vs.toArray } ∨ h.get? a = some { cls := .type "tuple", data := .seq vs.toArray })
theorem ArgOb.mono {h : Heap} {A B : List Addr} {a : Addr} (k : ∀ a ∈ A, a ∈ B) (x : ArgOb h A a) : ArgOb h B a := by
  obtain ⟨vs, h1, h2, h3⟩ := x
  exact ⟨vs, h1, fun u hu => (h2 u hu).mono k, h3⟩
theorem wellAll_len {P : Params} {h : Heap} : ∀ {vs : List Value} {ds : List WData}, WellAll P h vs ds → vs.length = ds.length
  | _, _, .nil => rfl
  | _, _, .cons _ b => by
    show _ + 1 = _ + 1
    rw [wellAll_len b]
theorem well_list {P : Params} {h : Heap} {v : Value} {ds : List WData} (x : Well P h v (.list ds)) : ∃ (a : Addr) (vs : List Value), v = .ref a ∧ h.get? a = some { cls := .type "list", data := .seq vs.toArray } ∧ WellAll P h vs ds := by
  cases x with
  | list ho hall => exact ⟨_, _, rfl, ho, hall⟩
theorem well_tuple {P : Params} {h : Heap} {v : Value} {ds : List WData} (x : Well P h v (.tuple ds)) : ∃ (a : Addr) (vs : List Value), v = .ref a ∧ h.get? a = some { cls := .type "tuple", data := .seq vs.toArray } ∧ WellAll P h vs ds := by
  cases x with
  | tuple ho hall => exact ⟨_, _, rfl, ho, hall⟩
theorem well_cons {P : Params} {h : Heap} {us : List Value} {d : WData} {ds : List WData} (x : WellAll P h us (d :: ds)) : ∃ (v : Value) (vs : List Value), us = v :: vs ∧ Well P h v d ∧ WellAll P h vs ds := by
  cases x with
  | cons a b => exact ⟨_, _, rfl, a, b⟩
theorem line_of {n : Nat} (h : n ≤ 1048576) : n ≤ sizeLine := Nat.le_trans h (by decide)
section
variable {P : Params} {h : Heap}
mutual
theorem area_one : ∀ (d : WData) (v : Value), Well P h v d → plW d = true → d.weight ≤ 1048576 → ∃ A : List Addr, OkU A v ∧ ∀ a ∈ A, ArgOb h A a
  | .none, _, x, _, _ => by
    cases x
    exact ⟨[], trivial, fun a m => absurd m (by simp)⟩
  | .bool b, _, x, _, _ => by
    cases x
    exact ⟨[], trivial, fun a m => absurd m (by simp)⟩
  | .int i, _, x, _, _ => by
    cases x
    exact ⟨[], trivial, fun a m => absurd m (by simp)⟩
  | .str s, _, x, _, _ => by
    cases x
    exact ⟨[], trivial, fun a m => absurd m (by simp)⟩
  | .bytes b, _, x, _, _ => by
    cases x
    exact ⟨[], trivial, fun a m => absurd m (by simp)⟩
  | .list ds, _, x, p, z => by
    obtain ⟨a, vs, rfl, ho, hall⟩ := well_list x
    have z2 : WData.weightAll ds ≤ 1048576 := z
    obtain ⟨A, h1, h2⟩ := area_all ds _ hall p fun d hd => Nat.le_trans (weight_mem hd) z2
    have k : ∀ b ∈ A, b ∈ a :: A := fun b hb => List.mem_cons_of_mem _ hb
    refine ⟨a :: A, List.mem_cons_self .., fun b hb => ?_⟩
    rcases List.mem_cons.mp hb with e | m
    · rw [e]
      exact ⟨vs, line_of (by rw [wellAll_len hall]; exact Nat.le_trans (PySem.W.length_le_weightAllW ds) z2), fun u hu => (h1 u hu).mono k, .inl ho⟩
    · exact (h2 b m).mono k
  | .tuple ds, _, x, p, z => by
    obtain ⟨a, vs, rfl, ho, hall⟩ := well_tuple x
    have z2 : WData.weightAll ds ≤ 1048576 := z
    obtain ⟨A, h1, h2⟩ := area_all ds _ hall p fun d hd => Nat.le_trans (weight_mem hd) z2
    have k : ∀ b ∈ A, b ∈ a :: A := fun b hb => List.mem_cons_of_mem _ hb
    refine ⟨a :: A, List.mem_cons_self .., fun b hb => ?_⟩
    rcases List.mem_cons.mp hb with e | m
    · rw [e]
      exact ⟨vs, line_of (by rw [wellAll_len hall]; exact Nat.le_trans (PySem.W.length_le_weightAllW ds) z2), fun u hu => (h1 u hu).mono k, .inr ho⟩
    · exact (h2 b m).mono k
  | .float _, _, _, p, _ => Bool.noConfusion (show false = true from p)
  | .dict _, _, _, p, _ => Bool.noConfusion (show false = true from p)
  | .bytearray _, _, _, p, _ => Bool.noConfusion (show false = true from p)
  | .set _, _, _, p, _ => Bool.noConfusion (show false = true from p)
  | .frozenset _, _, _, p, _ => Bool.noConfusion (show false = true from p)
  | .obj _ _, _, _, p, _ => Bool.noConfusion (show false = true from p)
theorem area_all : ∀ (ds : List WData) (vs : List Value), WellAll P h vs ds → plWs ds = true → (∀ d ∈ ds, d.weight ≤ 1048576) → ∃ A : List Addr, (∀ u ∈ vs, OkU A u) ∧ ∀ a ∈ A, ArgOb h A a
  | [], _, x, _, _ => by
    cases x
    exact ⟨[], fun u m => absurd m (by simp), fun a m => absurd m (by simp)⟩
  | d :: ds, _, x, p, z => by
    obtain ⟨v, vs, rfl, x1, x2⟩ := well_cons x
    have q : plW d = true ∧ plWs ds = true := Bool.and_eq_true_iff.mp p
    obtain ⟨A, a1, a2⟩ := area_one d v x1 q.1 (z d (List.mem_cons_self ..))
    obtain ⟨B, b1, b2⟩ := area_all ds vs x2 q.2 fun e he => z e (List.mem_cons_of_mem _ he)
    have kA : ∀ b ∈ A, b ∈ A ++ B := fun b hb => List.mem_append.mpr (.inl hb)
    have kB : ∀ b ∈ B, b ∈ A ++ B := fun b hb => List.mem_append.mpr (.inr hb)
    refine ⟨A ++ B, fun u hu => ?_, fun b hb => ?_⟩
    · rcases List.mem_cons.mp hu with e | m
      · rw [e]
        exact a1.mono kA
      · exact (b1 u m).mono kB
    · rcases List.mem_append.mp hb with m | m
      · exact (a2 b m).mono kA
      · exact (b2 b m).mono kB
end
end
def hoOf (o : Obj) : Option HO := match o.data with
  | .seq vs _ => if (o.cls == Value.type "list") = true then some (.frz o (.lst (vs.toList.map toV))) else some (.frz o (.tup (vs.toList.map toV)))
  | _ => none
def argH (K : PySem.W.Frag) (h : Heap) (A : List Addr) : Hp := fun b => if b ∈ A then (if (K.lookup b).isNone = true then (h.get? b).bind hoOf else none) else none
def OnlyF (H : Hp) : Prop := ∀ b, H b = none ∨ ∃ o u, H b = some (.frz o u)
theorem hoOf_lst (vs : List Value) : hoOf { cls := .type "list", data := .seq vs.toArray } = some (.frz { cls := .type "list", data := .seq vs.toArray } (.lst (vs.map toV))) := by
  show (if (Value.type "list" == Value.type "list") = true then some (HO.frz { cls := .type "list", data := .seq vs.toArray } (.lst (vs.toArray.toList.map toV))) else some (HO.frz { cls := .type "list", data := .seq vs.toArray } (.tup (vs.toArray.toList.map toV)))) = _
  rw [if_pos (beq_self_eq_true _)]
theorem hoOf_tup (vs : List Value) : hoOf { cls := .type "tuple", data := .seq vs.toArray } = some (.frz { cls := .type "tuple", data := .seq vs.toArray } (.tup (vs.map toV))) := by
  show (if (Value.type "tuple" == Value.type "list") = true then some (HO.frz { cls := .type "tuple", data := .seq vs.toArray } (.lst (vs.toArray.toList.map toV))) else some (HO.frz { cls := .type "tuple", data := .seq vs.toArray } (.tup (vs.toArray.toList.map toV)))) = _
  rw [if_neg (by decide)]
section
variable {P : Program} {w : World} {K : PySem.W.Frag} {h : Heap} {A : List Addr}
theorem argH_at {b : Addr} {o : Obj} (hb : b ∈ A) (hk : K.lookup b = none) (e : h.get? b = some o) : argH K h A b = hoOf o := by
  unfold argH
  rw [if_pos hb, hk, if_pos (show (none : Option Obj).isNone = true from rfl), e] <;> rfl
theorem of_argH {b : Addr} {u : HO} (q : argH K h A b = some u) : b ∈ A ∧ K.lookup b = none := by
  unfold argH at q
  by_cases hb : b ∈ A
  · rw [if_pos hb] at q
    cases hk : K.lookup b with
    | none => exact ⟨hb, rfl⟩
    | some o =>
      rw [hk, if_neg (by simp)] at q
      cases q
  · rw [if_neg hb] at q
    cases q
theorem argH_is (ar : ∀ a ∈ A, ArgOb h A a) {b : Addr} {u : HO} (q : argH K h A b = some u) : K.lookup b = none ∧ ∃ vs : List Value, vs.length ≤ sizeLine ∧ (∀ u ∈ vs, OkU A u) ∧
    ((h.get? b = some { cls := .type "list", data := .seq vs.toArray } ∧ u = .frz { cls := .type "list", data := .seq vs.toArray } (.lst (vs.map toV))) ∨
     (h.get? b = some { cls := .type "tuple", data := .seq vs.toArray } ∧ u = .frz { cls := .type "tuple", data := .seq vs.toArray } (.tup (vs.map toV)))) := by
  obtain ⟨hb, hk⟩ := of_argH q
  obtain ⟨vs, h1, h2, h3⟩ := ar b hb
  refine ⟨hk, vs, h1, h2, ?_⟩
  rcases h3 with e | e
  · rw [argH_at hb hk e, hoOf_lst] at q
    exact .inl ⟨e, (Option.some.inj q).symm⟩
  · rw [argH_at hb hk e, hoOf_tup] at q
    exact .inr ⟨e, (Option.some.inj q).symm⟩
theorem argH_only (ar : ∀ a ∈ A, ArgOb h A a) : OnlyF (argH K h A) := fun b => by
  cases q : argH K h A b with
  | none => exact .inl rfl
  | some u =>
    obtain ⟨_, vs, _, _, ⟨_, e⟩ | ⟨_, e⟩⟩ := argH_is ar q
    · exact .inr ⟨_, _, by rw [e]⟩
    · exact .inr ⟨_, _, by rw [e]⟩
theorem argH_ok (ar : ∀ a ∈ A, ArgOb h A a) : HOk P w (argH K h A) h := fun b u q => by
  obtain ⟨_, vs, h1, h2, ⟨e, rfl⟩ | ⟨e, rfl⟩⟩ := argH_is ar q
  · exact ⟨e, by rw [List.length_map]; exact h1, vs, _, vals_toV h2, e⟩
  · exact ⟨e, by rw [List.length_map]; exact h1, vs, vals_toV h2, _, e, rfl, _, rfl⟩
theorem seq_inj {c c' : Value} {vs us : List Value} (e : (some { cls := c, data := .seq vs.toArray } : Option Obj) = some { cls := c', data := .seq us.toArray }) : c = c' ∧ vs = us := by
  have e1 := Option.some.inj e
  have e2 : c = c' := congrArg Obj.cls e1
  have e3 : Data.seq vs.toArray = Data.seq us.toArray := congrArg Obj.data e1
  injection e3 with e4
  refine ⟨e2, ?_⟩
  have e5 := congrArg Array.toList e4
  simpa using e5
theorem argL (KX : K.In h) (ar : ∀ a ∈ A, ArgOb h A a) {a : Addr} {vs : List Value} (ha : a ∈ A) (e : h.get? a = some { cls := .type "list", data := .seq vs.toArray }) : (∀ u ∈ vs, OkU A u) ∧ SqL K (argH K h A) a (vs.map toV) := by
  obtain ⟨us, h1, h2, h3⟩ := ar a ha
  have hu : us = vs := by
    rcases h3 with q | q
    · rw [e] at q
      exact (seq_inj q).2.symm
    · rw [e] at q
      exact absurd (Value.type.inj (seq_inj q).1) (by decide)
  subst hu
  refine ⟨h2, ?_⟩
  cases hk : K.lookup a with
  | none => exact .inl (.inr ⟨_, by rw [argH_at ha hk e, hoOf_lst]⟩)
  | some o =>
    have e2 := KX a o hk
    rw [e] at e2
    obtain rfl := Option.some.inj e2
    exact .inr ⟨_, us.toArray, _, hk, rfl, rfl, rfl, by rw [List.size_toArray]; exact h1, by simpa using vals_toV h2⟩
theorem argT (KX : K.In h) (ar : ∀ a ∈ A, ArgOb h A a) {a : Addr} {vs : List Value} (ha : a ∈ A) (e : h.get? a = some { cls := .type "tuple", data := .seq vs.toArray }) : (∀ u ∈ vs, OkU A u) ∧ SqT K (argH K h A) a (vs.map toV) := by
  obtain ⟨us, h1, h2, h3⟩ := ar a ha
  have hu : us = vs := by
    rcases h3 with q | q
    · rw [e] at q
      exact absurd (Value.type.inj (seq_inj q).1) (by decide)
    · rw [e] at q
      exact (seq_inj q).2.symm
  subst hu
  refine ⟨h2, ?_⟩
  cases hk : K.lookup a with
  | none => exact .inl (.inr ⟨_, by rw [argH_at ha hk e, hoOf_tup]⟩)
  | some o =>
    have e2 := KX a o hk
    rw [e] at e2
    obtain rfl := Option.some.inj e2
    exact .inr ⟨_, us.toArray, _, hk, rfl, rfl, by rw [List.size_toArray]; exact h1, by simpa using vals_toV h2⟩
mutual
theorem dw_one {Pm : Params} (KX : K.In h) (ar : ∀ a ∈ A, ArgOb h A a) : ∀ (d : WData) (v : Value), Well Pm h v d → plW d = true → OkU A v → Dw K (argH K h A) (toV v) d
  | .none, _, x, _, _ => by
    cases x
    exact .non
  | .bool b, _, x, _, _ => by
    cases x
    exact .bl b
  | .int i, _, x, _, _ => by
    cases x
    exact .int i
  | .str s, _, x, _, _ => by
    cases x
    exact .str s
  | .bytes b, _, x, _, _ => by
    cases x
    have z := Dw.byt (K := K) (H := argH K h A) b.toArray
    exact z
  | .list ds, _, x, p, hu => by
    obtain ⟨a, vs, rfl, ho, hall⟩ := well_list x
    obtain ⟨h2, hs⟩ := argL KX ar hu ho
    exact .lst hs (dw_all KX ar ds _ hall p h2)
  | .tuple ds, _, x, p, hu => by
    obtain ⟨a, vs, rfl, ho, hall⟩ := well_tuple x
    obtain ⟨h2, hs⟩ := argT KX ar hu ho
    exact .tup hs (dw_all KX ar ds _ hall p h2)
  | .float _, _, _, p, _ => Bool.noConfusion (show false = true from p)
  | .dict _, _, _, p, _ => Bool.noConfusion (show false = true from p)
  | .bytearray _, _, _, p, _ => Bool.noConfusion (show false = true from p)
  | .set _, _, _, p, _ => Bool.noConfusion (show false = true from p)
  | .frozenset _, _, _, p, _ => Bool.noConfusion (show false = true from p)
  | .obj _ _, _, _, p, _ => Bool.noConfusion (show false = true from p)
theorem dw_all {Pm : Params} (KX : K.In h) (ar : ∀ a ∈ A, ArgOb h A a) : ∀ (ds : List WData) (vs : List Value), WellAll Pm h vs ds → plWs ds = true → (∀ u ∈ vs, OkU A u) → DwAll K (argH K h A) (vs.map toV) ds
  | [], _, x, _, _ => by
    cases x
    exact .nil
  | d :: ds, _, x, p, hu => by
    obtain ⟨v, vs, rfl, x1, x2⟩ := well_cons x
    have q : plW d = true ∧ plWs ds = true := Bool.and_eq_true_iff.mp p
    exact .cons (dw_one KX ar d v x1 q.1 (hu _ (List.mem_cons_self ..))) (dw_all KX ar ds vs x2 q.2 fun u m => hu u (List.mem_cons_of_mem _ m))
end
end
theorem spec_call {P : Program} {w : World} {K : PySem.W.Frag} {mg mb : Str → Option Value} {CX : CXT} {k : Nat} {fa : Addr} {fd : FuncData} {ps : List Str} {sp : Sp} {s₁ : Shared} {vals : List Value} {ds : List WData} {R : PySem.W.WRecords} {cl : Str → Option Addr} {d0 : WData}
    (KX : K.In s₁.heap) (hns : s₁.heap.Ns mainGlobals mg) (hb : s₁.heap.Ns builtinsNs mb) (hbb : ∀ x : Str, x ≠ "__name__" → mb x = bootBuiltins x) (hlim : s₁.heap.NoLimit) (hg : s₁.gens = #[])
    (hwl : WellAll w.params s₁.heap vals ds) (hpl : plWs ds = true) (hwt : ∀ d ∈ ds, d.weight ≤ 1048576) (hr : Room k callerA)
    (F : ∀ base : Heap, K.In base → base.Ns mainGlobals mg → FnOk P w K mg base CX k fa fd ps sp) (hbind : ∀ (s : Shared) (us : List Value), us.length = ps.length → BindsTo s fd ⟨us, []⟩ (ps.zip us)) (hlen : ds.length = ps.length)
    (hsp : ∀ (H : Hp) (xs : List V), OnlyF H → DwAll K H xs ds → sp xs H (fun v H' => Dw K H' v d0) fun _ _ _ => False)
    (hCX : ∀ H e s', CX [] H s₁ (fun _ _ _ => False) e s' → False) :
    codeAny (model P w) callerA (.call (.ref fa) ⟨vals, []⟩) (fun r s' => ∃ u as, r = .ok (.ret u) ∧ ReadsW R cl s'.heap u d0 as ∧ OldK s₁.heap s'.heap ∧ s'.os = s₁.os ∧ AllBare s'.gens) s₁ := by
  obtain ⟨A, ho, ar⟩ := area_all ds vals hwl hpl hwt
  have hO : OnlyF (argH K s₁.heap A) := argH_only ar
  have hok : HOk P w (argH K s₁.heap A) s₁.heap := argH_ok ar
  have hS := dw_all KX ar ds vals hwl hpl ho
  have hV := vals_toV ho
  have hK : ∀ b u, argH K s₁.heap A b = some u → K.lookup b = none := fun b u q => (argH_is ar q).1
  have noA : ∀ {b : Addr} {o : Obj} {es : Array DictEntry} {ep : Nat}, s₁.heap.get? b = some o → o.data = .dict es ep → argH K s₁.heap A b = none := fun {b o es ep} e d => by
    cases q : argH K s₁.heap A b with
    | none => rfl
    | some u =>
      obtain ⟨_, vs, _, _, ⟨e2, _⟩ | ⟨e2, _⟩⟩ := argH_is ar q
      · rw [e2] at e
        cases e
        have d' : Data.seq vs.toArray _ = Data.dict es ep := d
        cases d'
      · rw [e2] at e
        cases e
        have d' : Data.seq vs.toArray _ = Data.dict es ep := d
        cases d'
  generalize argH K s₁.heap A = H at hO hok hS hK noA
  have base_of : ∀ {b : Addr} {o : Obj}, s₁.heap.get? b = some o → H b = none → (hidT s₁.heap H).get? b = some o := fun e n => hidT_get e n
  have nsK : ∀ {b : Addr} {m : Str → Option Value}, s₁.heap.Ns b m → (hidT s₁.heap H).Ns b m := fun {b m} ⟨o, es, ep, e, d, r⟩ => ⟨o, es, ep, base_of e (noA e d), d, r⟩
  have nK : ∀ b o, K.lookup b = some o → H b = none := fun b o e => by
    cases q : H b with
    | none => rfl
    | some u =>
      rw [hK b u q] at e
      cases e
  have hKb : K.In (hidT s₁.heap H) := fun b o e => base_of (KX b o e) (nK b o e)
  have hM : Mod K mg (hidT s₁.heap H) := ⟨hKb, nsK hns, ⟨mb, nsK hb, hbb⟩, let ⟨mc, h1, h2⟩ := hlim; ⟨mc, nsK h1, h2⟩⟩
  have e0 : Env0 P w K mg (hidT s₁.heap H) callerA [] s₁ H := ⟨rfl, hM, fun b o e => of_hidT e, Nat.le_of_eq (hidT_size _ _), trivial, fun b hb => absurd (show b ∈ ([] : List Addr) from hb) (by simp), hok, .of_eq hg⟩
  have hl : vals.length = ps.length := by rw [wellAll_len hwl]; exact hlen
  refine codeAny_mono ((F _ hKb (nsK hns)).run callerA [] s₁ H ⟨vals, []⟩ vals (vals.map toV) _ _ hr e0 (hbind s₁ vals hl) hV (hsp H _ hO hS)) fun r s' x => ?_
  cases r with
  | error e => exact (hCX H e s' x).elim
  | ok fl =>
    cases fl with
    | next => exact False.elim x
    | brk => exact False.elim x
    | cont => exact False.elim x
    | ret u =>
      obtain ⟨v, H', os, bare, un, hok', r', q⟩ := x
      have kept : ∀ b o, s₁.heap.get? b = some o → s'.heap.get? b = some o := fun b o e => by
        cases q2 : H b with
        | none => exact un.keep b o e q2 (by intro z; exact absurd (show b ∈ ([] : List Addr) from z) (by simp)) (by simp)
        | some u2 =>
          rcases hO b with z | ⟨ob, u3, z⟩
          · rw [q2] at z
            cases z
          · have z2 := un.frzs b ob _ z
            obtain ⟨e1, _⟩ := hok b _ z
            obtain ⟨e2, _⟩ := hok' b _ z2
            rw [e] at e1
            cases e1
            exact e2
      have KX' : K.In s'.heap := fun b o e => kept b o (KX b o e)
      obtain ⟨as, hrd⟩ := Dw.reads (R := R) (cl := cl) hok' KX' d0 v u q r'
      exact ⟨u, as, rfl, hrd, OldK.of_keep kept, os, bare⟩
theorem layable_weight {ds : List WData} (h : WData.layableAll ds = true) : ∀ d ∈ ds, d.weight ≤ 1048576 := fun d hd =>
  (PySem.W.layableW_iff.mp (List.all_eq_true.mp h d hd)).2.2
theorem encAll_len : ∀ (cs : List Codec) (a : Codec.denoteAll cs), (Codec.encAll cs a).length = cs.length
  | [], _ => rfl
  | c :: cs, a => by
    show (Codec.encAll cs a.2).length + 1 = cs.length + 1
    rw [encAll_len cs a.2]
theorem walk_spec {r : OpenSpec} {k : Nat} {q : Program} {loose : List Str} {XP : (Str → Option Value) → Heap → Prop} {YP : World → Heap → Prop} {d : DefRec} {K : Params → PySem.W.Frag} {CX : World → CXT} {ps : List Str} {sp : World → Sp}
    (hwell : r.wellSaid = true) (hdf : d.params.defaults = []) (hlen : r.args.length = ps.length) (hr : Room k callerA)
    (hY : ∀ (w : World) (h : Heap), YP w h → (K w.params).In h)
    (F : ∀ (w : World) (mg : Str → Option Value) (fa : Addr) (h : Heap), YP w h → (K w.params).In h → h.Ns mainGlobals mg → mg d.name = some (.ref fa) →
      ∃ fd : FuncData, (∀ (s : Shared) (us : List Value), us.length = ps.length → BindsTo s fd ⟨us, []⟩ (ps.zip us)) ∧
        ∀ base : Heap, (K w.params).In base → base.Ns mainGlobals mg → FnOk r.prog w (K w.params) mg base (CX w) k fa fd ps (sp w))
    (hsp : ∀ (w : World) (H : Hp) (xs : List V) (a : Codec.denoteAll r.args), OnlyF H → Codec.withinAll r.args a = true → Codec.app r.args r.asked a = true → DwAll (K w.params) H xs (Codec.encAll r.args a) →
      sp w xs H (fun v H' => Dw (K w.params) H' v (r.ret.enc (Codec.app r.args r.f a))) fun _ _ _ => False)
    (hCX : ∀ (w : World) (H : Hp) (s : Shared) (e : Value) (s' : Shared), CX w [] H s (fun _ _ _ => False) e s' → False) :
    PySem.W.WalkOS q loose XP YP r d [] (fun f vs => PySem.call f vs) := by
  intro w s_0 s₁ mg mb G Y fa o pm cd doc dV kV ho hd hcd hD hmg hg args vals as hpre hlay hrd hwl hlo
  obtain ⟨a, e1, e2⟩ := PySem.W.os_pre_some hpre
  obtain ⟨e3, hwi⟩ := Codec.encAll_of_decAll r.args args a e1
  subst e3
  have KX := hY w _ Y
  obtain ⟨fd, hb, hF⟩ := F w mg fa _ Y KX G.T.g hmg
  refine PySem.W.enter_call (codeAny_mono (spec_call (R := []) (cl := classAt s_0.heap) (d0 := r.ret.enc (Codec.app r.args r.f a)) KX G.T.g G.T.b G.T.builtins G.T.nolimit hg hwl (pl_encAll _ _) (layable_weight hlay) hr hF hb (by rw [encAll_len]; exact hlen)
    (fun H xs hO hS => hsp w H xs a hO hwi e2 hS) fun H e s' => hCX w H s₁ e s') fun r' s' hq => ?_)
  obtain ⟨u, as', rfl, h1, h2, h3, h4⟩ := hq
  exact ⟨.inl ⟨u, _, as', rfl, fun _ => rfl, h1, (OpenSpec.post_iff hwell hwi _ _).mpr rfl, fun z => Bool.noConfusion (show false = true from z)⟩, h2, h3, h4⟩
theorem walk_specK {r : OpenSpec} {k : Nat} {q : Program} {loose : List Str} {XP : (Str → Option Value) → Heap → Prop} {YP : World → Heap → Prop} {d : DefRec} {K : Params → PySem.W.Frag} {CX : CXT} {ps : List Str} {sp : PySem.W.Frag → Sp}
    (hwell : r.wellSaid = true) (hdf : d.params.defaults = []) (hlen : r.args.length = ps.length) (hr : Room k callerA)
    (hY : ∀ (w : World) (h : Heap), YP w h → (K w.params).In h)
    (F : ∀ (w : World) (mg : Str → Option Value) (fa : Addr) (h : Heap), YP w h → (K w.params).In h → h.Ns mainGlobals mg → mg d.name = some (.ref fa) →
      ∃ fd : FuncData, (∀ (s : Shared) (us : List Value), us.length = ps.length → BindsTo s fd ⟨us, []⟩ (ps.zip us)) ∧
        ∀ base : Heap, (K w.params).In base → base.Ns mainGlobals mg → FnOk r.prog w (K w.params) mg base CX k fa fd ps (sp (K w.params)))
    (hsp : ∀ (K : PySem.W.Frag) (H : Hp) (xs : List V) (a : Codec.denoteAll r.args), OnlyF H → Codec.withinAll r.args a = true → Codec.app r.args r.asked a = true → DwAll K H xs (Codec.encAll r.args a) →
      sp K xs H (fun v H' => Dw K H' v (r.ret.enc (Codec.app r.args r.f a))) fun _ _ _ => False)
    (hCX : ∀ (H : Hp) (s : Shared) (e : Value) (s' : Shared), CX [] H s (fun _ _ _ => False) e s' → False) :
    PySem.W.WalkOS q loose XP YP r d [] (fun f vs => PySem.call f vs) :=
  walk_spec (K := K) (CX := fun _ => CX) (sp := fun w => sp (K w.params)) hwell hdf hlen hr hY F (fun w H xs a h1 h2 h3 h4 => hsp (K w.params) H xs a h1 h2 h3 h4) fun _ H s e s' => hCX H s e s'
end L2
-- rests on (row put in by the clerk, for the bench that shows a file only what it spells): KE.SpHead KE.OsShapes
end
end
section
namespace Rf
open Ks334 (Bytes isSign okName)

/-! ### stem and ending -/
theorem tw_all {p : Nat → Bool} : ∀ {l : List Nat}, (∀ x ∈ l, p x = true) → l.takeWhile p = l
  | [], _ => rfl
  | a :: l, h => by
    rw [List.takeWhile_cons, if_pos (h a (List.mem_cons_self ..)), tw_all (fun x hx => h x (List.mem_cons_of_mem _ hx))]
theorem tw_stop {p : Nat → Bool} {c : Nat} (hc : p c = false) : ∀ {l : List Nat} {r : List Nat}, (∀ x ∈ l, p x = true) → (l ++ c :: r).takeWhile p = l
  | [], r, _ => by
    rw [List.nil_append, List.takeWhile_cons, if_neg (by rw [hc]; exact Bool.false_ne_true)]
  | a :: l, r, h => by
    rw [List.cons_append, List.takeWhile_cons, if_pos (h a (List.mem_cons_self ..)), tw_stop hc (fun x hx => h x (List.mem_cons_of_mem _ hx))]
theorem ending_dot {a b : Bytes} (hb : 46 ∉ b) : Ks335.ending (a ++ 46 :: b) = if a = [] then [] else 46 :: b := by
  have e : (a ++ 46 :: b).reverse.takeWhile (fun b => b != 46) = b.reverse := by
    rw [List.reverse_append, List.reverse_cons, List.append_assoc]
    refine tw_stop rfl fun x hx => ?_
    have : x ∈ b := List.mem_reverse.mp hx
    have : x ≠ 46 := fun q => hb (q ▸ this)
    simpa using this
  unfold Ks335.ending
  simp only [e, List.length_reverse, List.reverse_reverse, List.length_append, List.length_cons]
  by_cases ha : a = []
  · subst ha; simp
  · have : 0 < a.length := List.length_pos_iff.mpr ha
    rw [if_neg ha, if_pos (by omega)]
theorem ending_no {n : Bytes} (h : 46 ∉ n) : Ks335.ending n = [] := by
  have e : n.reverse.takeWhile (fun b => b != 46) = n.reverse := tw_all fun x hx => by
    have : x ∈ n := List.mem_reverse.mp hx
    have : x ≠ 46 := fun q => h (q ▸ this)
    simpa using this
  unfold Ks335.ending
  simp only [e, List.length_reverse]
  rw [if_neg (by omega)]
/-- a dot at p, not in front, and none behind it -/
theorem stem_dot {n : Bytes} {p : Nat} (h1 : 1 ≤ p) (hp : n[p]? = some 46) (hq : ∀ q, p < q → n[q]? ≠ some 46) : Ks335.stem n = n.take p ∧ Ks335.ending n = n.drop p := by
  obtain ⟨hl, he⟩ := List.getElem?_eq_some_iff.mp hp
  have hd : n.drop p = 46 :: n.drop (p + 1) := by rw [List.drop_eq_getElem_cons hl, he]
  have hn : 46 ∉ n.drop (p + 1) := fun hm => by
    obtain ⟨k, hk⟩ := List.getElem?_of_mem hm
    rw [List.getElem?_drop] at hk
    exact hq _ (by omega) hk
  have e : Ks335.ending n = n.drop p := by
    have q := ending_dot (a := n.take p) hn
    rw [← hd, List.take_append_drop] at q
    rw [q, if_neg]
    intro z
    have z2 := congrArg List.length z
    rw [List.length_take, List.length_nil] at z2
    omega
  refine ⟨?_, e⟩
  unfold Ks335.stem
  rw [e, List.length_drop]
  congr 1
  omega
theorem stem_none {n : Bytes} (hq : ∀ q, 1 ≤ q → n[q]? ≠ some 46) : Ks335.stem n = n ∧ Ks335.ending n = [] := by
  have e : Ks335.ending n = [] := by
    cases n with
    | nil => exact ending_no (by simp)
    | cons c b =>
      have hb : 46 ∉ b := fun hm => by
        obtain ⟨k, hk⟩ := List.getElem?_of_mem hm
        exact hq (k + 1) (by omega) (by simpa using hk)
      by_cases hc : c = 46
      · subst hc
        exact ending_dot (a := []) hb
      · exact ending_no (by simp; exact ⟨fun q => hc q.symm, hb⟩)
  refine ⟨?_, e⟩
  unfold Ks335.stem
  rw [e]
  simp
theorem stem_take (n : Bytes) : Ks335.stem n = n.take (Ks335.stem n).length := by
  unfold Ks335.stem
  rw [List.length_take, List.take_eq_take_iff]
  omega
theorem stem_le (n : Bytes) : (Ks335.stem n).length ≤ n.length := by
  unfold Ks335.stem
  rw [List.length_take]; omega

/-! ### digits -/
def nl (n : Nat) : List Nat := if h : n < 10 then [48 + n] else nl (n / 10) ++ [48 + n % 10]
termination_by n
decreasing_by omega
theorem nl_lt {n : Nat} (h : n < 10) : nl n = [48 + n] := by rw [nl, dif_pos h]
theorem nl_step {n : Nat} (h : 10 ≤ n) : nl n = nl (n / 10) ++ [48 + n % 10] := by rw [nl, dif_neg (by omega)]
theorem nl_len (n : Nat) : ∀ m, 1 ≤ m → ((nl n).length ≤ m ↔ n < 10 ^ m) := by
  induction n using Nat.strongRecOn with
  | _ n ih =>
    intro m hm
    by_cases h : n < 10
    · rw [nl_lt h]
      have : 10 ^ 1 ≤ 10 ^ m := Nat.pow_le_pow_right (by decide) hm
      simp
      omega
    · rw [nl_step (by omega), List.length_append]
      match m, hm with
      | 1, _ =>
        have : 0 < (nl (n / 10)).length := by
          by_cases h2 : n / 10 < 10
          · rw [nl_lt h2]; simp
          · rw [nl_step (by omega)]; simp
        rw [List.length_singleton, Nat.pow_one]
        omega
      | m + 2, _ =>
        have e := ih (n / 10) (by omega) (m + 1) (by omega)
        have p : 10 ^ (m + 2) = 10 ^ (m + 1) * 10 := Nat.pow_succ ..
        rw [p]
        have : (nl (n / 10) : List Nat).length + [48 + n % 10].length ≤ m + 2 ↔ (nl (n / 10)).length ≤ m + 1 := by simp
        rw [this, e]
        omega
theorem digits_zero : ∀ m, Ks335.digits m 0 = List.replicate m 48
  | 0 => rfl
  | m + 1 => by
    show Ks335.digits m (0 / 10) ++ [48 + 0 % 10] = _
    rw [Nat.zero_div, digits_zero m, List.replicate_succ']
theorem digits_nl : ∀ (m n : Nat), 1 ≤ m → n < 10 ^ m → List.replicate (m - (nl n).length) 48 ++ nl n = Ks335.digits m n
  | 0, _, h, _ => by omega
  | m + 1, n, _, hn => by
    show _ = Ks335.digits m (n / 10) ++ [48 + n % 10]
    by_cases h : n < 10
    · have e1 : n / 10 = 0 := by omega
      have e2 : n % 10 = n := by omega
      rw [nl_lt h, e1, e2, digits_zero]
      simp
    · rw [nl_step (by omega)]
      have p : 10 ^ (m + 1) = 10 ^ m * 10 := Nat.pow_succ ..
      have hm : 1 ≤ m := by
        cases m with
        | zero => simp at p; omega
        | succ m => omega
      have ih := digits_nl m (n / 10) hm (by omega)
      rw [← ih, List.length_append, ← List.append_assoc]
      simp

/-! ### the rule's signs -/
theorem apply_fuel (n : Bytes) (k : Nat) : ∀ (f g : Nat) (r : Bytes), r.length ≤ f → r.length ≤ g → Ks335.apply f r n k = Ks335.apply g r n k
  | 0, 0, _, _, _ => rfl
  | 0, g + 1, [], _, _ => rfl
  | 0, _ + 1, _ :: _, h, _ => by simp at h
  | _ + 1, 0, [], _, _ => rfl
  | _ + 1, 0, _ :: _, _, h => by simp at h
  | _ + 1, _ + 1, [], _, _ => rfl
  | f + 1, g + 1, b :: l, hf, hg => by
    simp at hf hg
    unfold Ks335.apply
    by_cases hb : b = 35
    · simp only [hb, if_true]
      rw [apply_fuel n k f g (l.drop _) (by rw [List.length_drop]; omega) (by rw [List.length_drop]; omega)]
    · simp only [hb, if_false]
      rw [apply_fuel n k f g l hf hg]
def ap (r n : Bytes) (k : Nat) : Option Bytes := Ks335.apply r.length r n k
theorem ap_new (r n : Bytes) (k : Nat) : Ks335.newName r n k = ap r n k := apply_fuel n k _ _ r (by omega) (by omega)
theorem ap_nil (n : Bytes) (k : Nat) : ap [] n k = some [] := rfl
def piece (b : Nat) (n : Bytes) : Bytes := if b = 42 then Ks335.stem n else if b = 43 then Ks335.ending n else [b]
theorem ap_sign {b : Nat} (hb : b ≠ 35) (l n : Bytes) (k : Nat) : ap (b :: l) n k = (ap l n k).map fun t => piece b n ++ t := by
  show Ks335.apply (l.length + 1) (b :: l) n k = _
  unfold Ks335.apply
  simp only [hb, if_false]
  rfl
/-- so many signs alike from the head on -/
def run (b : Nat) (l : Bytes) : Nat := (l.takeWhile fun c => c == b).length
theorem ap_num (l n : Bytes) (k : Nat) : ap (35 :: l) n k = if 10 ^ (run 35 l + 1) ≤ k then none else (ap (l.drop (run 35 l)) n k).map fun t => Ks335.digits (run 35 l + 1) k ++ t := by
  show Ks335.apply (l.length + 1) (35 :: l) n k = _
  unfold Ks335.apply
  simp only [if_true]
  show (if 10 ^ (run 35 l + 1) ≤ k then none else (Ks335.apply l.length (l.drop (run 35 l + 1 - 1)) n k).map fun t => Ks335.digits (run 35 l + 1) k ++ t) = _
  rw [Nat.add_sub_cancel, apply_fuel n k l.length (l.drop (run 35 l)).length _ (by rw [List.length_drop]; omega) (Nat.le_refl _)]
  rfl
theorem run_le (b : Nat) : ∀ l : Bytes, run b l ≤ l.length
  | [] => Nat.le_refl _
  | c :: l => by
    unfold run
    rw [List.takeWhile_cons]
    have := run_le b l
    unfold run at this
    split <;> simp <;> omega
/-- the run's end, by places -/
theorem run_at {b : Nat} : ∀ {l : Bytes} {j : Nat}, (∀ i, i < j → l[i]? = some b) → l[j]? ≠ some b → run b l = j
  | [], 0, _, _ => rfl
  | [], j + 1, h, _ => by have := h 0 (by omega); simp at this
  | c :: l, 0, _, h => by
    unfold run
    rw [List.takeWhile_cons, if_neg]
    · rfl
    · intro q
      exact h (by simp at q; simp [q])
  | c :: l, j + 1, h, hn => by
    have hc : c = b := by have := h 0 (by omega); simpa using this
    have ih := run_at (l := l) (j := j) (fun i hi => by have := h (i + 1) (by omega); simpa using this) (by simpa using hn)
    unfold run at ih ⊢
    rw [List.takeWhile_cons, if_pos (by simp [hc]), List.length_cons, ih]
/-- the new name, if it is one -/
def nn (r n : Bytes) (k : Nat) : Option Bytes := match Ks335.newName r n k with
  | some t => if okName t = true then some t else none
  | none => none
end Rf
end
section
namespace Rf
open Ks334 (Bytes isSign okName Wish)

/-! ### places -/
theorem findIdx_eq {α : Type} {p : α → Bool} {l : List α} {i : Nat} {x : α} (h : l[i]? = some x) (hx : p x = true) (hb : ∀ j y, j < i → l[j]? = some y → p y = false) : l.findIdx p = i := by
  obtain ⟨hl, he⟩ := List.getElem?_eq_some_iff.mp h
  refine (List.findIdx_eq hl).mpr ⟨by rw [he]; exact hx, fun j hj => ?_⟩
  have := hb j l[j] hj (List.getElem?_eq_getElem (by omega))
  simpa using this
theorem findIdx_no {α : Type} {p : α → Bool} {l : List α} (hb : ∀ (j : Nat) y, l[j]? = some y → p y = false) : l.findIdx p = l.length := by
  refine List.findIdx_eq_length.mpr fun x hx => ?_
  obtain ⟨j, hj⟩ := List.getElem?_of_mem hx
  exact hb j x hj

/-! ### the new names of all -/
def bad (x : Option Bytes) : Bool := match x with
  | some t => !okName t
  | none => true
def clean (x : Option Bytes) : Option Bytes := match x with
  | some t => if okName t = true then some t else none
  | none => none
theorem nn_clean (r n : Bytes) (k : Nat) : nn r n k = clean (Ks335.newName r n k) := by
  unfold nn clean
  cases Ks335.newName r n k <;> rfl
theorem clean_none {x : Option Bytes} : clean x = none ↔ bad x = true := by
  cases x with
  | none => simp [clean, bad]
  | some t =>
    unfold clean bad
    cases h : okName t <;> simp [h]
theorem clean_ok {x : Option Bytes} (h : bad x = false) : clean x = x := by
  cases x with
  | none => simp [bad] at h
  | some t =>
    unfold bad at h
    unfold clean
    simp at h
    simp [h]
/-- a loop over the files told: from the one at place k on -/
def wk (names : List Bytes) (r : Bytes) : Nat → List Nat → List (Option Bytes) → List (Option Bytes)
  | _, [], acc => acc
  | k, f :: fs, acc => wk names r (k + 1) fs (acc.set f (nn r (names.getD f []) k))
theorem wk_snoc (names : List Bytes) (r : Bytes) : ∀ (fs : List Nat) (k f : Nat) (acc : List (Option Bytes)), wk names r k (fs ++ [f]) acc = (wk names r k fs acc).set f (nn r (names.getD f []) (k + fs.length))
  | [], k, f, acc => rfl
  | g :: fs, k, f, acc => by
    show wk names r (k + 1) (fs ++ [f]) _ = _
    rw [wk_snoc names r fs (k + 1) f]
    show _ = (wk names r (k + 1) fs _).set f _
    rw [List.length_cons]
    congr 2
    omega
theorem wk_len (names : List Bytes) (r : Bytes) : ∀ (fs : List Nat) (k : Nat) (acc : List (Option Bytes)), (wk names r k fs acc).length = acc.length
  | [], _, _ => rfl
  | g :: fs, k, acc => by
    show (wk names r (k + 1) fs _).length = _
    rw [wk_len names r fs, List.length_set]
theorem wk_out (names : List Bytes) (r : Bytes) : ∀ (fs : List Nat) (k : Nat) (acc : List (Option Bytes)) (j : Nat), j ∉ fs → (wk names r k fs acc)[j]? = acc[j]?
  | [], _, _, _, _ => rfl
  | g :: fs, k, acc, j, h => by
    simp at h
    show (wk names r (k + 1) fs _)[j]? = _
    rw [wk_out names r fs _ _ j h.2, List.getElem?_set_ne (fun q => h.1 q.symm)]
theorem wk_in (names : List Bytes) (r : Bytes) : ∀ (fs : List Nat) (k : Nat) (acc : List (Option Bytes)) (j : Nat), Ks336.twice fs = false → j ∈ fs → j < acc.length →
    (wk names r k fs acc)[j]? = some (nn r (names.getD j []) (k + fs.findIdx (fun i => i == j)))
  | [], _, _, _, _, h, _ => by simp at h
  | g :: fs, k, acc, j, ht, h, hl => by
    have ht' : fs.contains g = false ∧ Ks336.twice fs = false := by
      have : (fs.contains g || Ks336.twice fs) = false := ht
      simpa using this
    show (wk names r (k + 1) fs _)[j]? = _
    by_cases hg : g = j
    · subst hg
      rw [wk_out names r fs _ _ g (by simpa using ht'.1), List.getElem?_set_self hl, List.findIdx_cons]
      simp
    · have hj : j ∈ fs := by
        rcases List.mem_cons.mp h with q | q
        · exact absurd q.symm hg
        · exact q
      rw [wk_in names r fs _ _ j ht'.2 hj (by rw [List.length_set]; exact hl), List.findIdx_cons]
      have : (g == j) = false := by simpa using hg
      rw [this]
      simp only [cond_false]
      congr 2
      omega
theorem wk_wishes (a : Ks336.Abs) (r : Bytes) (k : Nat) (w : List Nat) (hok : ∀ n ∈ Ks336.names a, okName n = true) (ht : Ks336.twice w = false) :
    wk (Ks336.names a) r k w ((Ks336.names a).map some) = (Ks336.wishes a r k w).map clean := by
  apply List.ext_getElem?
  intro j
  unfold Ks336.wishes
  rw [List.getElem?_map, List.getElem?_map, List.getElem?_zipIdx]
  cases h : a.files[j]? with
  | none =>
    have hl : (Ks336.names a).length ≤ j := by
      unfold Ks336.names
      rw [List.length_map]
      exact List.getElem?_eq_none_iff.mp h
    have : (wk (Ks336.names a) r k w ((Ks336.names a).map some))[j]? = none := List.getElem?_eq_none_iff.mpr (by rw [wk_len, List.length_map]; exact hl)
    rw [this]
    rfl
  | some x =>
    have hn : (Ks336.names a)[j]? = some x.1 := by
      unfold Ks336.names
      rw [List.getElem?_map, h]
      rfl
    simp only [Option.map_some, Nat.zero_add]
    by_cases hj : j ∈ w
    · rw [wk_in _ _ _ _ _ _ ht hj (by rw [List.length_map]; exact (List.getElem?_eq_some_iff.mp hn).1), if_pos (by simpa using hj), List.getD_eq_getElem?_getD, hn, nn_clean]
      rfl
    · rw [wk_out _ _ _ _ _ _ hj, if_neg (by simpa using hj), List.getElem?_map, hn]
      show some (some x.1) = some (clean (some x.1))
      rw [clean_ok]
      simp [bad, hok x.1 (List.mem_of_getElem? hn)]

/-! ### what is refused -/
theorem first_bad {l : List (Option Bytes)} {i : Nat} (h : (l.map clean)[i]? = some none) (hb : ∀ j y, j < i → (l.map clean)[j]? = some y → y ≠ none) : l.findIdx bad = i ∧ i < l.length := by
  rw [List.getElem?_map] at h
  cases e : l[i]? with
  | none => rw [e] at h; cases h
  | some x =>
    rw [e] at h
    have hx : clean x = none := Option.some.inj h
    refine ⟨findIdx_eq e (clean_none.mp hx) fun j y hj hy => ?_, (List.getElem?_eq_some_iff.mp e).1⟩
    have := hb j (clean y) hj (by rw [List.getElem?_map, hy]; rfl)
    cases q : bad y with
    | false => rfl
    | true => exact absurd (clean_none.mpr q) this
theorem no_bad {l : List (Option Bytes)} (hb : ∀ (j : Nat) y, (l.map clean)[j]? = some y → y ≠ none) : l.findIdx bad = l.length ∧ l.map clean = l ∧ l = (Ks336.wished l).map some := by
  have hg : ∀ (j : Nat) y, l[j]? = some y → bad y = false := fun j y hy => by
    have := hb j (clean y) (by rw [List.getElem?_map, hy]; rfl)
    cases q : bad y with
    | false => rfl
    | true => exact absurd (clean_none.mpr q) this
  refine ⟨findIdx_no hg, ?_, ?_⟩
  · apply List.ext_getElem?
    intro j
    rw [List.getElem?_map]
    cases e : l[j]? with
    | none => rfl
    | some y => exact congrArg some (clean_ok (hg j y e))
  · apply List.ext_getElem?
    intro j
    unfold Ks336.wished
    rw [List.getElem?_map, List.getElem?_map]
    cases e : l[j]? with
    | none => rfl
    | some y =>
      have := hg j y e
      cases y with
      | none => simp [bad] at this
      | some t => rfl
theorem clash_at {l : List Bytes} {i : Nat} {x : Bytes} (h : l[i]? = some x) (hx : x ∈ l.take i) (hb : ∀ j y, j < i → l[j]? = some y → y ∉ l.take j) : Ks336.clash l = some i := by
  have hl := (List.getElem?_eq_some_iff.mp h).1
  have e : (List.range l.length).findIdx (fun i => (l.take i).contains (l.getD i [])) = i := by
    refine findIdx_eq (x := i) (by rw [List.getElem?_range hl]) ?_ fun j y hj hy => ?_
    · rw [List.getD_eq_getElem?_getD, h]
      simpa using hx
    · rw [List.getElem?_range (by omega)] at hy
      cases hy
      have hjl : l[j]? = some l[j] := List.getElem?_eq_getElem (by omega)
      rw [List.getD_eq_getElem?_getD, hjl]
      have := hb j _ hj hjl
      simpa using this
  unfold Ks336.clash
  simp only [e]
  rw [if_pos hl]
theorem clash_no {l : List Bytes} (hb : ∀ (j : Nat) y, l[j]? = some y → y ∉ l.take j) : Ks336.clash l = none := by
  have e : (List.range l.length).findIdx (fun i => (l.take i).contains (l.getD i [])) = l.length := by
    rw [findIdx_no, List.length_range]
    intro j y hy
    have hj : j < l.length := by
      have := (List.getElem?_eq_some_iff.mp hy).1
      simpa using this
    rw [List.getElem?_range hj] at hy
    cases hy
    have hjl : l[j]? = some l[j] := List.getElem?_eq_getElem hj
    rw [List.getD_eq_getElem?_getD, hjl]
    have := hb j _ hjl
    simpa using this
  unfold Ks336.clash
  simp only [e]
  rw [if_neg (by omega)]
theorem nodup_of {l : List Bytes} (hb : ∀ (j : Nat) y, l[j]? = some y → y ∉ l.take j) : l.Nodup := by
  rw [List.nodup_iff_pairwise_ne, List.pairwise_iff_getElem]
  intro i j hi hj hij q
  refine hb j l[j] (List.getElem?_eq_getElem hj) ?_
  rw [List.mem_iff_getElem?]
  exact ⟨i, by rw [List.getElem?_take, if_pos hij, List.getElem?_eq_getElem hi, q]⟩

/-! ### the next renaming -/
theorem free_zip {ns ws : List Bytes} (hl : ns.length = ws.length) : (ns.zip ws).map Prod.fst = ns := by
  rw [List.map_fst_zip (by omega)]
theorem snd_zip {ns ws : List Bytes} (hl : ns.length = ws.length) : (ns.zip ws).map Prod.snd = ws := by
  rw [List.map_snd_zip (by omega)]
theorem zip_at {ns ws : List Bytes} {i : Nat} {x : Wish} : (ns.zip ws)[i]? = some x ↔ ns[i]? = some x.1 ∧ ws[i]? = some x.2 := by
  rw [List.getElem?_zip_eq_some]
/-- the file's name to get is another, and nobody has it -/
def canGet (ns ws : List Bytes) (f : Nat) : Prop := ∃ n t, ns[f]? = some n ∧ ws[f]? = some t ∧ n ≠ t ∧ t ∉ ns
theorem free_iff {ns ws : List Bytes} (hl : ns.length = ws.length) {f : Nat} {x : Wish} (h : (ns.zip ws)[f]? = some x) : Ks334.free (ns.zip ws) x = true ↔ canGet ns ws f := by
  obtain ⟨h1, h2⟩ := zip_at.mp h
  unfold Ks334.free
  rw [free_zip hl]
  constructor
  · intro q
    simp at q
    exact ⟨x.1, x.2, h1, h2, q.1, q.2⟩
  · rintro ⟨n, t, e1, e2, e3, e4⟩
    rw [h1] at e1; rw [h2] at e2
    cases e1; cases e2
    simp [e3, e4]
theorem next_free {ns ws : List Bytes} (hl : ns.length = ws.length) {f : Nat} {t : Bytes} (h : canGet ns ws f) (ht : ws[f]? = some t) (hb : ∀ g, g < f → ¬ canGet ns ws g) : Ks334.next (ns.zip ws) = some (f, t) := by
  obtain ⟨n, t', h1, h2, h3, h4⟩ := id h
  rw [ht] at h2; cases h2
  have hz : (ns.zip ws)[f]? = some (n, t) := zip_at.mpr ⟨h1, ht⟩
  have e : (ns.zip ws).findIdx (Ks334.free (ns.zip ws)) = f := findIdx_eq hz ((free_iff hl hz).mpr h) fun j y hj hy => by
    cases q : Ks334.free (ns.zip ws) y with
    | false => rfl
    | true => exact absurd ((free_iff hl hy).mp q) (hb j hj)
  have hlt := (List.getElem?_eq_some_iff.mp hz).1
  unfold Ks334.next
  simp only [e]
  rw [if_pos hlt, List.getD_eq_getElem?_getD, hz]
  rfl
theorem next_nofree {ns ws : List Bytes} (hl : ns.length = ws.length) (hb : ∀ g, ¬ canGet ns ws g) :
    Ks334.next (ns.zip ws) = if (ns.zip ws).findIdx (fun w => w.1 != w.2) < (ns.zip ws).length then some ((ns.zip ws).findIdx (fun w => w.1 != w.2), Ks334.BETWEEN) else none := by
  have e : (ns.zip ws).findIdx (Ks334.free (ns.zip ws)) = (ns.zip ws).length := findIdx_no fun j y hy => by
    cases q : Ks334.free (ns.zip ws) y with
    | false => rfl
    | true => exact absurd ((free_iff hl hy).mp q) (hb j)
  unfold Ks334.next
  simp only [e]
  rw [if_neg (by omega)]
theorem next_same {ns : List Bytes} : Ks334.next (ns.zip ns) = none := by
  rw [next_nofree rfl]
  · rw [findIdx_no, if_neg (by omega)]
    intro j y hy
    obtain ⟨h1, h2⟩ := zip_at.mp hy
    rw [h1] at h2
    have : y.1 = y.2 := Option.some.inj h2
    simp [this]
  · rintro g ⟨n, t, h1, h2, h3, _⟩
    rw [h1] at h2
    exact h3 (Option.some.inj h2)
theorem next_mid {ns ws : List Bytes} (hl : ns.length = ws.length) {f : Nat} {n t : Bytes} (hb : ∀ g, ¬ canGet ns ws g) (h1 : ns[f]? = some n) (h2 : ws[f]? = some t) (h3 : n ≠ t) (h4 : ∀ g, g < f → ns[g]? = ws[g]?) :
    Ks334.next (ns.zip ws) = some (f, Ks334.BETWEEN) := by
  have hz : (ns.zip ws)[f]? = some (n, t) := zip_at.mpr ⟨h1, h2⟩
  have e : (ns.zip ws).findIdx (fun w => w.1 != w.2) = f := findIdx_eq hz (by simpa using h3) fun j y hj hy => by
    obtain ⟨e1, e2⟩ := zip_at.mp hy
    have := h4 j hj
    rw [e1, e2] at this
    have := Option.some.inj this
    simp [this]
  rw [next_nofree hl hb, e, if_pos (List.getElem?_eq_some_iff.mp hz).1]
theorem next_none_iff {ns ws : List Bytes} (hl : ns.length = ws.length) : Ks334.next (ns.zip ws) = none ↔ ns = ws := by
  constructor
  · intro h
    apply Classical.byContradiction
    intro hne
    have h2 : ∃ j : Nat, ns[j]? ≠ ws[j]? := by
      apply Classical.byContradiction
      intro q
      exact hne (List.ext_getElem? fun j => Classical.byContradiction fun z => q ⟨j, z⟩)
    obtain ⟨j, hj⟩ := h2
    have hjl : j < (ns.zip ws).length := by
      rw [List.length_zip]
      apply Classical.byContradiction
      intro q
      rw [List.getElem?_eq_none_iff.mpr (by omega), List.getElem?_eq_none_iff.mpr (by omega)] at hj
      exact hj rfl
    unfold Ks334.next at h
    simp only at h
    split at h
    · cases h
    · split at h
      · cases h
      · rename_i _ q
        have q2 : (ns.zip ws).findIdx (fun w => w.1 != w.2) = (ns.zip ws).length := Nat.le_antisymm List.findIdx_le_length (Nat.not_lt.mp q)
        have q3 := List.findIdx_eq_length.mp q2 _ (List.getElem_mem hjl)
        have hz : (ns.zip ws)[j]? = some (ns.zip ws)[j] := List.getElem?_eq_getElem hjl
        obtain ⟨e1, e2⟩ := zip_at.mp hz
        rw [e1, e2] at hj
        simp at q3
        simp at hj
        exact hj q3
  · rintro rfl
    exact next_same
end Rf
end
section
namespace Rf
open Ks334 (Bytes isSign okName Wish BETWEEN)

/-! ### as many as there is room for -/
theorem nodup_le {α : Type} [DecidableEq α] : ∀ {l m : List α}, l.Nodup → (∀ x ∈ l, x ∈ m) → l.length ≤ m.length
  | [], m, _, _ => Nat.zero_le _
  | a :: l, m, hn, hs => by
    obtain ⟨h1, h2⟩ := List.nodup_cons.mp hn
    have ha : a ∈ m := hs a (List.mem_cons_self ..)
    have ih := nodup_le (l := l) (m := m.erase a) h2 fun x hx => by
      have hxa : x ≠ a := fun q => h1 (q ▸ hx)
      exact (List.mem_erase_of_ne hxa).mpr (hs x (List.mem_cons_of_mem _ hx))
    rw [List.length_erase_of_mem ha] at ih
    have : 0 < m.length := List.length_pos_of_mem ha
    rw [List.length_cons]
    omega
theorem set_nodup {ns : List Bytes} {f : Nat} {x : Bytes} (h : ns.Nodup) (hx : x ∉ ns) : (ns.set f x).Nodup := by
  rw [List.nodup_iff_pairwise_ne, List.pairwise_iff_getElem] at h ⊢
  intro i j hi hj hij q
  rw [List.length_set] at hi hj
  rw [List.getElem_set, List.getElem_set] at q
  split at q
  · split at q
    · omega
    · exact hx (q ▸ List.getElem_mem hj)
  · split at q
    · exact hx (q ▸ List.getElem_mem hi)
    · exact h i j hi hj hij q

/-! ### what is left, as a number that falls -/
def cost (n w : Bytes) : Nat := if n = w then 0 else if n = BETWEEN then 1 else 2
def mu : List Bytes → List Bytes → Nat
  | n :: ns, w :: ws => cost n w + mu ns ws
  | _, _ => 0
theorem cost_le (n w : Bytes) : cost n w ≤ 2 := by
  unfold cost
  split
  · omega
  · split <;> omega
theorem mu_le : ∀ (ns ws : List Bytes), mu ns ws ≤ 2 * ns.length
  | [], ws => Nat.zero_le _
  | _ :: _, [] => Nat.zero_le _
  | n :: ns, w :: ws => by
    have := mu_le ns ws
    have := cost_le n w
    show cost n w + mu ns ws ≤ 2 * (ns.length + 1)
    omega
theorem mu_set {x : Bytes} : ∀ {ns ws : List Bytes} {i : Nat} {n w : Bytes}, ns[i]? = some n → ws[i]? = some w → mu (ns.set i x) ws + cost n w = mu ns ws + cost x w
  | [], _, _, _, _, h, _ => by simp at h
  | _ :: _, [], _, _, _, _, h => by simp at h
  | n :: ns, w :: ws, 0, n', w', h1, h2 => by
    simp at h1 h2
    subst h1; subst h2
    show cost x w + mu ns ws + cost n w = cost n w + mu ns ws + cost x w
    omega
  | n :: ns, w :: ws, i + 1, n', w', h1, h2 => by
    have ih := mu_set (x := x) (ns := ns) (ws := ws) (i := i) (n := n') (w := w') (by simpa using h1) (by simpa using h2)
    show cost n w + mu (ns.set i x) ws + cost n' w' = cost n w + mu ns ws + cost x w'
    omega
structure Good (ns ws : List Bytes) : Prop where
  len : ns.length = ws.length
  nd : ns.Nodup
  wd : ws.Nodup
  ok : ∀ w ∈ ws, okName w = true
theorem between_no : okName BETWEEN = false := by decide
structure Nx (ns ws : List Bytes) (f : Nat) (x : Bytes) : Prop where
  at_ : ∃ n t, ns[f]? = some n ∧ ws[f]? = some t ∧ n ≠ t ∧ (x = t ∨ x = BETWEEN)
  new : x ∉ ns
  mu : mu (ns.set f x) ws < mu ns ws
  good : Good (ns.set f x) ws
theorem next_ne {ns ws : List Bytes} (hl : ns.length = ws.length) {s : Nat × Bytes} (h : Ks334.next (ns.zip ws) = some s) : ns ≠ ws := fun q => by
  rw [(next_none_iff hl).mpr q] at h
  cases h
theorem findIdx_hit {α : Type} {p : α → Bool} {l : List α} (h : l.findIdx p < l.length) : ∃ x, l[l.findIdx p]? = some x ∧ p x = true :=
  ⟨_, List.getElem?_eq_getElem h, List.findIdx_getElem (w := h)⟩
theorem next_nx {ns ws : List Bytes} (G : Good ns ws) {f : Nat} {x : Bytes} (h : Ks334.next (ns.zip ws) = some (f, x)) : Nx ns ws f x := by
  have key : ∃ n t, ns[f]? = some n ∧ ws[f]? = some t ∧ n ≠ t ∧ (x = t ∨ (x = BETWEEN ∧ n ≠ BETWEEN)) ∧ x ∉ ns := by
    unfold Ks334.next at h
    simp only at h
    split at h
    · rename_i hlt
      obtain ⟨y, hz, hp⟩ := findIdx_hit hlt
      have e1 := Option.some.inj h
      rw [List.getD_eq_getElem?_getD, hz] at e1
      obtain ⟨e2, e3⟩ := Prod.mk.inj e1
      rw [e2] at hz
      obtain ⟨n, t, q1, q2, q3, q4⟩ := (free_iff G.len hz).mp hp
      obtain ⟨z1, z2⟩ := zip_at.mp hz
      rw [q2] at z2
      have z3 : t = x := by
        rw [← e3]
        exact Option.some.inj z2
      exact ⟨n, t, q1, q2, q3, .inl z3.symm, z3 ▸ q4⟩
    · rename_i hnf
      split at h
      · rename_i hlt
        obtain ⟨e2, e3⟩ := Prod.mk.inj (Option.some.inj h)
        obtain ⟨y, hz, hp⟩ := findIdx_hit hlt
        rw [e2] at hz
        obtain ⟨z1, z2⟩ := zip_at.mp hz
        have hno : ∀ g, ¬ canGet ns ws g := fun g q => by
          obtain ⟨n, t, h1, h2, _⟩ := id q
          have hg : (ns.zip ws)[g]? = some (n, t) := zip_at.mpr ⟨h1, h2⟩
          have hfr := (free_iff G.len hg).mpr q
          have := List.findIdx_eq_length.mp (Nat.le_antisymm List.findIdx_le_length (Nat.not_lt.mp hnf)) _ (List.mem_of_getElem? hg)
          rw [hfr] at this
          cases this
        have hb : BETWEEN ∉ ns := fun hm => by
          have hsub : ∀ y ∈ BETWEEN :: ws, y ∈ ns := fun y hy => by
            rcases List.mem_cons.mp hy with rfl | hy
            · exact hm
            · obtain ⟨g, hg⟩ := List.getElem?_of_mem hy
              have hgl : g < ns.length := by
                rw [G.len]
                exact (List.getElem?_eq_some_iff.mp hg).1
              have hg1 : ns[g]? = some ns[g] := List.getElem?_eq_getElem hgl
              by_cases e : ns[g] = y
              · rw [← e]; exact List.getElem_mem hgl
              · exact Classical.byContradiction fun q => hno g ⟨ns[g], y, hg1, hg, e, q⟩
          have hbw : BETWEEN ∉ ws := fun q => by
            have := G.ok _ q
            rw [between_no] at this
            cases this
          have hnd : (BETWEEN :: ws).Nodup := List.nodup_cons.mpr ⟨hbw, G.wd⟩
          have := nodup_le hnd hsub
          rw [List.length_cons, G.len] at this
          omega
        refine ⟨_, _, z1, z2, by simpa using hp, .inr ⟨e3.symm, fun q => hb (q ▸ List.mem_of_getElem? z1)⟩, e3 ▸ hb⟩
      · cases h
  obtain ⟨n, t, h1, h2, h3, h4, h5⟩ := key
  have hok : okName t = true := G.ok t (List.mem_of_getElem? h2)
  have htb : t ≠ BETWEEN := fun q => by
    rw [q, between_no] at hok
    cases hok
  refine ⟨⟨n, t, h1, h2, h3, ?_⟩, h5, ?_, ⟨by rw [List.length_set]; exact G.len, set_nodup G.nd h5, G.wd, G.ok⟩⟩
  · rcases h4 with q | q
    · exact .inl q
    · exact .inr q.1
  · have e := mu_set (x := x) h1 h2
    rcases h4 with q | ⟨q, q2⟩
    · have c1 : cost x t = 0 := by rw [q]; unfold cost; rw [if_pos rfl]
      have c2 : 1 ≤ cost n t := by
        unfold cost
        rw [if_neg h3]
        split <;> omega
      omega
    · have c1 : cost x t = 1 := by
        rw [q]; unfold cost; rw [if_neg (fun z => htb z.symm), if_pos rfl]
      have c2 : cost n t = 2 := by
        unfold cost
        rw [if_neg h3, if_neg q2]
      omega
theorem renamed_zip {ns ws : List Bytes} {i : Nat} {x : Bytes} : Ks334.renamed (ns.zip ws) i x = (ns.set i x).zip ws := by
  apply List.ext_getElem?
  intro j
  unfold Ks334.renamed
  rw [List.getElem?_map, List.getElem?_zipIdx]
  cases h : (ns.zip ws)[j]? with
  | none =>
    have : ((ns.set i x).zip ws)[j]? = none := by
      rw [List.getElem?_eq_none_iff, List.length_zip, List.length_set]
      have := List.getElem?_eq_none_iff.mp h
      rw [List.length_zip] at this
      exact this
    rw [this]
    rfl
  | some y =>
    obtain ⟨h1, h2⟩ := zip_at.mp h
    simp only [Option.map_some, Nat.zero_add]
    symm
    rw [zip_at]
    by_cases e : j = i
    · subst e
      rw [if_pos rfl]
      exact ⟨List.getElem?_set_self (List.getElem?_eq_some_iff.mp h1).1, h2⟩
    · rw [if_neg e]
      exact ⟨by rw [List.getElem?_set_ne (fun q => e q.symm)]; exact h1, h2⟩

/-! ### how many renamings are left -/
theorem plan_fuel : ∀ (f g : Nat) (ns ws : List Bytes), Good ns ws → mu ns ws ≤ f → mu ns ws ≤ g → Ks334.plan f (ns.zip ws) = Ks334.plan g (ns.zip ws)
  | 0, 0, _, _, _, _, _ => rfl
  | 0, g + 1, ns, ws, G, hf, _ => by
    show [] = match Ks334.next (ns.zip ws) with
      | none => []
      | some s => s :: Ks334.plan g (Ks334.renamed (ns.zip ws) s.1 s.2)
    cases h : Ks334.next (ns.zip ws) with
    | none => rfl
    | some s =>
      have := (next_nx G (f := s.1) (x := s.2) h).mu
      omega
  | f + 1, 0, ns, ws, G, _, hg => by
    show (match Ks334.next (ns.zip ws) with
      | none => []
      | some s => s :: Ks334.plan f (Ks334.renamed (ns.zip ws) s.1 s.2)) = []
    cases h : Ks334.next (ns.zip ws) with
    | none => rfl
    | some s =>
      have := (next_nx G (f := s.1) (x := s.2) h).mu
      omega
  | f + 1, g + 1, ns, ws, G, hf, hg => by
    show (match Ks334.next (ns.zip ws) with
      | none => []
      | some s => s :: Ks334.plan f (Ks334.renamed (ns.zip ws) s.1 s.2)) = match Ks334.next (ns.zip ws) with
      | none => []
      | some s => s :: Ks334.plan g (Ks334.renamed (ns.zip ws) s.1 s.2)
    cases h : Ks334.next (ns.zip ws) with
    | none => rfl
    | some s =>
      have N := next_nx G (f := s.1) (x := s.2) h
      show s :: _ = s :: _
      rw [renamed_zip, plan_fuel f g _ ws N.good (by have := N.mu; omega) (by have := N.mu; omega)]
/-- how many are left -/
def left (ns ws : List Bytes) : Nat := (Ks334.planOf (ns.zip ws)).length
theorem left_eq {ns ws : List Bytes} (G : Good ns ws) {f : Nat} (h : mu ns ws ≤ f) : left ns ws = (Ks334.plan f (ns.zip ws)).length := by
  unfold left Ks334.planOf
  rw [plan_fuel _ f ns ws G _ h]
  have := mu_le ns ws
  rw [List.length_zip, ← G.len]
  omega
theorem left_none {ns ws : List Bytes} (G : Good ns ws) (h : Ks334.next (ns.zip ws) = none) : left ns ws = 0 := by
  rw [left_eq G (f := mu ns ws + 1) (by omega)]
  show (match Ks334.next (ns.zip ws) with
      | none => []
      | some s => s :: Ks334.plan _ (Ks334.renamed (ns.zip ws) s.1 s.2)).length = 0
  rw [h]
  rfl
theorem left_some {ns ws : List Bytes} (G : Good ns ws) {f : Nat} {x : Bytes} (h : Ks334.next (ns.zip ws) = some (f, x)) : left ns ws = left (ns.set f x) ws + 1 := by
  have N := next_nx G h
  rw [left_eq G (f := mu ns ws + 1) (by omega), left_eq N.good (f := mu ns ws) (by have := N.mu; omega)]
  show (match Ks334.next (ns.zip ws) with
      | none => []
      | some s => s :: Ks334.plan _ (Ks334.renamed (ns.zip ws) s.1 s.2)).length = _
  rw [h]
  show (_ :: Ks334.plan _ (Ks334.renamed (ns.zip ws) f x)).length = _
  rw [List.length_cons, renamed_zip]
theorem left_pos {ns ws : List Bytes} (G : Good ns ws) : 0 < left ns ws ↔ ns ≠ ws := by
  constructor
  · intro h q
    rw [left_none G ((next_none_iff G.len).mpr q)] at h
    omega
  · intro h
    cases e : Ks334.next (ns.zip ws) with
    | none => exact absurd ((next_none_iff G.len).mp e) h
    | some s =>
      rw [left_some G (f := s.1) (x := s.2) e]
      omega
end Rf
end
section
namespace Rf
open Ks334 (Bytes isSign okName Wish BETWEEN)
open Ks336 (Abs Done names stepped finished undone)

def wants (a : Abs) : List Bytes := a.files.map Prod.snd
theorem zip_back : ∀ l : List Wish, l = (l.map Prod.fst).zip (l.map Prod.snd)
  | [] => rfl
  | x :: l => by
    show x :: l = (x.1, x.2) :: (l.map Prod.fst).zip (l.map Prod.snd)
    rw [← zip_back l]
theorem files_eq (a : Abs) : a.files = (names a).zip (wants a) := zip_back a.files
theorem names_len (a : Abs) : (names a).length = a.files.length := by unfold names; rw [List.length_map]
theorem wants_len (a : Abs) : (wants a).length = a.files.length := by unfold wants; rw [List.length_map]
theorem names_zip {ns ws : List Bytes} {d : List Done} {b : Bool} (h : ns.length = ws.length) : names ⟨ns.zip ws, d, b⟩ = ns := free_zip h
theorem wants_zip {ns ws : List Bytes} {d : List Done} {b : Bool} (h : ns.length = ws.length) : wants ⟨ns.zip ws, d, b⟩ = ws := snd_zip h

/-- the renamings done lead from names that are ones to these -/
def Chain (ws : List Bytes) : List Bytes → List Done → Prop
  | ns, [] => ∀ n ∈ ns, okName n = true
  | ns, d :: r => ns[d.file]? = some d.new ∧ Good (ns.set d.file d.old) ws ∧ Ks334.next ((ns.set d.file d.old).zip ws) = some (d.file, d.new) ∧ Chain ws (ns.set d.file d.old) r
theorem set_back {ns : List Bytes} {f : Nat} {x y : Bytes} (h : ns[f]? = some x) : (ns.set f y).set f x = ns := by
  rw [List.set_set]
  apply List.ext_getElem?
  intro j
  by_cases e : j = f
  · subst e
    rw [List.getElem?_set_self (List.getElem?_eq_some_iff.mp h).1, h]
  · rw [List.getElem?_set_ne (fun q => e q.symm)]
theorem chain_len {ws : List Bytes} : ∀ {ns : List Bytes} {d : List Done}, Chain ws ns d → d.length + mu ns ws ≤ 2 * ns.length
  | ns, [], _ => by
    have := mu_le ns ws
    simpa using this
  | ns, d :: r, ⟨h1, h2, h3, h4⟩ => by
    have ih := chain_len h4
    have N := (next_nx h2 h3).mu
    rw [set_back h1] at N
    rw [List.length_set] at ih
    rw [List.length_cons]
    omega
structure OkA (a : Abs) : Prop where
  len : a.files.length ≤ 16
  idle : a.busy = false → a.done = [] ∧ (∀ n ∈ names a, okName n = true) ∧ (names a).Nodup
  busy : a.busy = true → Good (names a) (wants a) ∧ names a ≠ wants a ∧ Chain (wants a) (names a) a.done
theorem okA_new : OkA {} := ⟨by decide, fun _ => ⟨rfl, (fun n h => nomatch h), List.nodup_nil⟩, (fun h => nomatch h)⟩
theorem okA_idle {ns ws : List Bytes} (hl : ns.length = ws.length) (h16 : ns.length ≤ 16) (hok : ∀ n ∈ ns, okName n = true) (hn : ns.Nodup) : OkA ⟨ns.zip ws, [], false⟩ := by
  refine ⟨?_, fun _ => ⟨rfl, ?_, ?_⟩, fun h => by cases h⟩
  · show (ns.zip ws).length ≤ 16
    rw [List.length_zip]; omega
  · rw [names_zip hl]; exact hok
  · rw [names_zip hl]; exact hn

/-! ### one renaming -/
structure Stp (a : Abs) (f : Nat) (n x : Bytes) : Prop where
  nx : Ks334.next a.files = some (f, x)
  at_ : (names a)[f]? = some n
  lt : f < (names a).length
  mu : mu ((names a).set f x) (wants a) < mu (names a) (wants a)
  eq : stepped a = if (names a).set f x = wants a then ⟨((names a).set f x).zip (wants a), [], false⟩ else ⟨((names a).set f x).zip (wants a), ⟨f, n, x⟩ :: a.done, true⟩
  ok : OkA (stepped a)
  good : Good ((names a).set f x) (wants a)
theorem step_ok {a : Abs} (O : OkA a) (hb : a.busy = true) : ∃ f n x, Stp a f n x := by
  obtain ⟨G, ne, C⟩ := O.busy hb
  cases e : Ks334.next a.files with
  | none =>
    rw [files_eq a] at e
    exact absurd ((next_none_iff G.len).mp e) ne
  | some s =>
    obtain ⟨f, x⟩ := s
    have e' : Ks334.next ((names a).zip (wants a)) = some (f, x) := by rw [← files_eq]; exact e
    have N := next_nx G e'
    obtain ⟨n, t, h1, h2, h3, h4⟩ := N.at_
    have hl : ((names a).set f x).length = (wants a).length := by rw [List.length_set]; exact G.len
    have hd : (a.files.getD f ([], [])).1 = n := by
      have hz : a.files[f]? = some (n, t) := by
        rw [files_eq a]
        exact zip_at.mpr ⟨h1, h2⟩
      rw [List.getD_eq_getElem?_getD, hz]
      rfl
    have hr : Ks334.renamed a.files f x = ((names a).set f x).zip (wants a) := by
      rw [files_eq a, renamed_zip]
    have eq : stepped a = if (names a).set f x = wants a then ⟨((names a).set f x).zip (wants a), [], false⟩ else ⟨((names a).set f x).zip (wants a), ⟨f, n, x⟩ :: a.done, true⟩ := by
      unfold stepped
      rw [e]
      simp only [hd, hr]
      by_cases q : (names a).set f x = wants a
      · rw [if_pos q, if_pos (by rw [(next_none_iff hl).mpr q]; rfl)]
      · rw [if_neg q, if_neg, hb]
        intro z
        apply q
        apply (next_none_iff hl).mp
        exact Option.isNone_iff_eq_none.mp z
    have h16 : (names a).length ≤ 16 := by rw [names_len]; exact O.len
    have ok : OkA (stepped a) := by
      rw [eq]
      by_cases q : (names a).set f x = wants a
      · rw [if_pos q]
        refine okA_idle hl (by rw [List.length_set]; exact h16) ?_ ?_
        · rw [q]; exact G.ok
        · rw [q]; exact G.wd
      · rw [if_neg q]
        refine ⟨?_, fun z => (by cases z), fun _ => ?_⟩
        · show (((names a).set f x).zip (wants a)).length ≤ 16
          rw [List.length_zip, List.length_set]; omega
        · rw [names_zip hl, wants_zip hl]
          refine ⟨N.good, q, ?_⟩
          show ((names a).set f x)[f]? = some x ∧ Good (((names a).set f x).set f n) (wants a) ∧ Ks334.next ((((names a).set f x).set f n).zip (wants a)) = some (f, x) ∧ Chain (wants a) (((names a).set f x).set f n) a.done
          rw [set_back h1]
          exact ⟨List.getElem?_set_self (List.getElem?_eq_some_iff.mp h1).1, G, e', C⟩
    exact ⟨f, n, x, e, h1, (List.getElem?_eq_some_iff.mp h1).1, N.mu, eq, ok, N.good⟩
theorem stepped_wants {a : Abs} {f : Nat} {n x : Bytes} (S : Stp a f n x) : names (stepped a) = (names a).set f x ∧ wants (stepped a) = wants a := by
  rw [S.eq]
  split
  · exact ⟨names_zip S.good.len, wants_zip S.good.len⟩
  · exact ⟨names_zip S.good.len, wants_zip S.good.len⟩
theorem stepped_busy {a : Abs} {f : Nat} {n x : Bytes} (S : Stp a f n x) : (stepped a).busy = true ↔ (names a).set f x ≠ wants a := by
  rw [S.eq]
  split
  · rename_i q
    exact ⟨fun z => (by cases z), fun z => absurd q z⟩
  · rename_i q
    exact ⟨fun _ => q, fun _ => rfl⟩
theorem finished_ok : ∀ (f : Nat) (a : Abs), OkA a → a.busy = true → mu (names a) (wants a) ≤ f → finished f a = ⟨(wants a).zip (wants a), [], false⟩
  | 0, a, O, hb, hf => by
    obtain ⟨f, n, x, S⟩ := step_ok O hb
    have := S.mu
    omega
  | f + 1, a, O, hb, hf => by
    obtain ⟨g, n, x, S⟩ := step_ok O hb
    show (if a.busy then finished f (stepped a) else a) = _
    rw [if_pos hb]
    obtain ⟨e1, e2⟩ := stepped_wants S
    cases q : (stepped a).busy with
    | true =>
      rw [finished_ok f _ S.ok q (by rw [e1, e2]; have := S.mu; omega), e2]
    | false =>
      have q2 : (names a).set g x = wants a := Classical.byContradiction fun z => by
        rw [(stepped_busy S).mpr z] at q
        cases q
      have e3 : finished f (stepped a) = stepped a := by
        cases f with
        | zero => rfl
        | succ f =>
          show (if (stepped a).busy then _ else stepped a) = _
          rw [q]
          rfl
      rw [e3, S.eq, if_pos q2, q2]
theorem finish_eq {a : Abs} (O : OkA a) (hb : a.busy = true) : finished (2 * a.files.length) a = ⟨(wants a).zip (wants a), [], false⟩ := by
  refine finished_ok _ a O hb ?_
  have := mu_le (names a) (wants a)
  rw [names_len] at this
  exact this
theorem finish_okA {a : Abs} (O : OkA a) (hb : a.busy = true) : OkA ⟨(wants a).zip (wants a), [], false⟩ := by
  obtain ⟨G, _, _⟩ := O.busy hb
  exact okA_idle rfl (by rw [wants_len]; exact O.len) G.ok G.wd

/-! ### taken back -/
theorem undone_nil {a : Abs} (O : OkA a) (hb : a.busy = true) (hd : a.done = []) : undone a = ⟨(names a).zip (names a), [], false⟩ ∧ OkA (undone a) := by
  obtain ⟨G, ne, C⟩ := O.busy hb
  have e : undone a = ⟨(names a).zip (names a), [], false⟩ := by
    unfold undone
    rw [hd]
    have : a.files.map (fun w => (w.1, w.1)) = (names a).zip (names a) := by
      unfold names
      generalize a.files = l
      induction l with
      | nil => rfl
      | cons x l ih =>
        exact congrArg ((x.1, x.1) :: ·) ih
    simp only [this]
  refine ⟨e, ?_⟩
  rw [e]
  rw [hd] at C
  exact okA_idle rfl (by rw [names_len]; exact O.len) C G.nd
theorem undone_cons {a : Abs} (O : OkA a) (hb : a.busy = true) {d : Done} {r : List Done} (hd : a.done = d :: r) :
    undone a = ⟨((names a).set d.file d.old).zip (wants a), r, true⟩ ∧ OkA (undone a) ∧ d.file < (names a).length := by
  obtain ⟨G, ne, C⟩ := O.busy hb
  rw [hd] at C
  obtain ⟨c1, c2, c3, c4⟩ := C
  have hr : Ks334.renamed a.files d.file d.old = ((names a).set d.file d.old).zip (wants a) := by
    rw [files_eq a, renamed_zip]
  have e : undone a = ⟨((names a).set d.file d.old).zip (wants a), r, true⟩ := by
    unfold undone
    rw [hd]
    simp only [hr, hb]
  refine ⟨e, ?_, (List.getElem?_eq_some_iff.mp c1).1⟩
  rw [e]
  have h16 : (names a).length ≤ 16 := by rw [names_len]; exact O.len
  refine ⟨?_, fun z => (by cases z), fun _ => ?_⟩
  · show (((names a).set d.file d.old).zip (wants a)).length ≤ 16
    rw [List.length_zip, List.length_set]; omega
  · rw [names_zip c2.len, wants_zip c2.len]
    exact ⟨c2, next_ne c2.len c3, c4⟩
/-- all taken back, the last one first -/
def ua : List Bytes → List Done → List Bytes
  | ns, [] => ns
  | ns, d :: r => ua (ns.set d.file d.old) r
theorem allBack_ok : ∀ (f : Nat) (a : Abs), OkA a → a.busy = true → a.done.length < f → Ks336.allBack f a = ⟨(ua (names a) a.done).zip (ua (names a) a.done), [], false⟩ ∧ OkA (Ks336.allBack f a)
  | 0, a, _, _, h => by omega
  | f + 1, a, O, hb, h => by
    have e0 : Ks336.allBack (f + 1) a = Ks336.allBack f (undone a) := by
      show (if a.busy then Ks336.allBack f (undone a) else a) = _
      rw [if_pos hb]
    cases hd : a.done with
    | nil =>
      obtain ⟨e, O'⟩ := undone_nil O hb hd
      have e3 : Ks336.allBack f (undone a) = undone a := by
        cases f with
        | zero => rfl
        | succ f =>
          show (if (undone a).busy then _ else undone a) = _
          rw [e]
          rfl
      rw [e0, e3]
      exact ⟨e, O'⟩
    | cons d r =>
      obtain ⟨e, O', hlt⟩ := undone_cons O hb hd
      have c2 : ((names a).set d.file d.old).length = (wants a).length := by
        rw [List.length_set]; exact (O.busy hb).1.len
      have ih := allBack_ok f (undone a) O' (by rw [e]) (by rw [e]; rw [hd] at h; simp at h; exact h)
      rw [e0]
      refine ⟨?_, ih.2⟩
      rw [ih.1, e, names_zip c2]
      rfl
theorem allBack_eq {a : Abs} (O : OkA a) (hb : a.busy = true) : Ks336.allBack (2 * a.files.length + 1) a = ⟨(ua (names a) a.done).zip (ua (names a) a.done), [], false⟩ ∧ OkA (Ks336.allBack (2 * a.files.length + 1) a) := by
  refine allBack_ok _ a O hb ?_
  have := chain_len (O.busy hb).2.2
  rw [names_len] at this
  omega
end Rf
end
section
namespace Rf
open Ks334 (Bytes)
open Ks336 (Abs)

/-- a call, its numbers told as they are -/
inductive Cl where
  | begin
  | add (n : Bytes)
  | wish (k : Nat) (r : Bytes) (fs : List Nat)
  | step
  | finish
  | back
  | allBack
  | name (i : Nat)
  | find (n : Bytes)
  | state
def nsI (l : List Nat) : List Int := l.map Int.ofNat
def rowI (l : List Nat) : List Int := (l.length : Int) :: nsI l
def Cl.flat : Cl → List Int
  | .begin => [0]
  | .add n => 1 :: rowI n
  | .wish k r fs => 2 :: (k : Int) :: (rowI r ++ rowI fs)
  | .step => [3]
  | .finish => [4]
  | .back => [5]
  | .allBack => [6]
  | .name i => [7, (i : Int)]
  | .find n => 8 :: rowI n
  | .state => [9]
def Cl.spec : Cl → Ks336.Call
  | .begin => .begin
  | .add n => .add n
  | .wish k r fs => .wish r k fs
  | .step => .step
  | .finish => .finish
  | .back => .back
  | .allBack => .allBack
  | .name i => .name i
  | .find n => .find n
  | .state => .state
def Cl.small : Cl → Prop
  | .wish k _ _ => k < 4294967296
  | _ => True
def ansOf (x : Ks336.Ans) : List Int := x.ret :: nsI x.out
def outs : Abs → List Cl → List (List Int)
  | _, [] => []
  | a, c :: cs => ansOf (Ks336.act a c.spec).2 :: outs (Ks336.act a c.spec).1 cs
def flats : List Cl → List Int
  | [] => []
  | c :: cs => c.flat ++ flats cs
/-- a call of the form -/
def Cl.rows : Cl → List (List Int)
  | .begin => [[0]]
  | .add n => [[1], nsI n]
  | .wish k r fs => [[2, (k : Int)], nsI r, nsI fs]
  | .step => [[3]]
  | .finish => [[4]]
  | .back => [[5]]
  | .allBack => [[6]]
  | .name i => [[7, (i : Int)]]
  | .find n => [[8], nsI n]
  | .state => [[9]]
theorem nsI_len (l : List Nat) : (nsI l).length = l.length := by unfold nsI; rw [List.length_map]
theorem put_rows (c : Cl) : PyFlat.put1 c.rows = c.flat := by
  cases c with
  | add n => show [1] ++ ((((nsI n).length : Nat) : Int) :: nsI n ++ []) = _; rw [nsI_len, List.append_nil]; rfl
  | find n => show [8] ++ ((((nsI n).length : Nat) : Int) :: nsI n ++ []) = _; rw [nsI_len, List.append_nil]; rfl
  | wish k r fs =>
    show [2, (k : Int)] ++ ((((nsI r).length : Nat) : Int) :: nsI r ++ ((((nsI fs).length : Nat) : Int) :: nsI fs ++ [])) = _
    rw [nsI_len, nsI_len, List.append_nil]; rfl
  | _ => rfl
theorem nats_ints (l : List Nat) : Ks336Neutral.nats (nsI l) = l := by
  unfold Ks336Neutral.nats nsI
  rw [List.map_map]
  have : (Int.toNat ∘ Int.ofNat) = id := by
    funext b
    simp
  rw [this, List.map_id]
theorem ints_of {l : List Int} (h : ∀ z ∈ l, 0 ≤ z) : nsI (l.map Int.toNat) = l := by
  unfold nsI
  rw [List.map_map]
  have : l.map (Int.ofNat ∘ Int.toNat) = l.map id := by
    apply List.map_congr_left
    intro z hz
    have := h z hz
    show ((z.toNat : Nat) : Int) = z
    omega
  rw [this, List.map_id]
theorem all_nat {l : List Int} {b : Nat} (h : (l.all fun (z : Int) => Ks336Neutral.natural z b) = true) : ∀ z ∈ l, 0 ≤ z := by
  intro z hz
  have := List.all_eq_true.mp h z hz
  unfold Ks336Neutral.natural at this
  simp at this
  exact this.1
/-- what is asked is of the form -/
theorem call_form {c : List (List Int)} (h : Ks336Neutral.asked1 c = true) : ∃ k : Cl, c = k.rows ∧ k.small := by
  unfold Ks336Neutral.asked1 at h
  split at h
  · exact ⟨.begin, rfl, trivial⟩
  · rename_i a
    exact ⟨.add (a.map Int.toNat), by show _ = [[1], nsI _]; rw [ints_of (all_nat h)], trivial⟩
  · rename_i a b d
    rw [Bool.and_eq_true, Bool.and_eq_true] at h
    have h1 := h.1.1
    unfold Ks336Neutral.natural at h1
    simp at h1
    refine ⟨.wish a.toNat (b.map Int.toNat) (d.map Int.toNat), ?_, ?_⟩
    · show _ = [[2, ((a.toNat : Nat) : Int)], nsI _, nsI _]
      rw [ints_of (all_nat h.1.2), ints_of (all_nat h.2)]
      have : ((a.toNat : Nat) : Int) = a := by omega
      rw [this]
    · show a.toNat < 4294967296
      omega
  · exact ⟨.step, rfl, trivial⟩
  · exact ⟨.finish, rfl, trivial⟩
  · exact ⟨.back, rfl, trivial⟩
  · exact ⟨.allBack, rfl, trivial⟩
  · rename_i a
    unfold Ks336Neutral.natural at h
    simp at h
    refine ⟨.name a.toNat, ?_, trivial⟩
    show _ = [[7, ((a.toNat : Nat) : Int)]]
    have : ((a.toNat : Nat) : Int) = a := by omega
    rw [this]
  · rename_i a
    exact ⟨.find (a.map Int.toNat), by show _ = [[8], nsI _]; rw [ints_of (all_nat h)], trivial⟩
  · exact ⟨.state, rfl, trivial⟩
  · cases h
theorem whole_rows (c : Cl) : PyKs336.whole c.rows = c.rows := by cases c <;> rfl
theorem ints_eq (l : List Nat) : Ks336Neutral.ints l = nsI l := rfl
theorem step_rows (a : Abs) (c : Cl) : Ks336Neutral.step a c.rows = ((Ks336.act a c.spec).1, ansOf (Ks336.act a c.spec).2) := by
  cases c with
  | add n =>
    show Ks336Neutral.sa (Ks336.act a (.add (Ks336Neutral.nats (nsI n)))) = _
    rw [nats_ints]; rfl
  | find n =>
    show Ks336Neutral.sa (Ks336.act a (.find (Ks336Neutral.nats (nsI n)))) = _
    rw [nats_ints]; rfl
  | wish k r fs =>
    show Ks336Neutral.sa (Ks336.act a (.wish (Ks336Neutral.nats (nsI r)) (((k : Nat) : Int)).toNat (Ks336Neutral.nats (nsI fs)))) = _
    rw [nats_ints, nats_ints]; rfl
  | name i => rfl
  | _ => rfl
theorem played_outs : ∀ (cs : List Cl) (a : Abs), PyFlat.played Ks336Neutral.step a (cs.map Cl.rows) = outs a cs
  | [], _ => rfl
  | c :: cs, a => by
    show (Ks336Neutral.step a c.rows).2 :: PyFlat.played Ks336Neutral.step (Ks336Neutral.step a c.rows).1 (cs.map Cl.rows) = _
    rw [step_rows]
    show _ :: PyFlat.played Ks336Neutral.step (Ks336.act a c.spec).1 (cs.map Cl.rows) = _
    rw [played_outs cs]
    rfl
theorem runs_outs : ∀ (cs : List Cl) (a : Abs), Ks336Neutral.runs a (cs.map Cl.rows) = outs a cs
  | [], _ => rfl
  | c :: cs, a => by
    show (Ks336Neutral.step a c.rows).2 :: Ks336Neutral.runs (Ks336Neutral.step a c.rows).1 (cs.map Cl.rows) = _
    rw [step_rows]
    show _ :: Ks336Neutral.runs (Ks336.act a c.spec).1 (cs.map Cl.rows) = _
    rw [runs_outs cs]
    rfl
theorem all_form : ∀ {cs : List (List (List Int))}, (cs.all Ks336Neutral.asked1) = true → ∃ ks : List Cl, cs = ks.map Cl.rows ∧ ∀ k ∈ ks, k.small
  | [], _ => ⟨[], rfl, by simp⟩
  | c :: cs, h => by
    rw [List.all_cons, Bool.and_eq_true] at h
    obtain ⟨k, e, s⟩ := call_form h.1
    obtain ⟨ks, e2, s2⟩ := all_form h.2
    exact ⟨k :: ks, by rw [e, e2]; rfl, by
      intro x hx
      rcases List.mem_cons.mp hx with rfl | hx
      · exact s
      · exact s2 x hx⟩
theorem put_flats : ∀ ks : List Cl, PyFlat.put (ks.map Cl.rows) = flats ks
  | [] => rfl
  | k :: ks => by
    show PyFlat.put1 k.rows ++ PyFlat.put (ks.map Cl.rows) = k.flat ++ flats ks
    rw [put_rows, put_flats ks]
theorem shape_whole {c : List (List Int)} (h : PyFlat.okCall PyKs336.shape c) : PyKs336.whole c = c := by
  unfold PyKs336.whole
  split <;> rfl
theorem foldl_add : ∀ (l : List Nat) (z : Nat), l.foldl (· + ·) z = z + l.sum
  | [], z => by simp
  | x :: l, z => by
    rw [List.foldl_cons, foldl_add l, List.sum_cons]
    omega
theorem told_len : ∀ l : List (List Int), (PyFlat.told l).length = (l.map List.length).sum + l.length
  | [] => rfl
  | x :: l => by
    show (((x.length : Int) :: x) ++ PyFlat.told l).length = _
    rw [List.length_append, told_len l, List.length_cons, List.map_cons, List.sum_cons, List.length_cons]
    omega
theorem outs_len : ∀ (cs : List Cl) (a : Abs), (outs a cs).length = cs.length
  | [], _ => rfl
  | c :: cs, a => by
    show (outs _ cs).length + 1 = cs.length + 1
    rw [outs_len cs]
/-- THE REQUEST: a list of calls, and what is due -/
theorem asked_form {ns : List Int} (h : PyKs336.answers_asked ns = true) :
    ∃ ks : List Cl, ns = flats ks ∧ (∀ k ∈ ks, k.small) ∧ PyKs336.answers ns = PyFlat.told (outs {} ks) ∧ (PyFlat.told (outs {} ks)).length ≤ 1005000 := by
  unfold PyKs336.answers_asked at h
  cases e : PyKs336.calls ns with
  | none => rw [e] at h; cases h
  | some cs =>
    rw [e] at h
    unfold PyKs336.calls at e
    cases e2 : PyFlat.calls PyKs336.shape ns.length ns with
    | none => rw [e2] at e; cases e
    | some ds =>
      rw [e2] at e
      obtain ⟨p1, p2⟩ := PyFlat.put_calls _ _ _ e2
      have e3 : cs = ds := by
        have : ds.map PyKs336.whole = ds.map id := List.map_congr_left fun c hc => shape_whole (p2 c hc)
        rw [List.map_id] at this
        rw [← this]
        exact (Option.some.inj e).symm
      subst e3
      have h' : (PyFlat.atMost 5000 cs && Ks336Neutral.asked cs) = true := h
      rw [Bool.and_eq_true] at h'
      obtain ⟨h1, h2⟩ := h'
      unfold Ks336Neutral.asked at h2
      simp only [Bool.and_eq_true, decide_eq_true_eq] at h2
      obtain ⟨⟨⟨⟨q1, q2⟩, q3⟩, q4⟩, q5⟩ := h2
      obtain ⟨ks, e4, s4⟩ := all_form q1
      have ea : PyKs336.answers ns = PyFlat.told (outs {} ks) := by
        unfold PyKs336.answers PyKs336.calls
        rw [e2]
        show PyFlat.told (PyFlat.played Ks336Neutral.step Ks336Neutral.start (cs.map PyKs336.whole)) = _
        have : cs.map PyKs336.whole = cs := Option.some.inj e
        rw [this, e4, played_outs]
        rfl
      refine ⟨ks, ?_, s4, ea, ?_⟩
      · rw [p1, e4, put_flats]
      · unfold Ks336Neutral.f at q5
        rw [e4, runs_outs, foldl_add] at q5
        rw [e4, List.length_map] at q3
        rw [told_len, outs_len]
        have q5' : 0 + ((outs {} ks).map List.length).sum < 1000000 := q5
        omega
end Rf
end
section
namespace Rf
open Ks334 (Bytes okName)
open Ks336 (Abs names act no)

/-! ### the files told -/
theorem twice_iff : ∀ w : List Nat, Ks336.twice w = false ↔ w.Nodup
  | [] => by simp [Ks336.twice]
  | x :: l => by
    rw [List.nodup_cons, ← twice_iff l]
    show (l.contains x || Ks336.twice l) = false ↔ _
    rw [Bool.or_eq_false_iff]
    simp
def badTold (w : List Nat) (n : Nat) : Bool := w.any (fun i => decide (n ≤ i)) || Ks336.twice w
theorem told_no {w : List Nat} {n p f : Nat} (h : w[p]? = some f) (hb : n ≤ f ∨ f ∈ w.take p) : badTold w n = true := by
  unfold badTold
  rcases hb with q | q
  · rw [Bool.or_eq_true]
    exact .inl (List.any_eq_true.mpr ⟨f, List.mem_of_getElem? h, by simpa using q⟩)
  · rw [Bool.or_eq_true]
    right
    cases e : Ks336.twice w with
    | true => rfl
    | false =>
      have hn := (twice_iff w).mp e
      obtain ⟨i, hi⟩ := List.getElem?_of_mem q
      rw [List.getElem?_take] at hi
      split at hi
      · rename_i hlt
        obtain ⟨h1, e1⟩ := List.getElem?_eq_some_iff.mp hi
        obtain ⟨h2, e2⟩ := List.getElem?_eq_some_iff.mp h
        have := (List.getElem_inj hn).mp (e1.trans e2.symm)
        omega
      · cases hi
theorem told_yes {w : List Nat} {n : Nat} (h : ∀ p f, w[p]? = some f → f < n ∧ f ∉ w.take p) : badTold w n = false ∧ Ks336.twice w = false ∧ ∀ f ∈ w, f < n := by
  have hn : Ks336.twice w = false := by
    rw [twice_iff, List.nodup_iff_pairwise_ne, List.pairwise_iff_getElem]
    intro i j hi hj hij q
    refine (h j w[j] (List.getElem?_eq_getElem hj)).2 ?_
    rw [List.mem_iff_getElem?]
    exact ⟨i, by rw [List.getElem?_take, if_pos hij, List.getElem?_eq_getElem hi, q]⟩
  have hl : ∀ f ∈ w, f < n := fun f hf => by
    obtain ⟨p, hp⟩ := List.getElem?_of_mem hf
    exact (h p f hp).1
  refine ⟨?_, hn, hl⟩
  unfold badTold
  rw [hn, Bool.or_false, List.any_eq_false]
  intro x hx
  have := hl x hx
  simp
  omega

/-! ### add -/
theorem act_add_busy {a : Abs} {n : Bytes} (hb : a.busy = true) : act a (.add n) = (a, no (-15)) := by
  show (if a.busy then _ else _) = _
  rw [if_pos hb]
theorem act_add_none {a : Abs} {n : Bytes} (hb : a.busy = false) (h : okName n = false) : act a (.add n) = (a, no (-22)) := by
  show (if a.busy = true then _ else if okName n = false then (a, no (-22)) else _) = _
  rw [hb, if_neg (by decide), if_pos h]
theorem act_add_has {a : Abs} {n : Bytes} (hb : a.busy = false) (h : okName n = true) (hn : n ∈ names a) : act a (.add n) = (a, no (-17)) := by
  show (if a.busy = true then _ else if okName n = false then (a, no (-22)) else if (names a).contains n = true then (a, no (-17)) else _) = _
  rw [hb, if_neg (by decide), if_neg (by rw [h]; decide), if_pos (by simpa using hn)]
theorem act_add_full {a : Abs} {n : Bytes} (hb : a.busy = false) (h : okName n = true) (hn : n ∉ names a) (hl : (names a).length = 16) : act a (.add n) = (a, no (-12)) := by
  rw [names_len] at hl
  show (if a.busy = true then _ else if okName n = false then (a, no (-22)) else if (names a).contains n = true then (a, no (-17)) else if Ks334.FILES ≤ a.files.length then (a, no (-12)) else _) = _
  rw [hb, if_neg (by decide), if_neg (by rw [h]; decide), if_neg (by simpa using hn), if_pos (by rw [hl]; decide)]
theorem act_add_ok {a : Abs} {n : Bytes} (O : OkA a) (hb : a.busy = false) (h : okName n = true) (hn : n ∉ names a) (hl : (names a).length ≠ 16) :
    ∃ a', act a (.add n) = (a', no ((names a).length : Nat)) ∧ OkA a' ∧ names a' = names a ++ [n] ∧ a'.busy = false := by
  have hl' := hl
  rw [names_len] at hl'
  have h16 := O.len
  obtain ⟨o1, o2, o3⟩ := O.idle hb
  have en : names { a with files := a.files ++ [(n, n)] } = names a ++ [n] := by
    show (a.files ++ [(n, n)]).map Prod.fst = _
    rw [List.map_append]
    rfl
  refine ⟨{ a with files := a.files ++ [(n, n)] }, ?_, ⟨?_, fun _ => ⟨o1, ?_, ?_⟩, fun q => (by rw [hb] at q; cases q)⟩, en, hb⟩
  · show (if a.busy = true then _ else if okName n = false then (a, no (-22)) else if (names a).contains n = true then (a, no (-17)) else if Ks334.FILES ≤ a.files.length then (a, no (-12)) else _) = _
    rw [hb, if_neg (by decide), if_neg (by rw [h]; decide), if_neg (by simpa using hn), if_neg (by show ¬ 16 ≤ _; omega), names_len]
  · show (a.files ++ [(n, n)]).length ≤ 16
    rw [List.length_append, List.length_singleton]
    omega
  · rw [en]
    intro x hx
    rcases List.mem_append.mp hx with q | q
    · exact o2 x q
    · rw [List.mem_singleton.mp q]; exact h
  · rw [en, List.nodup_append]
    refine ⟨o3, by simp, fun x hx y hy q => ?_⟩
    rw [List.mem_singleton.mp hy] at q
    exact hn (q ▸ hx)

/-! ### wish -/
theorem act_wish_busy {a : Abs} {r : Bytes} {k : Nat} {w : List Nat} (hb : a.busy = true) : act a (.wish r k w) = (a, no (-15)) := by
  show (if a.busy then _ else _) = _
  rw [if_pos hb]
theorem act_wish_rule {a : Abs} {r : Bytes} {k : Nat} {w : List Nat} (hb : a.busy = false) (h : Ks335.okRule r = false) : act a (.wish r k w) = (a, no (-71)) := by
  show (if a.busy = true then _ else if Ks335.okRule r = false then (a, no (-71)) else _) = _
  rw [hb, if_neg (by decide), if_pos h]
theorem act_wish_told {a : Abs} {r : Bytes} {k : Nat} {w : List Nat} (hb : a.busy = false) (h : Ks335.okRule r = true) (ht : badTold w (names a).length = true) : act a (.wish r k w) = (a, no (-22)) := by
  rw [names_len] at ht
  show (if a.busy = true then _ else if Ks335.okRule r = false then (a, no (-71)) else if badTold w a.files.length = true then (a, no (-22)) else _) = _
  rw [hb, if_neg (by decide), if_neg (by rw [h]; decide), if_pos ht]
theorem bad_eq : (fun x : Option Bytes => match x with
      | some t => !okName t
      | none => true) = bad := by
  funext x
  cases x <;> rfl
theorem act_wish_tail {a : Abs} {r : Bytes} {k : Nat} {w : List Nat} (hb : a.busy = false) (h : Ks335.okRule r = true) (ht : badTold w (names a).length = false) :
    act a (.wish r k w) = if (Ks336.wishes a r k w).findIdx bad < (Ks336.wishes a r k w).length then (a, no (-1000 - (((Ks336.wishes a r k w).findIdx bad : Nat) : Int))) else match Ks336.clash (Ks336.wished (Ks336.wishes a r k w)) with
      | some j => (a, no (-2000 - (j : Int)))
      | none => if (Ks334.next ((names a).zip (Ks336.wished (Ks336.wishes a r k w)))).isNone then (a, no 0) else
        ({ a with files := (names a).zip (Ks336.wished (Ks336.wishes a r k w)), done := [], busy := true }, no (Ks334.planOf ((names a).zip (Ks336.wished (Ks336.wishes a r k w)))).length) := by
  rw [names_len] at ht
  rw [← bad_eq]
  show (if a.busy = true then _ else if Ks335.okRule r = false then (a, no (-71)) else if badTold w a.files.length = true then (a, no (-22)) else _) = _
  rw [hb, if_neg (by decide), if_neg (by rw [h]; decide), if_neg (by rw [ht]; decide)]
  rfl
theorem wishes_len (a : Abs) (r : Bytes) (k : Nat) (w : List Nat) : (Ks336.wishes a r k w).length = (names a).length := by
  unfold Ks336.wishes names
  rw [List.length_map, List.length_zipIdx, List.length_map]
theorem act_wish_bad {a : Abs} {r : Bytes} {k : Nat} {w : List Nat} (hb : a.busy = false) (h : Ks335.okRule r = true) (ht : badTold w (names a).length = false) {i : Nat}
    (hi : ((Ks336.wishes a r k w).map clean)[i]? = some none) (hj : ∀ (j : Nat) y, j < i → ((Ks336.wishes a r k w).map clean)[j]? = some y → y ≠ none) : act a (.wish r k w) = (a, no (-1000 - (i : Int))) := by
  obtain ⟨e1, e2⟩ := first_bad hi hj
  rw [act_wish_tail hb h ht, e1, if_pos e2]
theorem act_wish_clash {a : Abs} {r : Bytes} {k : Nat} {w : List Nat} (hb : a.busy = false) (h : Ks335.okRule r = true) (ht : badTold w (names a).length = false) {ws : List Bytes} (hw : (Ks336.wishes a r k w).map clean = ws.map some)
    {i : Nat} {x : Bytes} (hi : ws[i]? = some x) (hx : x ∈ ws.take i) (hj : ∀ (j : Nat) y, j < i → ws[j]? = some y → y ∉ ws.take j) : act a (.wish r k w) = (a, no (-2000 - (i : Int))) := by
  obtain ⟨e1, e2, e3⟩ := no_bad (l := Ks336.wishes a r k w) fun j y hy => by
    rw [hw, List.getElem?_map] at hy
    cases q : ws[j]? with
    | none => rw [q] at hy; cases hy
    | some t => rw [q] at hy; cases hy; simp
  have e4 : Ks336.wished (Ks336.wishes a r k w) = ws := by
    rw [← e2, hw]
    unfold Ks336.wished
    rw [List.map_map]
    have : ((fun x : Option Bytes => x.getD []) ∘ some) = id := rfl
    rw [this, List.map_id]
  rw [act_wish_tail hb h ht, e1, if_neg (by omega), e4, clash_at hi hx hj]
theorem act_wish_ok {a : Abs} {r : Bytes} {k : Nat} {w : List Nat} (O : OkA a) (hb : a.busy = false) (h : Ks335.okRule r = true) (ht : badTold w (names a).length = false) {ws : List Bytes} (hw : (Ks336.wishes a r k w).map clean = ws.map some)
    (hj : ∀ (j : Nat) y, ws[j]? = some y → y ∉ ws.take j) :
    Good (names a) ws ∧ act a (.wish r k w) = (if names a = ws then a else ⟨(names a).zip ws, [], true⟩, no (left (names a) ws : Nat)) ∧ (names a ≠ ws → OkA ⟨(names a).zip ws, [], true⟩) := by
  obtain ⟨e1, e2, e3⟩ := no_bad (l := Ks336.wishes a r k w) fun j y hy => by
    rw [hw, List.getElem?_map] at hy
    cases q : ws[j]? with
    | none => rw [q] at hy; cases hy
    | some t => rw [q] at hy; cases hy; simp
  have e4 : Ks336.wished (Ks336.wishes a r k w) = ws := by
    rw [← e2, hw]
    unfold Ks336.wished
    rw [List.map_map]
    have : ((fun x : Option Bytes => x.getD []) ∘ some) = id := rfl
    rw [this, List.map_id]
  obtain ⟨o1, o2, o3⟩ := O.idle hb
  have hl : (names a).length = ws.length := by
    rw [← wishes_len a r k w, ← List.length_map (f := clean), hw, List.length_map]
  have hok : ∀ x ∈ ws, okName x = true := fun x hx => by
    obtain ⟨j, hj⟩ := List.getElem?_of_mem hx
    have hc : ((Ks336.wishes a r k w).map clean)[j]? = some (some x) := by rw [hw, List.getElem?_map, hj]; rfl
    rw [List.getElem?_map] at hc
    cases q : (Ks336.wishes a r k w)[j]? with
    | none => rw [q] at hc; cases hc
    | some y =>
      rw [q] at hc
      have hc : clean y = some x := Option.some.inj hc
      cases y with
      | none => cases hc
      | some t =>
        unfold clean at hc
        cases z : okName t with
        | false => simp [z] at hc
        | true =>
          simp [z] at hc
          rw [← hc]; exact z
  have G : Good (names a) ws := ⟨hl, o3, nodup_of hj, hok⟩
  refine ⟨G, ?_, fun ne => ?_⟩
  · rw [act_wish_tail hb h ht, e1, if_neg (by omega), e4, clash_no hj]
    by_cases q : names a = ws
    · have q2 := (next_none_iff hl).mpr q
      show (if (Ks334.next ((names a).zip ws)).isNone = true then (a, no 0) else _) = _
      rw [if_pos (by rw [q2]; rfl), if_pos q, left_none G q2]
      rfl
    · show (if (Ks334.next ((names a).zip ws)).isNone = true then (a, no 0) else _) = _
      rw [if_neg (fun z => q ((next_none_iff hl).mp (Option.isNone_iff_eq_none.mp z))), if_neg q]
      rfl
  · refine ⟨?_, fun z => (by cases z), fun _ => ?_⟩
    · show ((names a).zip ws).length ≤ 16
      rw [List.length_zip, names_len]
      have := O.len
      omega
    · rw [names_zip hl, wants_zip hl]
      exact ⟨G, ne, o2⟩
end Rf
end
section
namespace Rf
open Ks334 (Bytes okName)
theorem ending_drop (n : Bytes) : Ks335.ending n = n.drop (Ks335.stem n).length := by
  have key : Ks335.ending n = n.drop (n.length - (Ks335.ending n).length) := by
    by_cases h : 46 ∈ n
    · obtain ⟨as, bs, e, hn⟩ := List.eq_append_cons_of_mem (List.mem_reverse.mpr h)
      have e2 : n = bs.reverse ++ 46 :: as.reverse := by
        have := congrArg List.reverse e
        rw [List.reverse_reverse] at this
        rw [this]
        simp
      have hn2 : 46 ∉ as.reverse := fun q => hn (List.mem_reverse.mp q)
      have e3 := ending_dot (a := bs.reverse) hn2
      rw [← e2] at e3
      rw [e3]
      by_cases hb : bs.reverse = []
      · rw [if_pos hb]
        simp
      · rw [if_neg hb]
        have hl : n.length - (46 :: as.reverse).length = bs.reverse.length := by
          have := congrArg List.length e2
          rw [List.length_append] at this
          omega
        rw [hl]
        conv => rhs; rw [e2]
        rw [List.drop_left]
    · rw [ending_no h]
      simp
  have hs : (Ks335.stem n).length = n.length - (Ks335.ending n).length := by
    unfold Ks335.stem
    rw [List.length_take]
    omega
  rw [hs]
  exact key
/-- a number's digits, zeros in front -/
def zf (k m : Nat) : Bytes := List.replicate (m - (nl k).length) 48 ++ nl k
theorem zf_len (k m : Nat) : (zf k m).length = max m (nl k).length := by
  unfold zf
  rw [List.length_append, List.length_replicate]
  omega
theorem zf_fits {k m : Nat} (hm : 1 ≤ m) (h : (zf k m).length ≤ m) : ¬ 10 ^ m ≤ k ∧ zf k m = Ks335.digits m k := by
  rw [zf_len] at h
  have h2 : k < 10 ^ m := (nl_len k m hm).mp (by omega)
  exact ⟨by omega, digits_nl m k hm h2⟩
theorem zf_big {k m : Nat} (hm : 1 ≤ m) (h : ¬ (zf k m).length ≤ m) : 10 ^ m ≤ k := by
  rw [zf_len] at h
  have h2 : ¬ k < 10 ^ m := fun q => h (by have := (nl_len k m hm).mpr q; omega)
  omega
theorem piece_len {b : Nat} {n : Bytes} (h : n.length ≤ 16) : (piece b n).length ≤ 16 := by
  unfold piece
  split
  · have := stem_le n
    omega
  · split
    · rw [ending_drop, List.length_drop]
      omega
    · simp
theorem nl_small {k : Nat} (h : k < 10 ^ 20) : (nl k).length ≤ 20 := (nl_len k 20 (by omega)).mpr h
end Rf
end
section
namespace Rf
open Ks334 (Bytes okName BETWEEN)
/-- the files that haven't the names that they're to get -/
def wait (ns ws : List Bytes) : List Nat := (List.range ns.length).filter fun f => decide (ns[f]? ≠ ws[f]?)
theorem wait_mem {ns ws : List Bytes} {f : Nat} : f ∈ wait ns ws ↔ f < ns.length ∧ ns[f]? ≠ ws[f]? := by
  unfold wait
  rw [List.mem_filter, List.mem_range, decide_eq_true_eq]
theorem wait_lt {ns ws : List Bytes} : (wait ns ws).Pairwise (· < ·) := by
  unfold wait
  exact List.Pairwise.filter _ List.pairwise_lt_range
theorem wait_before {ns ws : List Bytes} {i f g : Nat} (hi : (wait ns ws)[i]? = some f) (hg : g ∈ wait ns ws) (h : g < f) : ∃ j, j < i ∧ (wait ns ws)[j]? = some g := by
  obtain ⟨j, hj⟩ := List.getElem?_of_mem hg
  refine ⟨j, ?_, hj⟩
  obtain ⟨h1, e1⟩ := List.getElem?_eq_some_iff.mp hi
  obtain ⟨h2, e2⟩ := List.getElem?_eq_some_iff.mp hj
  have hp := List.pairwise_iff_getElem.mp (wait_lt (ns := ns) (ws := ws))
  apply Classical.byContradiction
  intro q
  by_cases z : i = j
  · subst z
    rw [hi] at hj
    have := Option.some.inj hj
    omega
  · have := hp i j h1 h2 (by omega)
    omega
theorem can_wait {ns ws : List Bytes} {g : Nat} (h : canGet ns ws g) : g ∈ wait ns ws := by
  obtain ⟨n, t, h1, h2, h3, _⟩ := h
  refine wait_mem.mpr ⟨(List.getElem?_eq_some_iff.mp h1).1, ?_⟩
  rw [h1, h2]
  intro q
  exact h3 (Option.some.inj q)
theorem wait_free {ns ws : List Bytes} (hl : ns.length = ws.length) {i f : Nat} {t : Bytes} (hi : (wait ns ws)[i]? = some f) (hb : ∀ j g, j < i → (wait ns ws)[j]? = some g → ¬ canGet ns ws g) (hc : canGet ns ws f) (ht : ws[f]? = some t) :
    Ks334.next (ns.zip ws) = some (f, t) := by
  refine next_free hl hc ht fun g hg q => ?_
  obtain ⟨j, h1, h2⟩ := wait_before hi (can_wait q) hg
  exact hb j g h1 h2 q
theorem wait_none {ns ws : List Bytes} (hb : ∀ (j : Nat) g, (wait ns ws)[j]? = some g → ¬ canGet ns ws g) : ∀ g, ¬ canGet ns ws g := fun g q => by
  obtain ⟨j, hj⟩ := List.getElem?_of_mem (can_wait q)
  exact hb j g hj q
theorem wait_mid {ns ws : List Bytes} (hl : ns.length = ws.length) {f : Nat} (hb : ∀ (j : Nat) g, (wait ns ws)[j]? = some g → ¬ canGet ns ws g) (hf : (wait ns ws)[0]? = some f) : Ks334.next (ns.zip ws) = some (f, BETWEEN) := by
  obtain ⟨m1, m2⟩ := wait_mem.mp (List.mem_of_getElem? hf)
  have h1 : ns[f]? = some ns[f] := List.getElem?_eq_getElem m1
  have h2 : ws[f]? = some (ws[f]'(by omega)) := List.getElem?_eq_getElem (by omega)
  refine next_mid hl (wait_none hb) h1 h2 (fun q => m2 (by rw [h1, h2, q])) fun g hg => ?_
  apply Classical.byContradiction
  intro q
  obtain ⟨j, z, _⟩ := wait_before hf (wait_mem.mpr ⟨by omega, q⟩) hg
  omega
theorem wait_nil {ns ws : List Bytes} (hl : ns.length = ws.length) (h : wait ns ws = []) : Ks334.next (ns.zip ws) = none := by
  refine (next_none_iff hl).mpr (List.ext_getElem? fun j => ?_)
  apply Classical.byContradiction
  intro q
  have hj : j < ns.length := by
    apply Classical.byContradiction
    intro z
    rw [List.getElem?_eq_none_iff.mpr (by omega), List.getElem?_eq_none_iff.mpr (by omega)] at q
    exact q rfl
  have := wait_mem.mpr ⟨hj, q⟩
  rw [h] at this
  cases this
theorem range_snoc (i : Nat) (p : Nat → Bool) : (List.range (i + 1)).filter p = (List.range i).filter p ++ if p i = true then [i] else [] := by
  rw [List.range_succ, List.filter_append, List.filter_cons, List.filter_nil]
theorem wait_len (ns ws : List Bytes) : (wait ns ws).length ≤ ns.length := by
  unfold wait
  have := List.length_filter_le (fun f => decide (ns[f]? ≠ ws[f]?)) (List.range ns.length)
  rw [List.length_range] at this
  exact this
end Rf
end
section
namespace Rf
open Ks334 (Bytes okName)
open Ks336 (Abs Done names act no undone)
theorem act_back_no {a : Abs} (hb : a.busy = false) : act a .back = (a, no (-61)) := by
  show (if a.busy = false then _ else _) = _
  rw [if_pos hb]
theorem act_back_nil {a : Abs} (O : OkA a) (hb : a.busy = true) (hd : a.done = []) : act a .back = (⟨(names a).zip (names a), [], false⟩, no 0) ∧ OkA ⟨(names a).zip (names a), [], false⟩ := by
  obtain ⟨e, O'⟩ := undone_nil O hb hd
  rw [e] at O'
  refine ⟨?_, O'⟩
  show (if a.busy = false then _ else (undone a, no (if (undone a).busy then 1 else 0))) = _
  rw [if_neg (by rw [hb]; decide), e]
  rfl
theorem act_back_cons {a : Abs} (O : OkA a) (hb : a.busy = true) {d : Done} {r : List Done} (hd : a.done = d :: r) :
    act a .back = (⟨((names a).set d.file d.old).zip (wants a), r, true⟩, no 1) ∧ OkA ⟨((names a).set d.file d.old).zip (wants a), r, true⟩ ∧ d.file < (names a).length := by
  obtain ⟨e, O', hl⟩ := undone_cons O hb hd
  rw [e] at O'
  refine ⟨?_, O', hl⟩
  show (if a.busy = false then _ else (undone a, no (if (undone a).busy then 1 else 0))) = _
  rw [if_neg (by rw [hb]; decide), e]
  rfl
theorem act_all_no {a : Abs} (hb : a.busy = false) : act a .allBack = (a, no (-61)) := by
  show (if a.busy = false then _ else _) = _
  rw [if_pos hb]
theorem act_all_yes {a : Abs} (O : OkA a) (hb : a.busy = true) : act a .allBack = (⟨(ua (names a) a.done).zip (ua (names a) a.done), [], false⟩, no 0) ∧ OkA ⟨(ua (names a) a.done).zip (ua (names a) a.done), [], false⟩ := by
  obtain ⟨e, O'⟩ := allBack_eq O hb
  rw [e] at O'
  refine ⟨?_, O'⟩
  show (if a.busy = false then _ else (Ks336.allBack (2 * a.files.length + 1) a, no 0)) = _
  rw [if_neg (by rw [hb]; decide), e]
theorem act_name_no {a : Abs} {i : Nat} (h : (names a).length ≤ i) : act a (.name i) = (a, no (-2)) := by
  rw [names_len] at h
  show (match a.files[i]? with
    | none => (a, no (-2))
    | some w => (a, Ks336.told w.1)) = _
  rw [List.getElem?_eq_none_iff.mpr h]
theorem act_name_yes {a : Abs} {i : Nat} {n : Bytes} (h : (names a)[i]? = some n) : act a (.name i) = (a, ⟨(n.length : Nat), n⟩) := by
  have e : ∃ w, a.files[i]? = some w ∧ w.1 = n := by
    unfold names at h
    rw [List.getElem?_map] at h
    cases q : a.files[i]? with
    | none => rw [q] at h; cases h
    | some w => rw [q] at h; exact ⟨w, rfl, Option.some.inj h⟩
  obtain ⟨w, e1, e2⟩ := e
  show (match a.files[i]? with
    | none => (a, no (-2))
    | some w => (a, Ks336.told w.1)) = _
  rw [e1]
  show (a, Ks336.told w.1) = _
  rw [e2]
  rfl
theorem act_find_no {a : Abs} {n : Bytes} (h : n ∉ names a) : act a (.find n) = (a, no (-2)) := by
  have e : (names a).findIdx (fun x => x == n) = (names a).length := findIdx_no fun j y hy => by
    have : y ≠ n := fun q => h (q ▸ List.mem_of_getElem? hy)
    simpa using this
  show (if (names a).findIdx (fun x => x == n) < a.files.length then _ else (a, no (-2))) = _
  rw [if_neg (by rw [e, names_len]; omega)]
theorem act_find_yes {a : Abs} {n : Bytes} {i : Nat} (h : (names a)[i]? = some n) (hb : ∀ (j : Nat) y, j < i → (names a)[j]? = some y → y ≠ n) : act a (.find n) = (a, no (i : Nat)) := by
  have e : (names a).findIdx (fun x => x == n) = i := findIdx_eq h (by simp) fun j y hj hy => by
    have := hb j y hj hy
    simpa using this
  have hl := (List.getElem?_eq_some_iff.mp h).1
  rw [names_len] at hl
  show (if (names a).findIdx (fun x => x == n) < a.files.length then (a, no ((names a).findIdx (fun x => x == n) : Nat)) else _) = _
  rw [e, if_pos hl]
theorem act_state_idle {a : Abs} (O : OkA a) (hb : a.busy = false) : act a .state = (a, ⟨0, [(names a).length, 0, 0]⟩) := by
  show (a, ({ ret := if a.busy then 1 else 0, out := [a.files.length, a.done.length, if a.busy then (Ks334.planOf a.files).length else 0] } : Ks336.Ans)) = _
  rw [hb, (O.idle hb).1, names_len]
  rfl
theorem act_state_busy {a : Abs} (hb : a.busy = true) : act a .state = (a, ⟨1, [(names a).length, a.done.length, left (names a) (wants a)]⟩) := by
  show (a, ({ ret := if a.busy then 1 else 0, out := [a.files.length, a.done.length, if a.busy then (Ks334.planOf a.files).length else 0] } : Ks336.Ans)) = _
  rw [hb, names_len]
  unfold left
  rw [← files_eq]
  rfl
end Rf
end
section
namespace Rf
open Ks334 (Bytes okName BETWEEN)
open Ks336 (Abs Done names act no undone)
/-- no call but name and state tells more than one number -/
def Cl.one : Cl → Prop
  | .name _ => False
  | .state => False
  | _ => True
theorem out_nil (a : Abs) (c : Cl) (h : c.one) : (act a c.spec).2.out = [] := by
  cases c with
  | name i => exact h.elim
  | state => exact h.elim
  | begin => rfl
  | add n => show (act a (.add n)).2.out = []; simp only [act]; repeat' split
             all_goals rfl
  | wish k r fs => show (act a (.wish r k fs)).2.out = []; simp only [act]; repeat' split
                   all_goals rfl
  | step => show (act a .step).2.out = []; simp only [act]; repeat' split
            all_goals rfl
  | finish => show (act a .finish).2.out = []; simp only [act]; repeat' split
              all_goals rfl
  | back => show (act a .back).2.out = []; simp only [act]; repeat' split
            all_goals rfl
  | allBack => show (act a .allBack).2.out = []; simp only [act]; repeat' split
               all_goals rfl
  | find n => show (act a (.find n)).2.out = []; simp only [act]; repeat' split
              all_goals rfl
theorem name_stays (a : Abs) (i : Nat) : (act a (.name i)).1 = a := by
  show (match a.files[i]? with
    | none => (a, no (-2))
    | some w => (a, Ks336.told w.1)).1 = a
  split <;> rfl
/-- a name is short, also the name between -/
theorem ok_short {n : Bytes} (h : okName n = true) : n.length ≤ 16 := by
  unfold okName at h
  rw [Bool.and_eq_true, Bool.and_eq_true] at h
  exact of_decide_eq_true h.1.2
theorem chain_short {ws : List Bytes} : ∀ (dd : List Done) (ns : List Bytes), Chain ws ns dd → ∀ n ∈ ns, n.length ≤ 16
  | [], ns, h => fun n hn => ok_short (h n hn)
  | d :: r, ns, h => by
    obtain ⟨h1, G, h3, h4⟩ := h
    have N := next_nx G h3
    obtain ⟨o, t, z1, z2, _, z4⟩ := N.at_
    intro n hn
    obtain ⟨j, hj⟩ := List.mem_iff_getElem?.mp hn
    by_cases e : j = d.file
    · subst e
      rw [h1] at hj
      have hj := Option.some.inj hj
      rw [← hj]
      rcases z4 with q | q
      · rw [q]
        exact ok_short (G.ok t (List.mem_of_getElem? z2))
      · rw [q]
        decide
    · refine chain_short r _ h4 n (List.mem_iff_getElem?.mpr ⟨j, ?_⟩)
      rw [List.getElem?_set_ne (fun q => e q.symm)]
      exact hj
theorem names_short {a : Abs} (O : OkA a) {n : Bytes} (h : n ∈ names a) : n.length ≤ 16 := by
  cases hb : a.busy with
  | false => exact ok_short ((O.idle hb).2.1 n h)
  | true => exact chain_short _ _ (O.busy hb).2.2 n h
theorem first_at {n : Bytes} : ∀ {ns : List Bytes}, n ∈ ns → ∃ i, ns[i]? = some n ∧ ∀ (j : Nat) y, j < i → ns[j]? = some y → y ≠ n
  | [], h => nomatch h
  | x :: ns, h => by
    by_cases e : x = n
    · exact ⟨0, by rw [e]; rfl, fun j y hj => absurd hj (Nat.not_lt_zero j)⟩
    · have h' : n ∈ ns := by
        rcases List.mem_cons.mp h with q | q
        · exact absurd q.symm e
        · exact q
      obtain ⟨i, h1, h2⟩ := first_at h'
      refine ⟨i + 1, h1, fun j y hj hy => ?_⟩
      cases j with
      | zero =>
        have : x = y := Option.some.inj hy
        rw [← this]
        exact e
      | succ j => exact h2 j y (by omega) hy
theorem drop_at {α : Type} {ns t : List α} {i : Nat} {z : α} (h : ns.drop i = z :: t) : ns[i]? = some z ∧ ns.drop (i + 1) = t := by
  constructor
  · have := congrArg (fun l => l[0]?) h
    simpa using this
  · rw [← List.drop_drop, h]
    rfl
theorem row_at {ns t : List Int} {i : Nat} {n : List Nat} (h : ns.drop i = rowI n ++ t) : ns[i]? = some (((nsI n).length : Nat) : Int) ∧ (ns.drop (i + 1)).take (nsI n).length = nsI n ∧ ns.drop (i + 1 + (nsI n).length) = t := by
  have h0 : ns.drop i = (((nsI n).length : Nat) : Int) :: (nsI n ++ t) := by
    rw [h, nsI_len]
    rfl
  obtain ⟨h1, h2⟩ := drop_at h0
  refine ⟨h1, ?_, ?_⟩
  · rw [h2, List.take_left]
  · rw [← List.drop_drop, h2, List.drop_left]
end Rf
end
section
set_option Elab.async false
set_option linter.all false
set_option maxRecDepth 100000
set_option maxHeartbeats 4000000
namespace HT
open PySem PyProof.Rows
section
variable {prog : Program} {w : World} {A : Around} {E : Value → Shared → Prop} {s : Shared}
/-- t[a:b] that is the whole: t itself -/
theorem getItem_tuple_all {t sl : Addr} {items : Array Value} {vl vu : Value} {lo hi : Option Int} {Q : Value → Shared → Prop} (ht : IsTup s.heap t items) (hs : s.heap.IsSliceOf sl vl vu .none) (pl : IsPart vl lo) (pu : IsPart vu hi)
    (hw : sIx items.size 0 lo = 0 ∧ sIx items.size items.size hi = items.size) (h : Q (.ref t) s) : wpAny (model prog w) A (getItem (.ref t) (.ref sl)) Q E s := by
  obtain ⟨os, hos, hcs, hds⟩ := id hs
  have hTs : s.TypeIs (.ref sl) "slice" := ⟨os, hos, hcs⟩
  unfold getItem
  try with_reducible refine wpAny_holding ?_
  first | refine wpAny_bind (wpAny_pure ?_) | skip
  refine wpAny_bind (wpAny_sequenceKey ht.typeIs (by decide) ?_)
  refine wpAny_bind (wpAny_callSpecial?_slot (name := Str.ofString "__getitem__") ht.typeIs PyProof.Rows.slot_tuple_getitem
    (wpAny_call_entry PyProof.Rows.slot_tuple_getitem ht.typeIs entry_tuple_getitem ?_ (args_tuple_getitem _ _)))
  show wpAny _ _ (Builtin.Tuple.tupleItemsOf (.ref t) >>= _) _ _ s
  refine wpAny_bind (tupleItemsOf_ ht ?_)
  refine wpAny_bind (wpAny_typeOf hTs ?_)
  rw [if_pos (by decide)]
  refine wpAny_bind (sliceApplied_gen hs pl pu ?_)
  have hyes : (((sIx items.size 0 lo : Nat) : Int) == 0 && (1 : Int) == 1 && (sIx items.size items.size hi - sIx items.size 0 lo) == items.size) = true := by
    rw [hw.1, hw.2]
    simp
  show wpAny _ _ (if (((sIx items.size 0 lo : Nat) : Int) == 0 && (1 : Int) == 1 && (sIx items.size items.size hi - sIx items.size 0 lo) == items.size) = true then _ else _) _ _ s
  rw [if_pos hyes]
  unfold Builtin.Tuple.tupleIsExact
  first
    | exact wpAny_bind (wpAny_bind (wpAny_typeOf ht.typeIs (wpAny_pure (by rw [if_pos (by decide)]; exact wpAny_bind (wpAny_rule (wpAny_pure ⟨_, rfl, wpAny_pure h⟩))))))
    | trace_state
end
end HT
namespace L2
open PySem PySem.Spec PyProof.Rows
section
variable {X : Cx}
/-- ord of a written sign -/
theorem pe_ordc {x : Str} {p p' pos : Pos} {j : Nat} (c : Nat) (hg : Gl X "ord") (hm : X.mg "ord" = none) (h1 : x.length = 1) (h2 : x.cps.getD 0 0 = c) :
    PE X (.Call (.Name "ord" p) [.Constant (.str x) j p'] [] pos) (tC (.int (c : Nat))) := by
  intro pins s σ H Q I h
  refine pe_callB call_ord hg hm PyProof.Rows.boot_ord (pa_cons pe_str pa_nil) (hn := by decide) (hdb := by decide) (he := rfl) (hpl := rfl) pins s σ H Q I ?_
  refine ⟨x, rfl, h1, ?_⟩
  rw [h2]
  exact h
theorem mt_zfill : MtR X "str.zfill" (fun x xs H Q => ∃ a i, x = .str a ∧ xs = [.int i] ∧ PySem.PadOk i = true ∧ Q (.str (Txt.zfill a i)) H) := by
  intro pins s σ H x xs v us Q I rx rs h
  obtain ⟨a, i, rfl, rfl, hp, h⟩ := h
  obtain ⟨t, rfl⟩ := rx
  obtain ⟨u, rfl, t', rfl⟩ := vals1 rs
  exact PySem.SC.zfill hp fun t'' k => ⟨.str _, H, I.tok k, ⟨t'', rfl⟩, h⟩
/-- t[lo:hi], the whole of it -/
def rSlTW (K : PySem.W.Frag) : V → Option Int → Option Int → Hp → VK → Prop := fun x lo hi H Q => ∃ a xs, x = .ref a ∧ SqT K H a xs ∧
  (HT.sIx xs.length 0 lo = 0 ∧ HT.sIx xs.length xs.length hi = xs.length) ∧ Q (.ref a) H
theorem sl_tupW : SlR X (rSlTW X.K) := by
  intro pins s σ H x v vl vu lo hi sl Q I rx hs pl pu h
  obtain ⟨a, xs, rfl, hx, hw, q⟩ := h
  cases rx
  obtain ⟨its, r, ht, hz⟩ := I.tuple hx
  have hlen : its.toArray.size = xs.length := by rw [List.size_toArray]; exact r.length.symm
  exact ⟨"tuple", _, PyProof.Rows.slot_tuple_getitem.lookup, ht.typeIs, HT.getItem_tuple_all ht hs pl pu (by rw [hlen]; exact hw) ⟨.ref a, H, I, rfl, q⟩⟩
/-- xs.extend(t) of a tuple -/
theorem extend_tuple (l b : Addr) (items : Array Value) (n : Nat) (items2 : Array Value) (hs0 : ¬(!items.isEmpty && Builtin.List.listTooLong (items.size + items2.size)) = true) (hs1 : items.size ≤ sizeLine) (hs2 : items.size + items2.size ≤ sizeLine + 1) :
    Meets (Builtin.«list.extend» ⟨[.ref l, .ref b], []⟩) (fun _ R s => s.heap.get? l = some { cls := .type "list", data := .seq items n } ∧ IsTup s.heap b items2 ∧ R (.ok (.ret Value.none)) { s with heap := s.heap.update l (Obj.mapSeq fun x => x ++ items2) }) :=
  .of_wp fun prog w A R s h => by
    obtain ⟨hl, ⟨o, ho, hc, n2, hd⟩, h⟩ := h
    have hz' : (items ++ items2).size ≤ sizeLine + 1 := by rw [Array.size_append]; exact hs2
    show wpAny _ A.in1 (Builtin.List.listExtendWith (.ref l) (.ref b) .none) _ _ s
    unfold Builtin.List.listExtendWith
    refine wpAny_bind (wpAny_typeOf ⟨o, ho, hc⟩ ?_)
    have h1 : (Builtin.List.listSameRef (.ref l) (.ref b) || Value.type "tuple" == Value.type "list" || Value.type "tuple" == Value.type "tuple") = true := by simp
    simp only [h1, if_true]
    refine wpAny_bind ?_
    unfold Builtin.List.listItems
    refine wpAny_bind (wpAny_seqItems ho hd (wpAny_pure ?_))
    refine wpAny_bind ?_
    refine wpAny_bind (wpAny_seqItems hl rfl (wpAny_pure ?_))
    rw [if_neg hs0]
    show wpAny _ A.in1 (updateSeq l (· ++ items2) >>= fun _ => ret .none) _ _ s
    refine wpAny_bind (wpAny_updateSeq hl rfl (hz := hs1) (_hz' := hz') ?_)
    exact wpAny_pure ⟨_, rfl, h⟩
def rExtendT (K : PySem.W.Frag) : V → List V → Hp → VK → Prop := fun x vs H Q => ∃ l b xs zs, x = .ref l ∧ vs = [.ref b] ∧ H l = some (.lst xs) ∧ SqT K H b zs ∧ xs.length + zs.length ≤ sizeLine ∧ Q .non (upd H l (.lst (xs ++ zs)))
theorem mt_extendT : MtM X "list.extend" (rExtendT X.K) := by
  intro pins s σ H x vs v us Q I rx rv h
  obtain ⟨l, b, xs, zs, rfl, rfl, hH, hB, hz, q⟩ := h
  cases rx
  obtain ⟨u, rfl, ru⟩ := rv.one
  cases ru
  obtain ⟨z, its, n, r, hl, e⟩ := I.lstM hH
  obtain ⟨its2, r2, e2, _⟩ := I.tuple hB
  have hl2 := r2.length
  have hsz : its.toArray.size + its2.toArray.size ≤ sizeLine := by rw [List.size_toArray, List.size_toArray]; omega
  have hlong : ¬ (!its.toArray.isEmpty && Builtin.List.listTooLong (its.toArray.size + its2.toArray.size)) = true := by
    rw [notLongL hsz, Bool.and_false]
    exact Bool.false_ne_true
  refine call_meets F.slot_list_extend ⟨_, e, rfl⟩ F.entry_list_extend (F.args_list_extend_2 _ _)
    (extend_tuple l b its.toArray n its2.toArray hlong (by rw [List.size_toArray]; omega) (by omega)) ⟨e, e2, ?_⟩
  refine ⟨.non, _, I.lset (its' := its ++ its2) hH e (by simp) (r.append r2) ?_, rfl, q⟩
  rw [List.length_append]
  omega
/-- x in a list of data -/
def rInD (K : PySem.W.Frag) (neg : Bool) : R2 := fun x y H Q => ∃ ds d, Dp K H y (.list ds) ∧ Dp K H x d ∧ PyData.canLayAll0 ds = true ∧ d.canLay0 = true ∧ d.depth ≤ 8 ∧ Q (.bl (if neg then !(ds.any fun z => PyData.eqv z d) else ds.any fun z => PyData.eqv z d)) H
theorem op_inD (hu : X.A.units + 64 < cLine) : OpR X (compareOp .In) (rInD X.K false) := by
  intro pins s σ H x y v u Q I rx ry h
  obtain ⟨ds, d, hd, he, sd, se, dp, q⟩ := h
  obtain ⟨as, r1⟩ := Dp.reads I _ y u hd ry
  obtain ⟨bs, r2⟩ := Dp.reads I d x v he rx
  have := Nat.min_le_right (PyData.depthAll ds) d.depth
  exact SeqAt.in_list_reads r1 r2 sd se (by omega) ⟨.bl _, H, I, rfl, q⟩
theorem op_notInD (hu : X.A.units + 64 < cLine) : OpR X (compareOp .NotIn) (rInD X.K true) := by
  intro pins s σ H x y v u Q I rx ry h
  obtain ⟨ds, d, hd, he, sd, se, dp, q⟩ := h
  obtain ⟨as, r1⟩ := Dp.reads I _ y u hd ry
  obtain ⟨bs, r2⟩ := Dp.reads I d x v he rx
  have := Nat.min_le_right (PyData.depthAll ds) d.depth
  exact SeqAt.notIn_list_reads r1 r2 sd se (by omega) ⟨.bl _, H, I, rfl, q⟩
end
section
variable {P : Program} {w : World} {K : PySem.W.Frag} {mg : Str → Option Value} {base : Heap}
/-- a def that can be called by its name -/
def Ca (P : Program) (w : World) (K : PySem.W.Frag) (mg : Str → Option Value) (base : Heap) (x : Str) (ps : List Str) (k : Nat) (sp : Sp) : Prop :=
  ∃ f fd, FnOk P w K mg base CX0 k f fd ps sp ∧ mg x = some (.ref f) ∧ PySem.W.keepIn K (.ref f) = true ∧ Binds K fd ps []
/-- a method of a class -/
def Cm (P : Program) (w : World) (K : PySem.W.Frag) (mg : Str → Option Value) (base : Heap) (C : Addr) (m : Str) (ps : List Str) (k : Nat) (sp : Sp) : Prop :=
  ∃ f fd, FnOk P w K mg base CX0 k f fd ps sp ∧ Meth K C m f ∧ Binds K fd ps []
/-- a class that can be made -/
def Cn (P : Program) (w : World) (K : PySem.W.Frag) (mg : Str → Option Value) (base : Heap) (x : Str) (C : Addr) (ps : List Str) (k : Nat) (sp : Sp) : Prop :=
  ∃ f fd, FnOk P w K mg base CX0 k f fd ps sp ∧ Mk K C f ∧ mg x = some (.ref C) ∧ Binds K fd ps []
end
section
variable {X : Cx} {k j : Nat} {C : Addr} {ps : List Str} {sp : Sp} {x m : Str} {p pos apos : Pos} {e o : Expr} {es : List Expr} {ta : TE} {t : TA}
theorem pe_ca (c : Ca X.prog X.w X.K X.mg X.base x ps k sp) (hr : Room j X.A) (ha : PA X (e :: es) t) (hk : k ≤ j := by decide) (hg : Gl X x := by rfl)
    (hdb : (x == ("__debug__" : Str)) = false := by decide) (he : starEach (e :: es) X.env = (false, eval e X.env) :: starEach es X.env := by rfl) (hpl : (backTo pos (starEach es X.env)).any (·.1) = false := by rfl) :
    PE X (.Call (.Name x p) (e :: es) [] pos) (tCall sp [] E0 t) := by
  obtain ⟨f, fd, G, hm, kp, b⟩ := c
  exact pe_call G (hr.mono hk) hg hm kp b .nil pass0 ha hdb he hpl
theorem pe_cm {pl : Sem Bool} (c : Cm X.prog X.w X.K X.mg X.base C m ps k sp) (cl : Cls X.K C) (hr : Room j X.A) (ho : PE X o ta) (ha : PA X (e :: es) t) (hk : k ≤ j := by decide)
    (hst : starEach (e :: es) X.env = (false, eval e X.env) :: starEach es X.env := by rfl) (hpl : (backTo pos (starEach es X.env)).any (·.1) = false := by rfl)
    (ht : eval (.Call (.Attribute o m apos) (e :: es) [] pos) X.env = (do
      let ov ← eval o X.env
      standAt apos.atName
      let (f, first) ← holding [ov] (getMethod ov m pl)
      callWith pos f first (backTo pos (starEach (e :: es) X.env)) (backToKw pos (keywordEach [] X.env))) := by rfl) :
    PE X (.Call (.Attribute o m apos) (e :: es) [] pos) (tMeth C m sp [] E0 ta t) := by
  obtain ⟨f, fd, G, hm, b⟩ := c
  exact pe_meth ho cl hm G (hr.mono hk) b .nil pass0 ha hst hpl ht
theorem pe_cm0 {pl : Sem Bool} (c : Cm X.prog X.w X.K X.mg X.base C m ps k sp) (cl : Cls X.K C) (hr : Room j X.A) (ho : PE X o ta) (hk : k ≤ j := by decide)
    (ht : eval (.Call (.Attribute o m apos) [] [] pos) X.env = (do
      let ov ← eval o X.env
      standAt apos.atName
      let (f, first) ← holding [ov] (getMethod ov m pl)
      callWith pos f first (backTo pos (starEach [] X.env)) (backToKw pos (keywordEach [] X.env))) := by rfl) :
    PE X (.Call (.Attribute o m apos) [] [] pos) (tMeth C m sp [] E0 ta tNil) := by
  obtain ⟨f, fd, G, hm, b⟩ := c
  exact pe_meth0 ho cl hm G (hr.mono hk) b .nil pass0 ht
theorem pe_cn (c : Cn X.prog X.w X.K X.mg X.base x C ps k sp) (hr : Room j X.A) (ha : PA X (e :: es) t) (hk : k + 1 ≤ j := by decide) (hg : Gl X x := by rfl)
    (hdb : (x == ("__debug__" : Str)) = false := by decide) (he : starEach (e :: es) X.env = (false, eval e X.env) :: starEach es X.env := by rfl) (hpl : (backTo pos (starEach es X.env)).any (·.1) = false := by rfl) :
    PE X (.Call (.Name x p) (e :: es) [] pos) (tMake C sp [] E0 t) := by
  obtain ⟨f, fd, G, M, hm, b⟩ := c
  exact pe_make M G (hr.mono hk) hg hm b .nil pass0 ha hdb he hpl
theorem pe_cn0 (c : Cn X.prog X.w X.K X.mg X.base x C ps k sp) (hr : Room j X.A) (hk : k + 1 ≤ j := by decide) (hg : Gl X x := by rfl)
    (hdb : (x == ("__debug__" : Str)) = false := by decide) : PE X (.Call (.Name x p) [] [] pos) (tMake C sp [] E0 tNil) := by
  obtain ⟨f, fd, G, M, hm, b⟩ := c
  exact pe_make0 M G (hr.mono hk) hg hm b .nil pass0 hdb
/-- a module's int -/
def IntC (mg : Str → Option Value) (x : Str) (i : Int) : Prop := ∃ t, mg x = some (.int i t)
theorem pe_gint {i : Int} (c : IntC X.mg x i) (hg : Gl X x := by rfl) (hd : (x == ("__debug__" : Str)) = false := by decide) : PE X (.Name x pos) (tC (.int i)) := by
  obtain ⟨t, c⟩ := c
  exact pe_glob hg c ⟨t, rfl⟩ hd
end
/-! ### heaps -/
def Kp (F : List Addr) (H H' : Hp) : Prop := ∀ b o, H b = some o → b ∉ F → H' b = some o
theorem Kp.refl (F : List Addr) (H : Hp) : Kp F H H := fun _ _ h _ => h
theorem Same.kp {F : List Addr} {H H' : Hp} (s : Same H H') : Kp F H H' := fun b o h _ => s b o h
theorem Kp.same {H H' : Hp} (s : Kp [] H H') : Same H H' := fun b o h => s b o h (by simp)
theorem Kp.trans {F : List Addr} {H H1 H2 : Hp} (a : Kp F H H1) (b : Kp F H1 H2) : Kp F H H2 := fun c o h n => b c o (a c o h n) n
theorem Kp.mono {F G : List Addr} {H H1 : Hp} (a : Kp F H H1) (h : ∀ b ∈ F, b ∈ G) : Kp G H H1 := fun c o e n => a c o e fun q => n (h c q)
theorem same_new {H : Hp} {p : Addr} {o : HO} (h : H p = none) : Same H (upd H p o) := fun b u e => by
  rw [upd_ne (ne_of_none e h)]
  exact e
theorem kp_upd {F : List Addr} {H : Hp} {p : Addr} {o : HO} (h : p ∈ F) : Kp F H (upd H p o) := fun b u e n => by
  rw [upd_ne (fun q : b = p => n (by rw [q]; exact h))]
  exact e
theorem Same.seqT {K : PySem.W.Frag} {H H' : Hp} {a : Addr} {xs : List V} (e : Same H H') (h : SqT K H a xs) : SqT K H' a xs := by
  rcases h with (h | ⟨o, h⟩) | h
  · exact .inl (.inl (e _ _ h))
  · exact .inl (.inr ⟨o, e _ _ h⟩)
  · exact .inr h
/-- a list or an instance stands there -/
def Mob (H : Hp) (b : Addr) : Prop := (∃ xs, H b = some (.lst xs)) ∨ ∃ C dx fs, H b = some (.ins C dx fs)
theorem Kp.seqT {K : PySem.W.Frag} {F : List Addr} {H H' : Hp} {a : Addr} {xs : List V} (e : Kp F H H') (hm : ∀ b ∈ F, Mob H b) (h : SqT K H a xs) : SqT K H' a xs := by
  have no : ∀ u, H a = some u → (∀ xs, u ≠ .lst xs) → (∀ C dx fs, u ≠ .ins C dx fs) → a ∉ F := fun u q n1 n2 z => by
    rcases hm a z with ⟨ys, r⟩ | ⟨C, dx, fs, r⟩
    · rw [q] at r; exact n1 _ (Option.some.inj r)
    · rw [q] at r; exact n2 _ _ _ (Option.some.inj r)
  rcases h with (h | ⟨o, h⟩) | h
  · exact .inl (.inl (e _ _ h (no _ h (fun _ q => by cases q) (fun _ _ _ q => by cases q))))
  · exact .inl (.inr ⟨o, e _ _ h (no _ h (fun _ q => by cases q) (fun _ _ _ q => by cases q))⟩)
  · exact .inr h
end L2
end
section
set_option Elab.async false
set_option linter.all false
set_option maxRecDepth 100000
namespace Rf
open PySem PySem.Spec PyProof.Rows L2
def top (i : Nat) : Stmt := PySem.Challenge.pw_renamedfiles_s01_answers.main.body.getD i (.Pass ⟨0, 0, 0, 0⟩)
abbrev sSign : Stmt := top 3
abbrev sRSign : Stmt := top 4
abbrev sName : Stmt := top 5
abbrev sRule : Stmt := top 6
abbrev sStem : Stmt := top 7
abbrev sRun : Stmt := top 8
abbrev sDigits : Stmt := top 9
abbrev sStand : Stmt := top 10
abbrev sNew : Stmt := top 11
abbrev sRInit : Stmt := inClass (top 13) 0
abbrev sREnd : Stmt := inClass (top 13) 1
abbrev sRNum : Stmt := inClass (top 13) 2
abbrev sRRow : Stmt := inClass (top 13) 3
abbrev sNext : Stmt := top 16
abbrev sLeft : Stmt := top 17
abbrev sFInit : Stmt := inClass (top 40) 0
abbrev sBegin : Stmt := inClass (top 40) 1
abbrev sAdd : Stmt := inClass (top 40) 2
abbrev sWish : Stmt := inClass (top 40) 3
abbrev sStep : Stmt := inClass (top 40) 4
abbrev sFin : Stmt := inClass (top 40) 5
abbrev sBack : Stmt := inClass (top 40) 6
abbrev sAll : Stmt := inClass (top 40) 7
abbrev sNm : Stmt := inClass (top 40) 8
abbrev sFind : Stmt := inClass (top 40) 9
abbrev sState : Stmt := inClass (top 40) 10
abbrev sRen : Stmt := inClass (top 40) 11
abbrev sLast : Stmt := inClass (top 40) 12
abbrev sEnds : Stmt := inClass (top 40) 13
abbrev sTold : Stmt := top 41
abbrev sBy : Stmt := top 42
abbrev sRef : Stmt := top 43
abbrev sAnswer : Stmt := top 44
abbrev sAnswers : Stmt := top 45
end Rf
end
section
set_option Elab.async false
set_option linter.all false
set_option maxRecDepth 100000
set_option maxHeartbeats 4000000
namespace Rf
open PySem PySem.Spec PyProof.Rows L2
open Ks334 (Bytes isSign okName)


def tupV (n : Bytes) : List V := (nsI n).map V.int
theorem tupV_at (n : Bytes) (i : Nat) : (tupV n)[i]? = (n[i]?).map fun b => V.int (b : Nat) := by
  unfold tupV nsI
  rw [List.getElem?_map, List.getElem?_map, Option.map_map]
  rfl
theorem tupV_get {n : Bytes} {i : Nat} {b : Nat} (h : n[i]? = some b) : (tupV n)[i]? = some (V.int (b : Nat)) := by
  rw [tupV_at, h]
  rfl
theorem tupV_of {n : Bytes} {i : Nat} {x : V} (h : (tupV n)[i]? = some x) : ∃ b : Nat, n[i]? = some b ∧ x = V.int (b : Nat) := by
  rw [tupV_at] at h
  cases e : n[i]? with
  | none => rw [e] at h; cases h
  | some b => rw [e] at h; exact ⟨b, rfl, (Option.some.inj h).symm⟩
theorem tupV_len (n : Bytes) : (tupV n).length = n.length := by
  unfold tupV nsI
  rw [List.length_map, List.length_map]
theorem tupV_app (a b : Bytes) : tupV (a ++ b) = tupV a ++ tupV b := by
  unfold tupV nsI
  rw [List.map_append, List.map_append]
theorem dec_nat (a b : Nat) : decide (V.int (a : Nat) = V.int (b : Nat)) = decide (a = b) := by
  by_cases e : a = b
  · subst e; simp
  · rw [decide_eq_false e, decide_eq_false]
    intro q
    injection q with q
    omega

/-! ### chains of comparisons -/
theorem chainLe {σ : L2.St} {H : Hp} {Q : VK} {a i b : Int} {t1 t2 t3 : TE} (h1 : ∀ R : VK, R (.int a) H → t1 σ H R) (h2 : ∀ R : VK, R (.int i) H → t2 σ H R) (h3 : ∀ R : VK, R (.int b) H → t3 σ H R)
    (h : Q (.bl (decide (a ≤ i) && decide (i ≤ b))) H) : tChain (rI0 fun i j => .bl (decide (i ≤ j))) (rI0 fun i j => .bl (decide (i ≤ j))) t1 t2 t3 σ H Q := by
  refine h1 _ (h2 _ ⟨a, i, rfl, rfl, _, rfl, ?_⟩)
  by_cases q : a ≤ i
  · rw [decide_eq_true q, if_pos rfl]
    refine h3 _ ⟨i, b, rfl, rfl, ?_⟩
    rw [decide_eq_true q, Bool.true_and] at h
    exact h
  · rw [decide_eq_false q, if_neg (by decide)]
    rw [decide_eq_false q, Bool.false_and] at h
    exact h
/-- x == c, of two numbers that are told -/
theorem eqNat {σ : L2.St} {H : Hp} {Q : VK} {a c : Nat} {t1 t2 : TE} (h1 : ∀ R : VK, R (.int (a : Nat)) H → t1 σ H R) (h2 : ∀ R : VK, R (.int (c : Nat)) H → t2 σ H R) (h : Q (.bl (decide (a = c))) H) : tOp rEq t1 t2 σ H Q := by
  refine h1 _ (h2 _ ⟨rfl, ?_⟩)
  rw [dec_nat]
  exact h
theorem orV {σ : L2.St} {H : Hp} {Q : VK} {a b : Bool} {t1 t2 : TE} (h1 : ∀ R : VK, R (.bl a) H → t1 σ H R) (h2 : ∀ R : VK, R (.bl b) H → t2 σ H R) (h : Q (.bl (a || b)) H) : tOrV t1 t2 σ H Q := by
  refine h1 _ ⟨a, rfl, ?_⟩
  cases a with
  | true => exact iteT h
  | false => exact iteF (h2 _ h)

/-! ### what the text gives -/
structure TxB (mg : Str → Option Value) : Prop where
  ord : mg "ord" = none
  len : mg "len" = none
  all : mg "all" = none
  str : mg "str" = none
  range : mg "range" = none
  list : mg "list" = none
  tuple : mg "tuple" = none
  ln : IntC mg "LONGEST_NAME" 16
  lr : IntC mg "LONGEST_RULE" 24

section
variable {P : Program} {w : World} {K : PySem.W.Frag} {mg : Str → Option Value} {base : Heap}
def spSign : Sp := fun vs H Q _ => ∃ b : Nat, vs = [.int (b : Nat)] ∧ Q (.bl (isSign b)) H
theorem scSign : FnScope ["sign"] ["sign"] (defScope sSign) := ⟨rfl, rfl, rfl, by decide +kernel, rfl, by decide +kernel, by decide +kernel⟩
theorem sign_eq (b : Nat) : isSign b = ((decide (((97 : Nat) : Int) ≤ (b : Nat)) && decide (((b : Nat) : Int) ≤ (122 : Nat))) || (decide (((48 : Nat) : Int) ≤ (b : Nat)) && decide (((b : Nat) : Int) ≤ (57 : Nat))) || (decide (b = 46) || (decide (b = 95) || decide (b = 45)))) := by
  unfold isSign
  have e1 : decide (((97 : Nat) : Int) ≤ (b : Nat)) = decide (97 ≤ b) := decide_eq_decide.mpr (by omega)
  have e2 : decide (((b : Nat) : Int) ≤ (122 : Nat)) = decide (b ≤ 122) := decide_eq_decide.mpr (by omega)
  have e3 : decide (((48 : Nat) : Int) ≤ (b : Nat)) = decide (48 ≤ b) := decide_eq_decide.mpr (by omega)
  have e4 : decide (((b : Nat) : Int) ≤ (57 : Nat)) = decide (b ≤ 57) := decide_eq_decide.mpr (by omega)
  have e5 : (b == 46) = decide (b = 46) := by rw [Bool.beq_eq_decide_eq]
  have e6 : (b == 95) = decide (b = 95) := by rw [Bool.beq_eq_decide_eq]
  have e7 : (b == 45) = decide (b = 45) := by rw [Bool.beq_eq_decide_eq]
  rw [e1, e2, e3, e4, e5, e6, e7]
  simp only [Bool.or_assoc]
theorem ok_sign {f : Addr} {fd : FuncData} (F : Fun K "is_name_sign" "is_name_sign" sSign f fd) (T : TxB mg) : FnOk P w K mg base CX0 1 f fd ["sign"] spSign := by
  refine F.ok scSign (fun vs H Q E h => ?_) (fun cdv A outer s H vs Q E hr h => ?_)
  · obtain ⟨b, rfl, _⟩ := h
    rfl
  · obtain ⟨b, rfl, k⟩ := h
    refine ⟨_, pss_cons (ps_if (PW.pt (pw_or (pt_chain op_le op_le (pe_ordc 97 rfl T.ord rfl rfl) (pv 0) (pe_ordc 122 rfl T.ord rfl rfl))
        (pw_or1 (pt_chain op_le op_le (pe_ordc 48 rfl T.ord rfl rfl) (pv 0) (pe_ordc 57 rfl T.ord rfl rfl))))) (pss_one (ps_ret pe_bl)) pss_nil)
      (pss_one (ps_ret (pe_or (pe_cmpR op_eq (pv 0) (pe_ordc 46 rfl T.ord rfl rfl) (nomark _)) (pe_or (pe_cmpR op_eq (pv 0) (pe_ordc 95 rfl T.ord rfl rfl) (nomark _)) (pe_one (pe_cmpR op_eq (pv 0) (pe_ordc 45 rfl T.ord rfl rfl) (nomark _))))))), ?_⟩
    rw [sign_eq] at k
    refine chainLe (fun R r => r) (fun R r => ⟨_, rfl, r⟩) (fun R r => r) ⟨_, rfl, ?_⟩
    refine ite2 (fun e => ?_) (fun e => ?_)
    · refine iteT ?_
      rw [e] at k
      exact k
    · refine chainLe (fun R r => r) (fun R r => ⟨_, rfl, r⟩) (fun R r => r) ⟨_, rfl, ?_⟩
      rw [Bool.eq_false_iff.mpr e, Bool.false_or] at k
      refine ite2 (fun e => ?_) (fun e => ?_)
      · rw [e] at k
        exact k
      · rw [Bool.eq_false_iff.mpr e, Bool.false_or] at k
        have e1 : ∀ (c : Nat) (R : VK), R (.bl (decide (b = c))) H → tOp rEq (tVar 0) (tC (.int (c : Nat))) (start ["sign"] [.int (b : Nat)]) H R := fun c R r => eqNat (fun R r => ⟨_, rfl, r⟩) (fun R r => r) r
        exact orV (e1 46) (fun R r => orV (e1 95) (e1 45) r) k
def spRSign : Sp := fun vs H Q _ => ∃ b : Nat, vs = [.int (b : Nat)] ∧ Q (.bl (isSign b || b == 42 || b == 43 || b == 35)) H
theorem scRSign : FnScope ["sign"] ["sign"] (defScope sRSign) := ⟨rfl, rfl, rfl, by decide +kernel, rfl, by decide +kernel, by decide +kernel⟩
theorem ok_rsign {f : Addr} {fd : FuncData} (F : Fun K "is_rule_sign" "is_rule_sign" sRSign f fd) (T : TxB mg) (c1 : Ca P w K mg base "is_name_sign" ["sign"] 1 spSign) : FnOk P w K mg base CX0 2 f fd ["sign"] spRSign := by
  refine F.ok scRSign (fun vs H Q E h => ?_) (fun cdv A outer s H vs Q E hr h => ?_)
  · obtain ⟨b, rfl, _⟩ := h
    rfl
  · obtain ⟨b, rfl, k⟩ := h
    refine ⟨_, pss_one (ps_ret (pe_or (pe_ca c1 hr (pa_cons (pv 0) pa_nil)) (pe_or (pe_cmpR op_eq (pv 0) (pe_ordc 42 rfl T.ord rfl rfl) (nomark _)) (pe_or (pe_cmpR op_eq (pv 0) (pe_ordc 43 rfl T.ord rfl rfl) (nomark _)) (pe_one (pe_cmpR op_eq (pv 0) (pe_ordc 35 rfl T.ord rfl rfl) (nomark _))))))), ?_⟩
    have e : (isSign b || b == 42 || b == 43 || b == 35) = (isSign b || (decide (b = 42) || (decide (b = 43) || decide (b = 35)))) := by
      rw [Bool.beq_eq_decide_eq, Bool.beq_eq_decide_eq, Bool.beq_eq_decide_eq]
      simp only [Bool.or_assoc]
    rw [e] at k
    have e1 : ∀ (c : Nat) (R : VK), R (.bl (decide (b = c))) H → tOp rEq (tVar 0) (tC (.int (c : Nat))) (start ["sign"] [.int (b : Nat)]) H R := fun c R r => eqNat (fun R r => ⟨_, rfl, r⟩) (fun R r => r) r
    exact orV (a := isSign b) (fun R r => ⟨_, rfl, b, rfl, r⟩) (fun R r => orV (e1 42) (fun R r => orV (e1 43) (e1 35) r) r) k
end
end Rf
end
section
set_option Elab.async false
set_option linter.all false
set_option maxRecDepth 100000
set_option maxHeartbeats 4000000
namespace Rf
open PySem PySem.Spec PyProof.Rows L2
open Ks334 (Bytes isSign okName)
theorem andV {σ : L2.St} {H : Hp} {Q : VK} {a : Bool} {t1 t2 : TE} (h1 : ∀ R : VK, R (.bl a) H → t1 σ H R) (h2 : a = true → t2 σ H Q) (h : a = false → Q (.bl false) H) : tAndV t1 t2 σ H Q := by
  refine h1 _ ⟨a, rfl, ?_⟩
  cases a with
  | true => exact iteT (h2 rfl)
  | false => exact iteF (h rfl)
theorem take_snoc {α : Type} : ∀ {l : List α} {i : Nat} {x : α}, l[i]? = some x → l.take (i + 1) = l.take i ++ [x]
  | [], i, x, h => by simp at h
  | a :: l, 0, x, h => by
    have e : a = x := Option.some.inj h
    subst e
    rfl
  | a :: l, i + 1, x, h => by
    have ih := take_snoc (l := l) (i := i) (x := x) h
    show a :: l.take (i + 1) = a :: l.take i ++ [x]
    rw [ih]
    rfl
theorem all_map (p : Nat → Bool) (n : Bytes) : (n.map p).all id = n.all p := by
  rw [List.all_map]
  rfl
section
variable {P : Program} {w : World} {K : PySem.W.Frag} {mg : Str → Option Value} {base : Heap}
/-- len of what is read -/
theorem lenRd {σ : L2.St} {H : Hp} {Q : VK} {a : Addr} {n : Bytes} {i : Nat} (h1 : σ[i]? = some (some (V.ref a))) (hs : SqL K H a (tupV n) ∨ SqT K H a (tupV n)) (h : Q (.int (n.length : Nat)) H) :
    ∃ v, σ[i]? = some (some v) ∧ ∃ p ys, [v] = [V.ref p] ∧ (SqL K H p ys ∨ SqT K H p ys) ∧ Q (.int (ys.length : Nat)) H := by
  refine ⟨_, h1, a, _, rfl, hs, ?_⟩
  rw [tupV_len]
  exact h
/-- x == c, x a local number -/
theorem eqRd {σ : L2.St} {H : Hp} {Q : VK} {a c i : Nat} (h1 : σ[i]? = some (some (V.int (a : Nat)))) (h : Q (.bl (decide (a = c))) H) : ∃ v, σ[i]? = some (some v) ∧ scal v (V.int (c : Nat)) = true ∧ Q (.bl (decide (v = V.int (c : Nat)))) H := by
  refine ⟨_, h1, rfl, ?_⟩
  rw [dec_nat]
  exact h
def spIsName (K : PySem.W.Frag) : Sp := fun vs H Q _ => ∃ (a : Addr) (n : Bytes), vs = [.ref a] ∧ (SqL K H a (tupV n) ∨ SqT K H a (tupV n)) ∧ n.length < sizeLine ∧ ∀ H' : Hp, Same H H' → Q (.bl (okName n)) H'
theorem scName : FnScope ["signs", "sign"] ["signs"] (defScope sName) := ⟨rfl, rfl, rfl, by decide +kernel, rfl, by decide +kernel, by decide +kernel⟩
theorem ok_name {f : Addr} {fd : FuncData} (F : Fun K "is_name" "is_name" sName f fd) (T : TxB mg) (c1 : Ca P w K mg base "is_name_sign" ["sign"] 1 spSign) : FnOk P w K mg base CX0 3 f fd ["signs"] (spIsName K) := by
  refine F.ok scName (fun vs H Q E h => ?_) (fun cdv A outer s H vs Q E hr h => ?_)
  · obtain ⟨a, n, rfl, _⟩ := h
    rfl
  · obtain ⟨a, n, rfl, hs, hz, k⟩ := h
    have e0 : okName n = ((decide ((1 : Int) ≤ (n.length : Nat)) && decide (((n.length : Nat) : Int) ≤ 16)) && (n.map isSign).all id) := by
      unfold okName
      rw [all_map]
      congr 2
      · exact decide_eq_decide.mpr (by omega)
      · exact decide_eq_decide.mpr (by show n.length ≤ 16 ↔ _; omega)
    have fin : ∀ (D : Addr) (H' : Hp), (decide ((1 : Int) ≤ (n.length : Nat)) && decide (((n.length : Nat) : Int) ≤ 16)) = true → Same H H' → H' D = some (.lst ((n.map isSign).map V.bl)) → rAll K [.ref D] H' Q := fun D H' e s1 hD => by
      refine ⟨D, _, rfl, SqL.of hD, ?_⟩
      rw [e, Bool.true_and] at e0
      rw [← e0]
      exact k H' s1
    have nofin : (decide ((1 : Int) ≤ (n.length : Nat)) && decide (((n.length : Nat) : Int) ≤ 16)) = false → Q (.bl false) H := fun e => by
      rw [e, Bool.false_and] at e0
      rw [← e0]
      exact k H (Same.refl H)
    have turn : ∀ (D : Addr) (i : Nat) (x : V) (H' : Hp), H D = none → (tupV n)[i]? = some x → (Same H H' ∧ H' D = some (.lst (((n.take i).map isSign).map V.bl))) →
        tCall spSign [] E0 (tCons (tVar 1) tNil) [some (.ref a), some x] H' fun y H4 => ∃ acc, H4 D = some (.lst acc) ∧ acc.length < sizeLine ∧ (Same H (upd H4 D (.lst (acc ++ [y]))) ∧ (upd H4 D (.lst (acc ++ [y]))) D = some (.lst (((n.take (i + 1)).map isSign).map V.bl))) := fun D i x H' hD hx ⟨s1, q1⟩ => by
      obtain ⟨b, hb, rfl⟩ := tupV_of hx
      refine ⟨_, rfl, b, rfl, _, q1, ?_, fun c o e => ?_, ?_⟩
      · rw [List.length_map, List.length_map, List.length_take]
        have := (List.getElem?_eq_some_iff.mp hb).1
        omega
      · rw [upd_ne (ne_of_none e hD)]
        exact s1 c o e
      · rw [upd_same, take_snoc hb, List.map_append, List.map_append]
        rfl
    rcases hs with hs | hs
    · refine ⟨_, pss_one (ps_ret (pe_and (pe_chain op_le op_le pe_int (pe_callB call_len_seq rfl T.len PySem.boot_len (pa_cons (pv 0) pa_nil)) (pe_gint T.ln))
        (pe_one (pe_callB (cr_all rfl) rfl T.all PyProof.Rows.boot_all (pa_cons (pe_lc (own := [("sign", 1)]) rfl scName.nd (pi_list (pv 0)) (blkOk_by (by show blkC ["signs", "sign"] (defScope sName) _ _ = true; decide +kernel)) (fun _ _ _ _ _ => pg_name (i := 1) scName.nd rfl (Or.inl rfl)) (fun _ _ _ _ _ => pts_nil)
          (fun _ _ _ _ _ => pe_ca c1 hr (pa_cons (pv 1) pa_nil))) pa_nil))))), ?_⟩
      refine andV (fun R r => chainLe (fun R r => r) (fun R r => lenRd rfl (.inl hs) r) (fun R r => r) r) (fun e => ?_) nofin
      refine ⟨_, rfl, a, rfl, ⟨_, hs⟩, fun D hD => ?_⟩
      refine lc_list (K := K) (a := a) (xs := tupV n) (fun i H' => Same H H' ∧ H' D = some (.lst (((n.take i).map isSign).map V.bl))) ⟨same_new hD, upd_same⟩ (fun i H' _ ⟨s1, _⟩ => s1.seq hs) ?_ ?_
      · intro i x H' hx p
        exact ⟨rfl, turn D i x H' hD hx p⟩
      · rintro H' ⟨s1, q1⟩
        rw [tupV_len, List.take_length] at q1
        exact fin D H' e s1 q1
    · refine ⟨_, pss_one (ps_ret (pe_and (pe_chain op_le op_le pe_int (pe_callB call_len_seq rfl T.len PySem.boot_len (pa_cons (pv 0) pa_nil)) (pe_gint T.ln))
        (pe_one (pe_callB (cr_all rfl) rfl T.all PyProof.Rows.boot_all (pa_cons (pe_lc (own := [("sign", 1)]) rfl scName.nd (pi_tup (pv 0)) (blkOk_by (by show blkC ["signs", "sign"] (defScope sName) _ _ = true; decide +kernel)) (fun _ _ _ _ _ => pg_name (i := 1) scName.nd rfl (Or.inl rfl)) (fun _ _ _ _ _ => pts_nil)
          (fun _ _ _ _ _ => pe_ca c1 hr (pa_cons (pv 1) pa_nil))) pa_nil))))), ?_⟩
      refine andV (fun R r => chainLe (fun R r => r) (fun R r => lenRd rfl (.inr hs) r) (fun R r => r) r) (fun e => ?_) nofin
      refine ⟨_, rfl, a, rfl, ⟨_, hs⟩, fun D hD => ?_⟩
      refine lc_tup (K := K) (a := a) (xs := tupV n) (fun i H' => Same H H' ∧ H' D = some (.lst (((n.take i).map isSign).map V.bl))) ⟨same_new hD, upd_same⟩ (fun i H' _ ⟨s1, _⟩ => s1.seqT hs) ?_ ?_
      · intro i x H' hx p
        exact ⟨rfl, turn D i x H' hD hx p⟩
      · rintro H' ⟨s1, q1⟩
        rw [tupV_len, List.take_length] at q1
        exact fin D H' e s1 q1
def rsign (b : Nat) : Bool := isSign b || b == 42 || b == 43 || b == 35
def spIsRule (K : PySem.W.Frag) : Sp := fun vs H Q _ => ∃ (a : Addr) (n : Bytes), vs = [.ref a] ∧ SqT K H a (tupV n) ∧ n.length < sizeLine ∧ ∀ H' : Hp, Same H H' → Q (.bl (Ks335.okRule n)) H'
theorem scRule : FnScope ["signs", "sign"] ["signs"] (defScope sRule) := ⟨rfl, rfl, rfl, by decide +kernel, rfl, by decide +kernel, by decide +kernel⟩
theorem ok_rule {f : Addr} {fd : FuncData} (F : Fun K "is_rule" "is_rule" sRule f fd) (T : TxB mg) (c1 : Ca P w K mg base "is_rule_sign" ["sign"] 2 spRSign) : FnOk P w K mg base CX0 4 f fd ["signs"] (spIsRule K) := by
  refine F.ok scRule (fun vs H Q E h => ?_) (fun cdv A outer s H vs Q E hr h => ?_)
  · obtain ⟨a, n, rfl, _⟩ := h
    rfl
  · obtain ⟨a, n, rfl, hs, hz, k⟩ := h
    have e0 : Ks335.okRule n = ((decide ((1 : Int) ≤ (n.length : Nat)) && decide (((n.length : Nat) : Int) ≤ 24)) && (n.map rsign).all id) := by
      unfold Ks335.okRule
      rw [all_map]
      congr 2
      · exact decide_eq_decide.mpr (by omega)
      · exact decide_eq_decide.mpr (by show n.length ≤ 24 ↔ _; omega)
    refine ⟨_, pss_one (ps_ret (pe_and (pe_chain op_le op_le pe_int (pe_callB call_len_seq rfl T.len PySem.boot_len (pa_cons (pv 0) pa_nil)) (pe_gint T.lr))
        (pe_one (pe_callB (cr_all rfl) rfl T.all PyProof.Rows.boot_all (pa_cons (pe_lc (own := [("sign", 1)]) rfl scRule.nd (pi_tup (pv 0)) (blkOk_by (by show blkC ["signs", "sign"] (defScope sRule) _ _ = true; decide +kernel)) (fun _ _ _ _ _ => pg_name (i := 1) scRule.nd rfl (Or.inl rfl)) (fun _ _ _ _ _ => pts_nil)
          (fun _ _ _ _ _ => pe_ca c1 hr (pa_cons (pv 1) pa_nil))) pa_nil))))), ?_⟩
    refine andV (fun R r => chainLe (fun R r => r) (fun R r => lenRd rfl (.inr hs) r) (fun R r => r) r) (fun e => ?_) (fun e => ?_)
    · refine ⟨_, rfl, a, rfl, ⟨_, hs⟩, fun D hD => ?_⟩
      refine lc_tup (K := K) (a := a) (xs := tupV n) (fun i H' => Same H H' ∧ H' D = some (.lst (((n.take i).map rsign).map V.bl))) ⟨same_new hD, upd_same⟩ (fun i H' _ ⟨s1, _⟩ => s1.seqT hs) ?_ ?_
      · rintro i x H' hx ⟨s1, q1⟩
        obtain ⟨b, hb, rfl⟩ := tupV_of hx
        refine ⟨rfl, _, rfl, b, rfl, _, q1, ?_, fun c o e => ?_, ?_⟩
        · rw [List.length_map, List.length_map, List.length_take]
          have := (List.getElem?_eq_some_iff.mp hb).1
          omega
        · rw [upd_ne (ne_of_none e hD)]
          exact s1 c o e
        · rw [upd_same, take_snoc hb, List.map_append, List.map_append]
          rfl
      · rintro H' ⟨s1, q1⟩
        rw [tupV_len, List.take_length] at q1
        refine ⟨D, _, rfl, SqL.of q1, ?_⟩
        rw [e, Bool.true_and] at e0
        rw [← e0]
        exact k H' s1
    · rw [e, Bool.false_and] at e0
      rw [← e0]
      exact k H (Same.refl H)
def spStem (K : PySem.W.Frag) : Sp := fun vs H Q _ => ∃ (a : Addr) (n : Bytes), vs = [.ref a] ∧ SqT K H a (tupV n) ∧ n.length < sizeLine ∧ Q (.int ((Ks335.stem n).length : Nat)) H
theorem scStem : FnScope ["name", "place"] ["name"] (defScope sStem) := ⟨rfl, rfl, rfl, by decide +kernel, rfl, by decide +kernel, by decide +kernel⟩
theorem line24 : sizeLine = 16777216 := by decide
theorem ok_stem {f : Addr} {fd : FuncData} (F : Fun K "stem_length" "stem_length" sStem f fd) (T : TxB mg) : FnOk P w K mg base CX0 1 f fd ["name"] (spStem K) := by
  refine F.ok scStem (fun vs H Q E h => ?_) (fun cdv A outer s H vs Q E hr h => ?_)
  · obtain ⟨a, n, rfl, _⟩ := h
    rfl
  · obtain ⟨a, n, rfl, hs, hz, k⟩ := h
    rw [line24] at hz
    refine ⟨_, pss_cons (ps_for PassesOwn.never rfl (pi_range3 rfl T.range (pa_cons (pe_op op_sub (pe_callB call_len_seq rfl T.len PySem.boot_len (pa_cons (pv 0) pa_nil)) pe_int) (pa_cons pe_int (pa_cons (pe_un un_neg pe_int) pa_nil)))) (pg_name (i := 1) scStem.nd rfl (Or.inl rfl))
        (pss_one (ps_if (pt_cmpR op_eq (pe_ix ix_tup (pv 0) (pv 1) (fun _ _ => rfl)) (pe_ordc 46 rfl T.ord rfl rfl) (nomark _)) (pss_one (ps_ret (pv 1))) pss_nil)))
      (pss_one (ps_ret (pe_callB call_len_seq rfl T.len PySem.boot_len (pa_cons (pv 0) pa_nil)))), ?_⟩
    refine ⟨_, rfl, a, _, rfl, .inr hs, ?_⟩
    rw [tupV_len]
    refine ⟨_, _, rfl, rfl, 1, rfl, _, _, _, _, rfl, RgC.neg (by omega) (by omega) (by omega) (by omega), ?_⟩
    have en : (((n.length : Nat) : Int) - 1 - 0).toNat = n.length - 1 := by omega
    rw [en]
    refine for_rangeC (fun i σ H' => (∃ v : Option V, σ = [some (.ref a), v]) ∧ H' = H ∧ ∀ q : Nat, n.length - 1 - i < q → n[q]? ≠ some 46) ⟨⟨none, rfl⟩, rfl, fun q hq => ?_⟩ ?_ ?_
    · rw [List.getElem?_eq_none_iff.mpr (by omega)]
      exact fun z => nomatch z
    · rintro i σ H' hi ⟨⟨v, rfl⟩, rfl, hq⟩
      have ez : ((n.length : Nat) : Int) - 1 + ((i : Nat) : Int) * (-1) = ((n.length - 1 - i : Nat) : Int) := by omega
      have hlt : n.length - 1 - i < n.length := by omega
      have hb : n[n.length - 1 - i]? = some n[n.length - 1 - i] := List.getElem?_eq_getElem hlt
      refine ⟨_, rfl, _, rfl, a, _, _, _, rfl, rfl, hs, at_of (j := n.length - 1 - i) ez (tupV_get hb), rfl, _, rfl, ?_⟩
      rw [show decide (V.int ((n[n.length - 1 - i] : Nat) : Int) = V.int ((46 : Nat) : Int)) = decide (n[n.length - 1 - i] = 46) from dec_nat _ _]
      refine ite2 (fun e => ?_) (fun e => ?_)
      · have e46 : n[n.length - 1 - i] = 46 := of_decide_eq_true e
        refine ⟨_, rfl, ?_⟩
        rw [e46] at hb
        have e1 := (stem_dot (p := n.length - 1 - i) (by omega) hb fun q hqq => hq q hqq).1
        have e2 : (Ks335.stem n).length = n.length - 1 - i := by
          rw [e1, List.length_take]
          omega
        rw [e2, ← ez] at k
        exact k
      · refine ⟨⟨_, rfl⟩, rfl, fun q hqq => ?_⟩
        by_cases z : q = n.length - 1 - i
        · rw [z, hb]
          intro y
          exact e (decide_eq_true (Option.some.inj y))
        · exact hq q (by omega)
    · rintro σ H' ⟨⟨v, rfl⟩, rfl, hq⟩
      refine ⟨_, rfl, a, _, rfl, .inr hs, ?_⟩
      rw [tupV_len]
      rw [(stem_none (n := n) fun q h1 => hq q (by omega)).1] at k
      exact k
end
end Rf
end
section
set_option Elab.async false
set_option linter.all false
set_option maxRecDepth 100000
set_option maxHeartbeats 4000000
namespace Rf
open PySem PySem.Spec PyProof.Rows L2
open Ks334 (Bytes isSign okName)
open TL (tl numL tl_num numL_lt numL_step numL_free len_tl)
theorem tupV_take (n : Bytes) (i : Nat) : tupV (n.take i) = (tupV n).take i := by
  unfold tupV nsI
  rw [List.map_take, List.map_take]
theorem tupV_drop (n : Bytes) (i : Nat) : tupV (n.drop i) = (tupV n).drop i := by
  unfold tupV nsI
  rw [List.map_drop, List.map_drop]
/-! ### the digits' text -/
theorem numL_nl (k : Nat) : numL k = nl k := by
  induction k using Nat.strongRecOn with
  | _ k ih =>
    by_cases h : k < 10
    · rw [numL_lt h, nl_lt h]
    · rw [numL_step (by omega), nl_step (by omega), ih (k / 10) (by omega)]
theorem zfill_tl (k m : Nat) : tl (Txt.zfill (Str.ofString (toString ((k : Nat) : Int))) (m : Nat)) = zf k m := by
  have e0 : tl (Str.ofString (toString ((k : Nat) : Int))) = nl k := by rw [tl_num, numL_nl]
  have el : (Str.ofString (toString ((k : Nat) : Int))).length = (nl k).length := by rw [len_tl, e0]
  unfold Txt.zfill zf
  by_cases h : ((m : Nat) : Int) ≤ ((Str.ofString (toString ((k : Nat) : Int))).length : Nat)
  · rw [if_pos h, e0]
    rw [el] at h
    rw [show m - (nl k).length = 0 by omega]
    rfl
  · rw [if_neg h, el]
    have hd : ∀ c, (Str.ofString (toString ((k : Nat) : Int))).cps[0]? = some c → c ≠ 43 ∧ c ≠ 45 := fun c hc => by
      have hm : c ∈ numL k := by
        rw [numL_nl, ← e0]
        have : (tl (Str.ofString (toString ((k : Nat) : Int))))[0]? = some c := by
          rw [← hc]
          show (Array.toList _)[0]? = _
          rw [Array.getElem?_toList]
        exact List.mem_of_getElem? this
      refine ⟨fun q => ?_, fun q => ?_⟩
      · exact numL_free (n := k) (s := 43) (.inl (by omega)) (q ▸ hm)
      · exact numL_free (n := k) (s := 45) (.inl (by omega)) (q ▸ hm)
    have ez : zfilled (Str.ofString (toString ((k : Nat) : Int))) (((m : Nat) : Int).toNat - (nl k).length) = Builtin.Str.padded (Str.ofString (toString ((k : Nat) : Int))) (((m : Nat) : Int).toNat - (nl k).length) 0 48 := by
      unfold zfilled
      split
      · rename_i q
        exact absurd rfl (hd _ q).1
      · rename_i q
        exact absurd rfl (hd _ q).2
      · rfl
    rw [ez]
    unfold Builtin.Str.padded
    show (Array.toList _) = _
    rw [Array.toList_append, Array.toList_append, Array.toList_replicate, Array.toList_replicate]
    show List.replicate _ 48 ++ tl (Str.ofString (toString ((k : Nat) : Int))) ++ [] = _
    rw [e0, List.append_nil]
    rfl
section
variable {P : Program} {w : World} {K : PySem.W.Frag} {mg : Str → Option Value} {base : Heap}
def spRun (K : PySem.W.Frag) : Sp := fun vs H Q _ => ∃ (a : Addr) (r : Bytes) (p b : Nat), vs = [.ref a, .int (p : Nat)] ∧ SqT K H a (tupV r) ∧ r[p]? = some b ∧ Q (.int ((run b (r.drop (p + 1)) + 1 : Nat) : Int)) H
theorem scRun : FnScope ["rule", "place", "end"] ["rule", "place"] (defScope sRun) := ⟨rfl, rfl, rfl, by decide +kernel, rfl, by decide +kernel, by decide +kernel⟩
theorem ok_run {f : Addr} {fd : FuncData} (F : Fun K "run_length" "run_length" sRun f fd) (T : TxB mg) : FnOk P w K mg base CX0 1 f fd ["rule", "place"] (spRun K) := by
  refine F.ok scRun (fun vs H Q E h => ?_) (fun cdv A outer s H vs Q E hr h => ?_)
  · obtain ⟨a, r, p, b, rfl, _⟩ := h
    rfl
  · obtain ⟨a, r, p, b, rfl, hs, hb, k⟩ := h
    have hp := (List.getElem?_eq_some_iff.mp hb).1
    refine ⟨_, pss_cons (ps_set (i := 2) scRun.nd rfl (Or.inl rfl) (pv 1))
      (pss_cons (ps_while PassesOwn.never (PW.pt (pw_and (pt_cmpR op_lt (pv 2) (pe_callB call_len_seq rfl T.len PySem.boot_len (pa_cons (pv 0) pa_nil)) (nomark _))
          (pw_and1 (pt_cmpR op_eq (pe_ix ix_tup (pv 0) (pv 2) (fun _ _ => rfl)) (pe_ix ix_tup (pv 0) (pv 1) (fun _ _ => rfl)) (nomark _)))))
        (pss_one (ps_aug (i := 2) scRun.nd rfl (Or.inl rfl) pe_int ip_add)))
      (pss_one (ps_ret (pe_op op_sub (pv 2) (pv 1))))), ?_⟩
    refine ⟨_, rfl, fun m σ H' => ∃ e : Nat, σ = [some (.ref a), some (.int (p : Nat)), some (.int (e : Nat))] ∧ H' = H ∧ p ≤ e ∧ e ≤ r.length ∧ m = r.length - e ∧ ∀ i, p ≤ i → i < e → r[i]? = some b, ⟨_, p, rfl, rfl, Nat.le_refl _, by omega, rfl, fun i h1 h2 => by omega⟩, ?_⟩
    rintro m σ H' ⟨e, rfl, rfl, h1, h2, rfl, h3⟩
    have done : r[e]? ≠ some b → Q (.int ((e : Nat) - (p : Nat))) H' := fun hne => by
      have hpe : p < e := by
        apply Nat.lt_of_le_of_ne h1
        intro q
        rw [← q] at hne
        exact hne hb
      have er : run b (r.drop (p + 1)) = e - (p + 1) := run_at (fun i hi => by rw [List.getElem?_drop]; exact h3 _ (by omega) (by omega)) (by rw [List.getElem?_drop, show p + 1 + (e - (p + 1)) = e by omega]; exact hne)
      rw [er, show ((e - (p + 1) + 1 : Nat) : Int) = (e : Nat) - (p : Nat) by omega] at k
      exact k
    refine ⟨_, rfl, _, rfl, a, _, rfl, .inr hs, _, _, rfl, rfl, _, rfl, ?_⟩
    rw [tupV_len]
    by_cases hlt : e < r.length
    · rw [decide_eq_true (show ((e : Nat) : Int) < (r.length : Nat) by omega)]
      have he : r[e]? = some r[e] := List.getElem?_eq_getElem hlt
      refine iteT ⟨_, rfl, _, rfl, a, _, _, _, rfl, rfl, hs, at_of rfl (tupV_get he), _, rfl, _, rfl, a, _, _, _, rfl, rfl, hs, at_of rfl (tupV_get hb), rfl, _, rfl, ?_⟩
      rw [show decide (V.int ((r[e] : Nat) : Int) = V.int ((b : Nat) : Int)) = decide (r[e] = b) from dec_nat _ _]
      by_cases q : r[e] = b
      · rw [decide_eq_true q]
        refine iteT ⟨_, fun σ' H' n => n, ?_⟩
        refine ⟨_, rfl, _, _, rfl, rfl, r.length - (e + 1), by omega, e + 1, rfl, rfl, by omega, hlt, rfl, fun i i1 i2 => ?_⟩
        by_cases z : i = e
        · rw [z, he, q]
        · exact h3 i i1 (by omega)
      · rw [decide_eq_false q]
        refine iteF ⟨_, rfl, _, rfl, _, _, rfl, rfl, ?_⟩
        exact done fun z => q (Option.some.inj (he.symm.trans z))
    · rw [decide_eq_false (show ¬ ((e : Nat) : Int) < (r.length : Nat) by omega)]
      refine iteF (iteF ⟨_, rfl, _, rfl, _, _, rfl, rfl, ?_⟩)
      refine done fun z => ?_
      rw [List.getElem?_eq_none_iff.mpr (by omega)] at z
      cases z
def spDigits : Sp := fun vs H Q _ => ∃ k m : Nat, vs = [.int (k : Nat), .int (m : Nat)] ∧ k < 10 ^ 20 ∧ m ≤ 1000 ∧ ∀ (D : Addr) (H' : Hp), H D = none → H' D = some (.lst (tupV (zf k m))) → Same H H' → Q (.ref D) H'
theorem scDigits : FnScope ["number", "width", "digit"] ["number", "width"] (defScope sDigits) := ⟨rfl, rfl, rfl, by decide +kernel, rfl, by decide +kernel, by decide +kernel⟩
theorem pad_ok {m : Nat} (h : m ≤ 1000) : PySem.PadOk (m : Nat) = true := by
  unfold PySem.PadOk
  rw [Bool.and_eq_true]
  constructor
  · unfold PySem.fitsSsize
    simp
    omega
  · unfold Builtin.Str.tooLong
    rw [line24]
    simp
    omega
theorem ok_digits {f : Addr} {fd : FuncData} (F : Fun K "digits_of" "digits_of" sDigits f fd) (T : TxB mg) : FnOk P w K mg base CX0 1 f fd ["number", "width"] spDigits := by
  refine F.ok scDigits (fun vs H Q E h => ?_) (fun cdv A outer s H vs Q E hr h => ?_)
  · obtain ⟨k, m, rfl, _⟩ := h
    rfl
  · obtain ⟨n, m, rfl, hn, hm, k⟩ := h
    refine ⟨_, pss_one (ps_ret (pe_lc (own := [("digit", 2)]) rfl scDigits.nd (pi_str (pe_m1 PySem.F.slot_str_zfill PySem.F.type_str_zfill mt_zfill (pe_callTy call_str_int rfl T.str PyProof.Rows.boot_str (pa_cons (pv 0) pa_nil)) (pv 1)))
      (blkOk_by (by show blkC ["number", "width", "digit"] (defScope sDigits) _ _ = true; decide +kernel)) (fun _ _ _ _ _ => pg_name (i := 2) scDigits.nd rfl (Or.inl rfl)) (fun _ _ _ _ _ => pts_nil) (fun _ _ _ _ _ => pe_callB call_ord rfl T.ord PyProof.Rows.boot_ord (pa_cons (pv 2) pa_nil)))), ?_⟩
    refine ⟨_, rfl, _, rfl, ?_, ⟨_, rfl⟩, _, rfl, _, _, rfl, rfl, pad_ok hm, _, rfl, fun D hD => ?_⟩
    · have h2 : n.log2 < 1920 := by
        by_cases z : n = 0
        · subst z; decide
        · rw [Nat.log2_lt z]
          exact Nat.lt_of_lt_of_le hn (by decide +kernel)
      exact h2
    · have et := zfill_tl n m
      have hl : (Txt.zfill (Str.ofString (toString ((n : Nat) : Int))) (m : Nat)).cps.size = (zf n m).length := by
        rw [← et]
        simp [tl]
      have hz : (zf n m).length ≤ 1000 := by
        rw [zf_len]
        have := nl_small hn
        omega
      refine ⟨fun i u H' => u = (zf n m).length - i ∧ i ≤ (zf n m).length ∧ Same H H' ∧ H' D = some (.lst (tupV ((zf n m).take i))), ⟨_, rfl, Nat.zero_le _, same_new hD, upd_same⟩, ?_⟩
      rintro i u H' ⟨rfl, hi, s1, q1⟩
      by_cases hlt : i < (zf n m).length
      · refine .inr ⟨by show i < _; rw [hl]; exact hlt, fun H'' => Same H H'' ∧ H'' D = some (.lst (tupV ((zf n m).take (i + 1)))), fun H'' ⟨z1, z2⟩ => ⟨_, by omega, rfl, hlt, z1, z2⟩, ?_⟩
        rintro x H'' ⟨rfl, c, hc, rfl⟩
        have hc2 : (zf n m)[i]? = some c := by
          rw [← et, ← hc]
          show (Array.toList _)[i]? = _
          rw [Array.getElem?_toList]
        refine ⟨rfl, _, rfl, _, rfl, rfl, _, q1, ?_, fun b o e => ?_, ?_⟩
        · rw [tupV_len, List.length_take, line24]
          omega
        · rw [upd_ne (ne_of_none e hD)]
          exact s1 b o e
        · rw [upd_same, take_snoc hc2, tupV_app]
          rfl
      · refine .inl ⟨by show _ ≤ i; rw [hl]; omega, ?_⟩
        rw [List.take_of_length_le (by omega)] at q1
        exact k D H' hD q1 s1
def spStand (K : PySem.W.Frag) : Sp := fun vs H Q _ => ∃ (b : Nat) (a : Addr) (n : Bytes), vs = [.int (b : Nat), .ref a] ∧ SqT K H a (tupV n) ∧ n.length < sizeLine ∧ ∀ (p : Addr) (H' : Hp), SqT K H' p (tupV (piece b n)) → Same H H' → Q (.ref p) H'
theorem scStand : FnScope ["sign", "name"] ["sign", "name"] (defScope sStand) := ⟨rfl, rfl, rfl, by decide +kernel, rfl, by decide +kernel, by decide +kernel⟩
/-- t[lo:hi] -/
theorem cutRd {H : Hp} {Q : VK} {a : Addr} {xs ys : List V} {lo hi : Option Int} {x : V} (ex : x = .ref a) (hs : SqT K H a xs) (h1 : HT.sIx xs.length 0 lo = 0 → HT.sIx xs.length xs.length hi = xs.length → xs = ys) (h2 : cutV xs lo hi = ys)
    (k : ∀ (p : Addr) (H' : Hp), SqT K H' p ys → Same H H' → Q (.ref p) H') : rSlT K x lo hi H Q ∨ rSlTW K x lo hi H Q := by
  by_cases q : HT.sIx xs.length 0 lo = 0 ∧ HT.sIx xs.length xs.length hi = xs.length
  · refine .inr ⟨a, xs, ex, hs, q, k a H ?_ (Same.refl H)⟩
    rw [← h1 q.1 q.2]
    exact hs
  · refine .inl ⟨a, xs, ex, hs, q, fun p hp => k p _ (SqT.of ?_) (same_new hp)⟩
    rw [upd_same, h2]
theorem ok_stand {f : Addr} {fd : FuncData} (F : Fun K "stand_in" "stand_in" sStand f fd) (T : TxB mg) (c1 : Ca P w K mg base "stem_length" ["name"] 1 (spStem K)) : FnOk P w K mg base CX0 2 f fd ["sign", "name"] (spStand K) := by
  refine F.ok scStand (fun vs H Q E h => ?_) (fun cdv A outer s H vs Q E hr h => ?_)
  · obtain ⟨b, a, n, rfl, _⟩ := h
    rfl
  · obtain ⟨b, a, n, rfl, hs, hz, k⟩ := h
    refine ⟨_, pss_cons (ps_if (pt_cmpR op_eq (pv 0) (pe_ordc 42 rfl T.ord rfl rfl) (nomark _)) (pss_one (ps_ret (pe_slice (sl_tup.or sl_tupW) (pv 1) po_none (po_some (pe_ca c1 hr (pa_cons (pv 1) pa_nil)))))) pss_nil)
      (pss_cons (ps_if (pt_cmpR op_eq (pv 0) (pe_ordc 43 rfl T.ord rfl rfl) (nomark _)) (pss_one (ps_ret (pe_slice (sl_tup.or sl_tupW) (pv 1) (po_some (pe_ca c1 hr (pa_cons (pv 1) pa_nil))) po_none))) pss_nil)
      (pss_one (ps_ret (pe_tup (pa_cons (pv 0) pa_nil))))), ?_⟩
    have hle := stem_le n
    refine ⟨_, rfl, rfl, _, rfl, ?_⟩
    rw [dec_nat]
    refine ite2 (fun e => ?_) (fun e => ?_)
    · have e42 : b = 42 := of_decide_eq_true e
      have ep : piece b n = Ks335.stem n := by unfold piece; rw [if_pos e42]
      rw [ep] at k
      refine ⟨_, rfl, _, rfl, a, n, rfl, hs, hz, _, rfl, cutRd rfl hs (fun _ q => ?_) ?_ k⟩
      · rw [HT.sIx_nat, tupV_len] at q
        rw [stem_take n, tupV_take, List.take_of_length_le (by rw [tupV_len]; omega)]
      · unfold cutV
        rw [HT.sIx_nat, HT.sIx_none, tupV_len, List.drop_zero, Nat.sub_zero, Nat.min_eq_left hle, ← tupV_take, ← stem_take n]
    · have n42 : b ≠ 42 := fun q => e (decide_eq_true q)
      refine ⟨_, rfl, rfl, _, rfl, ?_⟩
      rw [dec_nat]
      refine ite2 (fun e => ?_) (fun e => ?_)
      · have e43 : b = 43 := of_decide_eq_true e
        have ep : piece b n = Ks335.ending n := by unfold piece; rw [if_neg n42, if_pos e43]
        rw [ep] at k
        refine ⟨_, rfl, _, rfl, a, n, rfl, hs, hz, _, rfl, cutRd rfl hs (fun q _ => ?_) ?_ k⟩
        · rw [HT.sIx_nat, tupV_len] at q
          rw [ending_drop n, show (Ks335.stem n).length = 0 by omega, List.drop_zero]
        · unfold cutV
          rw [HT.sIx_nat, HT.sIx_none, tupV_len, Nat.min_eq_left hle, ← tupV_drop, ← ending_drop n, List.take_of_length_le]
          rw [tupV_len, ending_drop n, List.length_drop]
          exact Nat.le_refl _
      · have n43 : b ≠ 43 := fun q => e (decide_eq_true q)
        have ep : piece b n = [b] := by unfold piece; rw [if_neg n42, if_neg n43]
        rw [ep] at k
        refine ⟨_, rfl, (by show 1 ≤ sizeLine; decide), fun p hp => k p _ (SqT.of upd_same) (same_new hp)⟩
/-- what new_name hands back -/
def NewV (K : PySem.W.Frag) (H : Hp) (v : V) : Option Bytes → Prop
  | none => v = .non
  | some t => ∃ p, v = .ref p ∧ SqT K H p (tupV t)
def spNew (K : PySem.W.Frag) : Sp := fun vs H Q _ => ∃ (ra na : Addr) (r n : Bytes) (k : Nat), vs = [.ref ra, .ref na, .int (k : Nat)] ∧ SqT K H ra (tupV r) ∧ SqT K H na (tupV n) ∧ r.length ≤ 24 ∧ n.length ≤ 16 ∧ k < 10 ^ 20 ∧
  ∀ (v : V) (H' : Hp), NewV K H' v (nn r n k) → Same H H' → Q v H'
theorem scNew : FnScope ["rule", "name", "number", "made", "place", "width", "digits"] ["rule", "name", "number"] (defScope sNew) := ⟨rfl, rfl, rfl, by decide +kernel, rfl, by decide +kernel, by decide +kernel⟩
theorem ok_new {f : Addr} {fd : FuncData} (F : Fun K "new_name" "new_name" sNew f fd) (T : TxB mg) (cN : Ca P w K mg base "is_name" ["signs"] 3 (spIsName K)) (cR : Ca P w K mg base "run_length" ["rule", "place"] 1 (spRun K))
    (cD : Ca P w K mg base "digits_of" ["number", "width"] 1 spDigits) (cS : Ca P w K mg base "stand_in" ["sign", "name"] 2 (spStand K)) : FnOk P w K mg base CX0 4 f fd ["rule", "name", "number"] (spNew K) := by
  refine F.ok scNew (fun vs H Q E h => ?_) (fun cdv A outer s H vs Q E hr h => ?_)
  · obtain ⟨ra, na, r, n, k, rfl, _⟩ := h
    rfl
  · obtain ⟨ra, na, r, n, x, rfl, hR, hN, hr24, hn16, hx, k⟩ := h
    refine ⟨_, pss_cons (ps_set (i := 3) scNew.nd rfl (Or.inl rfl) (pe_lst pa_nil)) (pss_cons (ps_set (i := 4) scNew.nd rfl (Or.inl rfl) pe_int)
      (pss_cons (ps_while PassesOwn.never (pt_cmpR op_lt (pv 4) (pe_callB call_len_seq rfl T.len PySem.boot_len (pa_cons (pv 0) pa_nil)) (nomark _))
        (pss_one (ps_if (pt_cmpR op_eq (pe_ix ix_tup (pv 0) (pv 4) (fun _ _ => rfl)) (pe_ordc 35 rfl T.ord rfl rfl) (nomark _))
          (pss_cons (ps_set (i := 5) scNew.nd rfl (Or.inl rfl) (pe_ca cR hr (pa_cons (pv 0) (pa_cons (pv 4) pa_nil))))
          (pss_cons (ps_set (i := 6) scNew.nd rfl (Or.inl rfl) (pe_ca cD hr (pa_cons (pv 2) (pa_cons (pv 5) pa_nil))))
          (pss_cons (ps_if (pt_cmpR op_gt (pe_callB call_len_seq rfl T.len PySem.boot_len (pa_cons (pv 6) pa_nil)) (pv 5) (nomark _)) (pss_one (ps_ret pe_non)) pss_nil)
          (pss_cons (ps_expr (pe_bm PySem.F.plainAttrs_list PySem.F.slot_list_extend PySem.F.type_list_extend mt_extend (pv 3) (pa_cons (pv 6) pa_nil)))
          (pss_one (ps_aug (i := 4) scNew.nd rfl (Or.inl rfl) (pv 5) ip_add))))))
          (pss_cons (ps_expr (pe_bm PySem.F.plainAttrs_list PySem.F.slot_list_extend PySem.F.type_list_extend mt_extendT (pv 3) (pa_cons (pe_ca cS hr (pa_cons (pe_ix ix_tup (pv 0) (pv 4) (fun _ _ => rfl)) (pa_cons (pv 1) pa_nil))) pa_nil)))
          (pss_one (ps_aug (i := 4) scNew.nd rfl (Or.inl rfl) pe_int ip_add))))))
      (pss_one (ps_ret (pe_ifExp (pt_val (pe_ca cN hr (pa_cons (pv 3) pa_nil))) (pe_callTy call_tuple_of rfl T.tuple PyProof.Rows.boot_tuple (pa_cons (pv 3) pa_nil)) pe_non))))), ?_⟩
    refine ⟨Nat.zero_le _, fun M hM => ?_⟩
    refine ⟨fun m σ H' => ∃ (p : Nat) (made : Bytes) (v5 v6 : Option V), σ = [some (.ref ra), some (.ref na), some (.int (x : Nat)), some (.ref M), some (.int (p : Nat)), v5, v6] ∧ p ≤ r.length ∧ m = r.length - p ∧ Same H H' ∧ H' M = some (.lst (tupV made)) ∧
      ap r n x = (ap (r.drop p) n x).map (fun t => made ++ t) ∧ made.length ≤ 16 * p, ⟨_, 0, [], none, none, rfl, Nat.zero_le _, rfl, same_new hM, upd_same, ?_, Nat.zero_le _⟩, ?_⟩
    · rw [List.drop_zero]
      cases ap r n x <;> rfl
    rintro m σ H1 ⟨p, made, v5, v6, rfl, hp, rfl, s1, hm1, hap, hml⟩
    refine ⟨_, rfl, _, rfl, ra, _, rfl, .inr (s1.seqT hR), _, _, rfl, rfl, _, rfl, ?_⟩
    rw [tupV_len]
    by_cases hlt : p < r.length
    · rw [decide_eq_true (show ((p : Nat) : Int) < (r.length : Nat) by omega)]
      have hb : r[p]? = some r[p] := List.getElem?_eq_getElem hlt
      have hd : r.drop p = r[p] :: r.drop (p + 1) := List.drop_eq_getElem_cons hlt
      refine iteT ⟨_, fun σ' H' n => n, ?_⟩
      refine ⟨_, rfl, _, rfl, ra, _, _, _, rfl, rfl, s1.seqT hR, at_of rfl (tupV_get hb), rfl, _, rfl, ?_⟩
      rw [show decide (V.int ((r[p] : Nat) : Int) = V.int ((35 : Nat) : Int)) = decide (r[p] = 35) from dec_nat _ _]
      refine ite2 (fun e => ?_) (fun e => ?_)
      · have e35 : r[p] = 35 := of_decide_eq_true e
        rw [e35] at hd hb
        rw [hd, ap_num] at hap
        have hrl := run_le 35 (r.drop (p + 1))
        rw [List.length_drop] at hrl
        generalize hw : run 35 (r.drop (p + 1)) = wd at *
        refine ⟨_, rfl, _, rfl, ra, r, p, 35, rfl, s1.seqT hR, hb, ?_⟩
        rw [hw]
        refine ⟨_, rfl, _, rfl, x, wd + 1, rfl, hx, by omega, fun D H2 hD hD2 s2 => ?_⟩
        refine ⟨_, rfl, D, _, rfl, .inl (SqL.of hD2), _, rfl, _, _, rfl, rfl, _, rfl, ?_⟩
        rw [tupV_len]
        by_cases hfit : (zf x (wd + 1)).length ≤ wd + 1
        · rw [decide_eq_false (show ¬ (((wd + 1 : Nat) : Int) < ((zf x (wd + 1)).length : Nat)) by omega)]
          obtain ⟨z1, z2⟩ := zf_fits (by omega) hfit
          rw [if_neg z1] at hap
          have hm2 : H2 M = some (.lst (tupV made)) := s2 _ _ hm1
          refine iteF ⟨_, rfl, .inl ⟨rfl, _, SqL.of hm2⟩, _, rfl, M, D, _, _, rfl, rfl, hm2, hD2, ?_, ?_⟩
          · rw [tupV_len, tupV_len, line24]
            omega
          refine ⟨_, rfl, _, rfl, _, _, rfl, rfl, r.length - (p + (wd + 1)), by omega, p + (wd + 1), made ++ zf x (wd + 1), _, _, rfl, by omega, rfl, fun b o q => ?_, ?_, ?_, ?_⟩
          · rw [upd_ne (ne_of_none q hM)]
            exact s2 _ _ (s1 _ _ q)
          · rw [upd_same, tupV_app]
          · rw [hap, List.drop_drop, z2, show p + 1 + wd = p + (wd + 1) by omega, Option.map_map]
            congr 1
            funext t
            show made ++ (_ ++ t) = made ++ _ ++ t
            rw [List.append_assoc]
          · rw [List.length_append]
            omega
        · rw [decide_eq_true (show (((wd + 1 : Nat) : Int) < ((zf x (wd + 1)).length : Nat)) by omega)]
          refine iteT (k .non H2 ?_ (s1.trans s2))
          rw [if_pos (zf_big (by omega) hfit)] at hap
          unfold nn
          rw [ap_new, hap]
          rfl
      · have n35 : r[p] ≠ 35 := fun q => e (decide_eq_true q)
        rw [hd, ap_sign n35] at hap
        have hpl := piece_len (b := r[p]) hn16
        refine ⟨_, rfl, .inl ⟨rfl, _, SqL.of hm1⟩, _, rfl, _, rfl, ra, _, _, _, rfl, rfl, s1.seqT hR, at_of rfl (tupV_get hb), _, rfl, r[p], na, n, rfl, s1.seqT hN, by rw [line24]; omega, fun D H2 hD2 s2 => ?_⟩
        have hm2 : H2 M = some (.lst (tupV made)) := s2 _ _ hm1
        refine ⟨M, D, _, _, rfl, rfl, hm2, hD2, ?_, ?_⟩
        · rw [tupV_len, tupV_len, line24]
          omega
        refine ⟨_, rfl, _, _, rfl, rfl, r.length - (p + 1), by omega, p + 1, made ++ piece r[p] n, _, _, rfl, by omega, rfl, fun b o q => ?_, ?_, ?_, ?_⟩
        · rw [upd_ne (ne_of_none q hM)]
          exact s2 _ _ (s1 _ _ q)
        · rw [upd_same, tupV_app]
        · rw [hap, Option.map_map]
          congr 1
          funext t
          show made ++ (_ ++ t) = made ++ _ ++ t
          rw [List.append_assoc]
        · rw [List.length_append]
          omega
    · rw [decide_eq_false (show ¬ ((p : Nat) : Int) < (r.length : Nat) by omega)]
      have hpe : p = r.length := by omega
      rw [hpe, List.drop_length, ap_nil] at hap
      have hap2 : Ks335.newName r n x = some made := by
        rw [ap_new, hap]
        show some (made ++ []) = _
        rw [List.append_nil]
      refine iteF ⟨_, rfl, M, made, rfl, .inl (SqL.of hm1), by rw [line24]; omega, fun H2 s2 => ⟨_, rfl, ?_⟩⟩
      have hm2 : H2 M = some (.lst (tupV made)) := s2 _ _ hm1
      refine ite2 (fun e => ?_) (fun e => ?_)
      · refine ⟨_, rfl, M, _, rfl, .inl ⟨SqL.of hm2, fun l hl => k (.ref l) _ ?_ ((s1.trans s2).trans (same_new hl))⟩⟩
        unfold nn
        rw [hap2]
        show NewV K _ _ (if okName made = true then some made else none)
        rw [if_pos e]
        exact ⟨l, rfl, SqT.of upd_same⟩
      · refine k .non H2 ?_ (s1.trans s2)
        unfold nn
        rw [hap2]
        show NewV K _ _ (if okName made = true then some made else none)
        rw [if_neg e]
        rfl
end
end Rf
end
section
set_option Elab.async false
set_option linter.all false
set_option maxRecDepth 100000
set_option maxHeartbeats 4000000
namespace Rf
open PySem PySem.Spec PyProof.Rows L2
open Ks334 (Bytes isSign okName)
theorem np : ¬ (("numbers" : Str) = "place") := by decide +kernel
theorem pn : ¬ (("place" : Str) = "numbers") := by decide +kernel
def rF (a : Addr) (i : Int) : List (Str × V) := putF "place" (.int i) (putF "numbers" (.ref a) [])
theorem rF_eq (a : Addr) (i : Int) : rF a i = ([("numbers", V.ref a), ("place", V.int i)] : List (Str × V)) := by
  show (if ("numbers" : Str) = "place" then [(("numbers" : Str), V.int i)] else (("numbers" : Str), V.ref a) :: putF "place" (V.int i) []) = _
  rw [if_neg np]
  rfl
theorem rF_numbers (a : Addr) (i : Int) : (rF a i).lookup ("numbers" : Str) = some (.ref a) := by
  unfold rF
  rw [lookup_putF, if_neg np, lookup_putF, if_pos rfl]
theorem rF_place (a : Addr) (i : Int) : (rF a i).lookup ("place" : Str) = some (.int i) := by
  unfold rF
  rw [lookup_putF, if_pos rfl]
theorem rF_no (a : Addr) (i : Int) {m : Str} (h1 : ¬ m = "place") (h2 : ¬ m = "numbers") : (rF a i).lookup m = none := by
  unfold rF
  rw [lookup_putF, if_neg h1, lookup_putF, if_neg h2]
  rfl
theorem rF_put (a : Addr) (i j : Int) : putF "place" (.int j) (rF a i) = rF a j := by
  rw [rF_eq, rF_eq]
  show (if ("numbers" : Str) = "place" then _ else (("numbers" : Str), V.ref a) :: (if ("place" : Str) = "place" then [(("place" : Str), V.int j)] else _)) = _
  rw [if_neg np, if_pos rfl]
theorem rF_len (a : Addr) (i : Int) : (rF a i).length < 1000 := by rw [rF_eq]; show 2 < 1000; decide
/-- a Reader of the list at a stands at p, at place i -/
def ReaderAt (C : Addr) (H : Hp) (p a : Addr) (i : Nat) : Prop := ∃ dx, H p = some (.ins C dx (rF a (i : Nat)))
structure TxR (K : PySem.W.Frag) (C : Addr) : Prop where
  cl : Cls K C
  nN : NoAttr K C "numbers"
  nP : NoAttr K C "place"
section
variable {P : Program} {w : World} {K : PySem.W.Frag} {mg : Str → Option Value} {base : Heap}
def spRInit (C : Addr) : Sp := fun vs H Q _ => ∃ (p a dx : Addr), vs = [.ref p, .ref a] ∧ H p = some (.ins C dx []) ∧ ∀ H' : Hp, ReaderAt C H' p a 0 → Kp [p] H H' → Q .non H'
theorem scRInit : FnScope ["self", "numbers"] ["self", "numbers"] (defScope sRInit) := ⟨rfl, rfl, rfl, by decide +kernel, rfl, by decide +kernel, by decide +kernel⟩
theorem ok_rinit {f C : Addr} {fd : FuncData} (F : Fun K "__init__" "Reader.__init__" sRInit f fd) (T : TxR K C) : FnOk P w K mg base CX0 1 f fd ["self", "numbers"] (spRInit C) := by
  refine F.ok scRInit (fun vs H Q E h => ?_) (fun cdv A outer s H vs Q E hr h => ?_)
  · obtain ⟨p, a, dx, rfl, _⟩ := h
    rfl
  · obtain ⟨p, a, dx, rfl, hp, k⟩ := h
    refine ⟨_, pss_cons (ps_fld (pv 0) (pv 1) rfl) (pss_one (ps_fld (pv 0) pe_int rfl)), ?_⟩
    refine ⟨_, rfl, _, rfl, p, C, dx, [], rfl, hp, T.cl, T.nN, (by show 0 < 1000; decide), _, rfl, p, C, dx, _, rfl, upd_same, T.cl, T.nP, (by show 1 < 1000; decide), ?_⟩
    refine k _ ⟨dx, upd_same⟩ fun b o e n => ?_
    have hb : b ≠ p := fun q => n (by rw [q]; exact List.mem_singleton.mpr rfl)
    rw [upd_ne hb, upd_ne hb]
    exact e
def spREnd (K : PySem.W.Frag) (C : Addr) : Sp := fun vs H Q _ => ∃ (p a : Addr) (i : Nat) (ns : List Int), vs = [.ref p] ∧ ReaderAt C H p a i ∧ SqL K H a (ns.map V.int) ∧ Q (.bl (decide (i = ns.length))) H
theorem scREnd : FnScope ["self"] ["self"] (defScope sREnd) := ⟨rfl, rfl, rfl, by decide +kernel, rfl, by decide +kernel, by decide +kernel⟩
theorem ok_rend {f C : Addr} {fd : FuncData} (F : Fun K "at_end" "Reader.at_end" sREnd f fd) (T : TxR K C) (TB : TxB mg) : FnOk P w K mg base CX0 1 f fd ["self"] (spREnd K C) := by
  refine F.ok scREnd (fun vs H Q E h => ?_) (fun cdv A outer s H vs Q E hr h => ?_)
  · obtain ⟨p, a, i, ns, rfl, _⟩ := h
    rfl
  · obtain ⟨p, a, i, ns, rfl, ⟨dx, hp⟩, hs, k⟩ := h
    refine ⟨_, pss_one (ps_ret (pe_cmpR op_eq (pe_fld (pv 0) rfl) (pe_callB call_len_seq rfl TB.len PySem.boot_len (pa_cons (pe_fld (pv 0) rfl) pa_nil)) (nomark _))), ?_⟩
    refine ⟨_, rfl, p, C, dx, _, _, rfl, hp, T.cl, T.nP, rF_place _ _, _, rfl, p, C, dx, _, _, rfl, hp, T.cl, T.nN, rF_numbers _ _, a, _, rfl, .inl hs, rfl, ?_⟩
    rw [List.length_map, show decide (V.int ((i : Nat) : Int) = V.int ((ns.length : Nat) : Int)) = decide (i = ns.length) from dec_nat _ _]
    exact k
def spRNum (K : PySem.W.Frag) (C : Addr) : Sp := fun vs H Q _ => ∃ (p a : Addr) (i : Nat) (ns : List Int) (z : Int), vs = [.ref p] ∧ ReaderAt C H p a i ∧ SqL K H a (ns.map V.int) ∧ ns[i]? = some z ∧ ∀ H' : Hp, ReaderAt C H' p a (i + 1) → Kp [p] H H' → Q (.int z) H'
theorem scRNum : FnScope ["self", "number"] ["self"] (defScope sRNum) := ⟨rfl, rfl, rfl, by decide +kernel, rfl, by decide +kernel, by decide +kernel⟩
theorem ok_rnum {f C : Addr} {fd : FuncData} (F : Fun K "take_number" "Reader.take_number" sRNum f fd) (T : TxR K C) : FnOk P w K mg base CX0 1 f fd ["self"] (spRNum K C) := by
  refine F.ok scRNum (fun vs H Q E h => ?_) (fun cdv A outer s H vs Q E hr h => ?_)
  · obtain ⟨p, a, i, ns, z, rfl, _⟩ := h
    rfl
  · obtain ⟨p, a, i, ns, z, rfl, ⟨dx, hp⟩, hs, hz, k⟩ := h
    refine ⟨_, pss_cons (ps_set (i := 1) scRNum.nd rfl (Or.inl rfl) (pe_ix ix_list (pe_fld (pv 0) rfl) (pe_fld (pv 0) rfl) (fun _ _ => rfl)))
      (pss_cons (ps_fldaug (pv 0) pe_int in_add) (pss_one (ps_ret (pv 1)))), ?_⟩
    refine ⟨_, rfl, p, C, dx, _, _, rfl, hp, T.cl, T.nN, rF_numbers _ _, _, rfl, p, C, dx, _, _, rfl, hp, T.cl, T.nP, rF_place _ _, a, _, _, _, rfl, rfl, hs, at_of rfl (by rw [List.getElem?_map, hz]; rfl), ?_⟩
    refine ⟨_, rfl, p, C, dx, _, _, rfl, hp, T.cl, T.nP, rF_place _ _, _, _, rfl, rfl, dx, _, hp, rF_len _ _, _, rfl, ?_⟩
    refine k _ ⟨dx, Eq.trans upd_same (congrArg (fun q => some (HO.ins C dx q)) (rF_put _ _ _))⟩ fun b o e n => ?_
    rw [upd_ne (fun q => n (by rw [q]; exact List.mem_singleton.mpr rfl))]
    exact e
theorem cut_row {xs : List V} {i m : Nat} : cutV xs (some ((i : Nat) : Int)) (some (((i : Nat) : Int) + ((m : Nat) : Int))) = (xs.drop i).take m := by
  unfold cutV
  rw [show (((i : Nat) : Int) + ((m : Nat) : Int)) = ((i + m : Nat) : Int) by omega, HT.sIx_nat, HT.sIx_nat]
  by_cases h : i ≤ xs.length
  · rw [Nat.min_eq_left h]
    by_cases h2 : i + m ≤ xs.length
    · rw [Nat.min_eq_left h2, show i + m - i = m by omega]
    · rw [Nat.min_eq_right (by omega), List.take_of_length_le (by rw [List.length_drop]; omega), List.take_of_length_le (by rw [List.length_drop]; omega)]
  · rw [List.drop_of_length_le (show xs.length ≤ min i xs.length by omega), List.drop_of_length_le (show xs.length ≤ i by omega), List.take_nil, List.take_nil]
/-- a row stands ahead: its length, then its numbers -/
def spRRow (K : PySem.W.Frag) (C : Addr) : Sp := fun vs H Q _ => ∃ (p a : Addr) (i : Nat) (ns xs : List Int), vs = [.ref p] ∧ ReaderAt C H p a i ∧ SqL K H a (ns.map V.int) ∧ ns[i]? = some ((xs.length : Nat) : Int) ∧ (ns.drop (i + 1)).take xs.length = xs ∧
  ∀ (q : Addr) (H' : Hp), SqT K H' q (xs.map V.int) → ReaderAt C H' p a (i + 1 + xs.length) → Kp [p] H H' → Q (.ref q) H'
theorem scRRow : FnScope ["self", "length", "row"] ["self"] (defScope sRRow) := ⟨rfl, rfl, rfl, by decide +kernel, rfl, by decide +kernel, by decide +kernel⟩
theorem ok_rrow {f C : Addr} {fd : FuncData} (F : Fun K "take_row" "Reader.take_row" sRRow f fd) (T : TxR K C) (TB : TxB mg) (cN : Cm P w K mg base C "take_number" ["self"] 1 (spRNum K C)) : FnOk P w K mg base CX0 2 f fd ["self"] (spRRow K C) := by
  refine F.ok scRRow (fun vs H Q E h => ?_) (fun cdv A outer s H vs Q E hr h => ?_)
  · obtain ⟨p, a, i, ns, xs, rfl, _⟩ := h
    rfl
  · obtain ⟨p, a, i, ns, xs, rfl, R0, hs, hz, hx, k⟩ := h
    refine ⟨_, pss_cons (ps_set (i := 1) scRRow.nd rfl (Or.inl rfl) (pe_cm0 cN T.cl hr (pv 0)))
      (pss_cons (ps_set (i := 2) scRRow.nd rfl (Or.inl rfl) (pe_callTy call_tuple_of rfl TB.tuple PyProof.Rows.boot_tuple (pa_cons (pe_slice sl_list (pe_fld (pv 0) rfl) (po_some (pe_fld (pv 0) rfl)) (po_some (pe_op op_add (pe_fld (pv 0) rfl) (pv 1)))) pa_nil)))
      (pss_cons (ps_fldaug (pv 0) (pv 1) in_add) (pss_one (ps_ret (pv 2))))), ?_⟩
    obtain ⟨dx, hp⟩ := id R0
    have hna : a ≠ p → SqL K H a (ns.map V.int) := fun _ => hs
    refine ⟨_, rfl, p, dx, _, rfl, hp, rF_no _ _ (by decide +kernel) (by decide +kernel), p, a, i, ns, _, rfl, R0, hs, hz, fun H1 R1 k1 => ?_⟩
    have hs1 : SqL K H1 a (ns.map V.int) := by
      have nap : ∀ u, H a = some u → (∀ C dx fs, u ≠ .ins C dx fs) → a ∉ [p] := fun u q n z => by
        rw [List.mem_singleton.mp z, hp] at q
        exact n _ _ _ (Option.some.inj q).symm
      rcases hs with (q | ⟨o, q⟩) | q
      · exact .inl (.inl (k1 _ _ q (nap _ q (fun _ _ _ z => by cases z))))
      · exact .inl (.inr ⟨o, k1 _ _ q (nap _ q (fun _ _ _ z => by cases z))⟩)
      · exact .inr q
    obtain ⟨dx1, hp1⟩ := R1
    refine ⟨_, rfl, p, C, dx1, _, _, rfl, hp1, T.cl, T.nN, rF_numbers _ _, _, rfl, p, C, dx1, _, _, rfl, hp1, T.cl, T.nP, rF_place _ _, _, rfl, _, rfl, p, C, dx1, _, _, rfl, hp1, T.cl, T.nP, rF_place _ _, _, rfl, _, _, rfl, rfl, _, rfl,
      a, _, rfl, hs1, fun D hD => ⟨D, _, rfl, .inl ⟨SqL.of upd_same, fun q hq => ?_⟩⟩⟩
    have hpD : p ≠ D := ne_of_none hp1 hD
    have hp2 : upd H1 D (.lst (cutV (ns.map V.int) (some ((i + 1 : Nat) : Int)) (some (((i + 1 : Nat) : Int) + ((xs.length : Nat) : Int))))) p = some (.ins C dx1 (rF a ((i + 1 : Nat) : Int))) := by
      rw [upd_ne hpD]
      exact hp1
    have hpq : p ≠ q := ne_of_none hp2 hq
    refine ⟨_, rfl, p, C, dx1, _, _, rfl, (by rw [upd_ne hpq]; exact hp2), T.cl, T.nP, rF_place _ _, _, rfl, _, _, rfl, rfl, dx1, _, (by rw [upd_ne hpq]; exact hp2), rF_len _ _, _, rfl, ?_⟩
    refine k q _ (SqT.of ?_) ⟨dx1, Eq.trans upd_same (congrArg (fun q => some (HO.ins C dx1 q)) (rF_put _ _ _))⟩ fun b o e n => ?_
    · rw [upd_ne hpq.symm, upd_same, cut_row, ← List.map_drop, ← List.map_take, hx]
    · have hb : b ≠ p := fun q => n (by rw [q]; exact List.mem_singleton.mpr rfl)
      have e1 := k1 b o e n
      have e2 : upd H1 D (.lst (cutV (ns.map V.int) (some ((i + 1 : Nat) : Int)) (some (((i + 1 : Nat) : Int) + ((xs.length : Nat) : Int))))) b = some o := by
        rw [upd_ne (ne_of_none e1 hD)]
        exact e1
      rw [upd_ne hb, upd_ne (ne_of_none e2 hq)]
      exact e2
end
end Rf
end
section
set_option Elab.async false
set_option linter.all false
set_option maxRecDepth 100000
set_option maxHeartbeats 4000000
namespace Rf
open PySem PySem.Spec PyProof.Rows L2
open Ks334 (Bytes isSign okName BETWEEN)

/-! ### names as data -/
def nameD (n : Bytes) : PyData := .tuple ((nsI n).map PyData.int)
def namesD (ns : List Bytes) : PyData := .list (ns.map nameD)
theorem eqvAll_ints : ∀ a b : List Int, PyData.eqvAll (a.map PyData.int) (b.map PyData.int) = decide (a = b)
  | [], [] => rfl
  | [], _ :: _ => rfl
  | _ :: _, [] => rfl
  | x :: a, y :: b => by
    show (PyData.eqv (.int x) (.int y) && PyData.eqvAll (a.map PyData.int) (b.map PyData.int)) = _
    rw [eqvAll_ints a b]
    show (x == y && decide (a = b)) = _
    rw [Bool.beq_eq_decide_eq, ← Bool.decide_and]
    exact decide_eq_decide.mpr (by rw [List.cons.injEq])
theorem ints_inj {a b : Bytes} (h : nsI a = nsI b) : a = b := by
  have := congrArg Ks336Neutral.nats h
  rw [nats_ints, nats_ints] at this
  exact this
theorem eqv_name (a b : Bytes) : PyData.eqv (nameD a) (nameD b) = decide (a = b) := by
  show PyData.eqvAll _ _ = _
  rw [eqvAll_ints]
  exact decide_eq_decide.mpr ⟨ints_inj, fun h => by rw [h]⟩
theorem eqvAll_names : ∀ a b : List Bytes, PyData.eqvAll (a.map nameD) (b.map nameD) = decide (a = b)
  | [], [] => rfl
  | [], _ :: _ => rfl
  | _ :: _, [] => rfl
  | x :: a, y :: b => by
    show (PyData.eqv (nameD x) (nameD y) && PyData.eqvAll (a.map nameD) (b.map nameD)) = _
    rw [eqvAll_names a b, eqv_name, ← Bool.decide_and]
    exact decide_eq_decide.mpr (by rw [List.cons.injEq])
theorem eqv_names (a b : List Bytes) : PyData.eqv (namesD a) (namesD b) = decide (a = b) := eqvAll_names a b
theorem any_name (ns : List Bytes) (x : Bytes) : ((ns.map nameD).any fun z => PyData.eqv z (nameD x)) = decide (x ∈ ns) := by
  rw [List.any_map]
  induction ns with
  | nil => rfl
  | cons n ns ih =>
    rw [List.any_cons, ih]
    show (PyData.eqv (nameD n) (nameD x) || _) = _
    rw [eqv_name, ← Bool.decide_or]
    refine decide_eq_decide.mpr ?_
    rw [List.mem_cons]
    constructor
    · rintro (h | h)
      · exact .inl h.symm
      · exact .inr h
    · rintro (h | h)
      · exact .inl h.symm
      · exact .inr h
theorem lay_ints : ∀ a : List Int, PyData.canLayAll0 (a.map PyData.int) = true
  | [] => rfl
  | x :: a => by
    show (PyData.canLay0 (.int x) && PyData.canLayAll0 (a.map PyData.int)) = true
    rw [lay_ints a]
    rfl
theorem lay_name (n : Bytes) : (nameD n).canLay0 = true := by
  show PyData.canLayAll0 _ = true
  exact lay_ints _
theorem lay_names : ∀ ns : List Bytes, PyData.canLayAll0 (ns.map nameD) = true
  | [] => rfl
  | n :: ns => by
    show (PyData.canLay0 (nameD n) && PyData.canLayAll0 (ns.map nameD)) = true
    rw [lay_name, lay_names ns]
    rfl
theorem depth_ints : ∀ a : List Int, PyData.depthAll (a.map PyData.int) = 0
  | [] => rfl
  | x :: a => by
    show max (PyData.depth (.int x)) (PyData.depthAll (a.map PyData.int)) = 0
    rw [depth_ints a]
    rfl
theorem depth_name (n : Bytes) : (nameD n).depth = 1 := by
  show PyData.depthAll _ + 1 = 1
  rw [depth_ints]
theorem depth_names : ∀ ns : List Bytes, PyData.depthAll (ns.map nameD) ≤ 1
  | [] => Nat.zero_le _
  | n :: ns => by
    show max (PyData.depth (nameD n)) (PyData.depthAll (ns.map nameD)) ≤ 1
    rw [depth_name]
    have := depth_names ns
    omega
theorem shaped_name (n : Bytes) : SeqAt.shaped (nameD n) = true := by
  unfold SeqAt.shaped
  rw [lay_name, depth_name]
  rfl
theorem shaped_names (ns : List Bytes) : SeqAt.shaped (namesD ns) = true := by
  unfold SeqAt.shaped
  rw [Bool.and_eq_true]
  refine ⟨lay_names ns, decide_eq_true ?_⟩
  show PyData.depthAll _ + 1 ≤ 64
  have := depth_names ns
  omega
/-! ### names in the heap -/
def TupAt (K : PySem.W.Frag) (H : Hp) (v : V) (n : Bytes) : Prop := ∃ a, v = .ref a ∧ SqT K H a (tupV n)
structure Tups (K : PySem.W.Frag) (H : Hp) (vs : List V) (ns : List Bytes) : Prop where
  len : vs.length = ns.length
  at_ : ∀ (i : Nat) v n, vs[i]? = some v → ns[i]? = some n → TupAt K H v n
def NamesAt (K : PySem.W.Frag) (H : Hp) (l : Addr) (ns : List Bytes) : Prop := ∃ vs, SqL K H l vs ∧ Tups K H vs ns
section
variable {K : PySem.W.Frag} {H H' : Hp} {l : Addr} {v : V} {n : Bytes} {vs : List V} {ns : List Bytes}
theorem TupAt.same (h : TupAt K H v n) (s : Same H H') : TupAt K H' v n := by
  obtain ⟨a, e, q⟩ := h
  exact ⟨a, e, s.seqT q⟩
theorem TupAt.kp {F : List Addr} (h : TupAt K H v n) (s : Kp F H H') (hm : ∀ b ∈ F, Mob H b) : TupAt K H' v n := by
  obtain ⟨a, e, q⟩ := h
  exact ⟨a, e, s.seqT hm q⟩
theorem Tups.same (h : Tups K H vs ns) (s : Same H H') : Tups K H' vs ns := ⟨h.len, fun i v n e1 e2 => (h.at_ i v n e1 e2).same s⟩
theorem Tups.kp {F : List Addr} (h : Tups K H vs ns) (s : Kp F H H') (hm : ∀ b ∈ F, Mob H b) : Tups K H' vs ns := ⟨h.len, fun i v n e1 e2 => (h.at_ i v n e1 e2).kp s hm⟩
theorem NamesAt.same (h : NamesAt K H l ns) (s : Same H H') : NamesAt K H' l ns := by
  obtain ⟨vs, h1, h2⟩ := h
  exact ⟨vs, s.seq h1, h2.same s⟩
theorem Tups.get (h : Tups K H vs ns) {i : Nat} (hi : ns[i]? = some n) : ∃ v, vs[i]? = some v ∧ TupAt K H v n := by
  have hl : i < vs.length := by
    rw [h.len]
    exact (List.getElem?_eq_some_iff.mp hi).1
  exact ⟨vs[i], List.getElem?_eq_getElem hl, h.at_ i _ _ (List.getElem?_eq_getElem hl) hi⟩
theorem Tups.snoc (h : Tups K H vs ns) (q : TupAt K H v n) : Tups K H (vs ++ [v]) (ns ++ [n]) := by
  refine ⟨by rw [List.length_append, List.length_append, h.len]; rfl, fun i u m e1 e2 => ?_⟩
  by_cases hi : i < vs.length
  · rw [List.getElem?_append_left hi] at e1
    rw [List.getElem?_append_left (by rw [← h.len]; exact hi)] at e2
    exact h.at_ i u m e1 e2
  · rw [List.getElem?_append_right (by omega)] at e1
    rw [List.getElem?_append_right (by rw [← h.len]; omega), ← h.len] at e2
    cases z : i - vs.length with
    | zero =>
      rw [z] at e1 e2
      cases e1
      cases e2
      exact q
    | succ j => rw [z] at e1; cases e1
theorem Tups.set (h : Tups K H vs ns) (i : Nat) (q : TupAt K H v n) : Tups K H (vs.set i v) (ns.set i n) := by
  refine ⟨by rw [List.length_set, List.length_set, h.len], fun j u m e1 e2 => ?_⟩
  by_cases hj : i = j
  · subst hj
    have hl : i < vs.length := by
      have := (List.getElem?_eq_some_iff.mp e1).1
      rw [List.length_set] at this
      exact this
    rw [List.getElem?_set_self hl] at e1
    rw [List.getElem?_set_self (by rw [← h.len]; exact hl)] at e2
    cases e1
    cases e2
    exact q
  · rw [List.getElem?_set_ne hj] at e1 e2
    exact h.at_ j u m e1 e2
theorem dp_ints : ∀ a : List Int, DpAll K H (a.map V.int) (a.map PyData.int)
  | [] => .nil
  | x :: a => .cons (.int x) (dp_ints a)
theorem TupAt.dp (h : TupAt K H v n) : Dp K H v (nameD n) := by
  obtain ⟨a, rfl, q⟩ := h
  exact .tup q (dp_ints _)
theorem dp_names : ∀ {vs : List V} {ns : List Bytes}, Tups K H vs ns → DpAll K H vs (ns.map nameD)
  | [], [], _ => .nil
  | [], _ :: _, h => by have := h.len; cases this
  | _ :: _, [], h => by have := h.len; cases this
  | v :: vs, n :: ns, h => .cons (h.at_ 0 v n rfl rfl).dp (dp_names ⟨by have := h.len; simpa using this, fun i u m e1 e2 => h.at_ (i + 1) u m (by simpa using e1) (by simpa using e2)⟩)
theorem NamesAt.dp (h : NamesAt K H l ns) : Dp K H (.ref l) (namesD ns) := by
  obtain ⟨vs, h1, h2⟩ := h
  exact .lst h1 (dp_names h2)
/-- names[i] -/
theorem NamesAt.pick {i : Nat} (h : NamesAt K H l ns) (hi : ns[i]? = some n) : ∃ vs v, SqL K H l vs ∧ atI vs ((i : Nat) : Int) = some v ∧ TupAt K H v n := by
  obtain ⟨vs, q1, q2⟩ := h
  obtain ⟨v, e, q3⟩ := q2.get hi
  exact ⟨vs, v, q1, at_of rfl e, q3⟩
theorem NamesAt.num (h : NamesAt K H l ns) : ∃ vs, SqL K H l vs ∧ vs.length = ns.length := by
  obtain ⟨vs, q1, q2⟩ := h
  exact ⟨vs, q1, q2.len⟩
end
/-- what next_renaming hands back -/
def NextV (K : PySem.W.Frag) (H : Hp) (v : V) : Option (Nat × Bytes) → Prop
  | none => v = .non
  | some (f, x) => ∃ p u, v = .ref p ∧ SqT K H p [.int (f : Nat), u] ∧ TupAt K H u x
theorem NextV.same {K : PySem.W.Frag} {H H' : Hp} {v : V} {o : Option (Nat × Bytes)} (h : NextV K H v o) (s : Same H H') : NextV K H' v o := by
  cases o with
  | none => exact h
  | some z =>
    obtain ⟨p, u, e, q1, q2⟩ := h
    exact ⟨p, u, e, s.seqT q1, q2.same s⟩
structure TxN (K : PySem.W.Frag) (mg : Str → Option Value) : Prop where
  btw : ∃ b, mg "BETWEEN" = some (.ref b) ∧ ∀ H : Hp, SqT K H b (tupV BETWEEN)
section
variable {P : Program} {w : World} {K : PySem.W.Frag} {mg : Str → Option Value} {base : Heap}
def spNext (K : PySem.W.Frag) : Sp := fun vs H Q _ => ∃ (l w : Addr) (ns ws : List Bytes), vs = [.ref l, .ref w] ∧ NamesAt K H l ns ∧ NamesAt K H w ws ∧ ns.length = ws.length ∧ ns.length ≤ 16 ∧
  ∀ (v : V) (H' : Hp), NextV K H' v (Ks334.next (ns.zip ws)) → Same H H' → Q v H'
theorem scNext : FnScope ["names", "wanted", "waiting", "file"] ["names", "wanted"] (defScope sNext) := ⟨rfl, rfl, rfl, by decide +kernel, rfl, by decide +kernel, by decide +kernel⟩
def natV (l : List Nat) : List V := l.map fun f => V.int (f : Nat)
theorem natV_of {l : List Nat} {i : Nat} {x : V} (h : (natV l)[i]? = some x) : ∃ f : Nat, l[i]? = some f ∧ x = V.int (f : Nat) := by
  unfold natV at h
  rw [List.getElem?_map] at h
  cases e : l[i]? with
  | none => rw [e] at h; cases h
  | some b => rw [e] at h; exact ⟨b, rfl, (Option.some.inj h).symm⟩
theorem natV_len (l : List Nat) : (natV l).length = l.length := by unfold natV; rw [List.length_map]
theorem ok_next {f : Addr} {fd : FuncData} (F : Fun K "next_renaming" "next_renaming" sNext f fd) (T : TxB mg) (TN : TxN K mg) : FnOk P w K mg base CX0 1 f fd ["names", "wanted"] (spNext K) := by
  refine F.ok scNext (fun vs H Q E h => ?_) (fun cdv A outer s H vs Q E hr h => ?_)
  · obtain ⟨l, w, ns, ws, rfl, _⟩ := h
    rfl
  · obtain ⟨l, w, ns, ws, rfl, hN, hW, hlen, h16, k⟩ := h
    have hu := hr.units
    obtain ⟨bt, mb, sb⟩ := TN.btw
    refine ⟨_, pss_cons (ps_setLc (i := 2) (own := [("file", 3)]) rfl scNext.nd rfl rfl (sw_true rfl rfl rfl rfl) (pi_range1 rfl T.range (pa_cons (pe_callB call_len_seq rfl T.len PySem.boot_len (pa_cons (pv 0) pa_nil)) pa_nil)) (blkOk_by (by show blkC ["names", "wanted", "waiting", "file"] (defScope sNext) _ _ = true; decide +kernel))
        (fun _ _ _ _ _ => pg_name (i := 3) scNext.nd rfl (Or.inl rfl)) (fun _ _ _ _ _ => pts_one (pt_cmpR (r := rNeD K) (op_neD hu) (pe_ix (r := rIxL K) ix_list (pv 0) (pv 3) (fun _ _ => rfl)) (pe_ix (r := rIxL K) ix_list (pv 1) (pv 3) (fun _ _ => rfl)) (nomark _))) (fun _ _ _ _ _ => pv 3))
      (pss_cons (ps_for PassesOwn.never rfl (pi_list (pv 2)) (pg_name (i := 3) scNext.nd rfl (Or.inl rfl))
        (pss_one (ps_if (pt_cmpR (op_notInD hu) (pe_ix ix_list (pv 1) (pv 3) (fun _ _ => rfl)) (pv 0) (by with_unfolding_all rfl)) (pss_one (ps_ret (pe_tup (pa_cons (pv 3) (pa_cons (pe_ix ix_list (pv 1) (pv 3) (fun _ _ => rfl)) pa_nil))))) pss_nil)))
      (pss_cons (ps_if (pt_cmpR op_eq (pe_callB call_len_seq rfl T.len PySem.boot_len (pa_cons (pv 2) pa_nil)) pe_int (nomark _)) (pss_one (ps_ret pe_non)) pss_nil)
      (pss_one (ps_ret (pe_tup (pa_cons (pe_ix ix_list (pv 2) pe_int (fun _ _ => rfl)) (pa_cons (pe_glob (v := .ref bt) rfl mb rfl) pa_nil))))))), ?_⟩
    obtain ⟨vs0, hv0, hl0⟩ := hN.num
    refine ⟨_, rfl, l, vs0, rfl, .inl hv0, _, rfl, by omega, by omega, fun D hD => ?_⟩
    rw [hl0]
    rw [Int.toNat_natCast]
    refine lc_range (fun i H' => Same H H' ∧ H' D = some (.lst (natV ((List.range i).filter fun f => decide (ns[f]? ≠ ws[f]?))))) ⟨same_new hD, upd_same⟩ ?_ ?_
    · rintro i H' hi ⟨s1, q1⟩
      have hn : ns[i]? = some ns[i] := List.getElem?_eq_getElem hi
      have hw : ws[i]? = some (ws[i]'(by omega)) := List.getElem?_eq_getElem (by omega)
      rw [show (0 : Int) + ((i : Nat) : Int) = ((i : Nat) : Int) by omega]
      obtain ⟨vs1, v, a1, a2, hv⟩ := (hN.same s1).pick hn
      obtain ⟨vs2, u, b1, b2, hu'⟩ := (hW.same s1).pick hw
      refine ⟨rfl, _, rfl, _, rfl, l, vs1, _, v, rfl, rfl, a1, a2, _, rfl, _, rfl, w, vs2, _, u, rfl, rfl, b1, b2, _, _, hv.dp, hu'.dp, shaped_name _, shaped_name _, _, rfl, ?_⟩
      rw [eqv_name]
      have ed : decide (ns[i]? ≠ ws[i]?) = !decide (ns[i] = ws[i]'(by omega)) := by
        rw [hn, hw, ← decide_not]
        exact decide_eq_decide.mpr ⟨fun q z => q (by rw [z]), fun q z => q (Option.some.inj z)⟩
      by_cases q : ns[i] = ws[i]'(by omega)
      · rw [decide_eq_true q]
        refine iteF ⟨s1, ?_⟩
        rw [range_snoc, ed, decide_eq_true q]
        simpa using q1
      · rw [decide_eq_false q]
        refine iteT ⟨_, rfl, _, q1, ?_, fun b o e => ?_, ?_⟩
        · rw [natV_len, line24]
          have := List.length_filter_le (fun f => decide (ns[f]? ≠ ws[f]?)) (List.range i)
          rw [List.length_range] at this
          omega
        · rw [upd_ne (ne_of_none e hD)]
          exact s1 b o e
        · rw [upd_same, range_snoc, ed, decide_eq_false q]
          unfold natV
          rw [List.map_append]
          rfl
    · rintro H1 ⟨s1, q1⟩
      have q1 : H1 D = some (.lst (natV (wait ns ws))) := q1
      refine ⟨_, rfl, D, rfl, ⟨_, SqL.of q1⟩, ?_⟩
      refine for_list (K := K) (a := D) (xs := natV (wait ns ws)) (fun i σ H' => (∃ v, σ = [some (.ref l), some (.ref w), some (.ref D), v]) ∧ H' = H1 ∧ ∀ j g, j < i → (wait ns ws)[j]? = some g → ¬ canGet ns ws g)
        ⟨⟨none, rfl⟩, rfl, fun j g h => absurd h (Nat.not_lt_zero _)⟩ (fun i σ H' _ ⟨_, e, _⟩ => by rw [e]; exact SqL.of q1) ?_ ?_
      · rintro i x σ H' hx ⟨⟨v, rfl⟩, rfl, hb⟩
        obtain ⟨g, hg, rfl⟩ := natV_of hx
        obtain ⟨m1, m2⟩ := wait_mem.mp (List.mem_of_getElem? hg)
        have hn : ns[g]? = some ns[g] := List.getElem?_eq_getElem m1
        have hw : ws[g]? = some (ws[g]'(by omega)) := List.getElem?_eq_getElem (by omega)
        have hne : ns[g] ≠ ws[g]'(by omega) := fun q => m2 (by rw [hn, hw, q])
        obtain ⟨vs2, u, b1, b2, hu'⟩ := (hW.same s1).pick hw
        refine ⟨_, rfl, _, rfl, w, vs2, _, u, rfl, rfl, b1, b2, _, rfl, _, _, (hN.same s1).dp, hu'.dp, lay_names _, lay_name _, by rw [depth_name]; decide, _, rfl, ?_⟩
        rw [any_name]
        show if (!decide _) = true then _ else _
        by_cases q : (ws[g]'(by omega)) ∈ ns
        · rw [decide_eq_true q]
          refine iteF ⟨⟨_, rfl⟩, rfl, fun j g' hj hg' => ?_⟩
          by_cases z : j = i
          · subst z
            rw [hg] at hg'
            cases hg'
            rintro ⟨n', t', z1, z2, z3, z4⟩
            rw [hw] at z2
            cases z2
            exact z4 q
          · exact hb j g' (by omega) hg'
        · rw [decide_eq_false q]
          refine iteT ⟨_, rfl, _, rfl, _, rfl, w, vs2, _, u, rfl, rfl, b1, b2, (by show 2 ≤ sizeLine; decide), fun p hp => ?_⟩
          have en := wait_free hlen hg hb ⟨_, _, hn, hw, hne, q⟩ hw
          refine k (.ref p) _ ?_ (s1.trans (same_new hp))
          rw [en]
          exact ⟨p, u, rfl, SqT.of upd_same, hu'.same (same_new hp)⟩
      · rintro σ H' ⟨⟨v, rfl⟩, rfl, hb⟩
        rw [natV_len] at hb
        have hb' : ∀ (j : Nat) g, (wait ns ws)[j]? = some g → ¬ canGet ns ws g := fun j g hg => hb j g (List.getElem?_eq_some_iff.mp hg).1 hg
        refine ⟨_, rfl, D, _, rfl, .inl (SqL.of q1), rfl, _, rfl, ?_⟩
        rw [natV_len, show decide (V.int (((wait ns ws).length : Nat) : Int) = V.int 0) = decide ((wait ns ws).length = 0) from dec_nat _ 0]
        refine ite2 (fun e => ?_) (fun e => ?_)
        · have e0 : wait ns ws = [] := List.length_eq_zero_iff.mp (of_decide_eq_true e)
          refine k .non _ ?_ s1
          rw [wait_nil hlen e0]
          rfl
        · have e0 : 0 < (wait ns ws).length := by
            have : ¬ (wait ns ws).length = 0 := fun q => e (decide_eq_true q)
            omega
          have hg : (wait ns ws)[0]? = some (wait ns ws)[0] := List.getElem?_eq_getElem e0
          refine ⟨_, rfl, D, _, _, _, rfl, rfl, SqL.of q1, at_of (j := 0) rfl (by unfold natV; rw [List.getElem?_map, hg]; rfl), (by show 2 ≤ sizeLine; decide), fun p hp => ?_⟩
          refine k (.ref p) _ ?_ (s1.trans (same_new hp))
          rw [wait_mid hlen hb' hg]
          exact ⟨p, .ref bt, rfl, SqT.of upd_same, bt, rfl, sb _⟩
def spLeft (K : PySem.W.Frag) : Sp := fun vs H Q _ => ∃ (l w : Addr) (ns ws : List Bytes), vs = [.ref l, .ref w] ∧ NamesAt K H l ns ∧ NamesAt K H w ws ∧ Good ns ws ∧ ns.length ≤ 16 ∧
  ∀ H' : Hp, Same H H' → Q (.int (left ns ws : Nat)) H'
theorem scLeft : FnScope ["names", "wanted", "trial", "count", "renaming"] ["names", "wanted"] (defScope sLeft) := ⟨rfl, rfl, rfl, by decide +kernel, rfl, by decide +kernel, by decide +kernel⟩
theorem ixN_nat {n j : Nat} (h : j < n) : ixN n (j : Nat) = some j := by
  unfold ixN
  rw [if_pos (by omega), if_pos (by omega)]
  rfl
theorem ok_left {f : Addr} {fd : FuncData} (F : Fun K "renamings_left" "renamings_left" sLeft f fd) (T : TxB mg) (cN : Ca P w K mg base "next_renaming" ["names", "wanted"] 1 (spNext K)) : FnOk P w K mg base CX0 2 f fd ["names", "wanted"] (spLeft K) := by
  refine F.ok scLeft (fun vs H Q E h => ?_) (fun cdv A outer s H vs Q E hr h => ?_)
  · obtain ⟨l, w, ns, ws, rfl, _⟩ := h
    rfl
  · obtain ⟨l, w, ns, ws, rfl, hN, hW, G, h16, k⟩ := h
    refine ⟨_, pss_cons (ps_set (i := 2) scLeft.nd rfl (Or.inl rfl) (pe_callTy call_list_of rfl T.list PyProof.Rows.boot_list (pa_cons (pv 0) pa_nil))) (pss_cons (ps_set (i := 3) scLeft.nd rfl (Or.inl rfl) pe_int)
      (pss_cons (ps_set (i := 4) scLeft.nd rfl (Or.inl rfl) (pe_ca cN hr (pa_cons (pv 2) (pa_cons (pv 1) pa_nil))))
      (pss_cons (ps_while PassesOwn.never (pt_cmpR op_notN (pv 4) pe_non (nomark _))
        (pss_cons (ps_asg (pe_ix ix_tup (pv 4) pe_int (fun _ _ => rfl)) (pg_sub (pv 2) (pe_ix ix_tup (pv 4) pe_int (fun _ _ => rfl)) set_list))
        (pss_cons (ps_aug (i := 3) scLeft.nd rfl (Or.inl rfl) pe_int ip_add)
        (pss_one (ps_set (i := 4) scLeft.nd rfl (Or.inl rfl) (pe_ca cN hr (pa_cons (pv 2) (pa_cons (pv 1) pa_nil))))))))
      (pss_one (ps_ret (pv 3)))))), ?_⟩
    obtain ⟨vs, hv1, hv2⟩ := id hN
    refine ⟨_, rfl, l, vs, rfl, .inl hv1, fun T0 hT => ?_⟩
    have s0 : Same H (upd H T0 (.lst vs)) := same_new hT
    refine ⟨_, rfl, _, rfl, T0, w, ns, ws, rfl, ⟨vs, SqL.of upd_same, hv2.same s0⟩, hW.same s0, G.len, h16, fun v0 H1 hv0 s1 => ?_⟩
    refine ⟨fun m σ H' => ∃ (ns' : List Bytes) (vs' : List V) (c : Nat) (v : V), σ = [some (.ref l), some (.ref w), some (.ref T0), some (.int (c : Nat)), some v] ∧ Same H H' ∧ H' T0 = some (.lst vs') ∧ Tups K H' vs' ns' ∧ Good ns' ws ∧ c + left ns' ws = left ns ws ∧
      NextV K H' v (Ks334.next (ns'.zip ws)) ∧ ns'.length ≤ 16 ∧ m = mu ns' ws, ⟨_, ns, vs, 0, v0, rfl, s0.trans s1, s1 _ _ upd_same, (hv2.same s0).same s1, G, by omega, hv0, h16, rfl⟩, ?_⟩
    rintro m σ H2 ⟨ns', vs', c, v, rfl, s2, hT2, ht2, G2, hc, hnx, h162, rfl⟩
    cases e : Ks334.next (ns'.zip ws) with
    | none =>
      rw [e] at hnx
      have hv : v = .non := hnx
      subst hv
      refine ⟨_, rfl, rfl, _, rfl, iteF ⟨_, rfl, ?_⟩⟩
      rw [left_none G2 e] at hc
      rw [show c = left ns ws by omega]
      exact k H2 s2
    | some z =>
      obtain ⟨g, x⟩ := z
      rw [e] at hnx
      obtain ⟨p, u, rfl, hp, hu⟩ := hnx
      have N := next_nx G2 e
      obtain ⟨n', t', z1, z2, _, _⟩ := N.at_
      have hgl : g < vs'.length := by rw [ht2.len]; exact (List.getElem?_eq_some_iff.mp z1).1
      refine ⟨_, rfl, rfl, _, rfl, iteT ⟨_, fun σ' H' n => n, ?_⟩⟩
      refine ⟨_, rfl, p, _, _, _, rfl, rfl, hp, at_of (j := 1) rfl rfl, _, rfl, _, rfl, p, _, _, _, rfl, rfl, hp, at_of (j := 0) rfl rfl, T0, vs', _, g, rfl, rfl, hT2, ixN_nat hgl, ?_⟩
      have s3 : Kp [T0] H2 (upd H2 T0 (.lst (vs'.set g u))) := kp_upd (List.mem_singleton.mpr rfl)
      have mob : ∀ b ∈ [T0], Mob H2 b := fun b hb => by rw [List.mem_singleton.mp hb]; exact .inl ⟨_, hT2⟩
      have s4 : Same H (upd H2 T0 (.lst (vs'.set g u))) := fun b o q => by
        rw [upd_ne (ne_of_none q hT)]
        exact s2 b o q
      have ht4 := (ht2.set g hu).kp s3 mob
      have hl4 : (ns'.set g x).length = ns'.length := List.length_set
      refine ⟨_, rfl, _, _, rfl, rfl, ?_⟩
      refine ⟨_, rfl, _, rfl, T0, w, ns'.set g x, ws, rfl, ⟨_, SqL.of upd_same, ht4⟩, hW.same s4, N.good.len, by rw [hl4]; exact h162, fun v5 H5 hv5 s5 => ?_⟩
      refine ⟨_, N.mu, ns'.set g x, vs'.set g u, c + 1, v5, rfl, s4.trans s5, s5 _ _ upd_same, ht4.same s5, N.good, ?_, hv5, by rw [hl4]; exact h162, rfl⟩
      rw [left_some G2 e] at hc
      omega
end
end Rf
end
section
set_option Elab.async false
set_option linter.all false
set_option maxRecDepth 100000
set_option maxHeartbeats 4000000
namespace Rf
open PySem PySem.Spec PyProof.Rows L2
open Ks334 (Bytes isSign okName BETWEEN)
theorem flat_tup : ∀ n : Bytes, (tupV n).all flatV = true
  | [] => rfl
  | b :: n => by
    show (true && (tupV n).all flatV) = true
    rw [flat_tup n]
    rfl
theorem inV_tup (f : Nat) : ∀ n : Bytes, inV (.int (f : Nat)) (tupV n) = decide (f ∈ n)
  | [] => by simp [inV, tupV, nsI]
  | b :: n => by
    show (eqV (.int (b : Nat)) (.int (f : Nat)) || inV (.int (f : Nat)) (tupV n)) = _
    rw [inV_tup f n]
    show ((((b : Nat) : Int) == ((f : Nat) : Int)) || decide (f ∈ n)) = _
    rw [Bool.beq_eq_decide_eq, ← Bool.decide_or]
    refine decide_eq_decide.mpr ?_
    rw [List.mem_cons]
    constructor
    · rintro (h | h)
      · exact .inl (by omega)
      · exact .inr h
    · rintro (h | h)
      · exact .inl (by omega)
      · exact .inr h
section
variable {P : Program} {w : World} {K : PySem.W.Frag} {mg : Str → Option Value} {base : Heap}
def spTold (K : PySem.W.Frag) : Sp := fun vs H Q _ => ∃ (a : Addr) (fs : List Nat) (n : Nat), vs = [.ref a, .int (n : Nat)] ∧ SqT K H a (tupV fs) ∧ fs.length < sizeLine ∧ ∀ H' : Hp, Same H H' → Q (.bl (!badTold fs n)) H'
theorem scTold : FnScope ["files", "count", "place"] ["files", "count"] (defScope sTold) := ⟨rfl, rfl, rfl, by decide +kernel, rfl, by decide +kernel, by decide +kernel⟩
theorem cut_front {xs : List V} {i : Nat} (h : i ≤ xs.length) : cutV xs none (some ((i : Nat) : Int)) = xs.take i := by
  unfold cutV
  rw [HT.sIx_nat, HT.sIx_none, Nat.min_eq_left h, List.drop_zero, Nat.sub_zero]
theorem ok_told {f : Addr} {fd : FuncData} (F : Fun K "can_be_told" "can_be_told" sTold f fd) (T : TxB mg) : FnOk P w K mg base CX0 1 f fd ["files", "count"] (spTold K) := by
  refine F.ok scTold (fun vs H Q E h => ?_) (fun cdv A outer s H vs Q E hr h => ?_)
  · obtain ⟨a, fs, n, rfl, _⟩ := h
    rfl
  · obtain ⟨a, fs, n, rfl, hs, hz, k⟩ := h
    rw [line24] at hz
    refine ⟨_, pss_cons (ps_for PassesOwn.never rfl (pi_range1 rfl T.range (pa_cons (pe_callB call_len_seq rfl T.len PySem.boot_len (pa_cons (pv 0) pa_nil)) pa_nil)) (pg_name (i := 2) scTold.nd rfl (Or.inl rfl))
        (pss_one (ps_if (PW.pt (pw_or (pt_cmpR op_ge (pe_ix ix_tup (pv 0) (pv 2) (fun _ _ => rfl)) (pv 1) (nomark _))
            (pw_or1 (pt_cmpR op_in_seq (pe_ix ix_tup (pv 0) (pv 2) (fun _ _ => rfl)) (pe_slice sl_tup (pv 0) po_none (po_some (pv 2))) (by with_unfolding_all rfl))))) (pss_one (ps_ret pe_bl)) pss_nil)))
      (pss_one (ps_ret pe_bl)), ?_⟩
    refine ⟨_, rfl, a, _, rfl, .inr hs, _, rfl, ?_, ?_, ?_⟩
    · rw [tupV_len]; omega
    · rw [tupV_len]; omega
    rw [tupV_len, Int.toNat_natCast]
    refine for_range (fun i σ H' => (∃ v, σ = [some (.ref a), some (.int (n : Nat)), v]) ∧ Same H H' ∧ ∀ (p f : Nat), p < i → fs[p]? = some f → f < n ∧ f ∉ fs.take p) ⟨⟨none, rfl⟩, Same.refl H, fun p f h => absurd h (Nat.not_lt_zero _)⟩ ?_ ?_
    · rintro i σ H1 hi ⟨⟨v, rfl⟩, s1, hb⟩
      rw [show (0 : Int) + ((i : Nat) : Int) = ((i : Nat) : Int) by omega]
      have hf : fs[i]? = some fs[i] := List.getElem?_eq_getElem hi
      refine ⟨_, rfl, _, rfl, a, _, _, _, rfl, rfl, s1.seqT hs, at_of rfl (tupV_get hf), _, rfl, _, _, rfl, rfl, _, rfl, ?_⟩
      by_cases h1 : n ≤ fs[i]
      · rw [decide_eq_true (show ((n : Nat) : Int) ≤ ((fs[i] : Nat) : Int) by omega)]
        refine iteT (iteT ?_)
        rw [told_no hf (.inl h1)] at k
        exact k H1 s1
      · rw [decide_eq_false (show ¬ ((n : Nat) : Int) ≤ ((fs[i] : Nat) : Int) by omega)]
        refine iteF ⟨_, rfl, _, rfl, a, _, _, _, rfl, rfl, s1.seqT hs, at_of rfl (tupV_get hf), _, rfl, _, rfl, _, rfl, a, _, rfl, s1.seqT hs, ?_, fun D hD => ?_⟩
        · rintro ⟨_, q⟩
          rw [HT.sIx_nat, tupV_len] at q
          omega
        · rw [cut_front (by rw [tupV_len]; omega), ← tupV_take]
          refine ⟨D, _, rfl, .inr (SqT.of upd_same), rfl, flat_tup _, _, rfl, ?_⟩
          show if inV _ _ = true then _ else _
          rw [inV_tup]
          refine ite2 (fun e => ?_) (fun e => ?_)
          · rw [told_no hf (.inr (of_decide_eq_true e))] at k
            exact k _ (s1.trans (same_new hD))
          · refine ⟨⟨_, rfl⟩, s1.trans (same_new hD), fun p g hp hg => ?_⟩
            by_cases z : p = i
            · subst z
              rw [hf] at hg
              cases hg
              exact ⟨by omega, fun q => e (decide_eq_true q)⟩
            · exact hb p g (by omega) hg
    · rintro σ H1 ⟨⟨v, rfl⟩, s1, hb⟩
      rw [(told_yes (n := n) fun p g hg => hb p g (List.getElem?_eq_some_iff.mp hg).1 hg).1] at k
      exact k H1 s1
/-! ### the names that the files are to get, or none -/
structure Opts (K : PySem.W.Frag) (H : Hp) (vs : List V) (os : List (Option Bytes)) : Prop where
  len : vs.length = os.length
  at_ : ∀ (i : Nat) v o, vs[i]? = some v → os[i]? = some o → NewV K H v o
theorem NewV.same {H H' : Hp} {v : V} {o : Option Bytes} (h : NewV K H v o) (s : Same H H') : NewV K H' v o := by
  cases o with
  | none => exact h
  | some t =>
    obtain ⟨p, e, q⟩ := h
    exact ⟨p, e, s.seqT q⟩
theorem NewV.kp {F : List Addr} {H H' : Hp} {v : V} {o : Option Bytes} (h : NewV K H v o) (s : Kp F H H') (hm : ∀ b ∈ F, Mob H b) : NewV K H' v o := by
  cases o with
  | none => exact h
  | some t =>
    obtain ⟨p, e, q⟩ := h
    exact ⟨p, e, s.seqT hm q⟩
theorem Opts.same {H H' : Hp} {vs : List V} {os : List (Option Bytes)} (h : Opts K H vs os) (s : Same H H') : Opts K H' vs os := ⟨h.len, fun i v o e1 e2 => (h.at_ i v o e1 e2).same s⟩
theorem Opts.kp {F : List Addr} {H H' : Hp} {vs : List V} {os : List (Option Bytes)} (h : Opts K H vs os) (s : Kp F H H') (hm : ∀ b ∈ F, Mob H b) : Opts K H' vs os := ⟨h.len, fun i v o e1 e2 => (h.at_ i v o e1 e2).kp s hm⟩
theorem Opts.set {H : Hp} {vs : List V} {os : List (Option Bytes)} {v : V} {o : Option Bytes} (h : Opts K H vs os) (i : Nat) (q : NewV K H v o) : Opts K H (vs.set i v) (os.set i o) := by
  refine ⟨by rw [List.length_set, List.length_set, h.len], fun j u m e1 e2 => ?_⟩
  by_cases hj : i = j
  · subst hj
    have hl : i < vs.length := by
      have := (List.getElem?_eq_some_iff.mp e1).1
      rw [List.length_set] at this
      exact this
    rw [List.getElem?_set_self hl] at e1
    rw [List.getElem?_set_self (by rw [← h.len]; exact hl)] at e2
    cases e1
    cases e2
    exact q
  · rw [List.getElem?_set_ne hj] at e1 e2
    exact h.at_ j u m e1 e2
theorem Tups.opts {H : Hp} {vs : List V} {ns : List Bytes} (h : Tups K H vs ns) : Opts K H vs (ns.map some) := by
  refine ⟨by rw [List.length_map]; exact h.len, fun i v o e1 e2 => ?_⟩
  rw [List.getElem?_map] at e2
  cases e : ns[i]? with
  | none => rw [e] at e2; cases e2
  | some n =>
    rw [e] at e2
    cases e2
    obtain ⟨a, z1, z2⟩ := h.at_ i v n e1 e
    exact ⟨a, z1, z2⟩
theorem Opts.tups {H : Hp} {vs : List V} {ns : List Bytes} (h : Opts K H vs (ns.map some)) : Tups K H vs ns := by
  refine ⟨by rw [h.len, List.length_map], fun i v n e1 e2 => ?_⟩
  obtain ⟨p, z1, z2⟩ := h.at_ i v (some n) e1 (by rw [List.getElem?_map, e2]; rfl)
  exact ⟨p, z1, z2⟩
def spBy (K : PySem.W.Frag) : Sp := fun vs H Q _ => ∃ (l ra fa : Addr) (ns : List Bytes) (r : Bytes) (x : Nat) (fs : List Nat), vs = [.ref l, .ref ra, .int (x : Nat), .ref fa] ∧ NamesAt K H l ns ∧ SqT K H ra (tupV r) ∧ SqT K H fa (tupV fs) ∧
  (∀ f ∈ fs, f < ns.length) ∧ (∀ n ∈ ns, n.length ≤ 16) ∧ r.length ≤ 24 ∧ x < 10 ^ 19 ∧ fs.length < sizeLine ∧
  ∀ (W : Addr) (H' : Hp) (us : List V), H W = none → H' W = some (.lst us) → Opts K H' us (wk ns r x fs (ns.map some)) → Same H H' → Q (.ref W) H'
theorem scBy : FnScope ["names", "rule", "start", "files", "wanted", "place", "file"] ["names", "rule", "start", "files"] (defScope sBy) := ⟨rfl, rfl, rfl, by decide +kernel, rfl, by decide +kernel, by decide +kernel⟩
theorem ok_by {f : Addr} {fd : FuncData} (F : Fun K "names_by_rule" "names_by_rule" sBy f fd) (T : TxB mg) (cN : Ca P w K mg base "new_name" ["rule", "name", "number"] 4 (spNew K)) : FnOk P w K mg base CX0 5 f fd ["names", "rule", "start", "files"] (spBy K) := by
  refine F.ok scBy (fun vs H Q E h => ?_) (fun cdv A outer s H vs Q E hr h => ?_)
  · obtain ⟨l, ra, fa, ns, r, x, fs, rfl, _⟩ := h
    rfl
  · obtain ⟨l, ra, fa, ns, r, x, fs, rfl, hN, hR, hF, hlt, h16, h24, hx, hz, k⟩ := h
    rw [line24] at hz
    refine ⟨_, pss_cons (ps_set (i := 4) scBy.nd rfl (Or.inl rfl) (pe_callTy call_list_of rfl T.list PyProof.Rows.boot_list (pa_cons (pv 0) pa_nil)))
      (pss_cons (ps_for PassesOwn.never rfl (pi_range1 rfl T.range (pa_cons (pe_callB call_len_seq rfl T.len PySem.boot_len (pa_cons (pv 3) pa_nil)) pa_nil)) (pg_name (i := 5) scBy.nd rfl (Or.inl rfl))
        (pss_cons (ps_set (i := 6) scBy.nd rfl (Or.inl rfl) (pe_ix ix_tup (pv 3) (pv 5) (fun _ _ => rfl)))
        (pss_one (ps_asg (pe_ca cN hr (pa_cons (pv 1) (pa_cons (pe_ix ix_list (pv 0) (pv 6) (fun _ _ => rfl)) (pa_cons (pe_op op_add (pv 2) (pv 5)) pa_nil)))) (pg_sub (pv 4) (pv 6) set_list)))))
      (pss_one (ps_ret (pv 4)))), ?_⟩
    obtain ⟨vs, hv1, hv2⟩ := id hN
    refine ⟨_, rfl, l, vs, rfl, .inl hv1, fun W hW => ?_⟩
    have s0 : Same H (upd H W (.lst vs)) := same_new hW
    refine ⟨_, rfl, fa, _, rfl, .inr (s0.seqT hF), _, rfl, ?_, ?_, ?_⟩
    · rw [tupV_len]; omega
    · rw [tupV_len]; omega
    rw [tupV_len, Int.toNat_natCast]
    refine for_range (fun i σ H' => (∃ v5 v6, σ = [some (.ref l), some (.ref ra), some (.int (x : Nat)), some (.ref fa), some (.ref W), v5, v6]) ∧ Same H H' ∧ ∃ us, H' W = some (.lst us) ∧ Opts K H' us (wk ns r x (fs.take i) (ns.map some)))
      ⟨⟨none, none, rfl⟩, s0, vs, upd_same, (hv2.same s0).opts⟩ ?_ ?_
    · rintro i σ H1 hi ⟨⟨v5, v6, rfl⟩, s1, us, hus, ho⟩
      rw [show (0 : Int) + ((i : Nat) : Int) = ((i : Nat) : Int) by omega]
      have hf : fs[i]? = some fs[i] := List.getElem?_eq_getElem hi
      have hfl : fs[i] < ns.length := hlt _ (List.getElem_mem hi)
      have hn : ns[fs[i]]? = some ns[fs[i]] := List.getElem?_eq_getElem hfl
      obtain ⟨vs1, v, a1, a2, na, rfl, hna⟩ := (hN.same s1).pick hn
      refine ⟨_, rfl, _, rfl, fa, _, _, _, rfl, rfl, s1.seqT hF, at_of rfl (tupV_get hf), _, rfl, _, rfl, _, rfl, l, vs1, _, _, rfl, rfl, a1, a2, _, rfl, _, rfl, _, _, rfl, rfl, ra, na, r, ns[fs[i]], x + i, rfl, s1.seqT hR, hna, h24, h16 _ (List.getElem_mem hfl), by omega, fun u H2 hu s2 => ?_⟩
      have hus2 := s2 _ _ hus
      have hlu : us.length = ns.length := by rw [ho.len, wk_len, List.length_map]
      refine ⟨_, rfl, _, rfl, W, us, _, fs[i], rfl, rfl, hus2, ixN_nat (by rw [hlu]; exact hfl), ⟨_, _, rfl⟩, fun b o q => ?_, us.set fs[i] u, upd_same, ?_⟩
      · rw [upd_ne (ne_of_none q hW)]
        exact s2 b o (s1 b o q)
      · have s3 : Kp [W] H2 (upd H2 W (.lst (us.set fs[i] u))) := kp_upd (List.mem_singleton.mpr rfl)
        have mob : ∀ b ∈ [W], Mob H2 b := fun b hb => by rw [List.mem_singleton.mp hb]; exact .inl ⟨_, hus2⟩
        rw [take_snoc hf, wk_snoc]
        refine ((ho.same s2).set fs[i] ?_).kp s3 mob
        rw [List.getD_eq_getElem?_getD, hn, List.length_take, Nat.min_eq_left (by omega)]
        exact hu
    · rintro σ H1 ⟨⟨v5, v6, rfl⟩, s1, us, hus, ho⟩
      rw [List.take_length] at ho
      exact ⟨_, rfl, k W H1 us hW hus ho s1⟩
def spRef (K : PySem.W.Frag) : Sp := fun vs H Q _ => ∃ (W : Addr) (us : List V) (os : List (Option Bytes)), vs = [.ref W] ∧ H W = some (.lst us) ∧ Opts K H us os ∧ us.length ≤ 16 ∧
  (∀ (i : Nat) (H' : Hp), os[i]? = some none → (∀ (j : Nat) y, j < i → os[j]? = some y → y ≠ none) → Same H H' → Q (.int (-1000 - (i : Nat))) H') ∧
  (∀ (ws : List Bytes) (i : Nat) (x : Bytes) (H' : Hp), os = ws.map some → ws[i]? = some x → x ∈ ws.take i → (∀ (j : Nat) y, j < i → ws[j]? = some y → y ∉ ws.take j) → Same H H' → Q (.int (-2000 - (i : Nat))) H') ∧
  (∀ (ws : List Bytes) (H' : Hp), os = ws.map some → (∀ (j : Nat) y, ws[j]? = some y → y ∉ ws.take j) → Same H H' → Q (.int 0) H')
theorem scRef : FnScope ["wanted", "file"] ["wanted"] (defScope sRef) := ⟨rfl, rfl, rfl, by decide +kernel, rfl, by decide +kernel, by decide +kernel⟩
structure TxF (mg : Str → Option Value) : Prop where
  nnn : IntC mg "NO_NEW_NAME" (-1000)
  snn : IntC mg "SAME_NEW_NAME" (-2000)
theorem all_some : ∀ {os : List (Option Bytes)}, (∀ (j : Nat) y, os[j]? = some y → y ≠ none) → ∃ ws : List Bytes, os = ws.map some
  | [], _ => ⟨[], rfl⟩
  | none :: os, h => absurd rfl (h 0 none rfl)
  | some t :: os, h => by
    obtain ⟨ws, e⟩ := all_some (os := os) fun j y hy => h (j + 1) y (by simpa using hy)
    exact ⟨t :: ws, by rw [e]; rfl⟩
theorem ok_ref {f : Addr} {fd : FuncData} (F : Fun K "refusal_of_names" "refusal_of_names" sRef f fd) (T : TxB mg) (TF : TxF mg) : FnOk P w K mg base CX0 1 f fd ["wanted"] (spRef K) := by
  refine F.ok scRef (fun vs H Q E h => ?_) (fun cdv A outer s H vs Q E hr h => ?_)
  · obtain ⟨W, us, os, rfl, _⟩ := h
    rfl
  · obtain ⟨W, us, os, rfl, hW, ho, h16, k1, k2, k3⟩ := h
    have hu := hr.units
    refine ⟨_, pss_cons (ps_for PassesOwn.never rfl (pi_range1 rfl T.range (pa_cons (pe_callB call_len_seq rfl T.len PySem.boot_len (pa_cons (pv 0) pa_nil)) pa_nil)) (pg_name (i := 1) scRef.nd rfl (Or.inl rfl))
        (pss_one (ps_if (pt_cmpR op_isN (pe_ix ix_list (pv 0) (pv 1) (fun _ _ => rfl)) pe_non (nomark _)) (pss_one (ps_ret (pe_op op_sub (pe_gint TF.nnn) (pv 1)))) pss_nil)))
      (pss_cons (ps_for PassesOwn.never rfl (pi_range1 rfl T.range (pa_cons (pe_callB call_len_seq rfl T.len PySem.boot_len (pa_cons (pv 0) pa_nil)) pa_nil)) (pg_name (i := 1) scRef.nd rfl (Or.inl rfl))
        (pss_one (ps_if (pt_cmpR (op_inD hu) (pe_ix ix_list (pv 0) (pv 1) (fun _ _ => rfl)) (pe_slice sl_list (pv 0) po_none (po_some (pv 1))) (by with_unfolding_all rfl)) (pss_one (ps_ret (pe_op op_sub (pe_gint TF.snn) (pv 1)))) pss_nil)))
      (pss_one (ps_ret pe_int))), ?_⟩
    refine ⟨_, rfl, W, us, rfl, .inl (SqL.of hW), _, rfl, by omega, by omega, ?_⟩
    rw [Int.toNat_natCast]
    refine for_range (fun i σ H' => (∃ v, σ = [some (.ref W), v]) ∧ H' = H ∧ ∀ (j : Nat) y, j < i → os[j]? = some y → y ≠ none) ⟨⟨none, rfl⟩, rfl, fun j y h => absurd h (Nat.not_lt_zero _)⟩ ?_ ?_
    · rintro i σ H1 hi ⟨⟨v, rfl⟩, rfl, hb⟩
      rw [show (0 : Int) + ((i : Nat) : Int) = ((i : Nat) : Int) by omega]
      have hv : us[i]? = some us[i] := List.getElem?_eq_getElem hi
      have hio : i < os.length := by rw [← ho.len]; exact hi
      have hoi : os[i]? = some os[i] := List.getElem?_eq_getElem hio
      have hnv := ho.at_ i _ _ hv hoi
      refine ⟨_, rfl, _, rfl, W, us, _, _, rfl, rfl, SqL.of hW, at_of rfl hv, rfl, _, rfl, ?_⟩
      cases e : os[i] with
      | none =>
        rw [e] at hnv hoi
        have hnv : us[i] = .non := hnv
        rw [hnv]
        refine iteT ⟨_, rfl, _, _, rfl, rfl, ?_⟩
        exact k1 i H1 hoi hb (Same.refl _)
      | some t =>
        rw [e] at hnv hoi
        obtain ⟨p, ep, _⟩ := hnv
        rw [ep]
        refine iteF ⟨⟨_, rfl⟩, rfl, fun j y hj hy => ?_⟩
        by_cases z : j = i
        · subst z
          rw [hoi] at hy
          cases hy
          exact fun q => nomatch q
        · exact hb j y (by omega) hy
    · rintro σ H1 ⟨⟨v, rfl⟩, rfl, hb⟩
      obtain ⟨ws, rfl⟩ := all_some fun j y hy => hb j y (by rw [ho.len]; exact (List.getElem?_eq_some_iff.mp hy).1) hy
      have ht := ho.tups
      refine ⟨_, rfl, W, us, rfl, .inl (SqL.of hW), _, rfl, by omega, by omega, ?_⟩
      rw [Int.toNat_natCast]
      refine for_range (fun i σ H' => (∃ v, σ = [some (.ref W), v]) ∧ Same H1 H' ∧ ∀ (j : Nat) y, j < i → ws[j]? = some y → y ∉ ws.take j) ⟨⟨_, rfl⟩, Same.refl _, fun j y h => absurd h (Nat.not_lt_zero _)⟩ ?_ ?_
      · rintro i σ H2 hi ⟨⟨v, rfl⟩, s2, hb2⟩
        rw [show (0 : Int) + ((i : Nat) : Int) = ((i : Nat) : Int) by omega]
        have hiw : i < ws.length := by rw [← ht.len]; exact hi
        have hwi : ws[i]? = some ws[i] := List.getElem?_eq_getElem hiw
        obtain ⟨v, hv, htv⟩ := ht.get hwi
        refine ⟨_, rfl, _, rfl, W, us, _, _, rfl, rfl, SqL.of (s2 _ _ hW), at_of rfl hv, _, rfl, _, rfl, _, rfl, W, us, rfl, SqL.of (s2 _ _ hW), fun D hD => ?_⟩
        rw [cut_front (by omega)]
        have s3 : Same H1 (upd H2 D (.lst (us.take i))) := s2.trans (same_new hD)
        have htk : Tups K (upd H2 D (.lst (us.take i))) (us.take i) (ws.take i) := ⟨by rw [List.length_take, List.length_take, ht.len], fun j u m e1 e2 => by
          rw [List.getElem?_take] at e1 e2
          split at e1
          · rename_i hj
            rw [if_pos hj] at e2
            exact (ht.at_ j u m e1 e2).same s3
          · cases e1⟩
        refine ⟨_, _, .lst (SqL.of upd_same) (dp_names htk), (htv.same s3).dp, lay_names _, lay_name _, by rw [depth_name]; decide, _, rfl, ?_⟩
        rw [any_name]
        show if decide _ = true then _ else _
        refine ite2 (fun e => ?_) (fun e => ?_)
        · refine ⟨_, rfl, _, _, rfl, rfl, ?_⟩
          exact k2 ws i _ _ rfl hwi (of_decide_eq_true e) hb2 s3
        · refine ⟨⟨_, rfl⟩, s3, fun j y hj hy => ?_⟩
          by_cases z : j = i
          · subst z
            rw [hwi] at hy
            cases hy
            exact fun q => e (decide_eq_true q)
          · exact hb2 j y (by omega) hy
      · rintro σ H2 ⟨⟨v, rfl⟩, s2, hb2⟩
        exact k3 ws H2 rfl (fun j y hy => hb2 j y (by rw [ht.len]; exact (List.getElem?_eq_some_iff.mp hy).1) hy) s2
end
end Rf
end
section
set_option Elab.async false
set_option linter.all false
set_option maxRecDepth 100000
set_option maxHeartbeats 4000000
namespace Rf
open PySem PySem.Spec PyProof.Rows L2
open Ks334 (Bytes isSign okName BETWEEN)
open Ks336 (Abs Done names act)
theorem nw : ¬ (("names" : Str) = "wanted") := by decide +kernel
theorem nd : ¬ (("names" : Str) = "done") := by decide +kernel
theorem wd : ¬ (("wanted" : Str) = "done") := by decide +kernel
theorem wn : ¬ (("wanted" : Str) = "names") := by decide +kernel
def ff (l : Addr) (wv : V) (d : Addr) : List (Str × V) := putF "done" (.ref d) (putF "wanted" wv (putF "names" (.ref l) []))
theorem ff_eq (l : Addr) (wv : V) (d : Addr) : ff l wv d = ([("names", .ref l), ("wanted", wv), ("done", .ref d)] : List (Str × V)) := by
  have e : putF "wanted" wv (putF "names" (.ref l) []) = ([("names", .ref l), ("wanted", wv)] : List (Str × V)) := by
    show (if ("names" : Str) = "wanted" then [(("names" : Str), wv)] else (("names" : Str), V.ref l) :: putF "wanted" wv []) = _
    rw [if_neg nw]
    rfl
  unfold ff
  rw [e]
  show (if ("names" : Str) = "done" then _ else (("names" : Str), V.ref l) :: (if ("wanted" : Str) = "done" then _ else (("wanted" : Str), wv) :: putF "done" (.ref d) [])) = _
  rw [if_neg nd, if_neg wd]
  rfl
theorem ff_names (l : Addr) (wv : V) (d : Addr) : (ff l wv d).lookup ("names" : Str) = some (.ref l) := by
  unfold ff
  rw [lookup_putF, if_neg nd, lookup_putF, if_neg nw, lookup_putF, if_pos rfl]
theorem ff_wanted (l : Addr) (wv : V) (d : Addr) : (ff l wv d).lookup ("wanted" : Str) = some wv := by
  unfold ff
  rw [lookup_putF, if_neg wd, lookup_putF, if_pos rfl]
theorem ff_done (l : Addr) (wv : V) (d : Addr) : (ff l wv d).lookup ("done" : Str) = some (.ref d) := by
  unfold ff
  rw [lookup_putF, if_pos rfl]
theorem ff_no (l : Addr) (wv : V) (d : Addr) {m : Str} (h1 : ¬ m = "done") (h2 : ¬ m = "wanted") (h3 : ¬ m = "names") : (ff l wv d).lookup m = none := by
  unfold ff
  rw [lookup_putF, if_neg h1, lookup_putF, if_neg h2, lookup_putF, if_neg h3]
  rfl
theorem ff_putN (l l' : Addr) (wv : V) (d : Addr) : putF "names" (.ref l') (ff l wv d) = ff l' wv d := by
  rw [ff_eq, ff_eq]
  show (if ("names" : Str) = "names" then _ else _) = _
  rw [if_pos rfl]
theorem ff_putW (l : Addr) (wv wv' : V) (d : Addr) : putF "wanted" wv' (ff l wv d) = ff l wv' d := by
  rw [ff_eq, ff_eq]
  show (if ("names" : Str) = "wanted" then _ else (("names" : Str), V.ref l) :: (if ("wanted" : Str) = "wanted" then _ else _)) = _
  rw [if_neg nw, if_pos rfl]
theorem ff_putD (l : Addr) (wv : V) (d d' : Addr) : putF "done" (.ref d') (ff l wv d) = ff l wv d' := by
  rw [ff_eq, ff_eq]
  show (if ("names" : Str) = "done" then _ else (("names" : Str), V.ref l) :: (if ("wanted" : Str) = "done" then _ else (("wanted" : Str), wv) :: (if ("done" : Str) = "done" then _ else _))) = _
  rw [if_neg nd, if_neg wd, if_pos rfl]
theorem ff_len (l : Addr) (wv : V) (d : Addr) : (ff l wv d).length < 1000 := by rw [ff_eq]; show 3 < 1000; decide
structure TxFo (K : PySem.W.Frag) (C : Addr) : Prop where
  cl : Cls K C
  nN : NoAttr K C "names"
  nW : NoAttr K C "wanted"
  nD : NoAttr K C "done"
/-- the renamings done, each as the file and the name that it had before -/
structure Dones (K : PySem.W.Frag) (H : Hp) (ds : List V) (dd : List Done) : Prop where
  len : ds.length = dd.length
  at_ : ∀ (i : Nat) v e, ds[i]? = some v → dd[i]? = some e → ∃ q u, v = .ref q ∧ SqT K H q [.int (e.file : Nat), u] ∧ TupAt K H u e.old
section
variable {K : PySem.W.Frag} {C : Addr} {H H' : Hp}
theorem Dones.same {ds : List V} {dd : List Done} (h : Dones K H ds dd) (s : Same H H') : Dones K H' ds dd := ⟨h.len, fun i v e e1 e2 => by
  obtain ⟨q, u, z1, z2, z3⟩ := h.at_ i v e e1 e2
  exact ⟨q, u, z1, s.seqT z2, z3.same s⟩⟩
theorem Dones.kp {F : List Addr} {ds : List V} {dd : List Done} (h : Dones K H ds dd) (s : Kp F H H') (hm : ∀ b ∈ F, Mob H b) : Dones K H' ds dd := ⟨h.len, fun i v e e1 e2 => by
  obtain ⟨q, u, z1, z2, z3⟩ := h.at_ i v e e1 e2
  exact ⟨q, u, z1, s.seqT hm z2, z3.kp s hm⟩⟩
theorem Dones.snoc {ds : List V} {dd : List Done} {v : V} {e : Done} (h : Dones K H ds dd) (q : ∃ p u, v = .ref p ∧ SqT K H p [.int (e.file : Nat), u] ∧ TupAt K H u e.old) : Dones K H (ds ++ [v]) (dd ++ [e]) := by
  refine ⟨by rw [List.length_append, List.length_append, h.len]; rfl, fun i u m e1 e2 => ?_⟩
  by_cases hi : i < ds.length
  · rw [List.getElem?_append_left hi] at e1
    rw [List.getElem?_append_left (by rw [← h.len]; exact hi)] at e2
    exact h.at_ i u m e1 e2
  · rw [List.getElem?_append_right (by omega)] at e1
    rw [List.getElem?_append_right (by rw [← h.len]; omega), ← h.len] at e2
    cases z : i - ds.length with
    | zero =>
      rw [z] at e1 e2
      cases e1
      cases e2
      exact q
    | succ j => rw [z] at e1; cases e1
/-- the files' names, the renamings done -/
structure FR (K : PySem.W.Frag) (C : Addr) (H : Hp) (p l d : Addr) (wv : V) (ns : List Bytes) (dd : List Done) : Prop where
  ob : ∃ dx, H p = some (.ins C dx (ff l wv d))
  nm : ∃ vs, H l = some (.lst vs) ∧ Tups K H vs ns
  dn : ∃ ds, H d = some (.lst ds) ∧ Dones K H ds dd
  ld : l ≠ d
def WantAt (K : PySem.W.Frag) (H : Hp) (w l d : Addr) (ws : List Bytes) : Prop := ∃ us, H w = some (.lst us) ∧ Tups K H us ws ∧ w ≠ l ∧ w ≠ d
/-- THE INVARIANT: a Folder stands at p, as a tells; F: what it may change -/
def FolderAt (K : PySem.W.Frag) (C : Addr) (H : Hp) (p : Addr) (F : List Addr) (a : Abs) : Prop :=
  OkA a ∧ ∃ l d wv, FR K C H p l d wv (names a) a.done.reverse ∧ ((a.busy = false ∧ wv = .non ∧ F = [p, l, d]) ∨ (a.busy = true ∧ ∃ w, wv = .ref w ∧ WantAt K H w l d (wants a) ∧ F = [p, l, d, w]))
theorem FR.same {p l d : Addr} {wv : V} {ns : List Bytes} {dd : List Done} (h : FR K C H p l d wv ns dd) (s : Same H H') : FR K C H' p l d wv ns dd := by
  obtain ⟨⟨dx, h1⟩, ⟨vs, h2, h3⟩, ⟨ds, h4, h5⟩, h6⟩ := h
  exact ⟨⟨dx, s _ _ h1⟩, ⟨vs, s _ _ h2, h3.same s⟩, ⟨ds, s _ _ h4, h5.same s⟩, h6⟩
theorem WantAt.same {w l d : Addr} {ws : List Bytes} (h : WantAt K H w l d ws) (s : Same H H') : WantAt K H' w l d ws := by
  obtain ⟨us, h1, h2, h3⟩ := h
  exact ⟨us, s _ _ h1, h2.same s, h3⟩
theorem FolderAt.same {p : Addr} {F : List Addr} {a : Abs} (h : FolderAt K C H p F a) (s : Same H H') : FolderAt K C H' p F a := by
  obtain ⟨O, l, d, wv, h1, h2⟩ := h
  refine ⟨O, l, d, wv, h1.same s, ?_⟩
  rcases h2 with q | ⟨q1, w, q2, q3, q4⟩
  · exact .inl q
  · exact .inr ⟨q1, w, q2, q3.same s, q4⟩
/-- nothing that it may change is a tuple -/
theorem FolderAt.mob {p : Addr} {F : List Addr} {a : Abs} (h : FolderAt K C H p F a) : ∀ b ∈ F, Mob H b := by
  obtain ⟨O, l, d, wv, ⟨⟨dx, h1⟩, ⟨vs, h2, h3⟩, ⟨ds, h4, h5⟩, h6⟩, q⟩ := h
  have m1 : Mob H p := .inr ⟨_, _, _, h1⟩
  have m2 : Mob H l := .inl ⟨_, h2⟩
  have m3 : Mob H d := .inl ⟨_, h4⟩
  rcases q with ⟨_, _, rfl⟩ | ⟨_, w, _, ⟨us, h7, _⟩, rfl⟩
  · intro b hb
    simp at hb
    rcases hb with rfl | rfl | rfl
    · exact m1
    · exact m2
    · exact m3
  · intro b hb
    simp at hb
    rcases hb with rfl | rfl | rfl | rfl
    · exact m1
    · exact m2
    · exact m3
    · exact .inl ⟨_, h7⟩
/-- another object's change leaves it as it is -/
theorem FolderAt.other {p : Addr} {F G : List Addr} {a : Abs} (h : FolderAt K C H p F a) (s : Kp G H H') (hd : ∀ b ∈ G, b ∉ F) (hm : ∀ b ∈ G, Mob H b) : FolderAt K C H' p F a := by
  obtain ⟨O, l, d, wv, ⟨⟨dx, h1⟩, ⟨vs, h2, h3⟩, ⟨ds, h4, h5⟩, h6⟩, q⟩ := h
  have hin : ∀ b, b ∈ F → b ∉ G := fun b hb hg => hd b hg hb
  rcases q with ⟨q1, q2, rfl⟩ | ⟨q1, w, q2, ⟨us, h7, h8, h9⟩, rfl⟩
  · exact ⟨O, l, d, wv, ⟨⟨dx, s _ _ h1 (hin _ (by simp))⟩, ⟨vs, s _ _ h2 (hin _ (by simp)), h3.kp s hm⟩, ⟨ds, s _ _ h4 (hin _ (by simp)), h5.kp s hm⟩, h6⟩, .inl ⟨q1, q2, rfl⟩⟩
  · exact ⟨O, l, d, wv, ⟨⟨dx, s _ _ h1 (hin _ (by simp))⟩, ⟨vs, s _ _ h2 (hin _ (by simp)), h3.kp s hm⟩, ⟨ds, s _ _ h4 (hin _ (by simp)), h5.kp s hm⟩, h6⟩, .inr ⟨q1, w, q2, ⟨us, s _ _ h7 (hin _ (by simp)), h8.kp s hm, h9⟩, rfl⟩⟩
/-- what a call leaves behind, and answers -/
def Post (K : PySem.W.Frag) (C : Addr) (H : Hp) (p : Addr) (F : List Addr) (x : Abs × Ks336.Ans) (Q : VK) : Prop :=
  ∀ (F' : List Addr) (H' : Hp), FolderAt K C H' p F' x.1 → (∀ b ∈ F', b ∈ F ∨ H b = none) → Kp F H H' → Q (.int x.2.ret) H'
theorem Post.stay {p : Addr} {F : List Addr} {a : Abs} {v : Int} {Q : VK} {x : Abs × Ks336.Ans} (k : Post K C H p F x Q) (e : x = (a, Ks336.no v)) (h : FolderAt K C H p F a) (s : Same H H') : Q (.int v) H' := by
  subst e
  exact k F H' (h.same s) (fun b hb => .inl hb) s.kp
end
section
variable {P : Program} {w : World} {K : PySem.W.Frag} {mg : Str → Option Value} {base : Heap}
def spEnds (C : Addr) : Sp := fun vs H Q _ => ∃ (p l d dx : Addr) (wv : V), vs = [.ref p] ∧ H p = some (.ins C dx (ff l wv d)) ∧
  ∀ (d' : Addr) (H' : Hp), H d' = none → H' p = some (.ins C dx (ff l .non d')) → H' d' = some (.lst []) → Kp [p] H H' → Q .non H'
theorem scEnds : FnScope ["self"] ["self"] (defScope sEnds) := ⟨rfl, rfl, rfl, by decide +kernel, rfl, by decide +kernel, by decide +kernel⟩
theorem ok_ends {f C : Addr} {fd : FuncData} (F : Fun K "end_wish" "Folder.end_wish" sEnds f fd) (T : TxFo K C) : FnOk P w K mg base CX0 1 f fd ["self"] (spEnds C) := by
  refine F.ok scEnds (fun vs H Q E h => ?_) (fun cdv A outer s H vs Q E hr h => ?_)
  · obtain ⟨p, l, d, dx, wv, rfl, _⟩ := h
    rfl
  · obtain ⟨p, l, d, dx, wv, rfl, hp, k⟩ := h
    refine ⟨_, pss_cons (ps_fld (pv 0) pe_non rfl) (pss_one (ps_fld (pv 0) (pe_lst pa_nil) rfl)), ?_⟩
    refine ⟨_, rfl, p, C, dx, _, rfl, hp, T.cl, T.nW, ff_len _ _ _, Nat.zero_le _, fun D hD => ?_⟩
    rw [ff_putW] at hD ⊢
    have hpD : p ≠ D := ne_of_none upd_same hD
    have hD0 : H D = none := by rw [upd_ne hpD.symm] at hD; exact hD
    refine ⟨_, rfl, p, C, dx, _, rfl, (by rw [upd_ne hpD]; exact upd_same), T.cl, T.nD, ff_len _ _ _, ?_⟩
    rw [ff_putD]
    refine k D _ hD0 upd_same (by rw [upd_ne hpD.symm]; exact upd_same) fun b o e n => ?_
    have hb : b ≠ p := fun q => n (by rw [q]; exact List.mem_singleton.mpr rfl)
    rw [upd_ne hb, upd_ne (ne_of_none e hD0), upd_ne hb]
    exact e
def spFInit (C : Addr) : Sp := fun vs H Q _ => ∃ (p dx : Addr), vs = [.ref p] ∧ H p = some (.ins C dx []) ∧
  ∀ (l d : Addr) (H' : Hp), H l = none → H d = none → l ≠ d → H' p = some (.ins C dx (ff l .non d)) → H' l = some (.lst []) → H' d = some (.lst []) → Kp [p] H H' → Q .non H'
theorem scFInit : FnScope ["self"] ["self"] (defScope sFInit) := ⟨rfl, rfl, rfl, by decide +kernel, rfl, by decide +kernel, by decide +kernel⟩
theorem ok_finit {f C : Addr} {fd : FuncData} (F : Fun K "__init__" "Folder.__init__" sFInit f fd) (T : TxFo K C) : FnOk P w K mg base CX0 1 f fd ["self"] (spFInit C) := by
  refine F.ok scFInit (fun vs H Q E h => ?_) (fun cdv A outer s H vs Q E hr h => ?_)
  · obtain ⟨p, dx, rfl, _⟩ := h
    rfl
  · obtain ⟨p, dx, rfl, hp, k⟩ := h
    refine ⟨_, pss_cons (ps_fld (pv 0) (pe_lst pa_nil) rfl) (pss_cons (ps_fld (pv 0) pe_non rfl) (pss_one (ps_fld (pv 0) (pe_lst pa_nil) rfl))), ?_⟩
    refine ⟨Nat.zero_le _, fun l hl => ?_⟩
    have hpl : p ≠ l := ne_of_none hp hl
    refine ⟨_, rfl, p, C, dx, [], rfl, (by rw [upd_ne hpl]; exact hp), T.cl, T.nN, (by show 0 < 1000; decide), _, rfl, p, C, dx, _, rfl, upd_same, T.cl, T.nW, (by show 1 < 1000; decide), Nat.zero_le _, fun d hd => ?_⟩
    have hpd : p ≠ d := ne_of_none upd_same hd
    have hd1 : upd H l (.lst []) d = none := by rw [upd_ne hpd.symm, upd_ne hpd.symm] at hd; exact hd
    have hld : l ≠ d := ne_of_none upd_same hd1
    have hd0 : H d = none := by rw [upd_ne hld.symm] at hd1; exact hd1
    refine ⟨_, rfl, p, C, dx, _, rfl, (by rw [upd_ne hpd]; exact upd_same), T.cl, T.nD, ?_, ?_⟩
    · have e := length_putF "wanted" .non (putF "names" (.ref l) [])
      have e2 : (putF "names" (V.ref l) []).length = 1 := rfl
      omega
    refine k l d _ hl hd0 hld upd_same ?_ ?_ fun b o e n => ?_
    · rw [upd_ne hpl.symm, upd_ne hld, upd_ne hpl.symm, upd_ne hpl.symm]
      exact upd_same
    · rw [upd_ne hpd.symm]
      exact upd_same
    · have hb : b ≠ p := fun q => n (by rw [q]; exact List.mem_singleton.mpr rfl)
      rw [upd_ne hb, upd_ne (ne_of_none e hd0), upd_ne hb, upd_ne hb, upd_ne (ne_of_none e hl)]
      exact e
def spRen (K : PySem.W.Frag) (C : Addr) : Sp := fun vs H Q _ => ∃ (p l d w dx : Addr) (us vs' ds : List V) (ns ws : List Bytes) (f : Nat) (x n : Bytes), vs = [.ref p] ∧ H p = some (.ins C dx (ff l (.ref w) d)) ∧
  H l = some (.lst vs') ∧ Tups K H vs' ns ∧ H w = some (.lst us) ∧ Tups K H us ws ∧ H d = some (.lst ds) ∧ l ≠ d ∧ w ≠ l ∧ w ≠ d ∧ ns.length = ws.length ∧ ns.length ≤ 16 ∧ ds.length ≤ 1000 ∧ Ks334.next (ns.zip ws) = some (f, x) ∧ ns[f]? = some n ∧
  ∀ (u o : V) (q : Addr) (H' : Hp), TupAt K H' u x → TupAt K H' o n → SqT K H' q [.int (f : Nat), o] → H' l = some (.lst (vs'.set f u)) → H' d = some (.lst (ds ++ [.ref q])) → Kp [l, d] H H' → Q .non H'
theorem scRen : FnScope ["self", "renaming", "file"] ["self"] (defScope sRen) := ⟨rfl, rfl, rfl, by decide +kernel, rfl, by decide +kernel, by decide +kernel⟩
theorem ok_ren {f C : Addr} {fd : FuncData} (F : Fun K "rename_next" "Folder.rename_next" sRen f fd) (T : TxFo K C) (cN : Ca P w K mg base "next_renaming" ["names", "wanted"] 1 (spNext K)) : FnOk P w K mg base CX0 2 f fd ["self"] (spRen K C) := by
  refine F.ok scRen (fun vs H Q E h => ?_) (fun cdv A outer s H vs Q E hr h => ?_)
  · obtain ⟨p, l, d, w, dx, us, vs', ds, ns, ws, f, x, n, rfl, _⟩ := h
    rfl
  · obtain ⟨p, l, d, w, dx, us, vs', ds, ns, ws, g, x, n, rfl, hp, hl, tl', hw, tw, hd, hld, hwl, hwd, hlen, h16, hds, hnx, hgn, k⟩ := h
    refine ⟨_, pss_cons (ps_set (i := 1) scRen.nd rfl (Or.inl rfl) (pe_ca cN hr (pa_cons (pe_fld (pv 0) rfl) (pa_cons (pe_fld (pv 0) rfl) pa_nil))))
      (pss_cons (ps_set (i := 2) scRen.nd rfl (Or.inl rfl) (pe_ix ix_tup (pv 1) pe_int (fun _ _ => rfl)))
      (pss_cons (ps_expr (pe_bm PySem.F.plainAttrs_list PySem.F.slot_list_append PySem.F.type_list_append mt_append (pe_fld (pv 0) rfl) (pa_cons (pe_tup (pa_cons (pv 2) (pa_cons (pe_ix ix_list (pe_fld (pv 0) rfl) (pv 2) (fun _ _ => rfl)) pa_nil))) pa_nil)))
      (pss_one (ps_asg (pe_ix ix_tup (pv 1) pe_int (fun _ _ => rfl)) (pg_sub (pe_fld (pv 0) rfl) (pv 2) set_list))))), ?_⟩
    refine ⟨_, rfl, p, C, dx, _, _, rfl, hp, T.cl, T.nN, ff_names _ _ _, _, rfl, p, C, dx, _, _, rfl, hp, T.cl, T.nW, ff_wanted _ _ _, l, w, ns, ws, rfl, ⟨vs', SqL.of hl, tl'⟩, ⟨us, SqL.of hw, tw⟩, hlen, h16, fun v H1 hv s1 => ?_⟩
    rw [hnx] at hv
    obtain ⟨pt, u, rfl, hpt, hu⟩ := hv
    obtain ⟨o, ho, hto⟩ := (tl'.same s1).get hgn
    have hgl : g < vs'.length := (List.getElem?_eq_some_iff.mp ho).1
    refine ⟨_, rfl, pt, _, _, _, rfl, rfl, hpt, at_of (j := 0) rfl rfl, ?_⟩
    refine ⟨_, rfl, p, C, dx, _, _, rfl, s1 _ _ hp, T.cl, T.nD, ff_done _ _ _, .inl ⟨rfl, _, SqL.of (s1 _ _ hd)⟩, _, rfl, _, rfl, p, C, dx, _, _, rfl, s1 _ _ hp, T.cl, T.nN, ff_names _ _ _, _, rfl, l, vs', _, o, rfl, rfl, SqL.of (s1 _ _ hl), at_of rfl ho, (by show 2 ≤ sizeLine; decide), fun q hq => ?_⟩
    have s2 : Same H1 (upd H1 q (.tup [.int (g : Nat), o])) := same_new hq
    have hd2 := s2 _ _ (s1 _ _ hd)
    have hl2 := s2 _ _ (s1 _ _ hl)
    have hp2 := s2 _ _ (s1 _ _ hp)
    refine ⟨d, ds, _, rfl, rfl, hd2, by rw [line24]; omega, ?_⟩
    have hpd : p ≠ d := ne_of hp2 hd2 (by intro z; cases z)
    have hqd : q ≠ d := ne_of upd_same hd2 (by intro z; cases z)
    have hql : q ≠ l := ne_of upd_same hl2 (by intro z; cases z)
    have mob2 : ∀ b ∈ [l, d], Mob (upd H1 q (.tup [.int (g : Nat), o])) b := fun b hb => by
      simp at hb
      rcases hb with rfl | rfl
      · exact .inl ⟨_, hl2⟩
      · exact .inl ⟨_, hd2⟩
    have k3 : Kp [l, d] (upd H1 q (.tup [.int (g : Nat), o])) (upd (upd H1 q (.tup [.int (g : Nat), o])) d (.lst (ds ++ [.ref q]))) := kp_upd (by simp)
    refine ⟨_, rfl, pt, _, _, _, rfl, rfl, k3.seqT mob2 (s2.seqT hpt), at_of (j := 1) rfl rfl, _, rfl, p, C, dx, _, _, rfl, (by rw [upd_ne hpd]; exact hp2), T.cl, T.nN, ff_names _ _ _, _, rfl, l, vs', _, g, rfl, rfl, (by rw [upd_ne hld]; exact hl2), ixN_nat hgl, ?_⟩
    have k4 : Kp [l, d] (upd H1 q (.tup [.int (g : Nat), o])) (upd (upd (upd H1 q (.tup [.int (g : Nat), o])) d (.lst (ds ++ [.ref q]))) l (.lst (vs'.set g u))) := k3.trans (kp_upd (by simp))
    refine k u o q _ ((hu.same s2).kp k4 mob2) ((hto.same s2).kp k4 mob2) (k4.seqT mob2 (SqT.of upd_same)) upd_same (by rw [upd_ne hld.symm]; exact upd_same) ?_
    exact ((s1.trans s2).kp (F := [l, d])).trans k4
end
end Rf
end
section
set_option Elab.async false
set_option linter.all false
set_option maxRecDepth 100000
set_option maxHeartbeats 4000000
namespace Rf
open PySem PySem.Spec PyProof.Rows L2
open Ks334 (Bytes isSign okName BETWEEN)
open Ks336 (Abs Done names act)
structure TxC (mg : Str → Option Value) : Prop where
  mf : IntC mg "MOST_FILES" 16
  tm : IntC mg "TOO_MANY_FILES" (-12)
  wu : IntC mg "WISH_UNDER_WAY" (-15)
  nt : IntC mg "NAME_TAKEN" (-17)
  nv : IntC mg "NOT_VALID" (-22)
  nw : IntC mg "NO_WISH" (-61)
  nr : IntC mg "NO_RULE" (-71)
theorem ok_len {n : Bytes} (h : okName n = true) : n.length ≤ 16 := by
  unfold okName at h
  rw [Bool.and_eq_true, Bool.and_eq_true] at h
  exact of_decide_eq_true h.1.2
theorem rule_len {n : Bytes} (h : Ks335.okRule n = true) : n.length ≤ 24 := by
  unfold Ks335.okRule at h
  rw [Bool.and_eq_true, Bool.and_eq_true] at h
  exact of_decide_eq_true h.1.2
section
variable {P : Program} {w : World} {K : PySem.W.Frag} {mg : Str → Option Value} {base : Heap}
def spBegin (K : PySem.W.Frag) (C : Addr) : Sp := fun vs H Q _ => ∃ (p : Addr) (F : List Addr) (a : Abs), vs = [.ref p] ∧ FolderAt K C H p F a ∧ Post K C H p F (act a .begin) Q
theorem scBegin : FnScope ["self"] ["self"] (defScope sBegin) := ⟨rfl, rfl, rfl, by decide +kernel, rfl, by decide +kernel, by decide +kernel⟩
theorem dones_nil {H : Hp} : Dones K H [] [] := ⟨rfl, fun i v e h => by simp at h⟩
theorem tups_nil {H : Hp} : Tups K H [] [] := ⟨rfl, fun i v e h => by simp at h⟩
theorem ok_begin {f C : Addr} {fd : FuncData} (F : Fun K "begin" "Folder.begin" sBegin f fd) (T : TxFo K C) (cE : Cm P w K mg base C "end_wish" ["self"] 1 (spEnds C)) : FnOk P w K mg base CX0 2 f fd ["self"] (spBegin K C) := by
  refine F.ok scBegin (fun vs H Q E h => ?_) (fun cdv A outer s H vs Q E hr h => ?_)
  · obtain ⟨p, F, a, rfl, _⟩ := h
    rfl
  · obtain ⟨p, F, a, rfl, ⟨O, l, d, wv, ⟨⟨dx, hp⟩, _, _, _⟩, hF⟩, k⟩ := h
    have hpF : p ∈ F := by
      rcases hF with ⟨_, _, rfl⟩ | ⟨_, _, _, _, rfl⟩ <;> simp
    refine ⟨_, pss_cons (ps_fld (pv 0) (pe_lst pa_nil) rfl) (pss_cons (ps_expr (pe_cm0 cE T.cl hr (pv 0))) (pss_one (ps_ret pe_int))), ?_⟩
    refine ⟨Nat.zero_le _, fun L hL => ?_⟩
    have hpL : p ≠ L := ne_of_none hp hL
    refine ⟨_, rfl, p, C, dx, _, rfl, (by rw [upd_ne hpL]; exact hp), T.cl, T.nN, ff_len _ _ _, ?_⟩
    rw [ff_putN]
    refine ⟨_, rfl, p, dx, _, rfl, upd_same, ff_no _ _ _ (by decide +kernel) (by decide +kernel) (by decide +kernel), p, L, d, dx, wv, rfl, upd_same, fun d' H' h1 h2 h3 h4 => ?_⟩
    have hpd : p ≠ d' := ne_of_none upd_same h1
    rw [upd_ne hpd.symm] at h1
    have hLd : L ≠ d' := ne_of_none upd_same h1
    rw [upd_ne hLd.symm] at h1
    have hL' : H' L = some (.lst []) := h4 L _ (by rw [upd_ne hpL.symm]; exact upd_same) (by simp; exact hpL.symm)
    refine k [p, L, d'] H' ⟨okA_new, L, d', .non, ⟨⟨dx, h2⟩, ⟨[], hL', tups_nil⟩, ⟨[], h3, dones_nil⟩, hLd⟩, .inl ⟨rfl, rfl, rfl⟩⟩ (fun b hb => ?_) fun b o e n => ?_
    · simp at hb
      rcases hb with rfl | rfl | rfl
      · exact .inl hpF
      · exact .inr hL
      · exact .inr h1
    · have hb : b ≠ p := fun q => n (by rw [q]; exact hpF)
      exact h4 b o (by rw [upd_ne hb, upd_ne (ne_of_none e hL)]; exact e) (by simp; exact hb)
def spAdd (K : PySem.W.Frag) (C : Addr) : Sp := fun vs H Q _ => ∃ (p b : Addr) (F : List Addr) (a : Abs) (n : Bytes), vs = [.ref p, .ref b] ∧ FolderAt K C H p F a ∧ SqT K H b (tupV n) ∧ n.length < sizeLine ∧ Post K C H p F (act a (.add n)) Q
theorem scAdd : FnScope ["self", "name"] ["self", "name"] (defScope sAdd) := ⟨rfl, rfl, rfl, by decide +kernel, rfl, by decide +kernel, by decide +kernel⟩
theorem ok_add {f C : Addr} {fd : FuncData} (F : Fun K "add" "Folder.add" sAdd f fd) (T : TxFo K C) (TB : TxB mg) (TC : TxC mg) (cN : Ca P w K mg base "is_name" ["signs"] 3 (spIsName K)) : FnOk P w K mg base CX0 4 f fd ["self", "name"] (spAdd K C) := by
  refine F.ok scAdd (fun vs H Q E h => ?_) (fun cdv A outer s H vs Q E hr h => ?_)
  · obtain ⟨p, b, F, a, n, rfl, _⟩ := h
    rfl
  · obtain ⟨p, b, F, a, n, rfl, FA, hb, hz, k⟩ := h
    have hu := hr.units
    obtain ⟨O, l, d, wv, ⟨⟨dx, hp⟩, ⟨vs, hl, ht⟩, ⟨ds, hd, hds⟩, hld⟩, hF⟩ := id FA
    refine ⟨_, pss_cons (ps_if (pt_cmpR op_notN (pe_fld (pv 0) rfl) pe_non (nomark _)) (pss_one (ps_ret (pe_gint TC.wu))) pss_nil)
      (pss_cons (ps_if (pt_not (pt_val (pe_ca cN hr (pa_cons (pv 1) pa_nil)))) (pss_one (ps_ret (pe_gint TC.nv))) pss_nil)
      (pss_cons (ps_if (pt_cmpR (op_inD hu) (pv 1) (pe_fld (pv 0) rfl) (by with_unfolding_all rfl)) (pss_one (ps_ret (pe_gint TC.nt))) pss_nil)
      (pss_cons (ps_if (pt_cmpR op_eq (pe_callB call_len_seq (by rfl) TB.len PySem.boot_len (pa_cons (pe_fld (pv 0) rfl) pa_nil)) (pe_gint TC.mf) (nomark _)) (pss_one (ps_ret (pe_gint TC.tm))) pss_nil)
      (pss_cons (ps_expr (pe_bm PySem.F.plainAttrs_list PySem.F.slot_list_append PySem.F.type_list_append mt_append (pe_fld (pv 0) rfl) (pa_cons (pv 1) pa_nil)))
      (pss_one (ps_ret (pe_op op_sub (pe_callB call_len_seq (by rfl) TB.len PySem.boot_len (pa_cons (pe_fld (pv 0) rfl) pa_nil)) pe_int))))))), ?_⟩
    rcases hF with ⟨hbz, rfl, rfl⟩ | ⟨hbz, w', rfl, hW, rfl⟩
    · refine ⟨_, rfl, p, C, dx, _, _, rfl, hp, T.cl, T.nW, ff_wanted _ _ _, rfl, _, rfl, iteF ?_⟩
      refine ⟨_, rfl, b, n, rfl, .inr hb, hz, fun H1 s1 => ⟨_, rfl, ?_⟩⟩
      cases hok : okName n with
      | false => exact iteT (k.stay (act_add_none hbz hok) FA s1)
      | true =>
        refine iteF ⟨_, rfl, _, rfl, p, C, dx, _, _, rfl, s1 _ _ hp, T.cl, T.nN, ff_names _ _ _, _, _, Dp.lst (SqL.of (s1 _ _ hl)) (dp_names (ht.same s1)), TupAt.dp ⟨b, rfl, s1.seqT hb⟩, lay_names _, lay_name _, by rw [depth_name]; decide, _, rfl, ?_⟩
        rw [any_name]
        show if decide _ = true then _ else _
        refine ite2 (fun e => ?_) (fun e => ?_)
        · exact k.stay (act_add_has hbz hok (of_decide_eq_true e)) FA s1
        · have hn : n ∉ names a := fun q => e (decide_eq_true q)
          refine ⟨_, rfl, p, C, dx, _, _, rfl, s1 _ _ hp, T.cl, T.nN, ff_names _ _ _, l, vs, rfl, .inl (SqL.of (s1 _ _ hl)), rfl, _, rfl, ?_⟩
          rw [ht.len, show decide (V.int (((names a).length : Nat) : Int) = V.int 16) = decide ((names a).length = 16) from dec_nat _ 16]
          refine ite2 (fun e => ?_) (fun e => ?_)
          · exact k.stay (act_add_full hbz hok hn (of_decide_eq_true e)) FA s1
          · have h16 : (names a).length ≠ 16 := fun q => e (decide_eq_true q)
            obtain ⟨a', ea, O', en, eb⟩ := act_add_ok O hbz hok hn h16
            have hl1 := s1 _ _ hl
            have hpl : p ≠ l := ne_of (s1 _ _ hp) hl1 (by intro z; cases z)
            have hl16 : vs.length ≤ 16 := by rw [ht.len, names_len]; exact O.len
            refine ⟨_, rfl, p, C, dx, _, _, rfl, s1 _ _ hp, T.cl, T.nN, ff_names _ _ _, .inl ⟨rfl, _, SqL.of hl1⟩, _, rfl, l, vs, _, rfl, rfl, hl1, by rw [line24]; omega, ?_⟩
            refine ⟨_, rfl, p, C, dx, _, _, rfl, (by rw [upd_ne hpl]; exact s1 _ _ hp), T.cl, T.nN, ff_names _ _ _, l, _, rfl, .inl (SqL.of upd_same), _, _, rfl, rfl, ?_⟩
            have e1 : (((vs ++ [V.ref b]).length : Nat) : Int) - 1 = ((names a).length : Nat) := by
              rw [List.length_append, List.length_singleton, ht.len]
              omega
            show Q (V.int ((((vs ++ [V.ref b]).length : Nat) : Int) - 1)) _
            rw [e1]
            have k1 : Kp [l] H1 (upd H1 l (.lst (vs ++ [V.ref b]))) := kp_upd (by simp)
            have m1 : ∀ c ∈ [l], Mob H1 c := fun c hc => by rw [List.mem_singleton.mp hc]; exact .inl ⟨_, hl1⟩
            have ha := O'.idle eb
            have hd0 : a.done = [] := (O.idle hbz).1
            have ed : a'.done.reverse = a.done.reverse := by rw [ha.1, hd0]
            rw [ea] at k
            refine k [p, l, d] _ ⟨O', l, d, .non, ⟨⟨dx, by rw [upd_ne hpl]; exact s1 _ _ hp⟩, ⟨_, upd_same, ?_⟩, ⟨ds, by rw [upd_ne hld.symm]; exact s1 _ _ hd, ?_⟩, hld⟩, .inl ⟨eb, rfl, rfl⟩⟩ (fun c hc => .inl hc) (s1.kp.trans (k1.mono (by intro c hc; simp at hc; simp [hc])))
            · rw [en]
              exact ((ht.same s1).snoc ⟨b, rfl, s1.seqT hb⟩).kp k1 m1
            · rw [ed]
              exact (hds.same s1).kp k1 m1
    · refine ⟨_, rfl, p, C, dx, _, _, rfl, hp, T.cl, T.nW, ff_wanted _ _ _, rfl, _, rfl, iteT ?_⟩
      exact k.stay (act_add_busy hbz) FA (Same.refl H)
def spWish (K : PySem.W.Frag) (C : Addr) : Sp := fun vs H Q _ => ∃ (p ra fa : Addr) (F : List Addr) (a : Abs) (r : Bytes) (x : Nat) (fs : List Nat), vs = [.ref p, .ref ra, .int (x : Nat), .ref fa] ∧ FolderAt K C H p F a ∧ SqT K H ra (tupV r) ∧ SqT K H fa (tupV fs) ∧
  r.length < sizeLine ∧ fs.length < sizeLine ∧ x < 4294967296 ∧ Post K C H p F (act a (.wish r x fs)) Q
theorem scWish : FnScope ["self", "rule", "start", "files", "wanted", "refusal", "count"] ["self", "rule", "start", "files"] (defScope sWish) := ⟨rfl, rfl, rfl, by decide +kernel, rfl, by decide +kernel, by decide +kernel⟩
theorem ok_wish {f C : Addr} {fd : FuncData} (F : Fun K "wish" "Folder.wish" sWish f fd) (T : TxFo K C) (TB : TxB mg) (TC : TxC mg) (cR : Ca P w K mg base "is_rule" ["signs"] 4 (spIsRule K)) (cT : Ca P w K mg base "can_be_told" ["files", "count"] 1 (spTold K))
    (cB : Ca P w K mg base "names_by_rule" ["names", "rule", "start", "files"] 5 (spBy K)) (cF : Ca P w K mg base "refusal_of_names" ["wanted"] 1 (spRef K)) (cL : Ca P w K mg base "renamings_left" ["names", "wanted"] 2 (spLeft K)) :
    FnOk P w K mg base CX0 6 f fd ["self", "rule", "start", "files"] (spWish K C) := by
  refine F.ok scWish (fun vs H Q E h => ?_) (fun cdv A outer s H vs Q E hr h => ?_)
  · obtain ⟨p, ra, fa, F, a, r, x, fs, rfl, _⟩ := h
    rfl
  · obtain ⟨p, ra, fa, F, a, r, x, fs, rfl, FA, hR, hFs, hzr, hzf, hx, k⟩ := h
    obtain ⟨O, l, d, wv, ⟨⟨dx, hp⟩, ⟨vs, hl, ht⟩, ⟨ds, hd, hds⟩, hld⟩, hF⟩ := id FA
    refine ⟨_, pss_cons (ps_if (pt_cmpR op_notN (pe_fld (pv 0) rfl) pe_non (nomark _)) (pss_one (ps_ret (pe_gint TC.wu))) pss_nil)
      (pss_cons (ps_if (pt_not (pt_val (pe_ca cR hr (pa_cons (pv 1) pa_nil)))) (pss_one (ps_ret (pe_gint TC.nr))) pss_nil)
      (pss_cons (ps_if (pt_not (pt_val (pe_ca cT hr (pa_cons (pv 3) (pa_cons (pe_callB call_len_seq (by rfl) TB.len PySem.boot_len (pa_cons (pe_fld (pv 0) rfl) pa_nil)) pa_nil))))) (pss_one (ps_ret (pe_gint TC.nv))) pss_nil)
      (pss_cons (ps_set (i := 4) scWish.nd rfl (Or.inl rfl) (pe_ca cB hr (pa_cons (pe_fld (pv 0) rfl) (pa_cons (pv 1) (pa_cons (pv 2) (pa_cons (pv 3) pa_nil))))))
      (pss_cons (ps_set (i := 5) scWish.nd rfl (Or.inl rfl) (pe_ca cF hr (pa_cons (pv 4) pa_nil)))
      (pss_cons (ps_if (pt_cmpR op_lt (pv 5) pe_int (nomark _)) (pss_one (ps_ret (pv 5))) pss_nil)
      (pss_cons (ps_set (i := 6) scWish.nd rfl (Or.inl rfl) (pe_ca cL hr (pa_cons (pe_fld (pv 0) rfl) (pa_cons (pv 4) pa_nil))))
      (pss_cons (ps_if (pt_cmpR op_gt (pv 6) pe_int (nomark _)) (pss_one (ps_fld (pv 0) (pv 4) rfl)) pss_nil)
      (pss_one (ps_ret (pv 6)))))))))), ?_⟩
    rcases hF with ⟨hbz, rfl, rfl⟩ | ⟨hbz, w', rfl, hW, rfl⟩
    · obtain ⟨o1, o2, o3⟩ := O.idle hbz
      refine ⟨_, rfl, p, C, dx, _, _, rfl, hp, T.cl, T.nW, ff_wanted _ _ _, rfl, _, rfl, iteF ?_⟩
      refine ⟨_, rfl, ra, r, rfl, hR, hzr, fun H1 s1 => ⟨_, rfl, ?_⟩⟩
      cases hok : Ks335.okRule r with
      | false => exact iteT (k.stay (act_wish_rule hbz hok) FA s1)
      | true =>
        refine iteF ⟨_, rfl, _, rfl, p, C, dx, _, _, rfl, s1 _ _ hp, T.cl, T.nN, ff_names _ _ _, l, vs, rfl, .inl (SqL.of (s1 _ _ hl)), fa, fs, (names a).length, by rw [ht.len]; rfl, s1.seqT hFs, hzf, fun H2 s2 => ⟨_, rfl, ?_⟩⟩
        have s12 := s1.trans s2
        cases hbt : badTold fs (names a).length with
        | true => exact iteT (k.stay (act_wish_told hbz hok hbt) FA s12)
        | false =>
          have htw : Ks336.twice fs = false ∧ ∀ f ∈ fs, f < (names a).length := by
            have q : (fs.any (fun i => decide ((names a).length ≤ i)) || Ks336.twice fs) = false := hbt
            rw [Bool.or_eq_false_iff] at q
            refine ⟨q.2, fun f hf => ?_⟩
            have := List.any_eq_false.mp q.1 f hf
            simp at this
            omega
          have hl16 : (names a).length ≤ 16 := by rw [names_len]; exact O.len
          refine iteF ⟨_, rfl, p, C, dx, _, _, rfl, s12 _ _ hp, T.cl, T.nN, ff_names _ _ _, _, rfl, _, rfl, _, rfl, l, ra, fa, names a, r, x, fs, rfl, ⟨vs, SqL.of (s12 _ _ hl), ht.same s12⟩, s12.seqT hR, s12.seqT hFs, htw.2, fun n hn => ok_len (o2 n hn), rule_len hok,
            by omega, hzf, fun W H3 us hW0 hus ho s3 => ?_⟩
          rw [wk_wishes a r x fs o2 htw.1] at ho
          have s13 := s12.trans s3
          have husl : us.length ≤ 16 := by rw [ho.len, List.length_map, wishes_len]; exact hl16
          refine ⟨_, rfl, W, us, _, rfl, hus, ho, husl, fun i H4 h1 h2 s4 => ?_, fun ws i y H4 h1 h2 h3 h4 s4 => ?_, fun ws H4 h1 h2 s4 => ?_⟩
          · refine ⟨_, rfl, _, _, rfl, rfl, _, rfl, ?_⟩
            rw [decide_eq_true (show (-1000 - ((i : Nat) : Int)) < 0 by omega)]
            refine iteT ⟨_, rfl, ?_⟩
            exact k.stay (act_wish_bad hbz hok hbt h1 h2) FA (s13.trans s4)
          · refine ⟨_, rfl, _, _, rfl, rfl, _, rfl, ?_⟩
            rw [decide_eq_true (show (-2000 - ((i : Nat) : Int)) < 0 by omega)]
            refine iteT ⟨_, rfl, ?_⟩
            exact k.stay (act_wish_clash hbz hok hbt h1 h2 h3 h4) FA (s13.trans s4)
          · have s14 := s13.trans s4
            obtain ⟨G, ea, hO'⟩ := act_wish_ok O hbz hok hbt h1 h2
            rw [h1] at ho
            have htu := ho.tups
            refine ⟨_, rfl, _, _, rfl, rfl, _, rfl, iteF ?_⟩
            refine ⟨_, rfl, p, C, dx, _, _, rfl, s14 _ _ hp, T.cl, T.nN, ff_names _ _ _, _, rfl, l, W, names a, ws, rfl, ⟨vs, SqL.of (s14 _ _ hl), ht.same s14⟩, ⟨us, SqL.of (s4 _ _ hus), htu.same s4⟩, G, hl16, fun H5 s5 => ?_⟩
            have s15 := s14.trans s5
            refine ⟨_, rfl, _, _, rfl, rfl, _, rfl, ?_⟩
            have hlp := left_pos G
            by_cases q : names a = ws
            · have q0 : left (names a) ws = 0 := by
                have : ¬ 0 < left (names a) ws := fun z => (hlp.mp z) q
                omega
              rw [q0]
              refine iteF ⟨_, rfl, ?_⟩
              rw [if_pos q, q0] at ea
              exact k.stay ea FA s15
            · rw [decide_eq_true (show (0 : Int) < ((left (names a) ws : Nat) : Int) by have := hlp.mpr q; omega)]
              have hp5 := s15 _ _ hp
              refine iteT ⟨_, rfl, _, rfl, p, C, dx, _, rfl, hp5, T.cl, T.nW, ff_len _ _ _, _, rfl, ?_⟩
              rw [ff_putW]
              rw [if_neg q] at ea
              rw [ea] at k
              have k6 : Kp [p] H5 (upd H5 p (.ins C dx (ff l (.ref W) d))) := kp_upd (by simp)
              have m6 : ∀ c ∈ [p], Mob H5 c := fun c hc => by rw [List.mem_singleton.mp hc]; exact .inr ⟨_, _, _, hp5⟩
              have hl5 := s15 _ _ hl
              have hd5 := s15 _ _ hd
              have hus5 := s5 _ _ (s4 _ _ hus)
              have hlp' : l ≠ p := ne_of hl5 hp5 (by intro z; cases z)
              have hdp' : d ≠ p := ne_of hd5 hp5 (by intro z; cases z)
              have hWp' : W ≠ p := ne_of hus5 hp5 (by intro z; cases z)
              have hWn : H W = none := s12.free hW0
              have en : names ⟨(names a).zip ws, [], true⟩ = names a := names_zip G.len
              have ew : wants ⟨(names a).zip ws, [], true⟩ = ws := wants_zip G.len
              refine k [p, l, d, W] _ ⟨hO' q, l, d, .ref W, ⟨⟨dx, upd_same⟩, ⟨vs, by rw [upd_ne hlp']; exact hl5, ?_⟩, ⟨ds, by rw [upd_ne hdp']; exact hd5, ?_⟩, hld⟩, .inr ⟨rfl, W, rfl, ⟨us, by rw [upd_ne hWp']; exact hus5, ?_, (ne_of_none hl hWn).symm, (ne_of_none hd hWn).symm⟩, rfl⟩⟩ (fun c hc => ?_)
                (s15.kp.trans (k6.mono (by intro c hc; simp at hc; simp [hc])))
              · rw [en]
                exact (ht.same s15).kp k6 m6
              · have e0 := (hds.same s15).kp k6 m6
                rw [o1] at e0
                exact e0
              · rw [ew]
                exact ((htu.same s4).same s5).kp k6 m6
              · simp at hc
                rcases hc with rfl | rfl | rfl | rfl
                · exact .inl (by simp)
                · exact .inl (by simp)
                · exact .inl (by simp)
                · exact .inr hWn
    · refine ⟨_, rfl, p, C, dx, _, _, rfl, hp, T.cl, T.nW, ff_wanted _ _ _, rfl, _, rfl, iteT ?_⟩
      exact k.stay (act_wish_busy hbz) FA (Same.refl H)
end
end Rf
end
section
set_option Elab.async false
set_option linter.all false
set_option maxRecDepth 100000
set_option maxHeartbeats 4000000
namespace Rf
open PySem PySem.Spec PyProof.Rows L2
open Ks334 (Bytes isSign okName BETWEEN)
open Ks336 (Abs Done names act stepped)
theorem act_step_no {a : Abs} (hb : a.busy = false) : act a .step = (a, Ks336.no (-61)) := by
  show (if a.busy = false then _ else _) = _
  rw [if_pos hb]
theorem act_step_yes {a : Abs} (hb : a.busy = true) : act a .step = (stepped a, Ks336.no (if (stepped a).busy = true then 1 else 0)) := by
  show (if a.busy = false then _ else _) = _
  rw [if_neg (by rw [hb]; decide)]
theorem act_fin_no {a : Abs} (hb : a.busy = false) : act a .finish = (a, Ks336.no (-61)) := by
  show (if a.busy = false then _ else _) = _
  rw [if_pos hb]
theorem act_fin_yes {a : Abs} (O : OkA a) (hb : a.busy = true) : act a .finish = (⟨(wants a).zip (wants a), [], false⟩, Ks336.no 0) := by
  show (if a.busy = false then _ else (Ks336.finished (2 * a.files.length) a, Ks336.no 0)) = _
  rw [if_neg (by rw [hb]; decide), finish_eq O hb]
theorem done_len {a : Abs} (O : OkA a) (hb : a.busy = true) : a.done.length + mu (names a) (wants a) ≤ 32 := by
  have := chain_len (O.busy hb).2.2
  rw [names_len] at this
  have := O.len
  omega
theorem _root_.L2.Kp.fresh {F : List Addr} {H H' : Hp} {b : Addr} (k : Kp F H H') (h : H' b = none) (hF : ∀ c ∈ F, ∃ o, H' c = some o) : H b = none := by
  cases z : H b with
  | none => rfl
  | some o =>
    by_cases q : b ∈ F
    · obtain ⟨o', e⟩ := hF b q
      rw [h] at e
      cases e
    · rw [k b o z q] at h
      cases h
section
variable {P : Program} {w : World} {K : PySem.W.Frag} {mg : Str → Option Value} {base : Heap}
/-- the wish is ended: the folder is idle, its names as they are -/
theorem idle_at {C : Addr} {H H' : Hp} {p l d' dx : Addr} {vs : List V} {ns ws : List Bytes} (O : OkA ⟨ns.zip ws, [], false⟩) (hlen : ns.length = ws.length) (h1 : H' p = some (.ins C dx (ff l .non d'))) (h2 : H' l = some (.lst vs)) (h3 : Tups K H' vs ns) (h4 : H' d' = some (.lst [])) (h5 : l ≠ d') :
    FolderAt K C H' p [p, l, d'] ⟨ns.zip ws, [], false⟩ := by
  refine ⟨O, l, d', .non, ⟨⟨dx, h1⟩, ⟨vs, h2, ?_⟩, ⟨[], h4, dones_nil⟩, h5⟩, .inl ⟨rfl, rfl, rfl⟩⟩
  rw [names_zip hlen]
  exact h3
def spStep (K : PySem.W.Frag) (C : Addr) : Sp := fun vs H Q _ => ∃ (p : Addr) (F : List Addr) (a : Abs), vs = [.ref p] ∧ FolderAt K C H p F a ∧ Post K C H p F (act a .step) Q
theorem scStep : FnScope ["self"] ["self"] (defScope sStep) := ⟨rfl, rfl, rfl, by decide +kernel, rfl, by decide +kernel, by decide +kernel⟩
theorem ok_step {f C : Addr} {fd : FuncData} (F : Fun K "step" "Folder.step" sStep f fd) (T : TxFo K C) (TC : TxC mg) (cE : Cm P w K mg base C "end_wish" ["self"] 1 (spEnds C)) (cR : Cm P w K mg base C "rename_next" ["self"] 2 (spRen K C)) : FnOk P w K mg base CX0 3 f fd ["self"] (spStep K C) := by
  refine F.ok scStep (fun vs H Q E h => ?_) (fun cdv A outer s H vs Q E hr h => ?_)
  · obtain ⟨p, F, a, rfl, _⟩ := h
    rfl
  · obtain ⟨p, F, a, rfl, FA, k⟩ := h
    have hu := hr.units
    obtain ⟨O, l, d, wv, ⟨⟨dx, hp⟩, ⟨vs, hl, ht⟩, ⟨ds, hd, hds⟩, hld⟩, hF⟩ := id FA
    refine ⟨_, pss_cons (ps_if (pt_cmpR op_isN (pe_fld (pv 0) rfl) pe_non (nomark _)) (pss_one (ps_ret (pe_gint TC.nw))) pss_nil)
      (pss_cons (ps_expr (pe_cm0 cR T.cl hr (pv 0)))
      (pss_cons (ps_if (pt_cmpR (op_neD hu) (pe_fld (pv 0) rfl) (pe_fld (pv 0) rfl) (nomark _)) (pss_one (ps_ret pe_int)) pss_nil)
      (pss_cons (ps_expr (pe_cm0 cE T.cl hr (pv 0)))
      (pss_one (ps_ret pe_int))))), ?_⟩
    rcases hF with ⟨hbz, rfl, rfl⟩ | ⟨hbz, w', rfl, ⟨us, hw, htw, hwl, hwd⟩, rfl⟩
    · refine ⟨_, rfl, p, C, dx, _, _, rfl, hp, T.cl, T.nW, ff_wanted _ _ _, rfl, _, rfl, iteT ?_⟩
      exact k.stay (act_step_no hbz) FA (Same.refl H)
    · refine ⟨_, rfl, p, C, dx, _, _, rfl, hp, T.cl, T.nW, ff_wanted _ _ _, rfl, _, rfl, iteF ?_⟩
      obtain ⟨g, n, x, S⟩ := step_ok O hbz
      have G := (O.busy hbz).1
      have hnx : Ks334.next ((names a).zip (wants a)) = some (g, x) := by rw [← files_eq]; exact S.nx
      have hl16 : (names a).length ≤ 16 := by rw [names_len]; exact O.len
      have hdl := done_len O hbz
      refine ⟨_, rfl, p, dx, _, rfl, hp, ff_no _ _ _ (by decide +kernel) (by decide +kernel) (by decide +kernel), p, l, d, w', dx, us, vs, ds, names a, wants a, g, x, n, rfl, hp, hl, ht, hw, htw, hd, hld, hwl, hwd, G.len, hl16, ?_, hnx, S.at_, fun u o q H1 hu1 ho1 hq1 hl1 hd1 k1 => ?_⟩
      · rw [hds.len, List.length_reverse]
        omega
      have hpl : p ≠ l := ne_of hp hl (by intro z; cases z)
      have hpd : p ≠ d := ne_of hp hd (by intro z; cases z)
      have m0 : ∀ c ∈ [l, d], Mob H c := fun c hc => by
        simp at hc
        rcases hc with rfl | rfl
        · exact .inl ⟨_, hl⟩
        · exact .inl ⟨_, hd⟩
      have hp1 := k1 _ _ hp (by simp [hpl, hpd])
      have hw1 := k1 _ _ hw (by simp [hwl, hwd])
      have ht1 : Tups K H1 (vs.set g u) ((names a).set g x) := (ht.kp k1 m0).set g hu1
      have htw1 := htw.kp k1 m0
      have hds1 := hds.kp k1 m0
      obtain ⟨en, ew⟩ := stepped_wants S
      rw [act_step_yes hbz] at k
      refine ⟨_, rfl, p, C, dx, _, _, rfl, hp1, T.cl, T.nN, ff_names _ _ _, _, rfl, p, C, dx, _, _, rfl, hp1, T.cl, T.nW, ff_wanted _ _ _, _, _, Dp.lst (SqL.of hl1) (dp_names ht1), Dp.lst (SqL.of hw1) (dp_names htw1), shaped_names _, shaped_names _, _, rfl, ?_⟩
      rw [show PyData.eqv (.list (((names a).set g x).map nameD)) (.list ((wants a).map nameD)) = decide ((names a).set g x = wants a) from eqv_names _ _]
      by_cases q1 : (names a).set g x = wants a
      · rw [decide_eq_true q1]
        have hnb : ¬ (stepped a).busy = true := fun z => (stepped_busy S).mp z q1
        rw [if_neg hnb] at k
        have es := S.eq
        rw [if_pos q1] at es
        have O2 := S.ok
        rw [es] at k O2
        refine iteF ⟨_, rfl, p, dx, _, rfl, hp1, ff_no _ _ _ (by decide +kernel) (by decide +kernel) (by decide +kernel), p, l, d, dx, _, rfl, hp1, fun d' H2 h1 h2 h3 h4 => ?_⟩
        have hld' : l ≠ d' := ne_of_none hl1 h1
        have hl2 := h4 _ _ hl1 (by simp; exact hpl.symm)
        have m1 : ∀ c ∈ [p], Mob H1 c := fun c hc => by rw [List.mem_singleton.mp hc]; exact .inr ⟨_, _, _, hp1⟩
        refine k [p, l, d'] H2 (idle_at (H := H1) O2 S.good.len h2 hl2 (ht1.kp h4 m1) h3 hld') (fun c hc => ?_) ((k1.mono (by intro c hc; simp at hc; rcases hc with rfl | rfl <;> simp)).trans (h4.mono (by intro c hc; simp at hc; simp [hc])))
        simp at hc
        rcases hc with rfl | rfl | rfl
        · exact .inl (by simp)
        · exact .inl (by simp)
        · exact .inr (k1.fresh h1 fun c hc => by
            simp at hc
            rcases hc with rfl | rfl
            · exact ⟨_, hl1⟩
            · exact ⟨_, hd1⟩)
      · rw [decide_eq_false q1]
        have hnb : (stepped a).busy = true := (stepped_busy S).mpr q1
        rw [if_pos hnb] at k
        have es := S.eq
        rw [if_neg q1] at es
        have ed : (stepped a).done.reverse = a.done.reverse ++ [⟨g, n, x⟩] := by
          rw [es]
          show (_ :: a.done).reverse = _
          rw [List.reverse_cons]
        refine iteT ?_
        refine k [p, l, d, w'] H1 ⟨S.ok, l, d, .ref w', ⟨⟨dx, hp1⟩, ⟨_, hl1, ?_⟩, ⟨_, hd1, ?_⟩, hld⟩, .inr ⟨hnb, w', rfl, ⟨us, hw1, ?_, hwl, hwd⟩, rfl⟩⟩ (fun c hc => .inl hc) (k1.mono (by intro c hc; simp at hc; rcases hc with rfl | rfl <;> simp))
        · rw [en]
          exact ht1
        · rw [ed]
          exact hds1.snoc ⟨q, o, rfl, hq1, ho1⟩
        · rw [ew]
          exact htw1
def spFin (K : PySem.W.Frag) (C : Addr) : Sp := fun vs H Q _ => ∃ (p : Addr) (F : List Addr) (a : Abs), vs = [.ref p] ∧ FolderAt K C H p F a ∧ Post K C H p F (act a .finish) Q
theorem scFin : FnScope ["self"] ["self"] (defScope sFin) := ⟨rfl, rfl, rfl, by decide +kernel, rfl, by decide +kernel, by decide +kernel⟩
theorem ok_fin {f C : Addr} {fd : FuncData} (F : Fun K "finish" "Folder.finish" sFin f fd) (T : TxFo K C) (TC : TxC mg) (cE : Cm P w K mg base C "end_wish" ["self"] 1 (spEnds C)) (cR : Cm P w K mg base C "rename_next" ["self"] 2 (spRen K C)) : FnOk P w K mg base CX0 3 f fd ["self"] (spFin K C) := by
  refine F.ok scFin (fun vs H Q E h => ?_) (fun cdv A outer s H vs Q E hr h => ?_)
  · obtain ⟨p, F, a, rfl, _⟩ := h
    rfl
  · obtain ⟨p, F, a, rfl, FA, k⟩ := h
    have hu := hr.units
    obtain ⟨O, l, d, wv, ⟨⟨dx, hp⟩, ⟨vs, hl, ht⟩, ⟨ds, hd, hds⟩, hld⟩, hF⟩ := id FA
    refine ⟨_, pss_cons (ps_if (pt_cmpR op_isN (pe_fld (pv 0) rfl) pe_non (nomark _)) (pss_one (ps_ret (pe_gint TC.nw))) pss_nil)
      (pss_cons (ps_while PassesOwn.never (pt_cmpR (op_neD hu) (pe_fld (pv 0) rfl) (pe_fld (pv 0) rfl) (nomark _)) (pss_one (ps_expr (pe_cm0 cR T.cl hr (pv 0)))))
      (pss_cons (ps_expr (pe_cm0 cE T.cl hr (pv 0)))
      (pss_one (ps_ret pe_int)))), ?_⟩
    rcases hF with ⟨hbz, rfl, rfl⟩ | ⟨hbz, w', rfl, ⟨us, hw, htw, hwl, hwd⟩, rfl⟩
    · refine ⟨_, rfl, p, C, dx, _, _, rfl, hp, T.cl, T.nW, ff_wanted _ _ _, rfl, _, rfl, iteT ?_⟩
      exact k.stay (act_fin_no hbz) FA (Same.refl H)
    · refine ⟨_, rfl, p, C, dx, _, _, rfl, hp, T.cl, T.nW, ff_wanted _ _ _, rfl, _, rfl, iteF ?_⟩
      have G := (O.busy hbz).1
      have hl16 : (names a).length ≤ 16 := by rw [names_len]; exact O.len
      have hdl := done_len O hbz
      have hpl : p ≠ l := ne_of hp hl (by intro z; cases z)
      have hpd : p ≠ d := ne_of hp hd (by intro z; cases z)
      have hpw : p ≠ w' := ne_of hp hw (by intro z; cases z)
      rw [act_fin_yes O hbz] at k
      refine ⟨fun m σ H' => ∃ (ns : List Bytes) (vs' ds' : List V), σ = [some (.ref p)] ∧ H' p = some (.ins C dx (ff l (.ref w') d)) ∧ H' l = some (.lst vs') ∧ Tups K H' vs' ns ∧ H' w' = some (.lst us) ∧ Tups K H' us (wants a) ∧ H' d = some (.lst ds') ∧ Good ns (wants a) ∧ ns.length ≤ 16 ∧
        ds'.length + mu ns (wants a) ≤ 32 ∧ Kp [l, d] H H' ∧ m = mu ns (wants a), ⟨_, names a, vs, ds, rfl, hp, hl, ht, hw, htw, hd, G, hl16, ?_, Kp.refl _ _, rfl⟩, ?_⟩
      · rw [hds.len, List.length_reverse]
        exact hdl
      rintro m σ H1 ⟨ns, vs1, ds1, rfl, hp1, hl1, ht1, hw1, htw1, hd1, G1, h161, hm1, k1, rfl⟩
      refine ⟨_, rfl, p, C, dx, _, _, rfl, hp1, T.cl, T.nN, ff_names _ _ _, _, rfl, p, C, dx, _, _, rfl, hp1, T.cl, T.nW, ff_wanted _ _ _, _, _, Dp.lst (SqL.of hl1) (dp_names ht1), Dp.lst (SqL.of hw1) (dp_names htw1), shaped_names _, shaped_names _, _, rfl, ?_⟩
      rw [show PyData.eqv (.list (ns.map nameD)) (.list ((wants a).map nameD)) = decide (ns = wants a) from eqv_names _ _]
      by_cases q1 : ns = wants a
      · rw [decide_eq_true q1]
        refine iteF ⟨_, rfl, p, dx, _, rfl, hp1, ff_no _ _ _ (by decide +kernel) (by decide +kernel) (by decide +kernel), p, l, d, dx, _, rfl, hp1, fun d' H2 h1 h2 h3 h4 => ?_⟩
        have hld' : l ≠ d' := ne_of_none hl1 h1
        have hl2 := h4 _ _ hl1 (by simp; exact hpl.symm)
        have m1 : ∀ c ∈ [p], Mob H1 c := fun c hc => by rw [List.mem_singleton.mp hc]; exact .inr ⟨_, _, _, hp1⟩
        rw [q1] at ht1
        refine k [p, l, d'] H2 (idle_at (H := H1) (finish_okA O hbz) rfl h2 hl2 (ht1.kp h4 m1) h3 hld') (fun c hc => ?_) ((k1.mono (by intro c hc; simp at hc; rcases hc with rfl | rfl <;> simp)).trans (h4.mono (by intro c hc; simp at hc; simp [hc])))
        simp at hc
        rcases hc with rfl | rfl | rfl
        · exact .inl (by simp)
        · exact .inl (by simp)
        · exact .inr (k1.fresh h1 fun c hc => by
            simp at hc
            rcases hc with rfl | rfl
            · exact ⟨_, hl1⟩
            · exact ⟨_, hd1⟩)
      · rw [decide_eq_false q1]
        cases e : Ks334.next (ns.zip (wants a)) with
        | none => exact absurd ((next_none_iff G1.len).mp e) q1
        | some z =>
          obtain ⟨g, x⟩ := z
          have N := next_nx G1 e
          obtain ⟨n, t, z1, z2, _, _⟩ := N.at_
          refine iteT ⟨_, fun σ' H' n => n, ?_⟩
          refine ⟨_, rfl, p, dx, _, rfl, hp1, ff_no _ _ _ (by decide +kernel) (by decide +kernel) (by decide +kernel), p, l, d, w', dx, us, vs1, ds1, ns, wants a, g, x, n, rfl, hp1, hl1, ht1, hw1, htw1, hd1, hld, hwl, hwd, G1.len, h161, by omega, e, z1, fun u o q H2 hu2 ho2 hq2 hl2 hd2 k2 => ?_⟩
          have m1 : ∀ c ∈ [l, d], Mob H1 c := fun c hc => by
            simp at hc
            rcases hc with rfl | rfl
            · exact .inl ⟨_, hl1⟩
            · exact .inl ⟨_, hd1⟩
          refine ⟨_, N.mu, ns.set g x, vs1.set g u, ds1 ++ [.ref q], rfl, k2 _ _ hp1 (by simp [hpl, hpd]), hl2, (ht1.kp k2 m1).set g hu2, k2 _ _ hw1 (by simp [hwl, hwd]), htw1.kp k2 m1, hd2, N.good, by rw [List.length_set]; exact h161, ?_, k1.trans k2, rfl⟩
          have := N.mu
          rw [List.length_append, List.length_singleton]
          omega
end
end Rf
end
section
set_option Elab.async false
set_option linter.all false
set_option maxRecDepth 100000
set_option maxHeartbeats 4000000
namespace Rf
open PySem PySem.Spec PyProof.Rows L2
open Ks334 (Bytes isSign okName BETWEEN)
open Ks336 (Abs Done names act stepped)
/-- the request: a list that is never written -/
def ReqAt (K : PySem.W.Frag) (H : Hp) (a : Addr) (xs : List V) : Prop :=
  (∃ o, H a = some (.frz o (.lst xs))) ∨ ∃ (o : Obj) (its : Array Value) (n : Nat), K.lookup a = some o ∧ o.cls = .type "list" ∧ o.dict = none ∧ o.data = .seq its n ∧ its.size ≤ sizeLine ∧ Vals xs its.toList
theorem ReqAt.sq {K : PySem.W.Frag} {H : Hp} {a : Addr} {xs : List V} (h : ReqAt K H a xs) : SqL K H a xs := by
  rcases h with h | h
  · exact .inl (.inr h)
  · exact .inr h
theorem ReqAt.kp {K : PySem.W.Frag} {F : List Addr} {H H' : Hp} {a : Addr} {xs : List V} (h : ReqAt K H a xs) (s : Kp F H H') (hm : ∀ b ∈ F, Mob H b) : ReqAt K H' a xs := by
  rcases h with ⟨o, h⟩ | h
  · refine .inl ⟨o, s _ _ h fun q => ?_⟩
    rcases hm a q with ⟨ys, r⟩ | ⟨C, dx, fs, r⟩
    · rw [h] at r; cases r
    · rw [h] at r; cases r
  · exact .inr h
theorem ReqAt.same {K : PySem.W.Frag} {H H' : Hp} {a : Addr} {xs : List V} (h : ReqAt K H a xs) (s : Same H H') : ReqAt K H' a xs := h.kp (F := []) s.kp (by simp)
theorem ReqAt.of {K : PySem.W.Frag} {H : Hp} {a : Addr} {xs : List V} (hO : OnlyF H) (h : SqL K H a xs) : ReqAt K H a xs := by
  rcases h with (h | h) | h
  · rcases hO a with q | ⟨o, u, q⟩
    · rw [h] at q; cases q
    · rw [h] at q; cases q
  · exact .inl h
  · exact .inr h
/-- answer's: one call is read and done; its numbers stand in a new list -/
def spAnswer (K : PySem.W.Frag) (CF CR : Addr) : Sp := fun vs H Q _ => ∃ (pf pr ca : Addr) (F : List Addr) (a : Abs) (i : Nat) (ns rest : List Int) (c : Cl), vs = [.ref pf, .ref pr] ∧ FolderAt K CF H pf F a ∧ ReaderAt CR H pr ca i ∧ ReqAt K H ca (ns.map V.int) ∧
  ns.drop i = c.flat ++ rest ∧ c.small ∧ ns.length ≤ 31000 ∧ pr ∉ F ∧
  ∀ (N : Addr) (F' : List Addr) (H' : Hp), H' N = some (.lst ((ansOf (act a c.spec).2).map V.int)) → (N ∈ pr :: F ∨ H N = none) → FolderAt K CF H' pf F' (act a c.spec).1 → (∀ b ∈ F', b ∈ F ∨ H b = none) → N ∉ F' → ReaderAt CR H' pr ca (i + c.flat.length) → Kp (pr :: F) H H' → Q (.ref N) H'
def spAnswers (K : PySem.W.Frag) : Sp := fun vs H Q _ => ∃ (a : Addr) (ns : List Int) (ks : List Cl), vs = [.ref a] ∧ ReqAt K H a (ns.map V.int) ∧ ns = flats ks ∧ (∀ k ∈ ks, k.small) ∧ ns.length ≤ 31000 ∧ (PyFlat.told (outs {} ks)).length ≤ 1005000 ∧
  ∀ (H' : Hp) (p : Addr), H' p = some (.lst ((PyFlat.told (outs {} ks)).map V.int)) → Q (.ref p) H'
theorem flat_ne (c : Cl) : c.flat ≠ [] := by cases c <;> exact fun h => nomatch h
theorem told_cons (a : Abs) (c : Cl) (cs : List Cl) : PyFlat.told (outs a (c :: cs)) = (((ansOf (act a c.spec).2).length : Nat) : Int) :: (ansOf (act a c.spec).2 ++ PyFlat.told (outs (act a c.spec).1 cs)) := rfl
section
variable {P : Program} {w : World} {K : PySem.W.Frag} {mg : Str → Option Value} {base : Heap}
theorem scAnswers : FnScope ["calls", "folder", "reader", "given", "numbers"] ["calls"] (defScope sAnswers) := ⟨rfl, rfl, rfl, by decide +kernel, rfl, by decide +kernel, by decide +kernel⟩
theorem ok_answers {f CF CR : Addr} {fd : FuncData} {kA : Nat} (F : Fun K "answers" "answers" sAnswers f fd) (TB : TxB mg) (TR : TxR K CR) (cF : Cn P w K mg base "Folder" CF ["self"] 1 (spFInit CF)) (cR : Cn P w K mg base "Reader" CR ["self", "numbers"] 1 (spRInit CR))
    (cE : Cm P w K mg base CR "at_end" ["self"] 1 (spREnd K CR)) (cA : Ca P w K mg base "answer" ["folder", "reader"] kA (spAnswer K CF CR)) (hkA : kA ≤ 20) : FnOk P w K mg base CX0 21 f fd ["calls"] (spAnswers K) := by
  refine F.ok scAnswers (fun vs H Q E h => ?_) (fun cdv A outer s H vs Q E hr h => ?_)
  · obtain ⟨a, ns, ks, rfl, _⟩ := h
    rfl
  · obtain ⟨ca, ns, ks, rfl, hQ, hns, hsm, hn31, hbig, k⟩ := h
    refine ⟨_, pss_cons (ps_set (i := 1) scAnswers.nd rfl (Or.inl rfl) (pe_cn0 cF hr)) (pss_cons (ps_set (i := 2) scAnswers.nd rfl (Or.inl rfl) (pe_cn cR hr (pa_cons (pv 0) pa_nil)))
      (pss_cons (ps_set (i := 3) scAnswers.nd rfl (Or.inl rfl) (pe_lst pa_nil))
      (pss_cons (ps_while PassesOwn.never (pt_not (pt_val (pe_cm0 cE TR.cl hr (pv 2))))
        (pss_cons (ps_set (i := 4) scAnswers.nd rfl (Or.inl rfl) (pe_ca cA hr (pa_cons (pv 1) (pa_cons (pv 2) pa_nil)) hkA))
        (pss_cons (ps_expr (pe_bm PySem.F.plainAttrs_list PySem.F.slot_list_append PySem.F.type_list_append mt_append (pv 3) (pa_cons (pe_callB call_len_seq (by rfl) TB.len PySem.boot_len (pa_cons (pv 4) pa_nil)) pa_nil)))
        (pss_one (ps_expr (pe_bm PySem.F.plainAttrs_list PySem.F.slot_list_extend PySem.F.type_list_extend mt_extend (pv 3) (pa_cons (pv 4) pa_nil)))))))
      (pss_one (ps_ret (pv 3)))))), ?_⟩
    -- folder = Folder()
    intro x dx nx ndx nex
    refine ⟨x, dx, rfl, upd_same, fun l d H1 hl0 hd0 hld hx1 hl1 hd1 k1 => ⟨rfl, ?_⟩⟩
    have s1 : Same H H1 := fun b o e => k1 b o (by rw [upd_ne (ne_of_none e nx), upd_ne (ne_of_none e ndx)]; exact e) (by simp; exact ne_of_none e nx)
    have FA1 : FolderAt K CF H1 x [x, l, d] {} := ⟨okA_new, l, d, .non, ⟨⟨dx, hx1⟩, ⟨[], hl1, tups_nil⟩, ⟨[], hd1, dones_nil⟩, hld⟩, .inl ⟨rfl, rfl, rfl⟩⟩
    -- reader = Reader(calls)
    refine ⟨_, rfl, fun y dy ny ndy ney => ⟨y, ca, dy, rfl, upd_same, fun H2 R2 k2 => ⟨rfl, ?_⟩⟩⟩
    have s2 : Same H1 H2 := fun b o e => k2 b o (by rw [upd_ne (ne_of_none e ny), upd_ne (ne_of_none e ndy)]; exact e) (by simp; exact ne_of_none e ny)
    have mobF := FA1.mob
    have hyF : y ∉ [x, l, d] := fun q => by
      rcases mobF y q with ⟨_, z⟩ | ⟨_, _, _, z⟩
      · rw [ny] at z; cases z
      · rw [ny] at z; cases z
    -- given = []
    refine ⟨Nat.zero_le _, fun g hg => ?_⟩
    have s3 : Same H2 (upd H2 g (.lst [])) := same_new hg
    obtain ⟨dy2, hy2⟩ := id R2
    have hyg : y ≠ g := ne_of_none hy2 hg
    have hgF : g ∉ [x, l, d] := fun q => by
      rcases (FA1.same s2).mob g q with ⟨_, z⟩ | ⟨_, _, _, z⟩
      · rw [hg] at z; cases z
      · rw [hg] at z; cases z
    refine ⟨fun m σ H' => ∃ (F : List Addr) (a : Abs) (i : Nat) (gs : List Int) (rest : List Cl) (v4 : Option V), σ = [some (.ref ca), some (.ref x), some (.ref y), some (.ref g), v4] ∧ FolderAt K CF H' x F a ∧ ReaderAt CR H' y ca i ∧ ReqAt K H' ca (ns.map V.int) ∧ H' g = some (.lst (gs.map V.int)) ∧
      y ∉ F ∧ g ∉ F ∧ ns.drop i = flats rest ∧ i ≤ ns.length ∧ gs ++ PyFlat.told (outs a rest) = PyFlat.told (outs {} ks) ∧ (∀ k ∈ rest, k.small) ∧ m = rest.length,
      ⟨_, [x, l, d], {}, 0, [], ks, none, rfl, (FA1.same s2).same s3, ?_, ((hQ.same s1).same s2).same s3, upd_same, hyF, hgF, by rw [List.drop_zero]; exact hns, Nat.zero_le _, rfl, hsm, rfl⟩, ?_⟩
    · exact ⟨dy2, s3 _ _ hy2⟩
    rintro m σ H4 ⟨F4, a, i, gs, rest, v4, rfl, FA, R4, hQ4, hg4, hyF4, hgF4, hdr, hi, htold, hsm4, rfl⟩
    obtain ⟨dy4, hy4⟩ := id R4
    refine ⟨_, rfl, y, dy4, _, rfl, hy4, rF_no _ _ (by decide +kernel) (by decide +kernel), y, ca, i, ns, rfl, R4, hQ4.sq, _, rfl, ?_⟩
    cases rest with
    | nil =>
      have hi2 : i = ns.length := by
        have := congrArg List.length hdr
        rw [List.length_drop] at this
        have h0 : (flats ([] : List Cl)).length = 0 := rfl
        omega
      rw [decide_eq_true hi2]
      refine iteF ⟨_, rfl, ?_⟩
      have e0 : gs = PyFlat.told (outs {} ks) := by
        rw [← htold]
        show gs = gs ++ []
        rw [List.append_nil]
      rw [e0] at hg4
      exact k H4 g hg4
    | cons c cs =>
      have hdr2 : ns.drop i = c.flat ++ flats cs := hdr
      have hfl : 0 < c.flat.length := List.length_pos_iff.mpr (flat_ne c)
      have hlen : c.flat.length + (flats cs).length = ns.length - i := by
        rw [← List.length_append, ← hdr2, List.length_drop]
      have hi2 : ¬ i = ns.length := by omega
      rw [decide_eq_false hi2]
      refine iteT ⟨_, fun σ' H' n => n, ?_⟩
      refine ⟨_, rfl, _, rfl, x, y, ca, F4, a, i, ns, flats cs, c, rfl, FA, R4, hQ4, hdr2, hsm4 c (List.mem_cons_self ..), hn31, hyF4, fun N F5 H5 hN5 hN0 FA5 hF5 hNF5 R5 k5 => ?_⟩
      have hgne : g ∉ y :: F4 := by
        rw [List.mem_cons, not_or]
        exact ⟨fun q => (ne_of hy4 hg4 (by intro z; cases z)) q.symm, hgF4⟩
      have hg5 := k5 _ _ hg4 hgne
      have hgN : N ≠ g := fun q => by
        rcases hN0 with z | z
        · rw [q] at z; exact hgne z
        · rw [q, hg4] at z; cases z
      have hyF5 : y ∉ F5 := fun q => by
        rcases hF5 y q with z | z
        · exact hyF4 z
        · rw [hy4] at z; cases z
      have hgF5 : g ∉ F5 := fun q => by
        rcases hF5 g q with z | z
        · exact hgF4 z
        · rw [hg4] at z; cases z
      have mob4 : ∀ b ∈ y :: F4, Mob H4 b := fun b hb => by
        rcases List.mem_cons.mp hb with rfl | hb
        · exact .inr ⟨_, _, _, hy4⟩
        · exact FA.mob b hb
      have hQ5 := hQ4.kp k5 mob4
      obtain ⟨dy5, hy5⟩ := id R5
      have hyg5 : y ≠ g := ne_of hy5 hg5 (by intro z; cases z)
      have hlt := congrArg List.length htold
      rw [List.length_append, told_cons, List.length_cons, List.length_append] at hlt
      have hNlen : ((ansOf (act a c.spec).2).map V.int).length = (ansOf (act a c.spec).2).length := List.length_map _
      refine ⟨_, rfl, .inl ⟨rfl, _, SqL.of hg5⟩, _, rfl, N, _, rfl, .inl (SqL.of hN5), g, _, _, rfl, rfl, hg5, by rw [List.length_map, line24]; omega, ?_⟩
      have hN6 : upd H5 g (.lst (gs.map V.int ++ [V.int ((((ansOf (act a c.spec).2).map V.int).length : Nat) : Int)])) N = some (.lst ((ansOf (act a c.spec).2).map V.int)) := by
        rw [upd_ne hgN]
        exact hN5
      refine ⟨_, rfl, .inl ⟨rfl, _, SqL.of upd_same⟩, _, rfl, g, N, _, _, rfl, rfl, upd_same, hN6, ?_, ?_⟩
      · rw [List.length_append, List.length_map, List.length_singleton, hNlen, line24]
        omega
      rw [upd_upd, hNlen]
      have k6 : Kp [g] H5 (upd H5 g (.lst (gs.map V.int ++ [V.int (((ansOf (act a c.spec).2).length : Nat) : Int)] ++ (ansOf (act a c.spec).2).map V.int))) := kp_upd (by simp)
      have m6 : ∀ b ∈ [g], Mob H5 b := fun b hb => by rw [List.mem_singleton.mp hb]; exact .inl ⟨_, hg5⟩
      refine ⟨cs.length, Nat.lt_succ_self _, F5, (act a c.spec).1, i + c.flat.length, gs ++ ((((ansOf (act a c.spec).2).length : Nat) : Int) :: ansOf (act a c.spec).2), cs, _, rfl, FA5.other k6 (fun b hb => by rw [List.mem_singleton.mp hb]; exact hgF5) m6,
        ⟨dy5, k6 _ _ hy5 (by simp; exact hyg5)⟩, hQ5.kp k6 m6, ?_, hyF5, hgF5, ?_, by omega, ?_, fun q hq => hsm4 q (List.mem_cons_of_mem _ hq), rfl⟩
      · rw [upd_same, List.map_append, List.map_cons, List.append_assoc]
        rfl
      · rw [← List.drop_drop, hdr2, List.drop_left]
      · rw [← htold, told_cons, List.append_assoc]
        rfl
end
end Rf
end
section
set_option Elab.async false
set_option linter.all false
set_option maxRecDepth 100000
set_option maxHeartbeats 4000000
namespace L2
open PySem PySem.Spec PyProof.Rows
section
variable {X : Cx}
/-- where a thing stands first in a list of data -/
def rIndexD (K : PySem.W.Frag) : V → List V → Hp → VK → Prop := fun x xs H Q => ∃ (y : V) (ds : List PyData) (d z : PyData) (j : Nat), xs = [y] ∧ Dp K H x (.list ds) ∧ Dp K H y d ∧ PyData.canLayAll0 ds = true ∧ d.canLay0 = true ∧ d.depth ≤ 8 ∧ ds.length ≤ 1000 ∧ ds[j]? = some z ∧ PyData.eqv z d = true ∧
  (∀ (m : Nat) (z' : PyData), m < j → ds[m]? = some z' → PyData.eqv z' d = false) ∧ Q (.int (j : Nat)) H
theorem mt_indexD (hu : X.A.units + 64 < cLine) : MtR X "list.index" (rIndexD X.K) := by
  intro pins s σ H x xs v us Q I rx rxs h
  obtain ⟨y, ds, d, z, j, rfl, hx, hy, lx, ly, dp, hn, hz, hzj, hno, q⟩ := h
  obtain ⟨u, rfl, ru⟩ := rxs.one
  obtain ⟨as, r1⟩ := Dp.reads I _ x v hx rx
  obtain ⟨bs, r2⟩ := Dp.reads I d y u hy ru
  have hd8 := Nat.min_le_right (PyData.depthAll ds) d.depth
  cases r1 with
  | @list a o vs n _ as h1 h2 h3 h4 =>
    obtain ⟨cls, dd, data, sl⟩ := o
    simp only at h2 h3
    subst h2 h3
    have hm := SeqAt.readsAll_map ds _ _ lx h4
    have hlen : vs.size = ds.length := by rw [← hm, List.length_map, Array.length_toList]
    have hat : ∀ (m : Nat) (hm' : m < vs.size), ds[m]? = some (SeqAt.readOf s.heap vs[m]) := fun m hm' => by
      rw [← hm, List.getElem?_map, Array.getElem?_toList, Array.getElem?_eq_getElem hm']
      rfl
    have hj : j < vs.size := by rw [hlen]; exact (List.getElem?_eq_some_iff.mp hz).1
    refine call_meets PySem.F.slot_list_index ⟨_, h1, rfl⟩ PySem.F.entry_list_index (PySem.F.args_list_index_2 _ _)
      (SeqAt.list_indexAt a vs n dd sl u (fun w => PyData.eqv (SeqAt.readOf s.heap w) d) j hj (by omega) ?_ ?_) ⟨h1, SeqAt.items_eqAt h4 r2 lx ly (by omega), ?_⟩
    · have e := hat j hj
      rw [hz] at e
      show PyData.eqv (SeqAt.readOf s.heap vs[j]) d = true
      rw [← Option.some.inj e]
      exact hzj
    · intro m hm' hmj
      exact hno m _ hmj (hat m hm')
    · exact ⟨.int (j : Nat), H, I.tok _, ⟨_, rfl⟩, q⟩
end
end L2
namespace Rf
open PySem PySem.Spec PyProof.Rows L2
open Ks334 (Bytes isSign okName BETWEEN)
open Ks336 (Abs Done names act stepped)
structure TxK (mg : Str → Option Value) : Prop where
  k0 : IntC mg "BEGIN" 0
  k1 : IntC mg "ADD" 1
  k2 : IntC mg "WISH" 2
  k3 : IntC mg "STEP" 3
  k4 : IntC mg "FINISH" 4
  k5 : IntC mg "BACK" 5
  k6 : IntC mg "ALL" 6
  k7 : IntC mg "NAME" 7
  k8 : IntC mg "FIND" 8
  k9 : IntC mg "STATE" 9
  nx : IntC mg "NOT_THERE" (-2)
section
variable {K : PySem.W.Frag} {C : Addr} {H H' : Hp}
theorem Dones.last {ds : List V} {dd : List Done} {e : Done} (h : Dones K H ds (dd ++ [e])) : ∃ q u, ds[ds.length - 1]? = some (.ref q) ∧ SqT K H q [.int (e.file : Nat), u] ∧ TupAt K H u e.old ∧ Dones K H ds.dropLast dd := by
  have hl := h.len
  rw [List.length_append, List.length_singleton] at hl
  have hv : ds[ds.length - 1]? = some (ds[ds.length - 1]'(by omega)) := List.getElem?_eq_getElem (by omega)
  have he : (dd ++ [e])[ds.length - 1]? = some e := by
    rw [List.getElem?_append_right (by omega), show ds.length - 1 - dd.length = 0 by omega]
    rfl
  obtain ⟨q, u, z1, z2, z3⟩ := h.at_ _ _ _ hv he
  refine ⟨q, u, by rw [hv, z1], z2, z3, ?_, fun i v m e1 e2 => ?_⟩
  · rw [List.length_dropLast]
    omega
  · have hi : i < dd.length := (List.getElem?_eq_some_iff.mp e2).1
    refine h.at_ i v m ?_ ?_
    · rw [List.getElem?_dropLast, if_pos (by omega)] at e1
      exact e1
    · rw [List.getElem?_append_left hi]
      exact e2
theorem same_none {b : Addr} (s : Same H H') (h : H' b = none) : H b = none := by
  cases z : H b with
  | none => rfl
  | some o => rw [s _ _ z] at h; cases h
end
section
variable {P : Program} {w : World} {K : PySem.W.Frag} {mg : Str → Option Value} {base : Heap}
def spLast (K : PySem.W.Frag) (C : Addr) : Sp := fun vs H Q _ => ∃ (p l d q dx : Addr) (wv u : V) (vs' ds : List V) (f : Nat), vs = [.ref p] ∧ H p = some (.ins C dx (ff l wv d)) ∧ H l = some (.lst vs') ∧ H d = some (.lst ds) ∧ l ≠ d ∧
  ds[ds.length - 1]? = some (.ref q) ∧ SqT K H q [.int (f : Nat), u] ∧ f < vs'.length ∧
  ∀ H' : Hp, H' l = some (.lst (vs'.set f u)) → H' d = some (.lst ds.dropLast) → Kp [l, d] H H' → Q .non H'
theorem scLast : FnScope ["self", "renaming"] ["self"] (defScope sLast) := ⟨rfl, rfl, rfl, by decide +kernel, rfl, by decide +kernel, by decide +kernel⟩
theorem ok_last {f C : Addr} {fd : FuncData} (F : Fun K "take_back_last" "Folder.take_back_last" sLast f fd) (T : TxFo K C) : FnOk P w K mg base CX0 1 f fd ["self"] (spLast K C) := by
  refine F.ok scLast (fun vs H Q E h => ?_) (fun cdv A outer s H vs Q E hr h => ?_)
  · obtain ⟨p, l, d, q, dx, wv, u, vs', ds, g, rfl, _⟩ := h
    rfl
  · obtain ⟨p, l, d, q, dx, wv, u, vs', ds, g, rfl, hp, hl, hd, hld, hlast, hq, hg, k⟩ := h
    refine ⟨_, pss_cons (ps_set (i := 1) scLast.nd rfl (Or.inl rfl) (pe_bm0 PySem.F.plainAttrs_list PySem.F.slot_list_pop PySem.F.type_list_pop mt_pop (pe_fld (pv 0) rfl)))
      (pss_one (ps_asg (pe_ix ix_tup (pv 1) pe_int (fun _ _ => rfl)) (pg_sub (pe_fld (pv 0) rfl) (pe_ix ix_tup (pv 1) pe_int (fun _ _ => rfl)) set_list))), ?_⟩
    have hpd : p ≠ d := ne_of hp hd (by intro z; cases z)
    have k1 : Kp [l, d] H (upd H d (.lst ds.dropLast)) := kp_upd (by simp)
    have m0 : ∀ c ∈ [l, d], Mob H c := fun c hc => by
      simp at hc
      rcases hc with rfl | rfl
      · exact .inl ⟨_, hl⟩
      · exact .inl ⟨_, hd⟩
    have hq1 := k1.seqT m0 hq
    refine ⟨_, rfl, p, C, dx, _, _, rfl, hp, T.cl, T.nD, ff_done _ _ _, .inl ⟨rfl, _, SqL.of hd⟩, d, ds, _, rfl, rfl, hd, hlast, ?_⟩
    refine ⟨_, rfl, q, _, _, _, rfl, rfl, hq1, at_of (j := 1) rfl rfl, _, rfl, p, C, dx, _, _, rfl, (by rw [upd_ne hpd]; exact hp), T.cl, T.nN, ff_names _ _ _, _, rfl, q, _, _, _, rfl, rfl, hq1, at_of (j := 0) rfl rfl, l, vs', _, g, rfl, rfl, (by rw [upd_ne hld]; exact hl), ixN_nat hg, ?_⟩
    exact k _ upd_same (by rw [upd_ne hld.symm]; exact upd_same) (k1.trans (kp_upd (by simp)))
def spBack (K : PySem.W.Frag) (C : Addr) : Sp := fun vs H Q _ => ∃ (p : Addr) (F : List Addr) (a : Abs), vs = [.ref p] ∧ FolderAt K C H p F a ∧ Post K C H p F (act a .back) Q
theorem scBack : FnScope ["self"] ["self"] (defScope sBack) := ⟨rfl, rfl, rfl, by decide +kernel, rfl, by decide +kernel, by decide +kernel⟩
theorem ok_back {f C : Addr} {fd : FuncData} (F : Fun K "back" "Folder.back" sBack f fd) (T : TxFo K C) (TB : TxB mg) (TC : TxC mg) (cE : Cm P w K mg base C "end_wish" ["self"] 1 (spEnds C)) (cL : Cm P w K mg base C "take_back_last" ["self"] 1 (spLast K C)) : FnOk P w K mg base CX0 2 f fd ["self"] (spBack K C) := by
  refine F.ok scBack (fun vs H Q E h => ?_) (fun cdv A outer s H vs Q E hr h => ?_)
  · obtain ⟨p, F, a, rfl, _⟩ := h
    rfl
  · obtain ⟨p, F, a, rfl, FA, k⟩ := h
    obtain ⟨O, l, d, wv, ⟨⟨dx, hp⟩, ⟨vs, hl, ht⟩, ⟨ds, hd, hds⟩, hld⟩, hF⟩ := id FA
    refine ⟨_, pss_cons (ps_if (pt_cmpR op_isN (pe_fld (pv 0) rfl) pe_non (nomark _)) (pss_one (ps_ret (pe_gint TC.nw))) pss_nil)
      (pss_cons (ps_if (pt_cmpR op_eq (pe_callB call_len_seq (by rfl) TB.len PySem.boot_len (pa_cons (pe_fld (pv 0) rfl) pa_nil)) pe_int (nomark _)) (pss_cons (ps_expr (pe_cm0 cE T.cl hr (pv 0))) (pss_one (ps_ret pe_int))) pss_nil)
      (pss_cons (ps_expr (pe_cm0 cL T.cl hr (pv 0))) (pss_one (ps_ret pe_int)))), ?_⟩
    rcases hF with ⟨hbz, rfl, rfl⟩ | ⟨hbz, w', rfl, ⟨us, hw, htw, hwl, hwd⟩, rfl⟩
    · refine ⟨_, rfl, p, C, dx, _, _, rfl, hp, T.cl, T.nW, ff_wanted _ _ _, rfl, _, rfl, iteT ?_⟩
      exact k.stay (act_back_no hbz) FA (Same.refl H)
    · refine ⟨_, rfl, p, C, dx, _, _, rfl, hp, T.cl, T.nW, ff_wanted _ _ _, rfl, _, rfl, iteF ?_⟩
      have hpl : p ≠ l := ne_of hp hl (by intro z; cases z)
      have hpd : p ≠ d := ne_of hp hd (by intro z; cases z)
      have hdl := hds.len
      rw [List.length_reverse] at hdl
      refine ⟨_, rfl, p, C, dx, _, _, rfl, hp, T.cl, T.nD, ff_done _ _ _, d, ds, rfl, .inl (SqL.of hd), rfl, _, rfl, ?_⟩
      rw [show decide (V.int ((ds.length : Nat) : Int) = V.int 0) = decide (ds.length = 0) from dec_nat _ 0]
      cases hdn : a.done with
      | nil =>
        rw [hdn] at hdl
        rw [decide_eq_true (show ds.length = 0 from hdl)]
        obtain ⟨ea, O'⟩ := act_back_nil O hbz hdn
        rw [ea] at k
        refine iteT ⟨_, rfl, p, dx, _, rfl, hp, ff_no _ _ _ (by decide +kernel) (by decide +kernel) (by decide +kernel), p, l, d, dx, _, rfl, hp, fun d' H2 h1 h2 h3 h4 => ?_⟩
        have hld' : l ≠ d' := ne_of_none hl h1
        have hl2 := h4 _ _ hl (by simp; exact hpl.symm)
        have m1 : ∀ c ∈ [p], Mob H c := fun c hc => by rw [List.mem_singleton.mp hc]; exact .inr ⟨_, _, _, hp⟩
        refine k [p, l, d'] H2 (idle_at (H := H) O' rfl h2 hl2 (ht.kp h4 m1) h3 hld') (fun c hc => ?_) (h4.mono (by intro c hc; simp at hc; simp [hc]))
        simp at hc
        rcases hc with rfl | rfl | rfl
        · exact .inl (by simp)
        · exact .inl (by simp)
        · exact .inr h1
      | cons e r =>
        rw [hdn] at hdl
        rw [decide_eq_false (show ¬ ds.length = 0 by rw [hdl]; exact Nat.succ_ne_zero _)]
        obtain ⟨ea, O', hfl⟩ := act_back_cons O hbz hdn
        rw [ea] at k
        rw [hdn, List.reverse_cons] at hds
        obtain ⟨q, u, hlast, hq, hu, hds'⟩ := hds.last
        refine iteF ⟨_, rfl, p, dx, _, rfl, hp, ff_no _ _ _ (by decide +kernel) (by decide +kernel) (by decide +kernel), p, l, d, q, dx, _, u, vs, ds, e.file, rfl, hp, hl, hd, hld, hlast, hq, by rw [ht.len]; exact hfl, fun H1 hl1 hd1 k1 => ?_⟩
        have m0 : ∀ c ∈ [l, d], Mob H c := fun c hc => by
          simp at hc
          rcases hc with rfl | rfl
          · exact .inl ⟨_, hl⟩
          · exact .inl ⟨_, hd⟩
        have hp1 := k1 _ _ hp (by simp [hpl, hpd])
        have hw1 := k1 _ _ hw (by simp [hwl, hwd])
        have hlen : ((names a).set e.file e.old).length = (wants a).length := by
          rw [List.length_set]
          exact ((O.busy hbz).1).len
        refine k [p, l, d, w'] H1 ⟨O', l, d, .ref w', ⟨⟨dx, hp1⟩, ⟨_, hl1, ?_⟩, ⟨_, hd1, hds'.kp k1 m0⟩, hld⟩, .inr ⟨rfl, w', rfl, ⟨us, hw1, ?_, hwl, hwd⟩, rfl⟩⟩ (fun c hc => .inl hc) (k1.mono (by intro c hc; simp at hc; rcases hc with rfl | rfl <;> simp))
        · rw [names_zip hlen]
          exact (ht.kp k1 m0).set e.file (hu.kp k1 m0)
        · rw [wants_zip hlen]
          exact htw.kp k1 m0
def spAll (K : PySem.W.Frag) (C : Addr) : Sp := fun vs H Q _ => ∃ (p : Addr) (F : List Addr) (a : Abs), vs = [.ref p] ∧ FolderAt K C H p F a ∧ Post K C H p F (act a .allBack) Q
theorem scAll : FnScope ["self"] ["self"] (defScope sAll) := ⟨rfl, rfl, rfl, by decide +kernel, rfl, by decide +kernel, by decide +kernel⟩
theorem ok_all {f C : Addr} {fd : FuncData} (F : Fun K "take_back_all" "Folder.take_back_all" sAll f fd) (T : TxFo K C) (TB : TxB mg) (TC : TxC mg) (cE : Cm P w K mg base C "end_wish" ["self"] 1 (spEnds C)) (cL : Cm P w K mg base C "take_back_last" ["self"] 1 (spLast K C)) : FnOk P w K mg base CX0 2 f fd ["self"] (spAll K C) := by
  refine F.ok scAll (fun vs H Q E h => ?_) (fun cdv A outer s H vs Q E hr h => ?_)
  · obtain ⟨p, F, a, rfl, _⟩ := h
    rfl
  · obtain ⟨p, F, a, rfl, FA, k⟩ := h
    obtain ⟨O, l, d, wv, ⟨⟨dx, hp⟩, ⟨vs, hl, ht⟩, ⟨ds, hd, hds⟩, hld⟩, hF⟩ := id FA
    refine ⟨_, pss_cons (ps_if (pt_cmpR op_isN (pe_fld (pv 0) rfl) pe_non (nomark _)) (pss_one (ps_ret (pe_gint TC.nw))) pss_nil)
      (pss_cons (ps_while PassesOwn.never (pt_cmpR op_gt (pe_callB call_len_seq (by rfl) TB.len PySem.boot_len (pa_cons (pe_fld (pv 0) rfl) pa_nil)) pe_int (nomark _)) (pss_one (ps_expr (pe_cm0 cL T.cl hr (pv 0)))))
      (pss_cons (ps_expr (pe_cm0 cE T.cl hr (pv 0)))
      (pss_one (ps_ret pe_int)))), ?_⟩
    rcases hF with ⟨hbz, rfl, rfl⟩ | ⟨hbz, w', rfl, ⟨us, hw, htw, hwl, hwd⟩, rfl⟩
    · refine ⟨_, rfl, p, C, dx, _, _, rfl, hp, T.cl, T.nW, ff_wanted _ _ _, rfl, _, rfl, iteT ?_⟩
      exact k.stay (act_all_no hbz) FA (Same.refl H)
    · refine ⟨_, rfl, p, C, dx, _, _, rfl, hp, T.cl, T.nW, ff_wanted _ _ _, rfl, _, rfl, iteF ?_⟩
      have G := (O.busy hbz).1
      have hpl : p ≠ l := ne_of hp hl (by intro z; cases z)
      have hpd : p ≠ d := ne_of hp hd (by intro z; cases z)
      obtain ⟨ea, O'⟩ := act_all_yes O hbz
      rw [ea] at k
      have eA : (⟨(names a).zip (wants a), a.done, true⟩ : Abs) = a := by rw [← files_eq, ← hbz]
      refine ⟨fun m σ H' => ∃ (ns : List Bytes) (dl : List Done) (vs' ds' : List V), σ = [some (.ref p)] ∧ H' p = some (.ins C dx (ff l (.ref w') d)) ∧ H' l = some (.lst vs') ∧ Tups K H' vs' ns ∧ H' d = some (.lst ds') ∧ Dones K H' ds' dl.reverse ∧
        OkA ⟨ns.zip (wants a), dl, true⟩ ∧ ns.length = (wants a).length ∧ ua ns dl = ua (names a) a.done ∧ Kp [l, d] H H' ∧ m = dl.length, ⟨_, names a, a.done, vs, ds, rfl, hp, hl, ht, hd, hds, by rw [eA]; exact O, G.len, rfl, Kp.refl _ _, rfl⟩, ?_⟩
      rintro m σ H1 ⟨ns, dl, vs1, ds1, rfl, hp1, hl1, ht1, hd1, hds1, O1, hlen1, hua, k1, rfl⟩
      have hdl := hds1.len
      rw [List.length_reverse] at hdl
      refine ⟨_, rfl, p, C, dx, _, _, rfl, hp1, T.cl, T.nD, ff_done _ _ _, d, ds1, rfl, .inl (SqL.of hd1), _, _, rfl, rfl, _, rfl, ?_⟩
      cases dl with
      | nil =>
        have h0 : ds1.length = 0 := hdl
        rw [h0]
        refine iteF ⟨_, rfl, p, dx, _, rfl, hp1, ff_no _ _ _ (by decide +kernel) (by decide +kernel) (by decide +kernel), p, l, d, dx, _, rfl, hp1, fun d' H2 h1 h2 h3 h4 => ?_⟩
        have hld' : l ≠ d' := ne_of_none hl1 h1
        have hl2 := h4 _ _ hl1 (by simp; exact hpl.symm)
        have m1 : ∀ c ∈ [p], Mob H1 c := fun c hc => by rw [List.mem_singleton.mp hc]; exact .inr ⟨_, _, _, hp1⟩
        have hns : ns = ua (names a) a.done := hua
        rw [hns] at ht1
        refine k [p, l, d'] H2 (idle_at (H := H1) O' rfl h2 hl2 (ht1.kp h4 m1) h3 hld') (fun c hc => ?_) ((k1.mono (by intro c hc; simp at hc; rcases hc with rfl | rfl <;> simp)).trans (h4.mono (by intro c hc; simp at hc; simp [hc])))
        simp at hc
        rcases hc with rfl | rfl | rfl
        · exact .inl (by simp)
        · exact .inl (by simp)
        · exact .inr (k1.fresh h1 fun c hc => by
            simp at hc
            rcases hc with rfl | rfl
            · exact ⟨_, hl1⟩
            · exact ⟨_, hd1⟩)
      | cons e r =>
        rw [decide_eq_true (show (0 : Int) < ((ds1.length : Nat) : Int) by rw [hdl, List.length_cons]; omega)]
        obtain ⟨_, O2, hfl⟩ := act_back_cons O1 rfl (d := e) (r := r) rfl
        rw [names_zip hlen1, wants_zip hlen1] at O2
        rw [names_zip hlen1] at hfl
        rw [List.reverse_cons] at hds1
        obtain ⟨q, u, hlast, hq, hu, hds2⟩ := hds1.last
        refine iteT ⟨_, fun σ' H' n => n, ?_⟩
        refine ⟨_, rfl, p, dx, _, rfl, hp1, ff_no _ _ _ (by decide +kernel) (by decide +kernel) (by decide +kernel), p, l, d, q, dx, _, u, vs1, ds1, e.file, rfl, hp1, hl1, hd1, hld, hlast, hq, by rw [ht1.len]; exact hfl, fun H2 hl2 hd2 k2 => ?_⟩
        have m1 : ∀ c ∈ [l, d], Mob H1 c := fun c hc => by
          simp at hc
          rcases hc with rfl | rfl
          · exact .inl ⟨_, hl1⟩
          · exact .inl ⟨_, hd1⟩
        exact ⟨_, Nat.lt_succ_self _, ns.set e.file e.old, r, vs1.set e.file u, ds1.dropLast, rfl, k2 _ _ hp1 (by simp [hpl, hpd]), hl2, (ht1.kp k2 m1).set e.file (hu.kp k2 m1), hd2, hds2.kp k2 m1, O2, by rw [List.length_set]; exact hlen1, hua, k1.trans k2, rfl⟩
def spNm (K : PySem.W.Frag) (C : Addr) : Sp := fun vs H Q _ => ∃ (p : Addr) (F : List Addr) (a : Abs) (i : Nat), vs = [.ref p, .int (i : Nat)] ∧ FolderAt K C H p F a ∧
  ∀ (N : Addr) (H' : Hp), H' N = some (.lst ((ansOf (act a (.name i)).2).map V.int)) → H N = none → Same H H' → Q (.ref N) H'
theorem scNm : FnScope ["self", "file", "name"] ["self", "file"] (defScope sNm) := ⟨rfl, rfl, rfl, by decide +kernel, rfl, by decide +kernel, by decide +kernel⟩
theorem ok_nm {f C : Addr} {fd : FuncData} (F : Fun K "name_now" "Folder.name_now" sNm f fd) (T : TxFo K C) (TB : TxB mg) (TK : TxK mg) : FnOk P w K mg base CX0 1 f fd ["self", "file"] (spNm K C) := by
  refine F.ok scNm (fun vs H Q E h => ?_) (fun cdv A outer s H vs Q E hr h => ?_)
  · obtain ⟨p, F, a, i, rfl, _⟩ := h
    rfl
  · obtain ⟨p, F, a, i, rfl, FA, k⟩ := h
    obtain ⟨O, l, d, wv, ⟨⟨dx, hp⟩, ⟨vs, hl, ht⟩, ⟨ds, hd, hds⟩, hld⟩, hF⟩ := id FA
    refine ⟨_, pss_cons (ps_if (pt_cmpR op_ge (pv 1) (pe_callB call_len_seq (by rfl) TB.len PySem.boot_len (pa_cons (pe_fld (pv 0) rfl) pa_nil)) (nomark _)) (pss_one (ps_ret (pe_lst (pa_cons (pe_gint TK.nx) pa_nil)))) pss_nil)
      (pss_cons (ps_set (i := 2) scNm.nd rfl (Or.inl rfl) (pe_ix ix_list (pe_fld (pv 0) rfl) (pv 1) (fun _ _ => rfl)))
      (pss_one (ps_ret (pe_op op_cat (pe_lst (pa_cons (pe_callB call_len_seq (by rfl) TB.len PySem.boot_len (pa_cons (pv 2) pa_nil)) pa_nil)) (pe_callTy call_list_of (by rfl) TB.list PyProof.Rows.boot_list (pa_cons (pv 2) pa_nil)))))), ?_⟩
    refine ⟨_, rfl, _, rfl, p, C, dx, _, _, rfl, hp, T.cl, T.nN, ff_names _ _ _, l, vs, rfl, .inl (SqL.of hl), _, _, rfl, rfl, _, rfl, ?_⟩
    by_cases hi : (names a).length ≤ i
    · rw [decide_eq_true (show ((vs.length : Nat) : Int) ≤ ((i : Nat) : Int) by rw [ht.len]; omega)]
      refine iteT ⟨(by show 1 ≤ sizeLine; decide), fun N hN => ?_⟩
      refine k N _ ?_ hN (same_new hN)
      rw [upd_same, act_name_no hi]
      rfl
    · rw [decide_eq_false (show ¬ ((vs.length : Nat) : Int) ≤ ((i : Nat) : Int) by rw [ht.len]; omega)]
      have hn : (names a)[i]? = some ((names a)[i]'(by omega)) := List.getElem?_eq_getElem (by omega)
      obtain ⟨o, ho, q, rfl, hq⟩ := ht.get hn
      have h16 := names_short O (List.mem_of_getElem? hn)
      refine iteF ⟨_, rfl, p, C, dx, _, _, rfl, hp, T.cl, T.nN, ff_names _ _ _, _, rfl, l, vs, _, _, rfl, rfl, SqL.of hl, at_of rfl ho, ?_⟩
      refine ⟨_, rfl, q, _, rfl, .inr hq, (by show 1 ≤ sizeLine; decide), fun p1 h1 => ?_⟩
      have s1 : Same H (upd H p1 (.lst [V.int (((tupV ((names a)[i]'(by omega))).length : Nat) : Int)])) := same_new h1
      refine ⟨_, rfl, q, _, rfl, .inr (s1.seqT hq), fun p2 h2 => ?_⟩
      have s2 := s1.trans (same_new (o := .lst (tupV ((names a)[i]'(by omega)))) h2)
      have hp12 : p1 ≠ p2 := ne_of_none upd_same h2
      refine ⟨p1, p2, _, _, rfl, rfl, (by rw [upd_ne hp12]; exact upd_same), upd_same, ?_, fun N hN => ?_⟩
      · rw [tupV_len, line24, List.length_singleton]
        omega
      · refine k N _ ?_ (same_none s2 hN) (s2.trans (same_new hN))
        rw [upd_same, act_name_yes hn, tupV_len]
        rfl
def spFind (K : PySem.W.Frag) (C : Addr) : Sp := fun vs H Q _ => ∃ (p b : Addr) (F : List Addr) (a : Abs) (n : Bytes), vs = [.ref p, .ref b] ∧ FolderAt K C H p F a ∧ SqT K H b (tupV n) ∧ Post K C H p F (act a (.find n)) Q
theorem scFind : FnScope ["self", "name"] ["self", "name"] (defScope sFind) := ⟨rfl, rfl, rfl, by decide +kernel, rfl, by decide +kernel, by decide +kernel⟩
theorem ok_find {f C : Addr} {fd : FuncData} (F : Fun K "find" "Folder.find" sFind f fd) (T : TxFo K C) (TK : TxK mg) : FnOk P w K mg base CX0 1 f fd ["self", "name"] (spFind K C) := by
  refine F.ok scFind (fun vs H Q E h => ?_) (fun cdv A outer s H vs Q E hr h => ?_)
  · obtain ⟨p, b, F, a, n, rfl, _⟩ := h
    rfl
  · obtain ⟨p, b, F, a, n, rfl, FA, hb, k⟩ := h
    have hu := hr.units
    obtain ⟨O, l, d, wv, ⟨⟨dx, hp⟩, ⟨vs, hl, ht⟩, ⟨ds, hd, hds⟩, hld⟩, hF⟩ := id FA
    refine ⟨_, pss_cons (ps_if (pt_cmpR (op_notInD hu) (pv 1) (pe_fld (pv 0) rfl) (by with_unfolding_all rfl)) (pss_one (ps_ret (pe_gint TK.nx))) pss_nil)
      (pss_one (ps_ret (pe_bm PySem.F.plainAttrs_list PySem.F.slot_list_index PySem.F.type_list_index (mt_indexD hu) (pe_fld (pv 0) rfl) (pa_cons (pv 1) pa_nil)))), ?_⟩
    refine ⟨_, rfl, _, rfl, p, C, dx, _, _, rfl, hp, T.cl, T.nN, ff_names _ _ _, _, _, Dp.lst (SqL.of hl) (dp_names ht), TupAt.dp ⟨b, rfl, hb⟩, lay_names _, lay_name _, by rw [depth_name]; decide, _, rfl, ?_⟩
    rw [any_name]
    show if (!decide _) = true then _ else _
    by_cases hn : n ∈ names a
    · rw [decide_eq_true hn]
      obtain ⟨j, h1, h2⟩ := first_at hn
      refine iteF ⟨_, rfl, p, C, dx, _, _, rfl, hp, T.cl, T.nN, ff_names _ _ _, .inl ⟨rfl, _, SqL.of hl⟩, _, rfl, ?_⟩
      refine ⟨_, (names a).map nameD, nameD n, nameD n, j, rfl, Dp.lst (SqL.of hl) (dp_names ht), TupAt.dp ⟨b, rfl, hb⟩, lay_names _, lay_name _, by rw [depth_name]; decide, ?_, by rw [List.getElem?_map, h1]; rfl, ?_, ?_, ?_⟩
      · rw [List.length_map, names_len]
        have := O.len
        omega
      · rw [eqv_name]
        exact decide_eq_true rfl
      · intro m z hm hz
        rw [List.getElem?_map] at hz
        cases y : (names a)[m]? with
        | none => rw [y] at hz; cases hz
        | some x =>
          rw [y] at hz
          have hz := Option.some.inj hz
          rw [← hz, eqv_name]
          exact decide_eq_false (h2 m x hm y)
      · exact k.stay (act_find_yes h1 h2) FA (Same.refl H)
    · rw [decide_eq_false hn]
      refine iteT ?_
      exact k.stay (act_find_no hn) FA (Same.refl H)
def spState (K : PySem.W.Frag) (C : Addr) : Sp := fun vs H Q _ => ∃ (p : Addr) (F : List Addr) (a : Abs), vs = [.ref p] ∧ FolderAt K C H p F a ∧
  ∀ (N : Addr) (H' : Hp), H' N = some (.lst ((ansOf (act a .state).2).map V.int)) → H N = none → Same H H' → Q (.ref N) H'
theorem scState : FnScope ["self"] ["self"] (defScope sState) := ⟨rfl, rfl, rfl, by decide +kernel, rfl, by decide +kernel, by decide +kernel⟩
theorem ok_state {f C : Addr} {fd : FuncData} (F : Fun K "state" "Folder.state" sState f fd) (T : TxFo K C) (TB : TxB mg) (cL : Ca P w K mg base "renamings_left" ["names", "wanted"] 2 (spLeft K)) : FnOk P w K mg base CX0 3 f fd ["self"] (spState K C) := by
  refine F.ok scState (fun vs H Q E h => ?_) (fun cdv A outer s H vs Q E hr h => ?_)
  · obtain ⟨p, F, a, rfl, _⟩ := h
    rfl
  · obtain ⟨p, F, a, rfl, FA, k⟩ := h
    obtain ⟨O, l, d, wv, ⟨⟨dx, hp⟩, ⟨vs, hl, ht⟩, ⟨ds, hd, hds⟩, hld⟩, hF⟩ := id FA
    refine ⟨_, pss_cons (ps_if (pt_cmpR op_isN (pe_fld (pv 0) rfl) pe_non (nomark _))
        (pss_one (ps_ret (pe_lst (pa_cons pe_int (pa_cons (pe_callB call_len_seq (by rfl) TB.len PySem.boot_len (pa_cons (pe_fld (pv 0) rfl) pa_nil)) (pa_cons pe_int (pa_cons pe_int pa_nil))))))) pss_nil)
      (pss_one (ps_ret (pe_lst (pa_cons pe_int (pa_cons (pe_callB call_len_seq (by rfl) TB.len PySem.boot_len (pa_cons (pe_fld (pv 0) rfl) pa_nil)) (pa_cons (pe_callB call_len_seq (by rfl) TB.len PySem.boot_len (pa_cons (pe_fld (pv 0) rfl) pa_nil))
        (pa_cons (pe_ca cL hr (pa_cons (pe_fld (pv 0) rfl) (pa_cons (pe_fld (pv 0) rfl) pa_nil))) pa_nil))))))), ?_⟩
    rcases hF with ⟨hbz, rfl, rfl⟩ | ⟨hbz, w', rfl, ⟨us, hw, htw, hwl, hwd⟩, rfl⟩
    · refine ⟨_, rfl, p, C, dx, _, _, rfl, hp, T.cl, T.nW, ff_wanted _ _ _, rfl, _, rfl, iteT ?_⟩
      refine ⟨_, rfl, p, C, dx, _, _, rfl, hp, T.cl, T.nN, ff_names _ _ _, l, vs, rfl, .inl (SqL.of hl), (by show 4 ≤ sizeLine; decide), fun N hN => ?_⟩
      refine k N _ ?_ hN (same_new hN)
      rw [upd_same, act_state_idle O hbz, ht.len]
      rfl
    · refine ⟨_, rfl, p, C, dx, _, _, rfl, hp, T.cl, T.nW, ff_wanted _ _ _, rfl, _, rfl, iteF ?_⟩
      have G := (O.busy hbz).1
      have hl16 : (names a).length ≤ 16 := by rw [names_len]; exact O.len
      refine ⟨_, rfl, p, C, dx, _, _, rfl, hp, T.cl, T.nN, ff_names _ _ _, l, vs, rfl, .inl (SqL.of hl), _, rfl, p, C, dx, _, _, rfl, hp, T.cl, T.nD, ff_done _ _ _, d, ds, rfl, .inl (SqL.of hd),
        _, rfl, p, C, dx, _, _, rfl, hp, T.cl, T.nN, ff_names _ _ _, _, rfl, p, C, dx, _, _, rfl, hp, T.cl, T.nW, ff_wanted _ _ _, l, w', names a, wants a, rfl, ⟨vs, SqL.of hl, ht⟩, ⟨us, SqL.of hw, htw⟩, G, hl16, fun H5 s5 => ?_⟩
      refine ⟨(by show 4 ≤ sizeLine; decide), fun N hN => ?_⟩
      refine k N _ ?_ (same_none s5 hN) (s5.trans (same_new hN))
      rw [upd_same, act_state_busy hbz, ht.len, hds.len, List.length_reverse]
      rfl
end
end Rf
end
section
set_option Elab.async false
set_option linter.all false
set_option maxRecDepth 100000
set_option maxHeartbeats 4000000
namespace Rf
open PySem PySem.Spec PyProof.Rows L2
open Ks334 (Bytes isSign okName BETWEEN)
open Ks336 (Abs Done names act stepped)
/-- the reader has come to j, and nothing else has changed -/
structure Rd (K : PySem.W.Frag) (CF CR : Addr) (H H1 : Hp) (pf pr ca : Addr) (F : List Addr) (a : Abs) (ns : List Int) (j : Nat) : Prop where
  r : ReaderAt CR H1 pr ca j
  q : ReqAt K H1 ca (ns.map V.int)
  fa : FolderAt K CF H1 pf F a
  k : Kp [pr] H H1
  np : pr ∉ F
section
variable {K : PySem.W.Frag} {CF CR : Addr} {H H1 H2 : Hp} {pf pr ca : Addr} {F : List Addr} {a : Abs} {ns : List Int} {i j j' : Nat} {c : Cl} {Q : VK}
theorem Rd.mob (h : Rd K CF CR H H1 pf pr ca F a ns j) : ∀ b ∈ [pr], Mob H1 b := fun b hb => by
  obtain ⟨dx, e⟩ := h.r
  rw [List.mem_singleton.mp hb]
  exact .inr ⟨_, _, _, e⟩
theorem Rd.next (h : Rd K CF CR H H1 pf pr ca F a ns j) (r2 : ReaderAt CR H2 pr ca j') (k2 : Kp [pr] H1 H2) : Rd K CF CR H H2 pf pr ca F a ns j' :=
  ⟨r2, h.q.kp k2 h.mob, h.fa.other k2 (fun b hb => by rw [List.mem_singleton.mp hb]; exact h.np) h.mob, h.k.trans k2, h.np⟩
theorem Rd.fresh (h : Rd K CF CR H H1 pf pr ca F a ns j) {b : Addr} (e : H1 b = none) : H b = none := h.k.fresh e fun c hc => by
  obtain ⟨dx, q⟩ := h.r
  rw [List.mem_singleton.mp hc]
  exact ⟨_, q⟩
theorem mob_none {H : Hp} {F : List Addr} {N : Addr} (m : ∀ b ∈ F, Mob H b) (h : H N = none) : N ∉ F := fun q => by
  rcases m N q with ⟨_, z⟩ | ⟨_, _, _, z⟩
  · rw [h] at z; cases z
  · rw [h] at z; cases z
theorem kp_in {F : List Addr} {H H' : Hp} {N : Addr} (k : Kp F H H') (h : H' N = none) : N ∈ F ∨ H N = none := by
  by_cases q : N ∈ F
  · exact .inl q
  · refine .inr ?_
    cases z : H N with
    | none => rfl
    | some o => rw [k N o z q] at h; cases h
/-- a call that answers with one number -/
theorem Rd.one (h : Rd K CF CR H H1 pf pr ca F a ns j) (hj : j = i + c.flat.length) (ho : c.one)
    (k : ∀ (N : Addr) (F' : List Addr) (H' : Hp), H' N = some (.lst ((ansOf (act a c.spec).2).map V.int)) → (N ∈ pr :: F ∨ H N = none) → FolderAt K CF H' pf F' (act a c.spec).1 → (∀ b ∈ F', b ∈ F ∨ H b = none) → N ∉ F' → ReaderAt CR H' pr ca (i + c.flat.length) → Kp (pr :: F) H H' → Q (.ref N) H') :
    Post K CF H1 pf F (act a c.spec) (fun v H2 => ([v] : List V).length ≤ sizeLine ∧ ∀ N, H2 N = none → Q (.ref N) (upd H2 N (.lst [v]))) := by
  intro F' H2 FA2 hF2 k2
  refine ⟨by show 1 ≤ sizeLine; decide, fun N hN => ?_⟩
  have s3 : Same H2 (upd H2 N (.lst [V.int (act a c.spec).2.ret])) := same_new hN
  have kk : Kp (pr :: F) H H2 := (h.k.mono (by intro b hb; rw [List.mem_singleton.mp hb]; exact List.mem_cons_self ..)).trans (k2.mono (fun b hb => List.mem_cons_of_mem _ hb))
  obtain ⟨dx, hp⟩ := h.r
  refine k N F' _ ?_ (kp_in kk hN) (FA2.same s3) (fun b hb => ?_) (mob_none FA2.mob hN) ?_ (kk.trans s3.kp)
  · rw [upd_same]
    unfold ansOf
    rw [out_nil a c ho]
    rfl
  · rcases hF2 b hb with z | z
    · exact .inl z
    · exact .inr (h.fresh z)
  · rw [← hj]
    exact ⟨dx, s3 _ _ (k2 _ _ hp h.np)⟩
/-- a call that changes nothing and answers with a row -/
theorem Rd.row (h : Rd K CF CR H H1 pf pr ca F a ns j) (hj : j = i + c.flat.length) (hs : (act a c.spec).1 = a)
    (k : ∀ (N : Addr) (F' : List Addr) (H' : Hp), H' N = some (.lst ((ansOf (act a c.spec).2).map V.int)) → (N ∈ pr :: F ∨ H N = none) → FolderAt K CF H' pf F' (act a c.spec).1 → (∀ b ∈ F', b ∈ F ∨ H b = none) → N ∉ F' → ReaderAt CR H' pr ca (i + c.flat.length) → Kp (pr :: F) H H' → Q (.ref N) H') :
    ∀ (N : Addr) (H' : Hp), H' N = some (.lst ((ansOf (act a c.spec).2).map V.int)) → H1 N = none → Same H1 H' → Q (.ref N) H' := by
  intro N H' e hN s
  obtain ⟨dx, hp⟩ := h.r
  refine k N F H' e (.inr (h.fresh hN)) (by rw [hs]; exact h.fa.same s) (fun b hb => .inl hb) (mob_none h.fa.mob hN) ?_ ?_
  · rw [← hj]
    exact ⟨dx, s _ _ hp⟩
  · exact (h.k.mono (by intro b hb; rw [List.mem_singleton.mp hb]; exact List.mem_cons_self ..)).trans s.kp
theorem FolderAt.ins (h : FolderAt K CF H pf F a) : ∃ dx l wv d, H pf = some (.ins CF dx (ff l wv d)) := by
  obtain ⟨O, l, d, wv, ⟨⟨dx, hp⟩, _, _, _⟩, _⟩ := h
  exact ⟨dx, l, wv, d, hp⟩
end
section
variable {P : Program} {w : World} {K : PySem.W.Frag} {mg : Str → Option Value} {base : Heap}
theorem scAnswer : FnScope ["folder", "reader", "call", "start", "rule", "files"] ["folder", "reader"] (defScope sAnswer) := ⟨rfl, rfl, rfl, by decide +kernel, rfl, by decide +kernel, by decide +kernel⟩
theorem ok_answer {f CF CR : Addr} {fd : FuncData} (F : Fun K "answer" "answer" sAnswer f fd) (TF : TxFo K CF) (TR : TxR K CR) (TK : TxK mg)
    (rN : Cm P w K mg base CR "take_number" ["self"] 1 (spRNum K CR)) (rR : Cm P w K mg base CR "take_row" ["self"] 2 (spRRow K CR))
    (m0 : Cm P w K mg base CF "begin" ["self"] 2 (spBegin K CF)) (m1 : Cm P w K mg base CF "add" ["self", "name"] 4 (spAdd K CF)) (m2 : Cm P w K mg base CF "wish" ["self", "rule", "start", "files"] 6 (spWish K CF))
    (m3 : Cm P w K mg base CF "step" ["self"] 3 (spStep K CF)) (m4 : Cm P w K mg base CF "finish" ["self"] 3 (spFin K CF)) (m5 : Cm P w K mg base CF "back" ["self"] 2 (spBack K CF)) (m6 : Cm P w K mg base CF "take_back_all" ["self"] 2 (spAll K CF))
    (m7 : Cm P w K mg base CF "name_now" ["self", "file"] 1 (spNm K CF)) (m8 : Cm P w K mg base CF "find" ["self", "name"] 1 (spFind K CF)) (m9 : Cm P w K mg base CF "state" ["self"] 3 (spState K CF)) :
    FnOk P w K mg base CX0 8 f fd ["folder", "reader"] (spAnswer K CF CR) := by
  refine F.ok scAnswer (fun vs H Q E h => ?_) (fun cdv A outer s H vs Q E hr h => ?_)
  · obtain ⟨pf, pr, ca, F, a, i, ns, rest, c, rfl, _⟩ := h
    rfl
  · obtain ⟨pf, pr, ca, F, a, i, ns, rest, c, rfl, FA, R, hQ, hdr, hsm, hn31, hpr, k⟩ := h
    refine ⟨_, pss_cons (ps_set (i := 2) scAnswer.nd rfl (Or.inl rfl) (pe_cm0 rN TR.cl hr (pv 1)))
      (pss_cons (ps_if (pt_cmpR op_eq (pv 2) (pe_gint TK.k0) (nomark _)) (pss_one (ps_ret (pe_lst (pa_cons (pe_cm0 m0 TF.cl hr (pv 0)) pa_nil)))) pss_nil)
      (pss_cons (ps_if (pt_cmpR op_eq (pv 2) (pe_gint TK.k1) (nomark _)) (pss_one (ps_ret (pe_lst (pa_cons (pe_cm m1 TF.cl hr (pv 0) (pa_cons (pe_cm0 rR TR.cl hr (pv 1)) pa_nil)) pa_nil)))) pss_nil)
      (pss_cons (ps_if (pt_cmpR op_eq (pv 2) (pe_gint TK.k2) (nomark _)) (pss_cons (ps_set (i := 3) scAnswer.nd rfl (Or.inl rfl) (pe_cm0 rN TR.cl hr (pv 1))) (pss_cons (ps_set (i := 4) scAnswer.nd rfl (Or.inl rfl) (pe_cm0 rR TR.cl hr (pv 1))) (pss_cons (ps_set (i := 5) scAnswer.nd rfl (Or.inl rfl) (pe_cm0 rR TR.cl hr (pv 1)))
        (pss_one (ps_ret (pe_lst (pa_cons (pe_cm m2 TF.cl hr (pv 0) (pa_cons (pv 4) (pa_cons (pv 3) (pa_cons (pv 5) pa_nil)))) pa_nil))))))) pss_nil)
      (pss_cons (ps_if (pt_cmpR op_eq (pv 2) (pe_gint TK.k3) (nomark _)) (pss_one (ps_ret (pe_lst (pa_cons (pe_cm0 m3 TF.cl hr (pv 0)) pa_nil)))) pss_nil)
      (pss_cons (ps_if (pt_cmpR op_eq (pv 2) (pe_gint TK.k4) (nomark _)) (pss_one (ps_ret (pe_lst (pa_cons (pe_cm0 m4 TF.cl hr (pv 0)) pa_nil)))) pss_nil)
      (pss_cons (ps_if (pt_cmpR op_eq (pv 2) (pe_gint TK.k5) (nomark _)) (pss_one (ps_ret (pe_lst (pa_cons (pe_cm0 m5 TF.cl hr (pv 0)) pa_nil)))) pss_nil)
      (pss_cons (ps_if (pt_cmpR op_eq (pv 2) (pe_gint TK.k6) (nomark _)) (pss_one (ps_ret (pe_lst (pa_cons (pe_cm0 m6 TF.cl hr (pv 0)) pa_nil)))) pss_nil)
      (pss_cons (ps_if (pt_cmpR op_eq (pv 2) (pe_gint TK.k7) (nomark _)) (pss_one (ps_ret (pe_cm m7 TF.cl hr (pv 0) (pa_cons (pe_cm0 rN TR.cl hr (pv 1)) pa_nil)))) pss_nil)
      (pss_cons (ps_if (pt_cmpR op_eq (pv 2) (pe_gint TK.k8) (nomark _)) (pss_one (ps_ret (pe_lst (pa_cons (pe_cm m8 TF.cl hr (pv 0) (pa_cons (pe_cm0 rR TR.cl hr (pv 1)) pa_nil)) pa_nil)))) pss_nil)
      (pss_cons (ps_if (pt_cmpR op_eq (pv 2) (pe_gint TK.k9) (nomark _)) (pss_one (ps_ret (pe_cm0 m9 TF.cl hr (pv 0)))) pss_nil)
      (pss_one ps_never))))))))))), ?_⟩
    have D0 : Rd K CF CR H H pf pr ca F a ns i := ⟨R, hQ, FA, Kp.refl _ _, hpr⟩
    obtain ⟨dr, hrd⟩ := id R
    have hfl : c.flat.length ≤ ns.length := by
      have := congrArg List.length hdr
      rw [List.length_drop, List.length_append] at this
      omega
    cases c with
    | begin =>
      obtain ⟨d0, d1⟩ := drop_at (show ns.drop i = 0 :: rest from hdr)
      refine ⟨_, rfl, pr, dr, _, rfl, hrd, rF_no _ _ (by decide +kernel) (by decide +kernel), pr, ca, i, ns, _, rfl, R, hQ.sq, d0, fun H1 R1 k1 => ?_⟩
      have D := D0.next R1 k1
      obtain ⟨dx, l, wv, d, hp⟩ := D.fa.ins
      refine ⟨_, rfl, rfl, _, rfl, iteT ?_⟩
      refine ⟨_, rfl, pf, dx, _, rfl, hp, ff_no _ _ _ (by decide +kernel) (by decide +kernel) (by decide +kernel), pf, F, a, rfl, D.fa, ?_⟩
      have z := D.one (c := .begin) rfl trivial k
      exact z
    | add n =>
      obtain ⟨d0, d1⟩ := drop_at (show ns.drop i = 1 :: (rowI n ++ rest) from hdr)
      obtain ⟨e0, e1, e2⟩ := row_at d1
      have hfl' : (nsI n).length + 1 + 1 ≤ ns.length := hfl
      rw [nsI_len] at hfl'
      refine ⟨_, rfl, pr, dr, _, rfl, hrd, rF_no _ _ (by decide +kernel) (by decide +kernel), pr, ca, i, ns, _, rfl, R, hQ.sq, d0, fun H1 R1 k1 => ?_⟩
      have D := D0.next R1 k1
      obtain ⟨dx, l, wv, d, hp⟩ := D.fa.ins
      obtain ⟨dr1, hrd1⟩ := id D.r
      refine ⟨_, rfl, rfl, _, rfl, iteF ?_⟩
      refine ⟨_, rfl, rfl, _, rfl, iteT ?_⟩
      refine ⟨_, rfl, pf, dx, _, rfl, hp, ff_no _ _ _ (by decide +kernel) (by decide +kernel) (by decide +kernel), _, rfl, pr, dr1, _, rfl, hrd1, rF_no _ _ (by decide +kernel) (by decide +kernel), pr, ca, i + 1, ns, nsI n, rfl, D.r, D.q.sq, e0, e1, fun q H2 hq R2 k2 => ?_⟩
      have D2 := D.next R2 k2
      refine ⟨pf, q, F, a, n, rfl, D2.fa, hq, by rw [line24]; omega, ?_⟩
      have z := D2.one (c := .add n) (by show i + 1 + 1 + (nsI n).length = i + ((nsI n).length + 1 + 1); omega) trivial k
      exact z
    | wish kk r fs =>
      obtain ⟨d0, d1⟩ := drop_at (show ns.drop i = 2 :: (((kk : Nat) : Int) :: (rowI r ++ rowI fs ++ rest)) from hdr)
      obtain ⟨c0, c1⟩ := drop_at d1
      rw [List.append_assoc] at c1
      obtain ⟨e0, e1, e2⟩ := row_at c1
      obtain ⟨g0, g1, g2⟩ := row_at e2
      have hfl' : (rowI r ++ rowI fs).length + 1 + 1 ≤ ns.length := hfl
      have hlr : (rowI r ++ rowI fs).length = (nsI r).length + 1 + ((nsI fs).length + 1) := List.length_append
      have hl1 := nsI_len r
      have hl2 := nsI_len fs
      refine ⟨_, rfl, pr, dr, _, rfl, hrd, rF_no _ _ (by decide +kernel) (by decide +kernel), pr, ca, i, ns, _, rfl, R, hQ.sq, d0, fun H1 R1 k1 => ?_⟩
      have D := D0.next R1 k1
      obtain ⟨dr1, hrd1⟩ := id D.r
      refine ⟨_, rfl, rfl, _, rfl, iteF ?_⟩
      refine ⟨_, rfl, rfl, _, rfl, iteF ?_⟩
      refine ⟨_, rfl, rfl, _, rfl, iteT ?_⟩
      refine ⟨_, rfl, pr, dr1, _, rfl, hrd1, rF_no _ _ (by decide +kernel) (by decide +kernel), pr, ca, i + 1, ns, _, rfl, D.r, D.q.sq, c0, fun H2 R2 k2 => ?_⟩
      have D2 := D.next R2 k2
      obtain ⟨dr2, hrd2⟩ := id D2.r
      refine ⟨_, rfl, pr, dr2, _, rfl, hrd2, rF_no _ _ (by decide +kernel) (by decide +kernel), pr, ca, i + 1 + 1, ns, nsI r, rfl, D2.r, D2.q.sq, e0, e1, fun q1 H3 hq1 R3 k3 => ?_⟩
      have D3 := D2.next R3 k3
      obtain ⟨dr3, hrd3⟩ := id D3.r
      refine ⟨_, rfl, pr, dr3, _, rfl, hrd3, rF_no _ _ (by decide +kernel) (by decide +kernel), pr, ca, i + 1 + 1 + 1 + (nsI r).length, ns, nsI fs, rfl, D3.r, D3.q.sq, g0, g1, fun q2 H4 hq2 R4 k4 => ?_⟩
      have D4 := D3.next R4 k4
      obtain ⟨dx, l, wv, d, hp⟩ := D4.fa.ins
      refine ⟨_, rfl, pf, dx, _, rfl, hp, ff_no _ _ _ (by decide +kernel) (by decide +kernel) (by decide +kernel), _, rfl, _, rfl, _, rfl, pf, q1, q2, F, a, r, kk, fs, rfl, D4.fa, k4.seqT D3.mob hq1, hq2, by rw [line24]; omega, by rw [line24]; omega, hsm, ?_⟩
      have z := D4.one (c := .wish kk r fs) (by show i + 1 + 1 + 1 + (nsI r).length + 1 + (nsI fs).length = i + ((rowI r ++ rowI fs).length + 1 + 1); omega) trivial k
      exact z
    | step =>
      obtain ⟨d0, d1⟩ := drop_at (show ns.drop i = 3 :: rest from hdr)
      refine ⟨_, rfl, pr, dr, _, rfl, hrd, rF_no _ _ (by decide +kernel) (by decide +kernel), pr, ca, i, ns, _, rfl, R, hQ.sq, d0, fun H1 R1 k1 => ?_⟩
      have D := D0.next R1 k1
      obtain ⟨dx, l, wv, d, hp⟩ := D.fa.ins
      iterate 3 refine ⟨_, rfl, rfl, _, rfl, iteF ?_⟩
      refine ⟨_, rfl, rfl, _, rfl, iteT ?_⟩
      refine ⟨_, rfl, pf, dx, _, rfl, hp, ff_no _ _ _ (by decide +kernel) (by decide +kernel) (by decide +kernel), pf, F, a, rfl, D.fa, ?_⟩
      have z := D.one (c := .step) rfl trivial k
      exact z
    | finish =>
      obtain ⟨d0, d1⟩ := drop_at (show ns.drop i = 4 :: rest from hdr)
      refine ⟨_, rfl, pr, dr, _, rfl, hrd, rF_no _ _ (by decide +kernel) (by decide +kernel), pr, ca, i, ns, _, rfl, R, hQ.sq, d0, fun H1 R1 k1 => ?_⟩
      have D := D0.next R1 k1
      obtain ⟨dx, l, wv, d, hp⟩ := D.fa.ins
      iterate 4 refine ⟨_, rfl, rfl, _, rfl, iteF ?_⟩
      refine ⟨_, rfl, rfl, _, rfl, iteT ?_⟩
      refine ⟨_, rfl, pf, dx, _, rfl, hp, ff_no _ _ _ (by decide +kernel) (by decide +kernel) (by decide +kernel), pf, F, a, rfl, D.fa, ?_⟩
      have z := D.one (c := .finish) rfl trivial k
      exact z
    | back =>
      obtain ⟨d0, d1⟩ := drop_at (show ns.drop i = 5 :: rest from hdr)
      refine ⟨_, rfl, pr, dr, _, rfl, hrd, rF_no _ _ (by decide +kernel) (by decide +kernel), pr, ca, i, ns, _, rfl, R, hQ.sq, d0, fun H1 R1 k1 => ?_⟩
      have D := D0.next R1 k1
      obtain ⟨dx, l, wv, d, hp⟩ := D.fa.ins
      iterate 5 refine ⟨_, rfl, rfl, _, rfl, iteF ?_⟩
      refine ⟨_, rfl, rfl, _, rfl, iteT ?_⟩
      refine ⟨_, rfl, pf, dx, _, rfl, hp, ff_no _ _ _ (by decide +kernel) (by decide +kernel) (by decide +kernel), pf, F, a, rfl, D.fa, ?_⟩
      have z := D.one (c := .back) rfl trivial k
      exact z
    | allBack =>
      obtain ⟨d0, d1⟩ := drop_at (show ns.drop i = 6 :: rest from hdr)
      refine ⟨_, rfl, pr, dr, _, rfl, hrd, rF_no _ _ (by decide +kernel) (by decide +kernel), pr, ca, i, ns, _, rfl, R, hQ.sq, d0, fun H1 R1 k1 => ?_⟩
      have D := D0.next R1 k1
      obtain ⟨dx, l, wv, d, hp⟩ := D.fa.ins
      iterate 6 refine ⟨_, rfl, rfl, _, rfl, iteF ?_⟩
      refine ⟨_, rfl, rfl, _, rfl, iteT ?_⟩
      refine ⟨_, rfl, pf, dx, _, rfl, hp, ff_no _ _ _ (by decide +kernel) (by decide +kernel) (by decide +kernel), pf, F, a, rfl, D.fa, ?_⟩
      have z := D.one (c := .allBack) rfl trivial k
      exact z
    | name x =>
      obtain ⟨d0, d1⟩ := drop_at (show ns.drop i = 7 :: (((x : Nat) : Int) :: rest) from hdr)
      obtain ⟨c0, c1⟩ := drop_at d1
      refine ⟨_, rfl, pr, dr, _, rfl, hrd, rF_no _ _ (by decide +kernel) (by decide +kernel), pr, ca, i, ns, _, rfl, R, hQ.sq, d0, fun H1 R1 k1 => ?_⟩
      have D := D0.next R1 k1
      obtain ⟨dx, l, wv, d, hp⟩ := D.fa.ins
      obtain ⟨dr1, hrd1⟩ := id D.r
      iterate 7 refine ⟨_, rfl, rfl, _, rfl, iteF ?_⟩
      refine ⟨_, rfl, rfl, _, rfl, iteT ?_⟩
      refine ⟨_, rfl, pf, dx, _, rfl, hp, ff_no _ _ _ (by decide +kernel) (by decide +kernel) (by decide +kernel), _, rfl, pr, dr1, _, rfl, hrd1, rF_no _ _ (by decide +kernel) (by decide +kernel), pr, ca, i + 1, ns, _, rfl, D.r, D.q.sq, c0, fun H2 R2 k2 => ?_⟩
      have D2 := D.next R2 k2
      refine ⟨pf, F, a, x, rfl, D2.fa, ?_⟩
      have z := D2.row (c := .name x) rfl (name_stays a x) k
      exact z
    | find n =>
      obtain ⟨d0, d1⟩ := drop_at (show ns.drop i = 8 :: (rowI n ++ rest) from hdr)
      obtain ⟨e0, e1, e2⟩ := row_at d1
      refine ⟨_, rfl, pr, dr, _, rfl, hrd, rF_no _ _ (by decide +kernel) (by decide +kernel), pr, ca, i, ns, _, rfl, R, hQ.sq, d0, fun H1 R1 k1 => ?_⟩
      have D := D0.next R1 k1
      obtain ⟨dx, l, wv, d, hp⟩ := D.fa.ins
      obtain ⟨dr1, hrd1⟩ := id D.r
      iterate 8 refine ⟨_, rfl, rfl, _, rfl, iteF ?_⟩
      refine ⟨_, rfl, rfl, _, rfl, iteT ?_⟩
      refine ⟨_, rfl, pf, dx, _, rfl, hp, ff_no _ _ _ (by decide +kernel) (by decide +kernel) (by decide +kernel), _, rfl, pr, dr1, _, rfl, hrd1, rF_no _ _ (by decide +kernel) (by decide +kernel), pr, ca, i + 1, ns, nsI n, rfl, D.r, D.q.sq, e0, e1, fun q H2 hq R2 k2 => ?_⟩
      have D2 := D.next R2 k2
      refine ⟨pf, q, F, a, n, rfl, D2.fa, hq, ?_⟩
      have z := D2.one (c := .find n) (by show i + 1 + 1 + (nsI n).length = i + ((nsI n).length + 1 + 1); omega) trivial k
      exact z
    | state =>
      obtain ⟨d0, d1⟩ := drop_at (show ns.drop i = 9 :: rest from hdr)
      refine ⟨_, rfl, pr, dr, _, rfl, hrd, rF_no _ _ (by decide +kernel) (by decide +kernel), pr, ca, i, ns, _, rfl, R, hQ.sq, d0, fun H1 R1 k1 => ?_⟩
      have D := D0.next R1 k1
      obtain ⟨dx, l, wv, d, hp⟩ := D.fa.ins
      iterate 9 refine ⟨_, rfl, rfl, _, rfl, iteF ?_⟩
      refine ⟨_, rfl, rfl, _, rfl, iteT ?_⟩
      refine ⟨_, rfl, pf, dx, _, rfl, hp, ff_no _ _ _ (by decide +kernel) (by decide +kernel) (by decide +kernel), pf, F, a, rfl, D.fa, ?_⟩
      have z := D.row (c := .state) rfl rfl k
      exact z
end
end Rf
end
section
set_option Elab.async false
set_option linter.all false
set_option maxRecDepth 100000
set_option maxHeartbeats 4000000
namespace Rf
open PySem PySem.Spec PyProof.Rows L2
/-! ### what the top has written -/
def FnIn (K : PySem.W.Frag) (mg : Str → Option Value) (x : Str) (st : Stmt) : Prop := ∃ f fd, Fun K x x st f fd ∧ mg x = some (.ref f)
def MtIn (K : PySem.W.Frag) (C : Addr) (m qual : Str) (st : Stmt) : Prop := ∃ f fd, Fun K m qual st f fd ∧ Meth K C m f
def InIn (K : PySem.W.Frag) (C : Addr) (qual : Str) (st : Stmt) : Prop := ∃ f fd, Fun K "__init__" qual st f fd ∧ Mk K C f
section
variable {K : PySem.W.Frag} {h : Heap} {mg : Str → Option Value} {x qual : Str} {st : Stmt} {f C : Addr} {oc : Value} {od an : Option Addr} {osl : Array (Option Value)} {kV doc pm cdv ct : Value}
theorem fn_in (X : K.In h) (G : h.Ns mainGlobals mg) (a : PySem.W.nsIn K mainGlobals x = some (some (.ref f))) (l : K.lookup f = some ⟨oc, od, .func (PySem.W.fnOf x x (defArgs st) (defBody st) (defScope st) .none kV doc pm an cdv ct), osl⟩)
    (c : PySem.W.codeIn K cdv x = true) (k : PySem.W.keepIn K (.ref f) = true) : FnIn K mg x st := ⟨f, _, fun_mk l c k, PySem.W.mg_of X G a⟩
theorem mt_in (a : PySem.W.findIn K (.ref C) x = some (some (.ref f))) (i : PySem.W.isFn K (.ref f) = true) (l : K.lookup f = some ⟨oc, od, .func (PySem.W.fnOf x qual (defArgs st) (defBody st) (defScope st) .none kV doc pm an cdv ct), osl⟩)
    (c : PySem.W.codeIn K cdv qual = true) (k : PySem.W.keepIn K (.ref f) = true) : MtIn K C x qual st := ⟨f, _, fun_mk l c k, ⟨a, i, k⟩⟩
theorem in_in (a : PySem.W.findIn K (.ref C) "__init__" = some (some (.ref f))) (i : PySem.W.isFn K (.ref f) = true) (l : K.lookup f = some ⟨oc, od, .func (PySem.W.fnOf "__init__" qual (defArgs st) (defBody st) (defScope st) .none kV doc pm an cdv ct), osl⟩)
    (c : PySem.W.codeIn K cdv qual = true) (k : PySem.W.keepIn K (.ref f) = true) (mk : PySem.W.makesIn K C = true) (kc : PySem.W.keepIn K (.ref C) = true) : InIn K C qual st := ⟨f, _, fun_mk l c k, ⟨mk, a, i, kc⟩⟩
theorem int_in {i : Int} {t : Tok} (X : K.In h) (G : h.Ns mainGlobals mg) (a : PySem.W.nsIn K mainGlobals x = some (some (.int i t))) : IntC mg x i := ⟨t, PySem.W.mg_of X G a⟩
theorem btw_in {b : Addr} {t : Tok} {n : Nat} {od' : Option Addr} {sl : Array (Option Value)} (X : K.In h) (G : h.Ns mainGlobals mg) (a : PySem.W.nsIn K mainGlobals "BETWEEN" = some (some (.ref b))) (l : K.lookup b = some ⟨.type "tuple", od', .seq #[.int 126 t] n, sl⟩) : TxN K mg :=
  ⟨b, PySem.W.mg_of X G a, fun H => .inr ⟨_, _, n, l, rfl, rfl, (by show 1 ≤ sizeLine; decide), .cons ⟨t, rfl⟩ .nil⟩⟩
end
section
variable {P : Program} {w : World} {K : PySem.W.Frag} {mg : Str → Option Value} {base : Heap} {x qual m : Str} {st : Stmt} {ps : List Str} {k : Nat} {sp : Sp} {C : Addr}
theorem ca_mk (h : FnIn K mg x st) (hb : ∀ (kV doc pm : Value) (an : Option Addr) (cdv ct : Value) (us : List Value), us.length = ps.length → bindArgs (PySem.W.fnOf x x (defArgs st) (defBody st) (defScope st) .none kV doc pm an cdv ct) ⟨us, []⟩ = pure (ps.zip us))
    (ok : ∀ f fd, Fun K x x st f fd → FnOk P w K mg base CX0 k f fd ps sp) : Ca P w K mg base x ps k sp := by
  obtain ⟨f, fd, F, hm⟩ := h
  exact ⟨f, fd, ok f fd F, hm, F.kp, F.binds hb⟩
theorem cm_mk (h : MtIn K C m qual st) (hb : ∀ (kV doc pm : Value) (an : Option Addr) (cdv ct : Value) (us : List Value), us.length = ps.length → bindArgs (PySem.W.fnOf m qual (defArgs st) (defBody st) (defScope st) .none kV doc pm an cdv ct) ⟨us, []⟩ = pure (ps.zip us))
    (ok : ∀ f fd, Fun K m qual st f fd → FnOk P w K mg base CX0 k f fd ps sp) : Cm P w K mg base C m ps k sp := by
  obtain ⟨f, fd, F, hm⟩ := h
  exact ⟨f, fd, ok f fd F, hm, F.binds hb⟩
theorem cn_mk (h : InIn K C qual st) (hm : mg x = some (.ref C)) (hb : ∀ (kV doc pm : Value) (an : Option Addr) (cdv ct : Value) (us : List Value), us.length = ps.length → bindArgs (PySem.W.fnOf "__init__" qual (defArgs st) (defBody st) (defScope st) .none kV doc pm an cdv ct) ⟨us, []⟩ = pure (ps.zip us))
    (ok : ∀ f fd, Fun K "__init__" qual st f fd → FnOk P w K mg base CX0 k f fd ps sp) : Cn P w K mg base x C ps k sp := by
  obtain ⟨f, fd, F, hk⟩ := h
  exact ⟨f, fd, ok f fd F, hk, hm, F.binds hb⟩
end
structure Facts (K : PySem.W.Frag) (mg : Str → Option Value) (CF CR : Addr) : Prop where
  tb : TxB mg
  tn : TxN K mg
  tf : TxF mg
  tc : TxC mg
  tk : TxK mg
  tr : TxR K CR
  tfo : TxFo K CF
  mF : mg "Folder" = some (.ref CF)
  mR : mg "Reader" = some (.ref CR)
  f1 : FnIn K mg "is_name_sign" sSign
  f2 : FnIn K mg "is_rule_sign" sRSign
  f3 : FnIn K mg "is_name" sName
  f4 : FnIn K mg "is_rule" sRule
  f5 : FnIn K mg "stem_length" sStem
  f6 : FnIn K mg "run_length" sRun
  f7 : FnIn K mg "digits_of" sDigits
  f8 : FnIn K mg "stand_in" sStand
  f9 : FnIn K mg "new_name" sNew
  g1 : FnIn K mg "next_renaming" sNext
  g2 : FnIn K mg "renamings_left" sLeft
  h1 : FnIn K mg "can_be_told" sTold
  h2 : FnIn K mg "names_by_rule" sBy
  h3 : FnIn K mg "refusal_of_names" sRef
  h4 : FnIn K mg "answer" sAnswer
  h5 : FnIn K mg "answers" sAnswers
  ri : InIn K CR "Reader.__init__" sRInit
  r1 : MtIn K CR "at_end" "Reader.at_end" sREnd
  r2 : MtIn K CR "take_number" "Reader.take_number" sRNum
  r3 : MtIn K CR "take_row" "Reader.take_row" sRRow
  fi : InIn K CF "Folder.__init__" sFInit
  m1 : MtIn K CF "begin" "Folder.begin" sBegin
  m2 : MtIn K CF "add" "Folder.add" sAdd
  m3 : MtIn K CF "wish" "Folder.wish" sWish
  m4 : MtIn K CF "step" "Folder.step" sStep
  m5 : MtIn K CF "finish" "Folder.finish" sFin
  m6 : MtIn K CF "rename_next" "Folder.rename_next" sRen
  m7 : MtIn K CF "end_wish" "Folder.end_wish" sEnds
  n1 : MtIn K CF "back" "Folder.back" sBack
  n2 : MtIn K CF "take_back_all" "Folder.take_back_all" sAll
  n3 : MtIn K CF "name_now" "Folder.name_now" sNm
  n4 : MtIn K CF "find" "Folder.find" sFind
  n5 : MtIn K CF "state" "Folder.state" sState
  n6 : MtIn K CF "take_back_last" "Folder.take_back_last" sLast
theorem all_ok {P : Program} {w : World} {K : PySem.W.Frag} {mg : Str → Option Value} {CF CR : Addr} (T : Facts K mg CF CR) (base : Heap) :
    ∀ f fd, Fun K "answers" "answers" sAnswers f fd → FnOk P w K mg base CX0 21 f fd ["calls"] (spAnswers K) := by
  have c1 : Ca P w K mg base "is_name_sign" ["sign"] 1 spSign := ca_mk T.f1 (fun _ _ _ _ _ _ us hl => match us, hl with | [_], _ => rfl) fun f fd F => ok_sign F T.tb
  have c2 : Ca P w K mg base "is_rule_sign" ["sign"] 2 spRSign := ca_mk T.f2 (fun _ _ _ _ _ _ us hl => match us, hl with | [_], _ => rfl) fun f fd F => ok_rsign F T.tb c1
  have c3 : Ca P w K mg base "is_name" ["signs"] 3 (spIsName K) := ca_mk T.f3 (fun _ _ _ _ _ _ us hl => match us, hl with | [_], _ => rfl) fun f fd F => ok_name F T.tb c1
  have c4 : Ca P w K mg base "is_rule" ["signs"] 4 (spIsRule K) := ca_mk T.f4 (fun _ _ _ _ _ _ us hl => match us, hl with | [_], _ => rfl) fun f fd F => ok_rule F T.tb c2
  have c5 : Ca P w K mg base "stem_length" ["name"] 1 (spStem K) := ca_mk T.f5 (fun _ _ _ _ _ _ us hl => match us, hl with | [_], _ => rfl) fun f fd F => ok_stem F T.tb
  have c6 : Ca P w K mg base "run_length" ["rule", "place"] 1 (spRun K) := ca_mk T.f6 (fun _ _ _ _ _ _ us hl => match us, hl with | [_, _], _ => rfl) fun f fd F => ok_run F T.tb
  have c7 : Ca P w K mg base "digits_of" ["number", "width"] 1 spDigits := ca_mk T.f7 (fun _ _ _ _ _ _ us hl => match us, hl with | [_, _], _ => rfl) fun f fd F => ok_digits F T.tb
  have c8 : Ca P w K mg base "stand_in" ["sign", "name"] 2 (spStand K) := ca_mk T.f8 (fun _ _ _ _ _ _ us hl => match us, hl with | [_, _], _ => rfl) fun f fd F => ok_stand F T.tb c5
  have c9 : Ca P w K mg base "new_name" ["rule", "name", "number"] 4 (spNew K) := ca_mk T.f9 (fun _ _ _ _ _ _ us hl => match us, hl with | [_, _, _], _ => rfl) fun f fd F => ok_new F T.tb c3 c6 c7 c8
  have d1 : Ca P w K mg base "next_renaming" ["names", "wanted"] 1 (spNext K) := ca_mk T.g1 (fun _ _ _ _ _ _ us hl => match us, hl with | [_, _], _ => rfl) fun f fd F => ok_next F T.tb T.tn
  have d2 : Ca P w K mg base "renamings_left" ["names", "wanted"] 2 (spLeft K) := ca_mk T.g2 (fun _ _ _ _ _ _ us hl => match us, hl with | [_, _], _ => rfl) fun f fd F => ok_left F T.tb d1
  have e1 : Ca P w K mg base "can_be_told" ["files", "count"] 1 (spTold K) := ca_mk T.h1 (fun _ _ _ _ _ _ us hl => match us, hl with | [_, _], _ => rfl) fun f fd F => ok_told F T.tb
  have e2 : Ca P w K mg base "names_by_rule" ["names", "rule", "start", "files"] 5 (spBy K) := ca_mk T.h2 (fun _ _ _ _ _ _ us hl => match us, hl with | [_, _, _, _], _ => rfl) fun f fd F => ok_by F T.tb c9
  have e3 : Ca P w K mg base "refusal_of_names" ["wanted"] 1 (spRef K) := ca_mk T.h3 (fun _ _ _ _ _ _ us hl => match us, hl with | [_], _ => rfl) fun f fd F => ok_ref F T.tb T.tf
  have r0 : Cn P w K mg base "Reader" CR ["self", "numbers"] 1 (spRInit CR) := cn_mk T.ri T.mR (fun _ _ _ _ _ _ us hl => match us, hl with | [_, _], _ => rfl) fun f fd F => ok_rinit F T.tr
  have r1 : Cm P w K mg base CR "at_end" ["self"] 1 (spREnd K CR) := cm_mk T.r1 (fun _ _ _ _ _ _ us hl => match us, hl with | [_], _ => rfl) fun f fd F => ok_rend F T.tr T.tb
  have r2 : Cm P w K mg base CR "take_number" ["self"] 1 (spRNum K CR) := cm_mk T.r2 (fun _ _ _ _ _ _ us hl => match us, hl with | [_], _ => rfl) fun f fd F => ok_rnum F T.tr
  have r3 : Cm P w K mg base CR "take_row" ["self"] 2 (spRRow K CR) := cm_mk T.r3 (fun _ _ _ _ _ _ us hl => match us, hl with | [_], _ => rfl) fun f fd F => ok_rrow F T.tr T.tb r2
  have i0 : Cn P w K mg base "Folder" CF ["self"] 1 (spFInit CF) := cn_mk T.fi T.mF (fun _ _ _ _ _ _ us hl => match us, hl with | [_], _ => rfl) fun f fd F => ok_finit F T.tfo
  have m7 : Cm P w K mg base CF "end_wish" ["self"] 1 (spEnds CF) := cm_mk T.m7 (fun _ _ _ _ _ _ us hl => match us, hl with | [_], _ => rfl) fun f fd F => ok_ends F T.tfo
  have m6 : Cm P w K mg base CF "rename_next" ["self"] 2 (spRen K CF) := cm_mk T.m6 (fun _ _ _ _ _ _ us hl => match us, hl with | [_], _ => rfl) fun f fd F => ok_ren F T.tfo d1
  have m1 : Cm P w K mg base CF "begin" ["self"] 2 (spBegin K CF) := cm_mk T.m1 (fun _ _ _ _ _ _ us hl => match us, hl with | [_], _ => rfl) fun f fd F => ok_begin F T.tfo m7
  have m2 : Cm P w K mg base CF "add" ["self", "name"] 4 (spAdd K CF) := cm_mk T.m2 (fun _ _ _ _ _ _ us hl => match us, hl with | [_, _], _ => rfl) fun f fd F => ok_add F T.tfo T.tb T.tc c3
  have m3 : Cm P w K mg base CF "wish" ["self", "rule", "start", "files"] 6 (spWish K CF) := cm_mk T.m3 (fun _ _ _ _ _ _ us hl => match us, hl with | [_, _, _, _], _ => rfl) fun f fd F => ok_wish F T.tfo T.tb T.tc c4 e1 e2 e3 d2
  have m4 : Cm P w K mg base CF "step" ["self"] 3 (spStep K CF) := cm_mk T.m4 (fun _ _ _ _ _ _ us hl => match us, hl with | [_], _ => rfl) fun f fd F => ok_step F T.tfo T.tc m7 m6
  have m5 : Cm P w K mg base CF "finish" ["self"] 3 (spFin K CF) := cm_mk T.m5 (fun _ _ _ _ _ _ us hl => match us, hl with | [_], _ => rfl) fun f fd F => ok_fin F T.tfo T.tc m7 m6
  have n6 : Cm P w K mg base CF "take_back_last" ["self"] 1 (spLast K CF) := cm_mk T.n6 (fun _ _ _ _ _ _ us hl => match us, hl with | [_], _ => rfl) fun f fd F => ok_last F T.tfo
  have n1 : Cm P w K mg base CF "back" ["self"] 2 (spBack K CF) := cm_mk T.n1 (fun _ _ _ _ _ _ us hl => match us, hl with | [_], _ => rfl) fun f fd F => ok_back F T.tfo T.tb T.tc m7 n6
  have n2 : Cm P w K mg base CF "take_back_all" ["self"] 2 (spAll K CF) := cm_mk T.n2 (fun _ _ _ _ _ _ us hl => match us, hl with | [_], _ => rfl) fun f fd F => ok_all F T.tfo T.tb T.tc m7 n6
  have n3 : Cm P w K mg base CF "name_now" ["self", "file"] 1 (spNm K CF) := cm_mk T.n3 (fun _ _ _ _ _ _ us hl => match us, hl with | [_, _], _ => rfl) fun f fd F => ok_nm F T.tfo T.tb T.tk
  have n4 : Cm P w K mg base CF "find" ["self", "name"] 1 (spFind K CF) := cm_mk T.n4 (fun _ _ _ _ _ _ us hl => match us, hl with | [_, _], _ => rfl) fun f fd F => ok_find F T.tfo T.tk
  have n5 : Cm P w K mg base CF "state" ["self"] 3 (spState K CF) := cm_mk T.n5 (fun _ _ _ _ _ _ us hl => match us, hl with | [_], _ => rfl) fun f fd F => ok_state F T.tfo T.tb d2
  have cA : Ca P w K mg base "answer" ["folder", "reader"] 8 (spAnswer K CF CR) := ca_mk T.h4 (fun _ _ _ _ _ _ us hl => match us, hl with | [_, _], _ => rfl) fun f fd F => ok_answer F T.tfo T.tr T.tk r2 r3 m1 m2 m3 m4 m5 n1 n2 n3 n4 n5
  intro f fd F
  exact ok_answers F T.tb T.tr i0 r0 r1 cA (by decide)
end Rf
namespace Rf
open PySem PySem.Spec PyProof.Rows L2
theorem all_mk {P : Program} {w : World} {K : PySem.W.Frag} {mg : Str → Option Value} {CF CR fa : Addr} (hfa : mg "answers" = some (.ref fa)) (T : Facts K mg CF CR) :
    ∃ fd : FuncData, (∀ (s : Shared) (us : List Value), us.length = (["calls"] : List Str).length → BindsTo s fd ⟨us, []⟩ ((["calls"] : List Str).zip us)) ∧ ∀ base : Heap, K.In base → base.Ns mainGlobals mg → FnOk P w K mg base CX0 21 fa fd ["calls"] (spAnswers K) := by
  obtain ⟨f, fd, F, hm⟩ := T.h5
  have e : fa = f := by
    rw [hm] at hfa
    have := Option.some.inj hfa
    injection this with e
    exact e.symm
  subst e
  refine ⟨fd, ?_, fun base _ _ => all_ok T base _ fd F⟩
  obtain ⟨oc, od, kV, doc, pm, an, cdv, ct, osl, rfl, _, _⟩ := F.ex
  exact fun s us hu => match us, hu with | [_], _ => .of_eq rfl
end Rf
end
set_option Elab.async false
set_option linter.all false
set_option maxRecDepth 100000
set_option maxHeartbeats 4000000
namespace Rf
open PySem PySem.Spec PyProof.Rows L2
theorem facts_mk {K : PySem.W.Frag} {h : Heap} {mg : Str → Option Value} {CF CR : Addr} (X : K.In h) (G : h.Ns mainGlobals mg)
    {Af1 : Addr} {ocf1 kVf1 dcf1 pmf1 cdf1 ctf1 : Value} {odf1 anf1 : Option Addr} {slf1 : Array (Option Value)}
    {Af2 : Addr} {ocf2 kVf2 dcf2 pmf2 cdf2 ctf2 : Value} {odf2 anf2 : Option Addr} {slf2 : Array (Option Value)}
    {Af3 : Addr} {ocf3 kVf3 dcf3 pmf3 cdf3 ctf3 : Value} {odf3 anf3 : Option Addr} {slf3 : Array (Option Value)}
    {Af4 : Addr} {ocf4 kVf4 dcf4 pmf4 cdf4 ctf4 : Value} {odf4 anf4 : Option Addr} {slf4 : Array (Option Value)}
    {Af5 : Addr} {ocf5 kVf5 dcf5 pmf5 cdf5 ctf5 : Value} {odf5 anf5 : Option Addr} {slf5 : Array (Option Value)}
    {Af6 : Addr} {ocf6 kVf6 dcf6 pmf6 cdf6 ctf6 : Value} {odf6 anf6 : Option Addr} {slf6 : Array (Option Value)}
    {Af7 : Addr} {ocf7 kVf7 dcf7 pmf7 cdf7 ctf7 : Value} {odf7 anf7 : Option Addr} {slf7 : Array (Option Value)}
    {Af8 : Addr} {ocf8 kVf8 dcf8 pmf8 cdf8 ctf8 : Value} {odf8 anf8 : Option Addr} {slf8 : Array (Option Value)}
    {Af9 : Addr} {ocf9 kVf9 dcf9 pmf9 cdf9 ctf9 : Value} {odf9 anf9 : Option Addr} {slf9 : Array (Option Value)}
    {Ag1 : Addr} {ocg1 kVg1 dcg1 pmg1 cdg1 ctg1 : Value} {odg1 ang1 : Option Addr} {slg1 : Array (Option Value)}
    {Ag2 : Addr} {ocg2 kVg2 dcg2 pmg2 cdg2 ctg2 : Value} {odg2 ang2 : Option Addr} {slg2 : Array (Option Value)}
    {Ah1 : Addr} {och1 kVh1 dch1 pmh1 cdh1 cth1 : Value} {odh1 anh1 : Option Addr} {slh1 : Array (Option Value)}
    {Ah2 : Addr} {och2 kVh2 dch2 pmh2 cdh2 cth2 : Value} {odh2 anh2 : Option Addr} {slh2 : Array (Option Value)}
    {Ah3 : Addr} {och3 kVh3 dch3 pmh3 cdh3 cth3 : Value} {odh3 anh3 : Option Addr} {slh3 : Array (Option Value)}
    {Ah4 : Addr} {och4 kVh4 dch4 pmh4 cdh4 cth4 : Value} {odh4 anh4 : Option Addr} {slh4 : Array (Option Value)}
    {Ah5 : Addr} {och5 kVh5 dch5 pmh5 cdh5 cth5 : Value} {odh5 anh5 : Option Addr} {slh5 : Array (Option Value)}
    {Ari : Addr} {ocri kVri dcri pmri cdri ctri : Value} {odri anri : Option Addr} {slri : Array (Option Value)}
    {Ar1 : Addr} {ocr1 kVr1 dcr1 pmr1 cdr1 ctr1 : Value} {odr1 anr1 : Option Addr} {slr1 : Array (Option Value)}
    {Ar2 : Addr} {ocr2 kVr2 dcr2 pmr2 cdr2 ctr2 : Value} {odr2 anr2 : Option Addr} {slr2 : Array (Option Value)}
    {Ar3 : Addr} {ocr3 kVr3 dcr3 pmr3 cdr3 ctr3 : Value} {odr3 anr3 : Option Addr} {slr3 : Array (Option Value)}
    {Afi : Addr} {ocfi kVfi dcfi pmfi cdfi ctfi : Value} {odfi anfi : Option Addr} {slfi : Array (Option Value)}
    {Am1 : Addr} {ocm1 kVm1 dcm1 pmm1 cdm1 ctm1 : Value} {odm1 anm1 : Option Addr} {slm1 : Array (Option Value)}
    {Am2 : Addr} {ocm2 kVm2 dcm2 pmm2 cdm2 ctm2 : Value} {odm2 anm2 : Option Addr} {slm2 : Array (Option Value)}
    {Am3 : Addr} {ocm3 kVm3 dcm3 pmm3 cdm3 ctm3 : Value} {odm3 anm3 : Option Addr} {slm3 : Array (Option Value)}
    {Am4 : Addr} {ocm4 kVm4 dcm4 pmm4 cdm4 ctm4 : Value} {odm4 anm4 : Option Addr} {slm4 : Array (Option Value)}
    {Am5 : Addr} {ocm5 kVm5 dcm5 pmm5 cdm5 ctm5 : Value} {odm5 anm5 : Option Addr} {slm5 : Array (Option Value)}
    {Am6 : Addr} {ocm6 kVm6 dcm6 pmm6 cdm6 ctm6 : Value} {odm6 anm6 : Option Addr} {slm6 : Array (Option Value)}
    {Am7 : Addr} {ocm7 kVm7 dcm7 pmm7 cdm7 ctm7 : Value} {odm7 anm7 : Option Addr} {slm7 : Array (Option Value)}
    {An1 : Addr} {ocn1 kVn1 dcn1 pmn1 cdn1 ctn1 : Value} {odn1 ann1 : Option Addr} {sln1 : Array (Option Value)}
    {An2 : Addr} {ocn2 kVn2 dcn2 pmn2 cdn2 ctn2 : Value} {odn2 ann2 : Option Addr} {sln2 : Array (Option Value)}
    {An3 : Addr} {ocn3 kVn3 dcn3 pmn3 cdn3 ctn3 : Value} {odn3 ann3 : Option Addr} {sln3 : Array (Option Value)}
    {An4 : Addr} {ocn4 kVn4 dcn4 pmn4 cdn4 ctn4 : Value} {odn4 ann4 : Option Addr} {sln4 : Array (Option Value)}
    {An5 : Addr} {ocn5 kVn5 dcn5 pmn5 cdn5 ctn5 : Value} {odn5 ann5 : Option Addr} {sln5 : Array (Option Value)}
    {An6 : Addr} {ocn6 kVn6 dcn6 pmn6 cdn6 ctn6 : Value} {odn6 ann6 : Option Addr} {sln6 : Array (Option Value)}
    {tln : Tok}
    {tlr : Tok}
    {tnnn : Tok}
    {tsnn : Tok}
    {tmf : Tok}
    {ttm : Tok}
    {twu : Tok}
    {tnt : Tok}
    {tnv : Tok}
    {tnw : Tok}
    {tnr : Tok}
    {tk0 : Tok}
    {tk1 : Tok}
    {tk2 : Tok}
    {tk3 : Tok}
    {tk4 : Tok}
    {tk5 : Tok}
    {tk6 : Tok}
    {tk7 : Tok}
    {tk8 : Tok}
    {tk9 : Tok}
    {tnx : Tok}
    {bb : Addr} {bt : Tok} {bn : Nat} {bod : Option Addr} {bsl : Array (Option Value)}
    (aCF : PySem.W.nsIn K mainGlobals "Folder" = some (some (.ref CF)))
    (aCR : PySem.W.nsIn K mainGlobals "Reader" = some (some (.ref CR)))
    (af1 : PySem.W.nsIn K mainGlobals "is_name_sign" = some (some (.ref Af1)))
    (lf1 : K.lookup Af1 = some ⟨ocf1, odf1, .func (PySem.W.fnOf "is_name_sign" "is_name_sign" (defArgs sSign) (defBody sSign) (defScope sSign) .none kVf1 dcf1 pmf1 anf1 cdf1 ctf1), slf1⟩)
    (cf1 : PySem.W.codeIn K cdf1 "is_name_sign" = true)
    (kf1 : PySem.W.keepIn K (.ref Af1) = true)
    (af2 : PySem.W.nsIn K mainGlobals "is_rule_sign" = some (some (.ref Af2)))
    (lf2 : K.lookup Af2 = some ⟨ocf2, odf2, .func (PySem.W.fnOf "is_rule_sign" "is_rule_sign" (defArgs sRSign) (defBody sRSign) (defScope sRSign) .none kVf2 dcf2 pmf2 anf2 cdf2 ctf2), slf2⟩)
    (cf2 : PySem.W.codeIn K cdf2 "is_rule_sign" = true)
    (kf2 : PySem.W.keepIn K (.ref Af2) = true)
    (af3 : PySem.W.nsIn K mainGlobals "is_name" = some (some (.ref Af3)))
    (lf3 : K.lookup Af3 = some ⟨ocf3, odf3, .func (PySem.W.fnOf "is_name" "is_name" (defArgs sName) (defBody sName) (defScope sName) .none kVf3 dcf3 pmf3 anf3 cdf3 ctf3), slf3⟩)
    (cf3 : PySem.W.codeIn K cdf3 "is_name" = true)
    (kf3 : PySem.W.keepIn K (.ref Af3) = true)
    (af4 : PySem.W.nsIn K mainGlobals "is_rule" = some (some (.ref Af4)))
    (lf4 : K.lookup Af4 = some ⟨ocf4, odf4, .func (PySem.W.fnOf "is_rule" "is_rule" (defArgs sRule) (defBody sRule) (defScope sRule) .none kVf4 dcf4 pmf4 anf4 cdf4 ctf4), slf4⟩)
    (cf4 : PySem.W.codeIn K cdf4 "is_rule" = true)
    (kf4 : PySem.W.keepIn K (.ref Af4) = true)
    (af5 : PySem.W.nsIn K mainGlobals "stem_length" = some (some (.ref Af5)))
    (lf5 : K.lookup Af5 = some ⟨ocf5, odf5, .func (PySem.W.fnOf "stem_length" "stem_length" (defArgs sStem) (defBody sStem) (defScope sStem) .none kVf5 dcf5 pmf5 anf5 cdf5 ctf5), slf5⟩)
    (cf5 : PySem.W.codeIn K cdf5 "stem_length" = true)
    (kf5 : PySem.W.keepIn K (.ref Af5) = true)
    (af6 : PySem.W.nsIn K mainGlobals "run_length" = some (some (.ref Af6)))
    (lf6 : K.lookup Af6 = some ⟨ocf6, odf6, .func (PySem.W.fnOf "run_length" "run_length" (defArgs sRun) (defBody sRun) (defScope sRun) .none kVf6 dcf6 pmf6 anf6 cdf6 ctf6), slf6⟩)
    (cf6 : PySem.W.codeIn K cdf6 "run_length" = true)
    (kf6 : PySem.W.keepIn K (.ref Af6) = true)
    (af7 : PySem.W.nsIn K mainGlobals "digits_of" = some (some (.ref Af7)))
    (lf7 : K.lookup Af7 = some ⟨ocf7, odf7, .func (PySem.W.fnOf "digits_of" "digits_of" (defArgs sDigits) (defBody sDigits) (defScope sDigits) .none kVf7 dcf7 pmf7 anf7 cdf7 ctf7), slf7⟩)
    (cf7 : PySem.W.codeIn K cdf7 "digits_of" = true)
    (kf7 : PySem.W.keepIn K (.ref Af7) = true)
    (af8 : PySem.W.nsIn K mainGlobals "stand_in" = some (some (.ref Af8)))
    (lf8 : K.lookup Af8 = some ⟨ocf8, odf8, .func (PySem.W.fnOf "stand_in" "stand_in" (defArgs sStand) (defBody sStand) (defScope sStand) .none kVf8 dcf8 pmf8 anf8 cdf8 ctf8), slf8⟩)
    (cf8 : PySem.W.codeIn K cdf8 "stand_in" = true)
    (kf8 : PySem.W.keepIn K (.ref Af8) = true)
    (af9 : PySem.W.nsIn K mainGlobals "new_name" = some (some (.ref Af9)))
    (lf9 : K.lookup Af9 = some ⟨ocf9, odf9, .func (PySem.W.fnOf "new_name" "new_name" (defArgs sNew) (defBody sNew) (defScope sNew) .none kVf9 dcf9 pmf9 anf9 cdf9 ctf9), slf9⟩)
    (cf9 : PySem.W.codeIn K cdf9 "new_name" = true)
    (kf9 : PySem.W.keepIn K (.ref Af9) = true)
    (ag1 : PySem.W.nsIn K mainGlobals "next_renaming" = some (some (.ref Ag1)))
    (lg1 : K.lookup Ag1 = some ⟨ocg1, odg1, .func (PySem.W.fnOf "next_renaming" "next_renaming" (defArgs sNext) (defBody sNext) (defScope sNext) .none kVg1 dcg1 pmg1 ang1 cdg1 ctg1), slg1⟩)
    (cg1 : PySem.W.codeIn K cdg1 "next_renaming" = true)
    (kg1 : PySem.W.keepIn K (.ref Ag1) = true)
    (ag2 : PySem.W.nsIn K mainGlobals "renamings_left" = some (some (.ref Ag2)))
    (lg2 : K.lookup Ag2 = some ⟨ocg2, odg2, .func (PySem.W.fnOf "renamings_left" "renamings_left" (defArgs sLeft) (defBody sLeft) (defScope sLeft) .none kVg2 dcg2 pmg2 ang2 cdg2 ctg2), slg2⟩)
    (cg2 : PySem.W.codeIn K cdg2 "renamings_left" = true)
    (kg2 : PySem.W.keepIn K (.ref Ag2) = true)
    (ah1 : PySem.W.nsIn K mainGlobals "can_be_told" = some (some (.ref Ah1)))
    (lh1 : K.lookup Ah1 = some ⟨och1, odh1, .func (PySem.W.fnOf "can_be_told" "can_be_told" (defArgs sTold) (defBody sTold) (defScope sTold) .none kVh1 dch1 pmh1 anh1 cdh1 cth1), slh1⟩)
    (ch1 : PySem.W.codeIn K cdh1 "can_be_told" = true)
    (kh1 : PySem.W.keepIn K (.ref Ah1) = true)
    (ah2 : PySem.W.nsIn K mainGlobals "names_by_rule" = some (some (.ref Ah2)))
    (lh2 : K.lookup Ah2 = some ⟨och2, odh2, .func (PySem.W.fnOf "names_by_rule" "names_by_rule" (defArgs sBy) (defBody sBy) (defScope sBy) .none kVh2 dch2 pmh2 anh2 cdh2 cth2), slh2⟩)
    (ch2 : PySem.W.codeIn K cdh2 "names_by_rule" = true)
    (kh2 : PySem.W.keepIn K (.ref Ah2) = true)
    (ah3 : PySem.W.nsIn K mainGlobals "refusal_of_names" = some (some (.ref Ah3)))
    (lh3 : K.lookup Ah3 = some ⟨och3, odh3, .func (PySem.W.fnOf "refusal_of_names" "refusal_of_names" (defArgs sRef) (defBody sRef) (defScope sRef) .none kVh3 dch3 pmh3 anh3 cdh3 cth3), slh3⟩)
    (ch3 : PySem.W.codeIn K cdh3 "refusal_of_names" = true)
    (kh3 : PySem.W.keepIn K (.ref Ah3) = true)
    (ah4 : PySem.W.nsIn K mainGlobals "answer" = some (some (.ref Ah4)))
    (lh4 : K.lookup Ah4 = some ⟨och4, odh4, .func (PySem.W.fnOf "answer" "answer" (defArgs sAnswer) (defBody sAnswer) (defScope sAnswer) .none kVh4 dch4 pmh4 anh4 cdh4 cth4), slh4⟩)
    (ch4 : PySem.W.codeIn K cdh4 "answer" = true)
    (kh4 : PySem.W.keepIn K (.ref Ah4) = true)
    (ah5 : PySem.W.nsIn K mainGlobals "answers" = some (some (.ref Ah5)))
    (lh5 : K.lookup Ah5 = some ⟨och5, odh5, .func (PySem.W.fnOf "answers" "answers" (defArgs sAnswers) (defBody sAnswers) (defScope sAnswers) .none kVh5 dch5 pmh5 anh5 cdh5 cth5), slh5⟩)
    (ch5 : PySem.W.codeIn K cdh5 "answers" = true)
    (kh5 : PySem.W.keepIn K (.ref Ah5) = true)
    (ari : PySem.W.findIn K (.ref CR) "__init__" = some (some (.ref Ari)))
    (iri : PySem.W.isFn K (.ref Ari) = true)
    (lri : K.lookup Ari = some ⟨ocri, odri, .func (PySem.W.fnOf "__init__" "Reader.__init__" (defArgs sRInit) (defBody sRInit) (defScope sRInit) .none kVri dcri pmri anri cdri ctri), slri⟩)
    (cri : PySem.W.codeIn K cdri "Reader.__init__" = true)
    (kri : PySem.W.keepIn K (.ref Ari) = true)
    (ar1 : PySem.W.findIn K (.ref CR) "at_end" = some (some (.ref Ar1)))
    (ir1 : PySem.W.isFn K (.ref Ar1) = true)
    (lr1 : K.lookup Ar1 = some ⟨ocr1, odr1, .func (PySem.W.fnOf "at_end" "Reader.at_end" (defArgs sREnd) (defBody sREnd) (defScope sREnd) .none kVr1 dcr1 pmr1 anr1 cdr1 ctr1), slr1⟩)
    (cr1 : PySem.W.codeIn K cdr1 "Reader.at_end" = true)
    (kr1 : PySem.W.keepIn K (.ref Ar1) = true)
    (ar2 : PySem.W.findIn K (.ref CR) "take_number" = some (some (.ref Ar2)))
    (ir2 : PySem.W.isFn K (.ref Ar2) = true)
    (lr2 : K.lookup Ar2 = some ⟨ocr2, odr2, .func (PySem.W.fnOf "take_number" "Reader.take_number" (defArgs sRNum) (defBody sRNum) (defScope sRNum) .none kVr2 dcr2 pmr2 anr2 cdr2 ctr2), slr2⟩)
    (cr2 : PySem.W.codeIn K cdr2 "Reader.take_number" = true)
    (kr2 : PySem.W.keepIn K (.ref Ar2) = true)
    (ar3 : PySem.W.findIn K (.ref CR) "take_row" = some (some (.ref Ar3)))
    (ir3 : PySem.W.isFn K (.ref Ar3) = true)
    (lr3 : K.lookup Ar3 = some ⟨ocr3, odr3, .func (PySem.W.fnOf "take_row" "Reader.take_row" (defArgs sRRow) (defBody sRRow) (defScope sRRow) .none kVr3 dcr3 pmr3 anr3 cdr3 ctr3), slr3⟩)
    (cr3 : PySem.W.codeIn K cdr3 "Reader.take_row" = true)
    (kr3 : PySem.W.keepIn K (.ref Ar3) = true)
    (afi : PySem.W.findIn K (.ref CF) "__init__" = some (some (.ref Afi)))
    (ifi : PySem.W.isFn K (.ref Afi) = true)
    (lfi : K.lookup Afi = some ⟨ocfi, odfi, .func (PySem.W.fnOf "__init__" "Folder.__init__" (defArgs sFInit) (defBody sFInit) (defScope sFInit) .none kVfi dcfi pmfi anfi cdfi ctfi), slfi⟩)
    (cfi : PySem.W.codeIn K cdfi "Folder.__init__" = true)
    (kfi : PySem.W.keepIn K (.ref Afi) = true)
    (am1 : PySem.W.findIn K (.ref CF) "begin" = some (some (.ref Am1)))
    (im1 : PySem.W.isFn K (.ref Am1) = true)
    (lm1 : K.lookup Am1 = some ⟨ocm1, odm1, .func (PySem.W.fnOf "begin" "Folder.begin" (defArgs sBegin) (defBody sBegin) (defScope sBegin) .none kVm1 dcm1 pmm1 anm1 cdm1 ctm1), slm1⟩)
    (cm1 : PySem.W.codeIn K cdm1 "Folder.begin" = true)
    (km1 : PySem.W.keepIn K (.ref Am1) = true)
    (am2 : PySem.W.findIn K (.ref CF) "add" = some (some (.ref Am2)))
    (im2 : PySem.W.isFn K (.ref Am2) = true)
    (lm2 : K.lookup Am2 = some ⟨ocm2, odm2, .func (PySem.W.fnOf "add" "Folder.add" (defArgs sAdd) (defBody sAdd) (defScope sAdd) .none kVm2 dcm2 pmm2 anm2 cdm2 ctm2), slm2⟩)
    (cm2 : PySem.W.codeIn K cdm2 "Folder.add" = true)
    (km2 : PySem.W.keepIn K (.ref Am2) = true)
    (am3 : PySem.W.findIn K (.ref CF) "wish" = some (some (.ref Am3)))
    (im3 : PySem.W.isFn K (.ref Am3) = true)
    (lm3 : K.lookup Am3 = some ⟨ocm3, odm3, .func (PySem.W.fnOf "wish" "Folder.wish" (defArgs sWish) (defBody sWish) (defScope sWish) .none kVm3 dcm3 pmm3 anm3 cdm3 ctm3), slm3⟩)
    (cm3 : PySem.W.codeIn K cdm3 "Folder.wish" = true)
    (km3 : PySem.W.keepIn K (.ref Am3) = true)
    (am4 : PySem.W.findIn K (.ref CF) "step" = some (some (.ref Am4)))
    (im4 : PySem.W.isFn K (.ref Am4) = true)
    (lm4 : K.lookup Am4 = some ⟨ocm4, odm4, .func (PySem.W.fnOf "step" "Folder.step" (defArgs sStep) (defBody sStep) (defScope sStep) .none kVm4 dcm4 pmm4 anm4 cdm4 ctm4), slm4⟩)
    (cm4 : PySem.W.codeIn K cdm4 "Folder.step" = true)
    (km4 : PySem.W.keepIn K (.ref Am4) = true)
    (am5 : PySem.W.findIn K (.ref CF) "finish" = some (some (.ref Am5)))
    (im5 : PySem.W.isFn K (.ref Am5) = true)
    (lm5 : K.lookup Am5 = some ⟨ocm5, odm5, .func (PySem.W.fnOf "finish" "Folder.finish" (defArgs sFin) (defBody sFin) (defScope sFin) .none kVm5 dcm5 pmm5 anm5 cdm5 ctm5), slm5⟩)
    (cm5 : PySem.W.codeIn K cdm5 "Folder.finish" = true)
    (km5 : PySem.W.keepIn K (.ref Am5) = true)
    (am6 : PySem.W.findIn K (.ref CF) "rename_next" = some (some (.ref Am6)))
    (im6 : PySem.W.isFn K (.ref Am6) = true)
    (lm6 : K.lookup Am6 = some ⟨ocm6, odm6, .func (PySem.W.fnOf "rename_next" "Folder.rename_next" (defArgs sRen) (defBody sRen) (defScope sRen) .none kVm6 dcm6 pmm6 anm6 cdm6 ctm6), slm6⟩)
    (cm6 : PySem.W.codeIn K cdm6 "Folder.rename_next" = true)
    (km6 : PySem.W.keepIn K (.ref Am6) = true)
    (am7 : PySem.W.findIn K (.ref CF) "end_wish" = some (some (.ref Am7)))
    (im7 : PySem.W.isFn K (.ref Am7) = true)
    (lm7 : K.lookup Am7 = some ⟨ocm7, odm7, .func (PySem.W.fnOf "end_wish" "Folder.end_wish" (defArgs sEnds) (defBody sEnds) (defScope sEnds) .none kVm7 dcm7 pmm7 anm7 cdm7 ctm7), slm7⟩)
    (cm7 : PySem.W.codeIn K cdm7 "Folder.end_wish" = true)
    (km7 : PySem.W.keepIn K (.ref Am7) = true)
    (an1 : PySem.W.findIn K (.ref CF) "back" = some (some (.ref An1)))
    (in1 : PySem.W.isFn K (.ref An1) = true)
    (ln1 : K.lookup An1 = some ⟨ocn1, odn1, .func (PySem.W.fnOf "back" "Folder.back" (defArgs sBack) (defBody sBack) (defScope sBack) .none kVn1 dcn1 pmn1 ann1 cdn1 ctn1), sln1⟩)
    (cn1 : PySem.W.codeIn K cdn1 "Folder.back" = true)
    (kn1 : PySem.W.keepIn K (.ref An1) = true)
    (an2 : PySem.W.findIn K (.ref CF) "take_back_all" = some (some (.ref An2)))
    (in2 : PySem.W.isFn K (.ref An2) = true)
    (ln2 : K.lookup An2 = some ⟨ocn2, odn2, .func (PySem.W.fnOf "take_back_all" "Folder.take_back_all" (defArgs sAll) (defBody sAll) (defScope sAll) .none kVn2 dcn2 pmn2 ann2 cdn2 ctn2), sln2⟩)
    (cn2 : PySem.W.codeIn K cdn2 "Folder.take_back_all" = true)
    (kn2 : PySem.W.keepIn K (.ref An2) = true)
    (an3 : PySem.W.findIn K (.ref CF) "name_now" = some (some (.ref An3)))
    (in3 : PySem.W.isFn K (.ref An3) = true)
    (ln3 : K.lookup An3 = some ⟨ocn3, odn3, .func (PySem.W.fnOf "name_now" "Folder.name_now" (defArgs sNm) (defBody sNm) (defScope sNm) .none kVn3 dcn3 pmn3 ann3 cdn3 ctn3), sln3⟩)
    (cn3 : PySem.W.codeIn K cdn3 "Folder.name_now" = true)
    (kn3 : PySem.W.keepIn K (.ref An3) = true)
    (an4 : PySem.W.findIn K (.ref CF) "find" = some (some (.ref An4)))
    (in4 : PySem.W.isFn K (.ref An4) = true)
    (ln4 : K.lookup An4 = some ⟨ocn4, odn4, .func (PySem.W.fnOf "find" "Folder.find" (defArgs sFind) (defBody sFind) (defScope sFind) .none kVn4 dcn4 pmn4 ann4 cdn4 ctn4), sln4⟩)
    (cn4 : PySem.W.codeIn K cdn4 "Folder.find" = true)
    (kn4 : PySem.W.keepIn K (.ref An4) = true)
    (an5 : PySem.W.findIn K (.ref CF) "state" = some (some (.ref An5)))
    (in5 : PySem.W.isFn K (.ref An5) = true)
    (ln5 : K.lookup An5 = some ⟨ocn5, odn5, .func (PySem.W.fnOf "state" "Folder.state" (defArgs sState) (defBody sState) (defScope sState) .none kVn5 dcn5 pmn5 ann5 cdn5 ctn5), sln5⟩)
    (cn5 : PySem.W.codeIn K cdn5 "Folder.state" = true)
    (kn5 : PySem.W.keepIn K (.ref An5) = true)
    (an6 : PySem.W.findIn K (.ref CF) "take_back_last" = some (some (.ref An6)))
    (in6 : PySem.W.isFn K (.ref An6) = true)
    (ln6 : K.lookup An6 = some ⟨ocn6, odn6, .func (PySem.W.fnOf "take_back_last" "Folder.take_back_last" (defArgs sLast) (defBody sLast) (defScope sLast) .none kVn6 dcn6 pmn6 ann6 cdn6 ctn6), sln6⟩)
    (cn6 : PySem.W.codeIn K cdn6 "Folder.take_back_last" = true)
    (kn6 : PySem.W.keepIn K (.ref An6) = true)
    (pgCF : PySem.W.plainGet K CF Str.empty = true)
    (hdCF : PySem.W.hasDictIn K CF = true)
    (poCF : PySem.W.plainOver K CF = true)
    (saCF : PySem.W.findIn K (.ref CF) "__setattr__" = some (some (.builtin "object.__setattr__")))
    (mkCF : PySem.W.makesIn K CF = true)
    (kcCF : PySem.W.keepIn K (.ref CF) = true)
    (pgCR : PySem.W.plainGet K CR Str.empty = true)
    (hdCR : PySem.W.hasDictIn K CR = true)
    (poCR : PySem.W.plainOver K CR = true)
    (saCR : PySem.W.findIn K (.ref CR) "__setattr__" = some (some (.builtin "object.__setattr__")))
    (mkCR : PySem.W.makesIn K CR = true)
    (kcCR : PySem.W.keepIn K (.ref CR) = true)
    (nCRnumbers : PySem.W.findIn K (.ref CR) "numbers" = some none)
    (nCRplace : PySem.W.findIn K (.ref CR) "place" = some none)
    (nCFnames : PySem.W.findIn K (.ref CF) "names" = some none)
    (nCFwanted : PySem.W.findIn K (.ref CF) "wanted" = some none)
    (nCFdone : PySem.W.findIn K (.ref CF) "done" = some none)
    (zord : PySem.W.nsIn K mainGlobals "ord" = some none)
    (zlen : PySem.W.nsIn K mainGlobals "len" = some none)
    (zall : PySem.W.nsIn K mainGlobals "all" = some none)
    (zstr : PySem.W.nsIn K mainGlobals "str" = some none)
    (zrange : PySem.W.nsIn K mainGlobals "range" = some none)
    (zlist : PySem.W.nsIn K mainGlobals "list" = some none)
    (ztuple : PySem.W.nsIn K mainGlobals "tuple" = some none)
    (vln : PySem.W.nsIn K mainGlobals "LONGEST_NAME" = some (some (.int (16) tln)))
    (vlr : PySem.W.nsIn K mainGlobals "LONGEST_RULE" = some (some (.int (24) tlr)))
    (vnnn : PySem.W.nsIn K mainGlobals "NO_NEW_NAME" = some (some (.int (-1000) tnnn)))
    (vsnn : PySem.W.nsIn K mainGlobals "SAME_NEW_NAME" = some (some (.int (-2000) tsnn)))
    (vmf : PySem.W.nsIn K mainGlobals "MOST_FILES" = some (some (.int (16) tmf)))
    (vtm : PySem.W.nsIn K mainGlobals "TOO_MANY_FILES" = some (some (.int (-12) ttm)))
    (vwu : PySem.W.nsIn K mainGlobals "WISH_UNDER_WAY" = some (some (.int (-15) twu)))
    (vnt : PySem.W.nsIn K mainGlobals "NAME_TAKEN" = some (some (.int (-17) tnt)))
    (vnv : PySem.W.nsIn K mainGlobals "NOT_VALID" = some (some (.int (-22) tnv)))
    (vnw : PySem.W.nsIn K mainGlobals "NO_WISH" = some (some (.int (-61) tnw)))
    (vnr : PySem.W.nsIn K mainGlobals "NO_RULE" = some (some (.int (-71) tnr)))
    (vk0 : PySem.W.nsIn K mainGlobals "BEGIN" = some (some (.int (0) tk0)))
    (vk1 : PySem.W.nsIn K mainGlobals "ADD" = some (some (.int (1) tk1)))
    (vk2 : PySem.W.nsIn K mainGlobals "WISH" = some (some (.int (2) tk2)))
    (vk3 : PySem.W.nsIn K mainGlobals "STEP" = some (some (.int (3) tk3)))
    (vk4 : PySem.W.nsIn K mainGlobals "FINISH" = some (some (.int (4) tk4)))
    (vk5 : PySem.W.nsIn K mainGlobals "BACK" = some (some (.int (5) tk5)))
    (vk6 : PySem.W.nsIn K mainGlobals "ALL" = some (some (.int (6) tk6)))
    (vk7 : PySem.W.nsIn K mainGlobals "NAME" = some (some (.int (7) tk7)))
    (vk8 : PySem.W.nsIn K mainGlobals "FIND" = some (some (.int (8) tk8)))
    (vk9 : PySem.W.nsIn K mainGlobals "STATE" = some (some (.int (9) tk9)))
    (vnx : PySem.W.nsIn K mainGlobals "NOT_THERE" = some (some (.int (-2) tnx)))
    (abt : PySem.W.nsIn K mainGlobals "BETWEEN" = some (some (.ref bb)))
    (lbt : K.lookup bb = some ⟨.type "tuple", bod, .seq #[.int 126 bt] bn, bsl⟩) : Facts K mg CF CR where
  tb := ⟨PySem.W.mg_none_of X G zord, PySem.W.mg_none_of X G zlen, PySem.W.mg_none_of X G zall, PySem.W.mg_none_of X G zstr, PySem.W.mg_none_of X G zrange, PySem.W.mg_none_of X G zlist, PySem.W.mg_none_of X G ztuple, int_in X G vln, int_in X G vlr⟩
  tn := btw_in X G abt lbt
  tf := ⟨int_in X G vnnn, int_in X G vsnn⟩
  tc := ⟨int_in X G vmf, int_in X G vtm, int_in X G vwu, int_in X G vnt, int_in X G vnv, int_in X G vnw, int_in X G vnr⟩
  tk := ⟨int_in X G vk0, int_in X G vk1, int_in X G vk2, int_in X G vk3, int_in X G vk4, int_in X G vk5, int_in X G vk6, int_in X G vk7, int_in X G vk8, int_in X G vk9, int_in X G vnx⟩
  tr := ⟨⟨pgCR, hdCR, poCR, saCR⟩, nCRnumbers, nCRplace⟩
  tfo := ⟨⟨pgCF, hdCF, poCF, saCF⟩, nCFnames, nCFwanted, nCFdone⟩
  mF := PySem.W.mg_of X G aCF
  mR := PySem.W.mg_of X G aCR
  f1 := fn_in X G af1 lf1 cf1 kf1
  f2 := fn_in X G af2 lf2 cf2 kf2
  f3 := fn_in X G af3 lf3 cf3 kf3
  f4 := fn_in X G af4 lf4 cf4 kf4
  f5 := fn_in X G af5 lf5 cf5 kf5
  f6 := fn_in X G af6 lf6 cf6 kf6
  f7 := fn_in X G af7 lf7 cf7 kf7
  f8 := fn_in X G af8 lf8 cf8 kf8
  f9 := fn_in X G af9 lf9 cf9 kf9
  g1 := fn_in X G ag1 lg1 cg1 kg1
  g2 := fn_in X G ag2 lg2 cg2 kg2
  h1 := fn_in X G ah1 lh1 ch1 kh1
  h2 := fn_in X G ah2 lh2 ch2 kh2
  h3 := fn_in X G ah3 lh3 ch3 kh3
  h4 := fn_in X G ah4 lh4 ch4 kh4
  h5 := fn_in X G ah5 lh5 ch5 kh5
  ri := in_in ari iri lri cri kri mkCR kcCR
  r1 := mt_in ar1 ir1 lr1 cr1 kr1
  r2 := mt_in ar2 ir2 lr2 cr2 kr2
  r3 := mt_in ar3 ir3 lr3 cr3 kr3
  fi := in_in afi ifi lfi cfi kfi mkCF kcCF
  m1 := mt_in am1 im1 lm1 cm1 km1
  m2 := mt_in am2 im2 lm2 cm2 km2
  m3 := mt_in am3 im3 lm3 cm3 km3
  m4 := mt_in am4 im4 lm4 cm4 km4
  m5 := mt_in am5 im5 lm5 cm5 km5
  m6 := mt_in am6 im6 lm6 cm6 km6
  m7 := mt_in am7 im7 lm7 cm7 km7
  n1 := mt_in an1 in1 ln1 cn1 kn1
  n2 := mt_in an2 in2 ln2 cn2 kn2
  n3 := mt_in an3 in3 ln3 cn3 kn3
  n4 := mt_in an4 in4 ln4 cn4 kn4
  n5 := mt_in an5 in5 ln5 cn5 kn5
  n6 := mt_in an6 in6 ln6 cn6 kn6
end Rf
open PySem PySem.W PyProof.Rows
set_option maxRecDepth 100000 in
set_option maxHeartbeats 0 in
theorem PySem.Challenge.cw_renamedfiles_s01_answers_holds : PySem.Challenge.rw_renamedfiles_s01_answers.Holds := by
  w_on; k_headS; (case hw => exact ⟨[.list [.int 0]], by decide +kernel, by decide +kernel⟩)
  k_fillS
  refine L2.walk_specK (r := PySem.Challenge.rw_renamedfiles_s01_answers) (k := 21) (CX := L2.CX0) (ps := ["calls"]) (sp := Rf.spAnswers) (by decide +kernel) rfl rfl ⟨rfl, by decide, by decide⟩ (fun w h Y => PySem.W.kIn_of Y) ?F ?S (fun _ _ _ _ z => z)
  case F =>
    intro w mg fa h Y KX G hmg
    refine' Rf.all_mk hmg (Rf.facts_mk KX G ?aCF ?aCR ?af1 ?lf1 ?cf1 ?kf1 ?af2 ?lf2 ?cf2 ?kf2 ?af3 ?lf3 ?cf3 ?kf3 ?af4 ?lf4 ?cf4 ?kf4 ?af5 ?lf5 ?cf5 ?kf5 ?af6 ?lf6 ?cf6 ?kf6 ?af7 ?lf7 ?cf7 ?kf7 ?af8 ?lf8 ?cf8 ?kf8 ?af9 ?lf9 ?cf9 ?kf9 ?ag1 ?lg1 ?cg1 ?kg1 ?ag2 ?lg2 ?cg2 ?kg2 ?ah1 ?lh1 ?ch1 ?kh1 ?ah2 ?lh2 ?ch2 ?kh2 ?ah3 ?lh3 ?ch3 ?kh3 ?ah4 ?lh4 ?ch4 ?kh4 ?ah5 ?lh5 ?ch5 ?kh5 ?ari ?iri ?lri ?cri ?kri ?ar1 ?ir1 ?lr1 ?cr1 ?kr1 ?ar2 ?ir2 ?lr2 ?cr2 ?kr2 ?ar3 ?ir3 ?lr3 ?cr3 ?kr3 ?afi ?ifi ?lfi ?cfi ?kfi ?am1 ?im1 ?lm1 ?cm1 ?km1 ?am2 ?im2 ?lm2 ?cm2 ?km2 ?am3 ?im3 ?lm3 ?cm3 ?km3 ?am4 ?im4 ?lm4 ?cm4 ?km4 ?am5 ?im5 ?lm5 ?cm5 ?km5 ?am6 ?im6 ?lm6 ?cm6 ?km6 ?am7 ?im7 ?lm7 ?cm7 ?km7 ?an1 ?in1 ?ln1 ?cn1 ?kn1 ?an2 ?in2 ?ln2 ?cn2 ?kn2 ?an3 ?in3 ?ln3 ?cn3 ?kn3 ?an4 ?in4 ?ln4 ?cn4 ?kn4 ?an5 ?in5 ?ln5 ?cn5 ?kn5 ?an6 ?in6 ?ln6 ?cn6 ?kn6 ?pgCF ?hdCF ?poCF ?saCF ?mkCF ?kcCF ?pgCR ?hdCR ?poCR ?saCR ?mkCR ?kcCR ?nCRnumbers ?nCRplace ?nCFnames ?nCFwanted ?nCFdone ?zord ?zlen ?zall ?zstr ?zrange ?zlist ?ztuple ?vln ?vlr ?vnnn ?vsnn ?vmf ?vtm ?vwu ?vnt ?vnv ?vnw ?vnr ?vk0 ?vk1 ?vk2 ?vk3 ?vk4 ?vk5 ?vk6 ?vk7 ?vk8 ?vk9 ?vnx ?abt ?lbt)
    (case aCF => k_is)
    (case aCR => k_is)
    (case af1 => k_is)
    (case lf1 => k_is)
    (case cf1 => k_is)
    (case kf1 => k_is)
    (case af2 => k_is)
    (case lf2 => k_is)
    (case cf2 => k_is)
    (case kf2 => k_is)
    (case af3 => k_is)
    (case lf3 => k_is)
    (case cf3 => k_is)
    (case kf3 => k_is)
    (case af4 => k_is)
    (case lf4 => k_is)
    (case cf4 => k_is)
    (case kf4 => k_is)
    (case af5 => k_is)
    (case lf5 => k_is)
    (case cf5 => k_is)
    (case kf5 => k_is)
    (case af6 => k_is)
    (case lf6 => k_is)
    (case cf6 => k_is)
    (case kf6 => k_is)
    (case af7 => k_is)
    (case lf7 => k_is)
    (case cf7 => k_is)
    (case kf7 => k_is)
    (case af8 => k_is)
    (case lf8 => k_is)
    (case cf8 => k_is)
    (case kf8 => k_is)
    (case af9 => k_is)
    (case lf9 => k_is)
    (case cf9 => k_is)
    (case kf9 => k_is)
    (case ag1 => k_is)
    (case lg1 => k_is)
    (case cg1 => k_is)
    (case kg1 => k_is)
    (case ag2 => k_is)
    (case lg2 => k_is)
    (case cg2 => k_is)
    (case kg2 => k_is)
    (case ah1 => k_is)
    (case lh1 => k_is)
    (case ch1 => k_is)
    (case kh1 => k_is)
    (case ah2 => k_is)
    (case lh2 => k_is)
    (case ch2 => k_is)
    (case kh2 => k_is)
    (case ah3 => k_is)
    (case lh3 => k_is)
    (case ch3 => k_is)
    (case kh3 => k_is)
    (case ah4 => k_is)
    (case lh4 => k_is)
    (case ch4 => k_is)
    (case kh4 => k_is)
    (case ah5 => k_is)
    (case lh5 => k_is)
    (case ch5 => k_is)
    (case kh5 => k_is)
    (case ari => k_is)
    (case iri => k_is)
    (case lri => k_is)
    (case cri => k_is)
    (case kri => k_is)
    (case ar1 => k_is)
    (case ir1 => k_is)
    (case lr1 => k_is)
    (case cr1 => k_is)
    (case kr1 => k_is)
    (case ar2 => k_is)
    (case ir2 => k_is)
    (case lr2 => k_is)
    (case cr2 => k_is)
    (case kr2 => k_is)
    (case ar3 => k_is)
    (case ir3 => k_is)
    (case lr3 => k_is)
    (case cr3 => k_is)
    (case kr3 => k_is)
    (case afi => k_is)
    (case ifi => k_is)
    (case lfi => k_is)
    (case cfi => k_is)
    (case kfi => k_is)
    (case am1 => k_is)
    (case im1 => k_is)
    (case lm1 => k_is)
    (case cm1 => k_is)
    (case km1 => k_is)
    (case am2 => k_is)
    (case im2 => k_is)
    (case lm2 => k_is)
    (case cm2 => k_is)
    (case km2 => k_is)
    (case am3 => k_is)
    (case im3 => k_is)
    (case lm3 => k_is)
    (case cm3 => k_is)
    (case km3 => k_is)
    (case am4 => k_is)
    (case im4 => k_is)
    (case lm4 => k_is)
    (case cm4 => k_is)
    (case km4 => k_is)
    (case am5 => k_is)
    (case im5 => k_is)
    (case lm5 => k_is)
    (case cm5 => k_is)
    (case km5 => k_is)
    (case am6 => k_is)
    (case im6 => k_is)
    (case lm6 => k_is)
    (case cm6 => k_is)
    (case km6 => k_is)
    (case am7 => k_is)
    (case im7 => k_is)
    (case lm7 => k_is)
    (case cm7 => k_is)
    (case km7 => k_is)
    (case an1 => k_is)
    (case in1 => k_is)
    (case ln1 => k_is)
    (case cn1 => k_is)
    (case kn1 => k_is)
    (case an2 => k_is)
    (case in2 => k_is)
    (case ln2 => k_is)
    (case cn2 => k_is)
    (case kn2 => k_is)
    (case an3 => k_is)
    (case in3 => k_is)
    (case ln3 => k_is)
    (case cn3 => k_is)
    (case kn3 => k_is)
    (case an4 => k_is)
    (case in4 => k_is)
    (case ln4 => k_is)
    (case cn4 => k_is)
    (case kn4 => k_is)
    (case an5 => k_is)
    (case in5 => k_is)
    (case ln5 => k_is)
    (case cn5 => k_is)
    (case kn5 => k_is)
    (case an6 => k_is)
    (case in6 => k_is)
    (case ln6 => k_is)
    (case cn6 => k_is)
    (case kn6 => k_is)
    (case pgCF => k_is)
    (case hdCF => k_is)
    (case poCF => k_is)
    (case saCF => k_is)
    (case mkCF => k_is)
    (case kcCF => k_is)
    (case pgCR => k_is)
    (case hdCR => k_is)
    (case poCR => k_is)
    (case saCR => k_is)
    (case mkCR => k_is)
    (case kcCR => k_is)
    (case nCRnumbers => k_is)
    (case nCRplace => k_is)
    (case nCFnames => k_is)
    (case nCFwanted => k_is)
    (case nCFdone => k_is)
    (case zord => k_is)
    (case zlen => k_is)
    (case zall => k_is)
    (case zstr => k_is)
    (case zrange => k_is)
    (case zlist => k_is)
    (case ztuple => k_is)
    (case vln => k_is)
    (case vlr => k_is)
    (case vnnn => k_is)
    (case vsnn => k_is)
    (case vmf => k_is)
    (case vtm => k_is)
    (case vwu => k_is)
    (case vnt => k_is)
    (case vnv => k_is)
    (case vnw => k_is)
    (case vnr => k_is)
    (case vk0 => k_is)
    (case vk1 => k_is)
    (case vk2 => k_is)
    (case vk3 => k_is)
    (case vk4 => k_is)
    (case vk5 => k_is)
    (case vk6 => k_is)
    (case vk7 => k_is)
    (case vk8 => k_is)
    (case vk9 => k_is)
    (case vnx => k_is)
    (case abt => k_is)
    (case lbt => k_is)
  case S =>
    intro K H xs a hO hwi hask hx
    cases hx with
    | cons h1 h2 =>
      cases h2
      cases h1 with
      | lst hs ha =>
        have e := L2.ints_dw a.1 _ ha
        subst e
        have q : ((Codec.inLen 0 31000 a.1 && a.1.all (Codec.inInt 0 4294967295)) && true) = true := hwi
        rw [Bool.and_eq_true, Bool.and_eq_true] at q
        obtain ⟨ks, e1, e2, e3, e4⟩ := Rf.asked_form (ns := a.1) hask
        refine ⟨_, a.1, ks, rfl, Rf.ReqAt.of hO hs, e1, e2, (Codec.inNat_iff.mp q.1.1).2, e4, fun H' p hp => ?_⟩
        rw [← e3] at hp
        exact .lst (L2.SqL.of hp) (L2.dw_ints _)
