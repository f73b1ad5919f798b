import PyProof.Rows.All
import Wide.All
import OpenK.AllK
import Wide.FinOn
import PyProof.EqAt
import PyProof.EqKinds
import PyProof.TupleCall
import KE.BitLaws
import Open.SpecLaws
import KE.OsHead
import KE.OsGo
import PyProof.P3In
import PyFlatLaws
import PySem.Challenge.RW_promisesheld_s01_answers
-- CHANGE: your row's module here, as the last of these rows
set_option Elab.async false
set_option linter.all false
set_option maxRecDepth 100000
namespace L2
open PySem PySem.Spec PyProof.Rows
/-- a key: an int or a str -/
abbrev Key := Sum Int Str
def keyIs : Key → Value → Bool
  | .inl k, v => Value.isInt k v
  | .inr x, v => Value.isStrOf x v
def keyH (w : World) : Key → Int
  | .inl k => hashInt k
  | .inr x => hashStr w x
theorem keyIs_shape : ∀ {k : Key} {v : Value}, keyIs k v = true → (∃ i t, k = Sum.inl i ∧ v = Value.int i t) ∨ (∃ x t, k = Sum.inr x ∧ v = Value.str x t)
  | .inl i, v, h => by
    obtain ⟨t, e⟩ := Value.isInt_shape (k := i) (v := v) h
    exact .inl ⟨i, t, rfl, e⟩
  | .inr x, v, h => by
    obtain ⟨t, e⟩ := Value.isStrOf_shape (x := x) (v := v) h
    exact .inr ⟨x, t, rfl, e⟩
theorem key_ll (a b : Int) : decide ((Sum.inl a : Key) = Sum.inl b) = (a == b) := by
  by_cases e : a = b
  · subst e; simp
  · have h : ¬ (Sum.inl a : Key) = Sum.inl b := fun q => e (Sum.inl.inj q)
    rw [decide_eq_false h]
    exact (beq_eq_false_iff_ne.mpr e).symm
theorem key_rr (a b : Str) : decide ((Sum.inr a : Key) = Sum.inr b) = decide (a = b) := by
  by_cases e : a = b
  · subst e; simp
  · have h : ¬ (Sum.inr a : Key) = Sum.inr b := fun q => e (Sum.inr.inj q)
    rw [decide_eq_false h, decide_eq_false e]
theorem key_lr (a : Int) (b : Str) : decide ((Sum.inl a : Key) = Sum.inr b) = false := decide_eq_false (fun q => nomatch q)
theorem key_rl (a : Str) (b : Int) : decide ((Sum.inr a : Key) = Sum.inl b) = false := decide_eq_false (fun q => nomatch q)
def mixKind (prog : Program) (w : World) : PySem.KeyKind prog w Key where
  is := keyIs
  hash := keyH w
  inj := fun v a b ha hb => by
    rcases keyIs_shape ha with ⟨i, t, rfl, rfl⟩ | ⟨x, t, rfl, rfl⟩
    · rcases keyIs_shape hb with ⟨j, u, rfl, e⟩ | ⟨y, u, rfl, e⟩
      · injection e with e1 _; rw [e1]
      · exact nomatch e
    · rcases keyIs_shape hb with ⟨j, u, rfl, e⟩ | ⟨y, u, rfl, e⟩
      · exact nomatch e
      · injection e with e1 _; rw [e1]
  byValue := fun k v h => by
    rcases keyIs_shape h with ⟨i, t, rfl, rfl⟩ | ⟨x, t, rfl, rfl⟩ <;> rfl
  pyHash := fun hv h => by
    rcases keyIs_shape hv with ⟨i, t, rfl, rfl⟩ | ⟨x, t, rfl, rfl⟩
    · exact wpAny_pyHash_int h
    · exact wpAny_pyHash_str h
  eqBool := fun hu hv h => by
    rcases keyIs_shape hu with ⟨i, t, rfl, rfl⟩ | ⟨x, t, rfl, rfl⟩
    · rcases keyIs_shape hv with ⟨j, u, rfl, rfl⟩ | ⟨y, u, rfl, rfl⟩
      · rw [key_ll] at h; exact wpAny_eqBool_int h
      · rw [key_lr] at h; exact SeqAt.EqAt.int_str i t y u _ _ _ _ h
    · rcases keyIs_shape hv with ⟨j, u, rfl, rfl⟩ | ⟨y, u, rfl, rfl⟩
      · rw [key_rl] at h; exact SeqAt.EqAt.str_int x t j u _ _ _ _ h
      · rw [key_rr] at h; exact wpAny_eqBool_str h
  «strs» := fun k x t v h => by
    rcases keyIs_shape h with ⟨i, u, rfl, e⟩ | ⟨y, u, rfl, e⟩
    · exact nomatch e
    · injection e with e1 _
      subst e1
      cases v <;> rfl
end L2
namespace L2
open PySem PySem.Spec PyProof.Rows
/-- a value, without the heap -/
inductive V where
  | non | bl (b : Bool) | int (i : Int) | str (x : Str) | byt (b : Array UInt8) | flt (b : UInt64) | ref (a : Addr) | ty (n : String)
  deriving DecidableEq
def RelV : V → Value → Prop
  | .non, u => u = Value.none
  | .bl b, u => u = Value.bool b
  | .int i, u => ∃ t, u = Value.int i t
  | .str x, u => ∃ t, u = Value.str x t
  | .byt b, u => ∃ t, u = Value.bytes b t
  | .flt b, u => ∃ t, u = Value.float b t
  | .ref a, u => u = Value.ref a
  | .ty n, u => u = Value.type n
abbrev Vals : List V → List Value → Prop := Paired RelV
theorem Vals.length {xs : List V} {us : List Value} (r : Vals xs us) : xs.length = us.length := Paired.length r
theorem Vals.get : ∀ {xs : List V} {us : List Value} {i : Nat} {x : V}, Vals xs us → xs[i]? = some x → ∃ u, us[i]? = some u ∧ RelV x u
  | _, _, _, _, .nil, e => by simp at e
  | _, _, 0, _, .cons r _, e => by simp at e; subst e; exact ⟨_, rfl, r⟩
  | _, _, i + 1, x, .cons _ t, e => by
    obtain ⟨u, h1, h2⟩ := Vals.get (i := i) (x := x) t (by simpa using e)
    exact ⟨u, by simpa using h1, h2⟩
theorem Vals.append : ∀ {xs ys : List V} {us ws : List Value}, Vals xs us → Vals ys ws → Vals (xs ++ ys) (us ++ ws)
  | _, _, _, _, .nil, s => s
  | _, _, _, _, .cons r t, s => .cons r (Vals.append t s)
theorem Vals.take : ∀ {xs : List V} {us : List Value} (n : Nat), Vals xs us → Vals (xs.take n) (us.take n)
  | _, _, 0, _ => .nil
  | _, _, _ + 1, .nil => .nil
  | _, _, n + 1, .cons r t => .cons r (Vals.take n t)
theorem Vals.drop : ∀ {xs : List V} {us : List Value} (n : Nat), Vals xs us → Vals (xs.drop n) (us.drop n)
  | _, _, 0, r => r
  | _, _, _ + 1, .nil => .nil
  | _, _, n + 1, .cons _ t => Vals.drop n t
def RelO : Option V → Option Value → Prop
  | some v, some u => RelV v u
  | none, none => True
  | _, _ => False
def KV {κ : Type} : List (κ × V) → List (κ × Value) → Prop := Paired fun (p : κ × V) (q : κ × Value) => p.1 = q.1 ∧ RelV p.2 q.2
/-- a key of a dict (00_mix): an int or a text -/
def kV : Key → V
  | .inl i => .int i
  | .inr x => .str x
/-- what stands at a tracked address -/
inductive HO where
  /-- a list -/
  | lst (xs : List V)
  /-- a tuple (never changes) -/
  | tup (xs : List V)
  /-- a dict whose keys are ints and texts; one whose keys are tuples of ints and texts (the empty one is both) -/
  | dK (kvs : List (Key × V)) | dT (kvs : List (List Key × V))
  /-- a set of ints: its members, its size -/
  | set (S : Int → Bool) (n : Nat)
  /-- an instance of the class at C, its dict at dx, its attributes -/
  | ins (C dx : Addr) (fs : List (Str × V))
  /-- the dict of the instance at x -/
  | own (x : Addr)
  /-- the dict of an exception -/
  | xd (fs : List (Str × V))
  /-- a bound method, f of x -/
  | met (f x : Addr)
  /-- a range object lo, lo + 1, .. below hi -/
  | rng (lo hi : Int)
  /-- a thing that is known to the object (the script; a dict while a loop walks it): read, never written while it is so -/
  | frz (o : Obj) (u : HO)
  /-- a code object's table -/
  | tbl (ps : Array Value)
  /-- any other thing, by what is true of its one object (a def of one's own: SetO a S n := HO.ext fun h => ..) -/
  | ext (φ : Heap → Prop)
abbrev Hp := Addr → Option HO
def upd (H : Hp) (a : Addr) (o : HO) : Hp := fun b => if b = a then some o else H b
theorem upd_same {H : Hp} {a : Addr} {o : HO} : upd H a o a = some o := by unfold upd; rw [if_pos rfl]
theorem upd_ne {H : Hp} {a b : Addr} {o : HO} (h : b ≠ a) : upd H a o b = H b := by unfold upd; rw [if_neg h]
theorem upd_upd {H : Hp} {a : Addr} {o u : HO} : upd (upd H a o) a u = upd H a u := by
  funext b; unfold upd; split <;> rfl
/-- two objects of different content stand apart -/
theorem ne_of {H : Hp} {a b : Addr} {o u : HO} (h : H a = some o) (h' : H b = some u) (d : o ≠ u) : a ≠ b := by
  intro e; subst e; rw [h] at h'; exact d (Option.some.inj h')
theorem ne_of_none {H : Hp} {a b : Addr} {o : HO} (h : H a = some o) (h' : H b = none) : a ≠ b := by
  intro e; subst e; rw [h] at h'; cases h'
section
variable (P : Program) (w : World)
def ObjOk (H : Hp) (h : Heap) (a : Addr) : HO → Prop
  | .lst xs => xs.length ≤ sizeLine ∧ ∃ (its : List Value) (n : Nat), Vals xs its ∧ h.get? a = some { cls := .type "list", data := .seq its.toArray n }
  | .tup xs => xs.length ≤ sizeLine ∧ ∃ its : List Value, Vals xs its ∧ IsTup h a its.toArray
  | .dK kvs => kvs.length ≤ sizeLine ∧ (a == sysModules) = false ∧ ∃ vs, KV kvs vs ∧ h.DictOf (mixKind P w) a vs
  | .dT kvs => kvs.length ≤ sizeLine ∧ (a == sysModules) = false ∧ ∃ xs : List (List Key × Addr × Value),
      Paired (fun (p : List Key × V) (q : List Key × Addr × Value) => p.1 = q.1 ∧ H q.2.1 = some (.tup (p.1.map kV)) ∧ RelV p.2 q.2.2) kvs xs ∧
      ∃ o es ep, h.get? a = some o ∧ o.ExactDict ∧ o.data = .dict es ep ∧ es.toList = xs.map (entryOfKey (tupleKind (mixKind P w))) ∧ (xs.map (·.1)).Nodup
  | .set S n => h.SetOf (intKind P w) a S n
  | .ins C dx fs => H dx = some (.own a) ∧ fs.length ≤ 1000 ∧ dx ≠ a ∧ h.get? a = some (PySem.W.instObj C dx) ∧
      ∃ mA, h.Ns1 dx mA ∧ (∀ f, RelO (fs.lookup f) (mA f)) ∧ PySem.Within mA (fs.map (·.1))
  | .own _ => ∃ o, h.get? a = some o
  | .xd fs => ∃ mA, h.Ns1 a mA ∧ ∀ f, RelO (fs.lookup f) (mA f)
  | .rng lo hi => ∃ t u v, h.get? a = some { cls := .type "range", data := .fields #[.int lo t, .int hi u, .int 1 v] }
  | .frz o u => h.get? a = some o ∧ ObjOk H h a u
  | .tbl ps => h.get? a = some { cls := .none, data := .fields ps }
  | .met f x => h.get? a = some (PySem.W.methodObj (.ref f) (.ref x))
  | .ext φ => φ h ∧ (∃ o, h.get? a = some o) ∧ ∀ h1 h2 : Heap, φ h1 → (∀ o, h1.get? a = some o → h2.get? a = some o) → φ h2
/-- the abstract heap is held -/
def HOk (H : Hp) (h : Heap) : Prop := ∀ a o, H a = some o → ObjOk P w H h a o
end
section
variable {P : Program} {w : World} {H H' : Hp} {h h' : Heap} {a : Addr} {o : HO}
theorem ObjOk.lt (x : ObjOk P w H h a o) : a < h.objs.size := by
  cases o with
  | lst xs => obtain ⟨_, _, _, _, e⟩ := x; exact Heap.lt_size e
  | tup xs => obtain ⟨_, _, _, p⟩ := x; exact p.lt
  | dK kvs => obtain ⟨_, _, _, _, o, _, _, e, _⟩ := x; exact Heap.lt_size e
  | dT kvs => obtain ⟨_, _, _, _, o, _, _, e, _⟩ := x; exact Heap.lt_size e
  | set S n => obtain ⟨o, _, _, _, e, _⟩ := x; exact Heap.lt_size e
  | ins C dx fs => obtain ⟨_, _, _, e, _⟩ := x; exact Heap.lt_size e
  | own y => obtain ⟨_, e⟩ := x; exact Heap.lt_size e
  | xd fs => obtain ⟨_, ⟨_, _, _, e, _⟩, _⟩ := x; exact Heap.lt_size e
  | rng lo hi => obtain ⟨_, _, _, e⟩ := x; exact Heap.lt_size e
  | frz ob u => obtain ⟨e, _⟩ := x; exact Heap.lt_size e
  | tbl ps => exact Heap.lt_size (show h.get? a = some _ from x)
  | met f y => exact Heap.lt_size (show h.get? a = some _ from x)
  | ext φ => obtain ⟨_, ⟨_, e⟩, _⟩ := x; exact Heap.lt_size e
theorem Paired.mapP {α β : Type} {F G : α → β → Prop} : ∀ {l₁ : List α} {l₂ : List β}, Paired F l₁ l₂ → (∀ a b, F a b → G a b) → Paired G l₁ l₂
  | _, _, .nil, _ => .nil
  | _, _, .cons r t, f => .cons (f _ _ r) (Paired.mapP t f)
/-- what an object's description leans on: its own object, its own dict, the tuples -/
theorem ObjOk.stay (x : ObjOk P w H h a o) (k : ∀ b u, (b = a ∨ H b = some (.own a)) → h.get? b = some u → h'.get? b = some u)
    (ho : ∀ b, H b = some (.own a) → H' b = some (.own a)) (ht : ∀ b xs, H b = some (.tup xs) → H' b = some (.tup xs)) : ObjOk P w H' h' a o := by
  induction o with
  | lst xs => obtain ⟨z, its, n, r, e⟩ := x; exact ⟨z, its, n, r, k _ _ (.inl rfl) e⟩
  | tup xs => obtain ⟨z, its, r, ob, e, c⟩ := x; exact ⟨z, its, r, ob, k _ _ (.inl rfl) e, c⟩
  | dK kvs => obtain ⟨z, y, vs, r, ob, es, ep, e, c⟩ := x; exact ⟨z, y, vs, r, ob, es, ep, k _ _ (.inl rfl) e, c⟩
  | dT kvs =>
    obtain ⟨z, y, xs, r, ob, es, ep, e, c⟩ := x
    exact ⟨z, y, xs, Paired.mapP r fun p q z => ⟨z.1, ht _ _ z.2.1, z.2.2⟩, ob, es, ep, k _ _ (.inl rfl) e, c⟩
  | set S n => obtain ⟨ob, es, ep, t, e, c⟩ := x; exact ⟨ob, es, ep, t, k _ _ (.inl rfl) e, c⟩
  | ins C dx fs =>
    obtain ⟨d, z, ne, e, mA, ⟨od, es, ep, e2, c⟩, r⟩ := x
    exact ⟨ho _ d, z, ne, k _ _ (.inl rfl) e, mA, ⟨od, es, ep, k _ _ (.inr d) e2, c⟩, r⟩
  | own y => obtain ⟨ob, e⟩ := x; exact ⟨ob, k _ _ (.inl rfl) e⟩
  | xd fs => obtain ⟨mA, ⟨od, es, ep, e, c⟩, r⟩ := x; exact ⟨mA, ⟨od, es, ep, k _ _ (.inl rfl) e, c⟩, r⟩
  | rng lo hi => obtain ⟨t, u, v, e⟩ := x; exact ⟨t, u, v, k _ _ (.inl rfl) e⟩
  | frz ob u ih => obtain ⟨e, q⟩ := x; exact ⟨k _ _ (.inl rfl) e, ih q⟩
  | tbl ps =>
    have e : h.get? a = some { cls := .none, data := .fields ps } := x
    show h'.get? a = some { cls := .none, data := .fields ps }
    exact k a _ (.inl rfl) e
  | met f y =>
    have e : h.get? a = some (PySem.W.methodObj (.ref f) (.ref y)) := x
    show h'.get? a = some (PySem.W.methodObj (.ref f) (.ref y))
    exact k a _ (.inl rfl) e
  | ext φ => obtain ⟨p, ⟨o, e⟩, st⟩ := x; exact ⟨st _ _ p fun o q => k _ _ (.inl rfl) q, ⟨o, k _ _ (.inl rfl) e⟩, st⟩
theorem HOk.lt (x : HOk P w H h) (e : H a = some o) : a < h.objs.size := (x a o e).lt
theorem HOk.fresh (x : HOk P w H h) (e : h.objs.size ≤ a) : H a = none := by
  cases q : H a with
  | none => rfl
  | some u => exact absurd (Nat.lt_of_lt_of_le (x.lt q) e) (Nat.lt_irrefl _)
/-- every object of the heap is kept -/
theorem HOk.kept (x : HOk P w H h) (k : ∀ b u, h.get? b = some u → h'.get? b = some u) : HOk P w H h' := fun a o e =>
  (x a o e).stay (fun b u _ q => k b u q) (fun _ q => q) fun _ _ q => q
/-- a new object is laid and tracked -/
theorem HOk.laid (x : HOk P w H h) (k : ∀ b u, h.get? b = some u → h'.get? b = some u) (hp : h.objs.size ≤ a) (new : ObjOk P w (upd H a o) h' a o) : HOk P w (upd H a o) h' := fun b u e => by
  have hn := x.fresh hp
  by_cases hb : b = a
  · subst hb; rw [upd_same] at e; cases e; exact new
  · rw [upd_ne hb] at e
    exact (x b u e).stay (fun c v _ q => k c v q) (fun c q => by rw [upd_ne (ne_of_none q hn)]; exact q) fun c xs q => by rw [upd_ne (ne_of_none q hn)]; exact q
end
/-- what may be read as u: it is u, or a known u -/
def Rd (H : Hp) (a : Addr) (u : HO) : Prop := H a = some u ∨ ∃ o, H a = some (.frz o u)
theorem Rd.ok {P : Program} {w : World} {H : Hp} {h : Heap} {a : Addr} {u : HO} (r : Rd H a u) (x : HOk P w H h) : ObjOk P w H h a u := by
  rcases r with r | ⟨o, r⟩
  · exact x a u r
  · obtain ⟨_, q⟩ := x a _ r
    exact q
/-- what may be written -/
def Mut : Option HO → Prop
  | some (.lst _) => True
  | some (.dK _) => True
  | some (.dT _) => True
  | some (.set _ _) => True
  | some (.ins _ _ _) => True
  | some (.ext _) => True
  | _ => False
section
variable {P : Program} {w : World} {H : Hp} {h h' : Heap} {x e : Addr} {o' : HO}
/-- the object at e is changed: x itself, or the dict of the instance x -/
theorem HOk.write (ok : HOk P w H h) (mu : Mut (H x)) (he : e = x ∨ H e = some (.own x)) (k : ∀ b u, b ≠ e → h.get? b = some u → h'.get? b = some u) (heo : ∃ u, h'.get? e = some u)
    (new : ObjOk P w (upd H x o') h' x o') : HOk P w (upd H x o') h' := fun b u q => by
  have nown : ∀ c y, H c = some (.own y) → c ≠ x := fun c y r z => by subst z; rw [r] at mu; exact mu
  have ntup : ∀ c xs, H c = some (.tup xs) → c ≠ x := fun c xs r z => by subst z; rw [r] at mu; exact mu
  by_cases hb : b = x
  · subst hb; rw [upd_same] at q; cases q; exact new
  · rw [upd_ne hb] at q
    by_cases hbe : b = e
    · have q' : H b = some (.own x) := by
        rcases he with z | z
        · exact absurd (hbe.trans z) hb
        · rw [hbe]; exact z
      rw [q] at q'; cases q'
      obtain ⟨v, hv⟩ := heo
      exact ⟨v, by rw [hbe]; exact hv⟩
    · refine (ok b u q).stay (fun c v hc r => k c v ?_ r) (fun c r => by rw [upd_ne (nown c b r)]; exact r) fun c xs r => by rw [upd_ne (ntup c xs r)]; exact r
      rcases hc with rfl | hc
      · exact hbe
      · rintro rfl
        rcases he with z | z
        · exact nown c b hc z
        · rw [hc] at z; cases z; exact hb rfl
end
structure Un (fs ex : List Addr) (H H' : Hp) (h h' : Heap) : Prop where
  keep : ∀ b o, h.get? b = some o → H b = none → b ∉ fs → b ∉ ex → h'.get? b = some o
  slot : ∀ b o, h.get? b = some o → H b = none → b ∈ fs → b ∉ ex → ∃ sl, h'.get? b = some { o with slots := sl }
  free : ∀ b o, h.get? b = some o → H b = none → b ∉ ex → H' b = none
  there : ∀ b o, h.get? b = some o → b ∉ ex → ∃ o', h'.get? b = some o'
  tups : ∀ b xs, H b = some (.tup xs) → H' b = some (.tup xs)
  frzs : ∀ b o u, H b = some (.frz o u) → H' b = some (.frz o u)
  tbls : ∀ b ps, H b = some (.tbl ps) → ∃ more, H' b = some (.tbl (ps ++ more))
section
variable {fs fs' ex ex' : List Addr} {H H1 H2 : Hp} {h h1 h2 h' : Heap} {a x e : Addr} {o : HO}
theorem Un.any (u : Un fs ex H H1 h h1) {b : Addr} {ob : Obj} (q : h.get? b = some ob) (n : H b = none) (hx : b ∉ ex) : ∃ sl, h1.get? b = some { ob with slots := sl } := by
  by_cases hb : b ∈ fs
  · exact u.slot b ob q n hb hx
  · exact ⟨ob.slots, u.keep b ob q n hb hx⟩
theorem Un.kept (k : ∀ b u, h.get? b = some u → h'.get? b = some u) : Un fs ex H H h h' :=
  ⟨fun b ob q _ _ _ => k b ob q, fun b ob q _ _ _ => ⟨ob.slots, k b ob q⟩, fun _ _ _ n _ => n, fun b ob q _ => ⟨ob, k b ob q⟩, fun _ _ q => q, fun _ _ _ q => q, fun _ ps q => ⟨#[], by rw [q]; simp⟩⟩
theorem Un.refl : Un fs ex H H h h := Un.kept fun _ _ q => q
theorem Un.laid (k : ∀ b u, h.get? b = some u → h'.get? b = some u) (hp : h.objs.size ≤ a) (hn : H a = none) : Un fs ex H (upd H a o) h h' where
  keep := fun b u q _ _ _ => k b u q
  slot := fun b u q _ _ _ => ⟨u.slots, k b u q⟩
  free := fun b u q n _ => by rw [upd_ne (Nat.ne_of_lt (Nat.lt_of_lt_of_le (Heap.lt_size q) hp))]; exact n
  there := fun b u q _ => ⟨u, k b u q⟩
  tups := fun b xs q => by rw [upd_ne (ne_of_none q hn)]; exact q
  frzs := fun b u xs q => by rw [upd_ne (ne_of_none q hn)]; exact q
  tbls := fun b ps q => ⟨#[], by rw [upd_ne (ne_of_none q hn), q]; simp⟩
theorem Un.write (mu : Mut (H x)) (he : e = x ∨ H e = some (.own x)) (k : ∀ b u, b ≠ e → h.get? b = some u → h'.get? b = some u) (heo : ∃ u, h'.get? e = some u) : Un fs ex H (upd H x o) h h' := by
  have hx : ∀ b, H b = none → b ≠ x := fun b n z => by subst z; rw [n] at mu; exact mu
  have hb : ∀ b, H b = none → b ≠ e := fun b n z => by
    subst z
    rcases he with r | r
    · exact hx b n r
    · rw [n] at r; cases r
  have hm : ∀ b u, H b = some u → ¬ Mut (some u) → b ≠ x := fun b u q nm z => by subst z; rw [q] at mu; exact nm mu
  refine ⟨fun b u q n _ _ => k b u (hb b n) q, fun b u q n _ _ => ⟨u.slots, k b u (hb b n) q⟩, fun b u q n _ => by rw [upd_ne (hx b n)]; exact n, fun b u q _ => ?_,
    fun b xs q => by rw [upd_ne (hm b _ q fun z => z)]; exact q, fun b u xs q => by rw [upd_ne (hm b _ q fun z => z)]; exact q, fun b ps q => ⟨#[], by rw [upd_ne (hm b _ q fun z => z), q]; simp⟩⟩
  by_cases hbe : b = e
  · subst hbe; exact heo
  · exact ⟨u, k b u hbe q⟩
end
def trk (h : Heap) (H : Hp) : List Addr := (List.range h.objs.size).filter fun a => (H a).isSome
def hidT (h : Heap) (H : Hp) : Heap := PySem.W.hideAll h (trk h H)
theorem hidT_size (h : Heap) (H : Hp) : (hidT h H).objs.size = h.objs.size := PySem.W.hideAll_size _ _
theorem hidT_get {h : Heap} {H : Hp} {b : Addr} {o : Obj} (e : h.get? b = some o) (n : H b = none) : (hidT h H).get? b = some o :=
  PySem.W.hideAll_get _ e fun hm => by
    have q : (H b).isSome = true := (List.mem_filter.mp hm).2
    rw [n] at q; simp at q
theorem of_hidT {h : Heap} {H : Hp} {b : Addr} {o : Obj} (e : (hidT h H).get? b = some o) : h.get? b = some o ∧ H b = none := by
  have e' : h.get? b = some o := PySem.W.of_hideAll (trk h H) e
  refine ⟨e', ?_⟩
  cases q : H b with
  | none => rfl
  | some x =>
    have hm : b ∈ trk h H := List.mem_filter.mpr ⟨List.mem_range.mpr (Heap.lt_size e'), by simp [q]⟩
    have z : (hidT h H).get? b = none := PySem.W.hideAll_none (trk h H) hm
    rw [z] at e; cases e
end L2
namespace L2
open PySem PySem.Spec PyProof.Rows
/-- the module's facts, over the base: the heap at the law's entry without what is tracked there -/
structure Mod (K : PySem.W.Frag) (mg : Str → Option Value) (base : Heap) : Prop where
  kin : K.In base
  glob : base.Ns mainGlobals mg
  blt : ∃ mb, base.Ns builtinsNs mb ∧ ∀ x : Str, x ≠ "__name__" → mb x = bootBuiltins x
  nolimit : base.NoLimit
/-- the context: a def's body (or a comprehension's block) running. base: fixed through the whole law; s₀, H₀: the entry; outer: the frames whose slots others may change (a def's callers); stack: all frames that run;
   ex: iterators that were made ahead of the entry and are walked here (a comprehension's); fn: the names whose cells were made at the entry (a def: all; a comprehension's block: its own); calm: not within an except suite; pn: pins that every state bears; xe: what is wanted of an exception that leaves the code -/
structure Cx where
  prog : Program
  w : World
  K : PySem.W.Frag
  mg : Str → Option Value
  base : Heap
  A : Around
  N : List Str
  s_0 : Shared
  H_0 : Hp
  env : Env
  outer : List Env
  stack : List Env
  ex : List Addr
  fn : Str → Bool
  calm : Bool
  pn : List (Addr × Obj)
  xe : Value → Shared → Prop
/-- the callers' frames -/
def frs (l : List Env) : List Addr := l.filterMap (·.frame)
abbrev Cx.fs (X : Cx) : List Addr := frs X.outer
def Vis (sc : Scope) (x : Str) : Prop := sc.names.lookup x = some .local ∨ sc.names.lookup x = some .cell ∨ sc.names.lookup x = some .free
def Loc (sc : Scope) (x : Str) : Prop := sc.names.lookup x = some .local ∨ sc.names.lookup x = some .cell
def Look (env : Env) (h : Heap) (m : Str → Option Value) (x : Str) (u : Value) : Prop :=
  (env.kindOf x = some .local ∧ m x = some u) ∨ ((env.kindOf x = some .cell ∨ env.kindOf x = some .free) ∧ ∃ c, env.cells.lookup x = some c ∧ h.IsCell c (some u))
structure Cx.Ok (X : Cx) : Prop where
  mod : Mod X.K X.mg X.base
  kind : X.env.scope.kind = .function
  glob : X.env.globals = mainGlobals
  blt : X.env.builtins = builtinsNs
  above : X.s_0.heap.objs.size ≤ X.env.locals
  inj : ∀ x y c, X.env.cells.lookup x = some c → X.env.cells.lookup y = some c → x = y
  has : ∀ x, (X.env.kindOf x = some .cell ∨ X.env.kindOf x = some .free) → ∃ c, X.env.cells.lookup x = some c
  cab : ∀ x c, X.fn x = true → X.env.cells.lookup x = some c → X.s_0.heap.objs.size ≤ c
  hd : X.calm = true → X.A.handled = none
  frames : X.A.frames = some X.stack
  stk : X.stack = X.outer ∨ (X.stack = X.env :: X.outer ∧ X.env.frame = some X.env.locals)
  exf : ∀ b ∈ X.ex, b ≠ X.env.locals ∧ ∀ x c, X.env.cells.lookup x = some c → c ≠ b
  bs : ∀ b o, X.base.get? b = some o → X.s_0.heap.get? b = some o ∧ X.H_0 b = none
  bsz : X.base.objs.size ≤ X.s_0.heap.objs.size
  noex : ∀ b o, X.base.get? b = some o → b ∉ X.ex
  exfs : ∀ b ∈ X.ex, b ∉ X.fs
  funs : X.s_0.heap.FunFrames X.base X.outer
  frf : ∀ b ∈ X.fs, X.H_0 b = none
structure Inv (X : Cx) (pins : List (Addr × Obj)) (σ : List (Option V)) (H : Hp) (s : Shared) : Prop where
  ok : X.Ok
  os : s.os = X.s_0.os
  bare : AllBare s.gens
  base : Un X.fs X.ex X.H_0 H X.s_0.heap s.heap
  loc : ∃ m, s.heap.Ns X.env.locals m ∧ ∀ (i : Nat) (x : Str) (v : V), X.N[i]? = some x → σ[i]? = some (some v) → Vis X.env.scope x → ∃ u, RelV v u ∧ Look X.env s.heap m x u
  cell : ∀ x c, X.env.cells.lookup x = some c → ∃ v, s.heap.IsCell c v
  free : H X.env.locals = none
  freeC : ∀ x c, X.env.cells.lookup x = some c → H c = none
  pin : ∀ p ∈ X.pn ++ pins, s.heap.get? p.1 = some p.2 ∧ H p.1 = none ∧ p.1 ≠ X.env.locals ∧ p.1 ∉ X.fs ∧ ∀ v, p.2.data ≠ .cell v
  hok : HOk X.prog X.w H s.heap
  len : σ.length = X.N.length
section
variable {X : Cx} {pins : List (Addr × Obj)} {σ : List (Option V)} {H H' : Hp} {s : Shared} {h' : Heap}
theorem Cx.Ok.nofr (ok : X.Ok) {b : Addr} {o : Obj} (e : X.base.get? b = some o) : b ∉ X.fs := fun hb => by
  have := (ok.funs.mem hb).1
  rw [e] at this; cases this
theorem Inv.bs (I : Inv X pins σ H s) : ∀ b o, X.base.get? b = some o → s.heap.get? b = some o ∧ H b = none := fun b o e =>
  ⟨I.base.keep b o (I.ok.bs b o e).1 (I.ok.bs b o e).2 (I.ok.nofr e) (I.ok.noex b o e), I.base.free b o (I.ok.bs b o e).1 (I.ok.bs b o e).2 (I.ok.noex b o e)⟩
theorem Inv.bk (I : Inv X pins σ H s) : ∀ b o, X.base.get? b = some o → s.heap.get? b = some o := fun b o e => (I.bs b o e).1
theorem Inv.mod (I : Inv X pins σ H s) : Mod X.K X.mg X.base := I.ok.mod
theorem Inv.kIn (I : Inv X pins σ H s) : X.K.In s.heap := I.ok.mod.kin.keeps I.bk
theorem Inv.lt (I : Inv X pins σ H s) : X.env.locals < s.heap.objs.size := let ⟨_, hn, _⟩ := I.loc; hn.lt
theorem Inv.sz (I : Inv X pins σ H s) : X.s_0.heap.objs.size ≤ s.heap.objs.size := Nat.le_trans I.ok.above (Nat.le_of_lt I.lt)
theorem Inv.nofs (I : Inv X pins σ H s) {a : Addr} (h : s.heap.objs.size ≤ a) : a ∉ X.fs := fun hb => by
  obtain ⟨_, o, ho, _⟩ := I.ok.funs.mem hb
  exact absurd (Nat.lt_of_lt_of_le (Heap.lt_size ho) (Nat.le_trans I.sz h)) (Nat.lt_irrefl _)
theorem Inv.cne (I : Inv X pins σ H s) : ∀ x c, X.env.cells.lookup x = some c → c ≠ X.env.locals := fun x c e z => by
  obtain ⟨v, o, ho, hd⟩ := I.cell x c e
  obtain ⟨m, ⟨o', es, ep, ho', hd', _⟩, _⟩ := I.loc
  rw [z, ho'] at ho; cases ho; rw [hd'] at hd; cases hd
theorem Inv.funs (I : Inv X pins σ H s) : s.heap.FunFrames X.base X.outer := by
  have all : ∀ (l : List Env), (∀ b ∈ frs l, b ∈ X.fs) → X.s_0.heap.FunFrames X.base l → s.heap.FunFrames X.base l := by
    intro l
    induction l with
    | nil => intro _ _; trivial
    | cons env r ih =>
      intro hs hl
      obtain ⟨hk, ⟨L, o, hf, hn, ho, hd⟩, hr⟩ := hl
      have hL : L ∈ X.fs := hs L (by unfold frs; rw [List.filterMap_cons, hf]; exact List.mem_cons_self)
      obtain ⟨sl, e⟩ := I.base.slot L o ho (I.ok.frf L hL) hL fun z => I.ok.exfs L z hL
      exact ⟨hk, ⟨L, _, hf, hn, e, hd⟩, ih (fun b hb => hs b (by unfold frs; rw [List.filterMap_cons, hf]; exact List.mem_cons_of_mem _ hb)) hr⟩
  exact all X.outer (fun _ hb => hb) I.ok.funs
/-- the frames that run, for a call -/
theorem Inv.stack (I : Inv X pins σ H s) : s.heap.FunFrames X.base X.stack := by
  rcases I.ok.stk with e | ⟨e, hf⟩
  · rw [e]; exact I.funs
  · rw [e]
    obtain ⟨m, hn, _⟩ := I.loc
    refine .cons (by rw [I.ok.kind]; decide) hf hn ?_ I.funs
    exact Heap.get?_none_of_le (Nat.le_trans I.ok.bsz I.ok.above)
theorem Inv.stkSub (I : Inv X pins σ H s) : ∀ b ∈ frs X.stack, b ∈ X.env.locals :: X.fs := fun b hb => by
  rcases I.ok.stk with e | ⟨e, hf⟩
  · rw [e] at hb; exact List.mem_cons_of_mem _ hb
  · rw [e] at hb
    unfold frs at hb
    rw [List.filterMap_cons, hf] at hb
    exact hb
theorem Inv.stkFree (I : Inv X pins σ H s) : ∀ b ∈ frs X.stack, H b = none := fun b hb => by
  rcases List.mem_cons.mp (I.stkSub b hb) with e | hb
  · rw [e]; exact I.free
  · obtain ⟨_, o, ho, _⟩ := I.ok.funs.mem hb
    exact I.base.free b o ho (I.ok.frf b hb) fun z => I.ok.exfs b z hb
/-- THE STEP: the untracked objects but the frame and the records at ch are kept (the callers' frames up to slots), the frame's map is kept, the new abstract heap is held -/
theorem Inv.step {g' : Array GenState} {t' : Nat} {d' : Drawn} {ch : List Addr} (I : Inv X pins σ H s)
    (hch : ∀ b ∈ ch, (b ∈ X.ex ∨ X.s_0.heap.objs.size ≤ b) ∧ b ≠ X.env.locals ∧ (∀ x c, X.env.cells.lookup x = some c → c ≠ b) ∧ ∀ p ∈ X.pn ++ pins, p.1 ≠ b)
    (keep : ∀ b o, b ≠ X.env.locals → b ∉ X.fs → b ∉ ch → s.heap.get? b = some o → H b = none → h'.get? b = some o)
    (slot : ∀ b o, b ≠ X.env.locals → b ∈ X.fs → b ∉ ch → s.heap.get? b = some o → H b = none → ∃ sl, h'.get? b = some { o with slots := sl }) (free : ∀ b o, b ∉ ch → s.heap.get? b = some o → H b = none → H' b = none)
    (there : ∀ b o, b ∉ ch → s.heap.get? b = some o → ∃ o', h'.get? b = some o')
    (tups : ∀ b xs, H b = some (.tup xs) → H' b = some (.tup xs)) (frzs : ∀ b o u, H b = some (.frz o u) → H' b = some (.frz o u)) (tbls : ∀ b ps, H b = some (.tbl ps) → ∃ more, H' b = some (.tbl (ps ++ more)))
    (ns : ∀ m, s.heap.Ns X.env.locals m → h'.Ns X.env.locals m) (hok : HOk X.prog X.w H' h') (hg : AllBare g') :
    Inv X pins σ H' { s with heap := h', gens := g', drawn := d', toks := t' } := by
  have neL : ∀ b o, X.s_0.heap.get? b = some o → b ≠ X.env.locals := fun b o e => Nat.ne_of_lt (Nat.lt_of_lt_of_le (Heap.lt_size e) I.ok.above)
  have neC : ∀ b o, X.s_0.heap.get? b = some o → b ∉ X.ex → b ∉ ch := fun b o e hx hb => by
    rcases (hch b hb).1 with z | z
    · exact hx z
    · exact absurd (Nat.lt_of_lt_of_le (Heap.lt_size e) z) (Nat.lt_irrefl _)
  have cellK : ∀ x c, X.env.cells.lookup x = some c → ∀ v, s.heap.IsCell c v → h'.IsCell c v := fun x c e v ⟨o, ho, hd⟩ => by
    have nch : c ∉ ch := fun z => (hch c z).2.2.1 x c e rfl
    by_cases hc : c ∈ X.fs
    · obtain ⟨sl, q⟩ := slot c o (I.cne x c e) hc nch ho (I.freeC x c e)
      exact ⟨_, q, hd⟩
    · exact ⟨o, keep c o (I.cne x c e) hc nch ho (I.freeC x c e), hd⟩
  refine ⟨I.ok, I.os, hg, ⟨fun b o e n hb hx => ?_, fun b o e n hb hx => ?_, fun b o e n hx => ?_, fun b o e hx => ?_, fun b xs e => tups b xs (I.base.tups b xs e), fun b o xs e => frzs b o xs (I.base.frzs b o xs e), fun b ps e => ?_⟩, ?_, fun x c e => ?_, ?_, fun x c e => ?_, fun p hp => ?_, hok, I.len⟩
  · exact keep b o (neL b o e) hb (neC b o e hx) (I.base.keep b o e n hb hx) (I.base.free b o e n hx)
  · obtain ⟨sl, e1⟩ := I.base.slot b o e n hb hx
    obtain ⟨sl', e2⟩ := slot b _ (neL b o e) hb (neC b o e hx) e1 (I.base.free b o e n hx)
    exact ⟨sl', e2⟩
  · obtain ⟨o', e1⟩ := I.base.there b o e hx
    exact free b o' (neC b o e hx) e1 (I.base.free b o e n hx)
  · obtain ⟨o', e1⟩ := I.base.there b o e hx
    exact there b o' (neC b o e hx) e1
  · obtain ⟨m1, e1⟩ := I.base.tbls b ps e
    obtain ⟨m2, e2⟩ := tbls b _ e1
    exact ⟨m1 ++ m2, by rw [e2, Array.append_assoc]⟩
  · obtain ⟨m, hn, hl⟩ := I.loc
    refine ⟨m, ns m hn, fun i x v e1 e2 e3 => ?_⟩
    obtain ⟨u, r, l⟩ := hl i x v e1 e2 e3
    refine ⟨u, r, ?_⟩
    rcases l with l | ⟨k, c, e, z⟩
    · exact .inl l
    · exact .inr ⟨k, c, e, cellK x c e _ z⟩
  · obtain ⟨v, z⟩ := I.cell x c e
    exact ⟨v, cellK x c e v z⟩
  · obtain ⟨m, ⟨o, _, _, ho, _⟩, _⟩ := I.loc
    exact free _ o (fun z => (hch _ z).2.1 rfl) ho I.free
  · obtain ⟨v, o, ho, hd⟩ := I.cell x c e
    exact free c o (fun z => (hch c z).2.2.1 x c e rfl) ho (I.freeC x c e)
  · obtain ⟨e, n, ne, nf, d⟩ := I.pin p hp
    have nch : p.1 ∉ ch := fun z => (hch p.1 z).2.2.2 p hp rfl
    exact ⟨keep p.1 p.2 ne nf nch e n, free p.1 p.2 nch e n, ne, nf, d⟩
/-- .. where the frame's own object is kept too -/
theorem Inv.un {t' : Nat} (I : Inv X pins σ H s) (u : Un X.fs [] H H' s.heap h') (hok : HOk X.prog X.w H' h') : Inv X pins σ H' { s with heap := h', toks := t' } := by
  obtain ⟨m, ⟨o, es, ep, ho, r⟩, _⟩ := id I.loc
  obtain ⟨sl, hL⟩ := u.any ho I.free (by simp)
  exact I.step (g' := s.gens) (d' := s.drawn) (ch := []) (fun _ z => nomatch z) (fun b o _ hb _ e n => u.keep b o e n hb (by simp)) (fun b o _ hb _ e n => u.slot b o e n hb (by simp)) (fun b o _ e n => u.free b o e n (by simp)) (fun b o _ e => u.there b o e (by simp)) u.tups u.frzs u.tbls (fun m' hm => by
    obtain ⟨o', es', ep', ho', r'⟩ := hm
    rw [ho] at ho'; cases ho'
    exact ⟨_, es', ep', hL, r'⟩) hok I.bare
/-- behind a call (or a comprehension's block): the slots of this frame may have changed too, the records at ch may have turned -/
theorem Inv.call {g' : Array GenState} {t' : Nat} {d' : Drawn} {ch : List Addr} (I : Inv X pins σ H s) (u : Un (frs X.stack) ch H H' s.heap h') (hok : HOk X.prog X.w H' h') (hg : AllBare g')
    (hch : ∀ b ∈ ch, (b ∈ X.ex ∨ X.s_0.heap.objs.size ≤ b) ∧ b ≠ X.env.locals ∧ (∀ x c, X.env.cells.lookup x = some c → c ≠ b) ∧ ∀ p ∈ X.pn ++ pins, p.1 ≠ b) :
    Inv X pins σ H' { s with heap := h', gens := g', drawn := d', toks := t' } := by
  obtain ⟨m, ⟨o, es, ep, ho, r⟩, _⟩ := id I.loc
  obtain ⟨sl, hL⟩ := u.any ho I.free fun z => (hch _ z).2.1 rfl
  exact I.step (ch := ch) hch (fun b o hL hb hc e n => u.keep b o e n (fun z => (List.mem_cons.mp (I.stkSub b z)).elim hL hb) hc) (fun b o _ _ hc e n => u.any e n hc) (fun b o hc e n => u.free b o e n hc) (fun b o hc e => u.there b o e hc) u.tups u.frzs u.tbls (fun m' hm => by
    obtain ⟨o', es', ep', ho', r'⟩ := hm
    rw [ho] at ho'; cases ho'
    exact ⟨_, es', ep', hL, r'⟩) hok hg
/-- an untracked record of ours (an iterator) has turned -/
theorem Inv.turned {t' : Nat} {it : Addr} (I : Inv X pins σ H s) (k : ∀ b o, b ≠ it → s.heap.get? b = some o → h'.get? b = some o) (hn : H it = none) (hL : it ≠ X.env.locals)
    (h1 : it ∈ X.ex ∨ X.s_0.heap.objs.size ≤ it) (h2 : ∀ x c, X.env.cells.lookup x = some c → c ≠ it) (h3 : ∀ p ∈ X.pn ++ pins, p.1 ≠ it) : Inv X pins σ H { s with heap := h', toks := t' } := by
  have nit : ∀ b u, H b = some u → b ≠ it := fun b u e z => by rw [z, hn] at e; cases e
  refine I.step (g' := s.gens) (d' := s.drawn) (ch := [it]) (fun b hb => ?_) (fun b o _ _ hc e _ => k b o (fun z => hc (by simp [z])) e) (fun b o _ _ hc e _ => ⟨o.slots, k b o (fun z => hc (by simp [z])) e⟩) (fun _ _ _ _ n => n)
    (fun b o hc e => ⟨o, k b o (fun z => hc (by simp [z])) e⟩) (fun _ _ e => e) (fun _ _ _ e => e) (fun b ps e => ⟨#[], by rw [e]; simp⟩) (fun m hm => ?_) (fun b u e => ?_) I.bare
  · have e : b = it := by simpa using hb
    subst e
    exact ⟨h1, hL, h2, h3⟩
  · obtain ⟨o, es, ep, ho, r⟩ := hm
    exact ⟨o, es, ep, k _ o (Ne.symm hL) ho, r⟩
  · refine (I.hok b u e).stay (fun c v hc q => k c v ?_ q) (fun _ q => q) fun _ _ q => q
    rcases hc with z | z
    · rw [z]; exact nit b u e
    · exact nit c _ z
theorem Inv.tok (I : Inv X pins σ H s) (t : Nat) : Inv X pins σ H { s with toks := t } := I.un (h' := s.heap) (t' := t) Un.refl I.hok
/-- all objects kept -/
theorem Inv.kept {t' : Nat} (I : Inv X pins σ H s) (k : ∀ b u, s.heap.get? b = some u → h'.get? b = some u) : Inv X pins σ H { s with heap := h', toks := t' } := I.un (Un.kept k) (I.hok.kept k)
/-- a new object laid and tracked -/
theorem Inv.laid {a : Addr} {o : HO} {t' : Nat} (I : Inv X pins σ H s) (k : ∀ b u, s.heap.get? b = some u → h'.get? b = some u) (hp : s.heap.objs.size ≤ a) (new : ObjOk X.prog X.w (upd H a o) h' a o) :
    Inv X pins σ (upd H a o) { s with heap := h', toks := t' } := I.un (Un.laid k hp (I.hok.fresh hp)) (I.hok.laid k hp new)
/-- an object written -/
theorem Inv.write {x e : Addr} {o : HO} {t' : Nat} (I : Inv X pins σ H s) (mu : Mut (H x)) (he : e = x ∨ H e = some (.own x)) (k : ∀ b u, b ≠ e → s.heap.get? b = some u → h'.get? b = some u) (heo : ∃ u, h'.get? e = some u)
    (new : ObjOk X.prog X.w (upd H x o) h' x o) : Inv X pins σ (upd H x o) { s with heap := h', toks := t' } := I.un (Un.write mu he k heo) (I.hok.write mu he k heo new)
/-- forgetting slots, pins -/
theorem Inv.weak {σ' : List (Option V)} (I : Inv X pins σ H s) (hl : σ'.length = σ.length) (w : ∀ (i : Nat) v, σ'[i]? = some (some v) → σ[i]? = some (some v)) : Inv X pins σ' H s :=
  ⟨I.ok, I.os, I.bare, I.base, let ⟨m, hn, hl'⟩ := I.loc; ⟨m, hn, fun i x v e1 e2 e3 => hl' i x v e1 (w i v e2) e3⟩, I.cell, I.free, I.freeC, I.pin, I.hok, hl.trans I.len⟩
theorem Inv.pins_of {pins' : List (Addr × Obj)} (I : Inv X pins σ H s) (h : ∀ p ∈ pins', s.heap.get? p.1 = some p.2 ∧ H p.1 = none ∧ p.1 ≠ X.env.locals ∧ p.1 ∉ X.fs ∧ ∀ v, p.2.data ≠ .cell v) : Inv X pins' σ H s :=
  ⟨I.ok, I.os, I.bare, I.base, I.loc, I.cell, I.free, I.freeC, fun p hp => (List.mem_append.mp hp).elim (fun z => I.pin p (List.mem_append_left _ z)) (h p), I.hok, I.len⟩
theorem nodup_ix {N : List Str} (hN : N.Nodup) {i j : Nat} {x : Str} (a : N[i]? = some x) (b : N[j]? = some x) : i = j := by
  obtain ⟨h1, e1⟩ := List.getElem?_eq_some_iff.mp a
  obtain ⟨h2, e2⟩ := List.getElem?_eq_some_iff.mp b
  exact (List.getElem_inj hN).mp (e1.trans e2.symm)
/-- a name is stored; what changed -/
theorem store_ok2 {M : Model} {A : Around} {E : Value → Shared → Prop} {i : Nat} {x : Str} {v : V} {u : Value} {Q : Unit → Shared → Prop} (I : Inv X pins σ H s) (hN : X.N.Nodup) (hi : X.N[i]? = some x) (hx : Loc X.env.scope x) (r : RelV v u)
    (h : ∀ s', Inv X pins (σ.set i (some v)) H s' → (∃ a, Heap.SameBut a s.heap s'.heap ∧ (a = X.env.locals ∨ X.env.cells.lookup x = some a)) → Q () s') (hf : X.fn x = true ∨ X.env.scope.names.lookup x = some .local := by first | exact .inl rfl | exact .inr rfl | assumption) : wpAny M A (storeName X.env x u) Q E s := by
  obtain ⟨m, hn, hl⟩ := id I.loc
  have hcls : (X.env.scope.kind == .class || (X.env.scope.kind == .module && X.env.locals != X.env.globals)) = false := by rw [I.ok.kind]; rfl
  have hiσ : i < σ.length := by rw [I.len]; exact (List.getElem?_eq_some_iff.mp hi).1
  have cne := I.cne
  have tracked : ∀ {a : Addr} {h' : Heap}, (∃ o, s.heap.get? a = some o ∧ H a = none) → Heap.SameBut a s.heap h' → HOk X.prog X.w H h' := fun {a h'} ha hs b ob e => by
    obtain ⟨_, _, hfree⟩ := ha
    refine (I.hok b ob e).stay (fun c w' hc q => (hs.2 c ?_).trans q) (fun _ q => q) fun _ _ q => q
    rintro rfl
    rcases hc with rfl | hc
    · rw [hfree] at e; cases e
    · rw [hfree] at hc; cases hc
  rcases hx with hk | hk
  · refine wpAny_storeName_local hk hn (fun h' hn' hs => ?_) hcls
    obtain ⟨oL, _, _, hoL, _⟩ := id hn
    refine h _ ⟨I.ok, I.os, I.bare, ⟨fun b o e n hb hx => ?_, fun b o e n hb hx => ?_, I.base.free, fun b o e hx => ?_, I.base.tups, I.base.frzs, I.base.tbls⟩, ⟨_, hn', fun j y v' e1 e2 e3 => ?_⟩, fun y c e => ?_, I.free, I.freeC, fun p hp => ?_, tracked ⟨oL, hoL, I.free⟩ hs, by simpa using I.len⟩ ⟨_, hs, .inl rfl⟩
    · exact (hs.2 b (Nat.ne_of_lt (Nat.lt_of_lt_of_le (Heap.lt_size e) I.ok.above))).trans (I.base.keep b o e n hb hx)
    · obtain ⟨sl, e1⟩ := I.base.slot b o e n hb hx
      exact ⟨sl, (hs.2 b (Nat.ne_of_lt (Nat.lt_of_lt_of_le (Heap.lt_size e) I.ok.above))).trans e1⟩
    · obtain ⟨o', e1⟩ := I.base.there b o e hx
      exact ⟨o', (hs.2 b (Nat.ne_of_lt (Nat.lt_of_lt_of_le (Heap.lt_size e) I.ok.above))).trans e1⟩
    · by_cases hj : j = i
      · subst hj
        rw [hi] at e1; cases e1
        rw [List.getElem?_set_self hiσ] at e2
        cases e2
        exact ⟨u, r, .inl ⟨hk, by simp⟩⟩
      · rw [List.getElem?_set_ne (Ne.symm hj)] at e2
        obtain ⟨u', r', q⟩ := hl j y v' e1 e2 e3
        refine ⟨u', r', ?_⟩
        rcases q with ⟨k, e⟩ | ⟨k, c, e, z⟩
        · refine .inl ⟨k, ?_⟩
          have : y ≠ x := fun e => hj (nodup_ix hN e1 (e ▸ hi))
          simp [this, e]
        · exact .inr ⟨k, c, e, z.sameBut hs (cne y c e)⟩
    · obtain ⟨w', z⟩ := I.cell y c e
      exact ⟨w', z.sameBut hs (cne y c e)⟩
    · obtain ⟨e, n, ne, nf, d⟩ := I.pin p hp
      exact ⟨(hs.2 p.1 ne).trans e, n, ne, nf, d⟩
  · have hfn : X.fn x = true := by
      rcases hf with z | z
      · exact z
      · rw [z] at hk; cases hk
    obtain ⟨c, hc⟩ := I.ok.has x (.inl hk)
    obtain ⟨w', z⟩ := I.cell x c hc
    refine wpAny_storeName_cell I.ok.kind hk hc z (fun h' hc' hs => ?_)
    obtain ⟨oc, hoc, hocd⟩ := id z
    refine h { s with heap := h' } ⟨I.ok, I.os, I.bare, ⟨fun b o e n hb hx => ?_, fun b o e n hb hx => ?_, I.base.free, fun b o e hx => ?_, I.base.tups, I.base.frzs, I.base.tbls⟩, ⟨m, hn.sameBut hs (Ne.symm (cne x c hc)), fun j y v' e1 e2 e3 => ?_⟩, fun y c' e => ?_, I.free, I.freeC, fun p hp => ?_, tracked ⟨oc, hoc, I.freeC x c hc⟩ hs, by simpa using I.len⟩ ⟨c, hs, .inr hc⟩
    · exact (hs.2 b (Nat.ne_of_lt (Nat.lt_of_lt_of_le (Heap.lt_size e) (I.ok.cab x c hfn hc)))).trans (I.base.keep b o e n hb hx)
    · obtain ⟨sl, e1⟩ := I.base.slot b o e n hb hx
      exact ⟨sl, (hs.2 b (Nat.ne_of_lt (Nat.lt_of_lt_of_le (Heap.lt_size e) (I.ok.cab x c hfn hc)))).trans e1⟩
    · obtain ⟨o', e1⟩ := I.base.there b o e hx
      exact ⟨o', (hs.2 b (Nat.ne_of_lt (Nat.lt_of_lt_of_le (Heap.lt_size e) (I.ok.cab x c hfn hc)))).trans e1⟩
    · by_cases hj : j = i
      · subst hj
        rw [hi] at e1; cases e1
        rw [List.getElem?_set_self hiσ] at e2
        cases e2
        exact ⟨u, r, .inr ⟨.inl hk, c, hc, hc'⟩⟩
      · rw [List.getElem?_set_ne (Ne.symm hj)] at e2
        obtain ⟨u', r', q⟩ := hl j y v' e1 e2 e3
        refine ⟨u', r', ?_⟩
        rcases q with q | ⟨k, c', e, z'⟩
        · exact .inl q
        · refine .inr ⟨k, c', e, z'.sameBut hs ?_⟩
          rintro rfl
          exact hj (nodup_ix hN e1 (I.ok.inj _ _ _ e hc ▸ hi))
    · by_cases hcc : c' = c
      · subst hcc; exact ⟨_, hc'⟩
      · obtain ⟨w2, z2⟩ := I.cell y c' e
        exact ⟨w2, z2.sameBut hs hcc⟩
    · obtain ⟨e, n, ne, nf, d⟩ := I.pin p hp
      refine ⟨(hs.2 p.1 ?_).trans e, n, ne, nf, d⟩
      intro q
      rw [q, hoc] at e
      have q' : oc = p.2 := Option.some.inj e
      exact d w' (by rw [← q']; exact hocd)
theorem store_ok {M : Model} {A : Around} {E : Value → Shared → Prop} {i : Nat} {x : Str} {v : V} {u : Value} {Q : Unit → Shared → Prop} (I : Inv X pins σ H s) (hN : X.N.Nodup) (hi : X.N[i]? = some x) (hx : Loc X.env.scope x) (r : RelV v u)
    (h : ∀ s', Inv X pins (σ.set i (some v)) H s' → Q () s') (hf : X.fn x = true ∨ X.env.scope.names.lookup x = some .local := by first | exact .inl rfl | exact .inr rfl | assumption) : wpAny M A (storeName X.env x u) Q E s :=
  store_ok2 I hN hi hx r (fun s' I' _ => h s' I') hf
/-- behind a call or a block, the state as it is -/
theorem Inv.call' {s' : Shared} {ch : List Addr} (I : Inv X pins σ H s) (ho : s'.os = s.os) (u : Un (frs X.stack) ch H H' s.heap s'.heap) (hok : HOk X.prog X.w H' s'.heap) (hg : AllBare s'.gens)
    (hch : ∀ b ∈ ch, (b ∈ X.ex ∨ X.s_0.heap.objs.size ≤ b) ∧ b ≠ X.env.locals ∧ (∀ x c, X.env.cells.lookup x = some c → c ≠ b) ∧ ∀ p ∈ X.pn ++ pins, p.1 ≠ b) : Inv X pins σ H' s' := by
  obtain ⟨h', g', d', t', o'⟩ := s'
  have e : o' = s.os := ho
  subst e
  exact I.call (g' := g') (t' := t') (d' := d') u hok hg hch
end
/-- an exception: its class, its own dict's address (where it has one), the abstract heap behind it -/
abbrev XK := Value → Option Addr → Hp → Prop
abbrev St := List (Option V)
abbrev VK := V → Hp → Prop
/-- an expression's reading; a test's; an argument list's -/
abbrev TE := St → Hp → VK → Prop
abbrev TT := St → Hp → (Bool → Hp → Prop) → Prop
abbrev TA := St → Hp → (List V → Hp → Prop) → Prop
/-- what is wanted behind a statement -/
structure Ends where
  nx : St → Hp → Prop
  rt : VK
  bk : St → Hp → Prop := fun _ _ => False
  ct : St → Hp → Prop := fun _ _ => False
abbrev TS := Ends → St → Hp → Prop
def EP (X : Cx) (pins : List (Addr × Obj)) (σ : St) (Q : VK) (u : Value) (s' : Shared) : Prop := ∃ v H', Inv X pins σ H' s' ∧ RelV v u ∧ Q v H'
def TP (X : Cx) (pins : List (Addr × Obj)) (σ : St) (Q : Bool → Hp → Prop) (b : Bool) (s' : Shared) : Prop := ∃ H', Inv X pins σ H' s' ∧ Q b H'
def AP (X : Cx) (pins : List (Addr × Obj)) (σ : St) (Q : List V → Hp → Prop) (us : List Value) (s' : Shared) : Prop := ∃ vs H', Inv X pins σ H' s' ∧ Vals vs us ∧ Q vs H'
def SP (X : Cx) (pins : List (Addr × Obj)) (D : Ends) (f : Flow) (s' : Shared) : Prop :=
  match f with
  | .next => ∃ σ' H', Inv X pins σ' H' s' ∧ D.nx σ' H'
  | .brk => ∃ σ' H', Inv X pins σ' H' s' ∧ D.bk σ' H'
  | .cont => ∃ σ' H', Inv X pins σ' H' s' ∧ D.ct σ' H'
  | .ret u => ∃ v σ' H', Inv X pins σ' H' s' ∧ RelV v u ∧ D.rt v H'
def PE (X : Cx) (e : Expr) (t : TE) : Prop :=
  ∀ (pins : List (Addr × Obj)) (s : Shared) (σ : St) (H : Hp) (Q : VK), Inv X pins σ H s → t σ H Q → wpAny (model X.prog X.w) X.A (eval e X.env) (EP X pins σ Q) X.xe s
def PT (X : Cx) (e : Expr) (t : TT) : Prop :=
  ∀ (pins : List (Addr × Obj)) (s : Shared) (σ : St) (H : Hp) (Q : Bool → Hp → Prop), Inv X pins σ H s → t σ H Q → wpAny (model X.prog X.w) X.A (isTrue e X.env (eval e X.env)) (TP X pins σ Q) X.xe s
/-- a test whatever its 'whole' is (and, or) -/
def PW (X : Cx) (e : Expr) (t : TT) : Prop :=
  ∀ (whole : Sem Value) (pins : List (Addr × Obj)) (s : Shared) (σ : St) (H : Hp) (Q : Bool → Hp → Prop), Inv X pins σ H s → t σ H Q → wpAny (model X.prog X.w) X.A (isTrue e X.env whole) (TP X pins σ Q) X.xe s
theorem PW.pt {X : Cx} {e : Expr} {t : TT} (h : PW X e t) : PT X e t := h _
/-- an argument list (no star), from the left -/
def PA (X : Cx) (es : List Expr) (t : TA) : Prop :=
  ∀ (pos : Pos) (pins : List (Addr × Obj)) (s : Shared) (σ : St) (H : Hp) (Q : List V → Hp → Prop), Inv X pins σ H s → t σ H Q → wpAny (model X.prog X.w) X.A (spliced (backTo pos (starEach es X.env))) (AP X pins σ Q) X.xe s
def PS (X : Cx) (st : Stmt) (t : TS) : Prop :=
  ∀ (pins : List (Addr × Obj)) (s : Shared) (σ : St) (H : Hp) (D : Ends), Inv X pins σ H s → t D σ H → wpAny (model X.prog X.w) X.A (exec st X.env) (SP X pins D) X.xe s
def PSs (X : Cx) (st : List Stmt) (t : TS) : Prop :=
  ∀ (pins : List (Addr × Obj)) (s : Shared) (σ : St) (H : Hp) (D : Ends), Inv X pins σ H s → t D σ H → wpAny (model X.prog X.w) X.A (execs st X.env) (SP X pins D) X.xe s
/-- weaken the end -/
theorem thn {α : Type} {t : Sem α} {Q Q' : α → Shared → Prop} {M : Model} {A : Around} {E : Value → Shared → Prop} {s : Shared} (h : wpAny M A t Q E s) (hQ : ∀ a s, Q a s → Q' a s) : wpAny M A t Q' E s := wpAny_mono h hQ fun _ _ x => x
end L2
namespace L2
open PySem PySem.Spec PyProof.Rows
section
variable {X : Cx}
def tVar (i : Nat) : TE := fun σ H Q => ∃ v, σ[i]? = some (some v) ∧ Q v H
def tC (v : V) : TE := fun _ H Q => Q v H
theorem pe_var {i : Nat} {x : Str} {pos : Pos} (hN : X.N[i]? = some x) (hv : Vis X.env.scope x) (hd : (x == ("__debug__" : Str)) = false := by decide) (hcd : (x == ("__classdict__" : Str)) = false := by decide) : PE X (.Name x pos) (tVar i) := by
  intro pins s σ H Q I h
  obtain ⟨v, e, h⟩ := h
  obtain ⟨m, hn, hl⟩ := I.loc
  obtain ⟨u, r, l⟩ := hl i x v hN e hv
  have fin : EP X pins σ Q u s := ⟨v, H, I, r, h⟩
  rcases l with ⟨hk, hm⟩ | ⟨hk, c, hc, hcell⟩
  · exact wpAny_Name (wpAny_loadName_local I.ok.kind hk hn hm fin) hd
  · rcases hk with hk | hk
    · exact wpAny_Name (wpAny_loadName_cell I.ok.kind hk hc hcell fin) hd
    · exact wpAny_Name (wpAny_loadName_free I.ok.kind hk hc hcell fin hcd) hd
theorem pe_int {i j pos} : PE X (.Constant (.int i) j pos) (tC (.int i)) := fun _ _ _ H _ I h => wpAny_Constant_int ⟨.int i, H, I.tok _, ⟨_, rfl⟩, h⟩
theorem pe_bl {b j pos} : PE X (.Constant (.bool b) j pos) (tC (.bl b)) := fun _ _ _ H _ I h => Constant_bool ⟨.bl b, H, I, rfl, h⟩
/-- a global name of the def -/
def Gl (X : Cx) (x : Str) : Prop := X.env.kindOf x = some .globalImplicit
theorem ld_glob {E : Value → Shared → Prop} {pins : List (Addr × Obj)} {s : Shared} {σ : St} {H : Hp} {x : Str} {u : Value} {pos : Pos} {Q : Value → Shared → Prop} (I : Inv X pins σ H s) (hg : Gl X x) (hm : X.mg x = some u) (h : Q u s)
    (hd : (x == ("__debug__" : Str)) = false := by decide) : wpAny (model X.prog X.w) X.A (eval (.Name x pos) X.env) Q E s :=
  Calls.Name_function_global I.ok.kind hg (Calls.loadGlobal_global (by rw [I.ok.glob]; exact I.mod.glob.keeps I.bk) hm h) hd
theorem ld_blt {E : Value → Shared → Prop} {pins : List (Addr × Obj)} {s : Shared} {σ : St} {H : Hp} {x : Str} {u : Value} {pos : Pos} {Q : Value → Shared → Prop} (I : Inv X pins σ H s) (hg : Gl X x) (hm : X.mg x = none) (hv : bootBuiltins x = some u) (h : Q u s)
    (hn : x ≠ "__name__" := by decide) (hd : (x == ("__debug__" : Str)) = false := by decide) : wpAny (model X.prog X.w) X.A (eval (.Name x pos) X.env) Q E s := by
  obtain ⟨mb, h1, h2⟩ := I.mod.blt
  exact Calls.Name_function_global I.ok.kind hg (Calls.loadGlobal_builtin (by rw [I.ok.glob]; exact I.mod.glob.keeps I.bk) hm (by rw [I.ok.blt]; exact h1.keeps I.bk) ((h2 x hn).trans hv) h) hd
/-- a module's constant, a class, a function, as a value -/
theorem pe_glob {x : Str} {v : V} {u : Value} {pos : Pos} (hg : Gl X x) (hm : X.mg x = some u) (r : RelV v u) (hd : (x == ("__debug__" : Str)) = false := by decide) : PE X (.Name x pos) (tC v) :=
  fun _ _ _ H _ I h => ld_glob I hg hm ⟨v, H, I, r, h⟩ hd
variable {a b : Expr} {ta tb : TE} {pos : Pos}
/-- a comparison as a value, as a test -/
def tB (t : TE) : TT := fun σ H Q => t σ H fun x H1 => ∃ c, x = .bl c ∧ Q c H1
/-- an expression whose value is a bool, as a test -/
theorem pt_val {e : Expr} {t : TE} (h : PE X e t) (he : ∀ whole, isTrue e X.env whole = (do let v ← whole; standAt e.pos; holding [v] (truthy v)) := by intro _; rfl) : PT X e (tB t) := by
  intro pins s σ H Q I hw
  refine isTrue_plain (thn (h pins s σ H _ I hw) fun v s1 ⟨x, H1, I1, r1, q1⟩ => ?_) (he _)
  obtain ⟨d, rfl, q⟩ := q1
  cases r1
  exact wpAny_truthy_bool ⟨H1, I1, q⟩
variable {tA tB' : TT} {rest : List Expr}
def tAnd (t u : TT) : TT := fun σ H Q => t σ H fun c H1 => if c = true then u σ H1 Q else Q false H1
def tOr (t u : TT) : TT := fun σ H Q => t σ H fun c H1 => if c = true then Q true H1 else u σ H1 Q
def tNot (t : TT) : TT := fun σ H Q => t σ H fun c H1 => Q (!c) H1
theorem pw_and1 (ha : PT X a tA) : PW X (.BoolOp .And [a] pos) tA := by
  intro wh pins s σ H Q I h
  refine isTrue_and (thn (ha pins s σ H Q I h) fun c s1 e => ?_)
  cases c with
  | true => exact isTrue_and_nil e
  | false => exact e
theorem pw_or1 (ha : PT X a tA) : PW X (.BoolOp .Or [a] pos) tA := by
  intro wh pins s σ H Q I h
  refine isTrue_or (thn (ha pins s σ H Q I h) fun c s1 e => ?_)
  cases c with
  | false => exact isTrue_or_nil e
  | true => exact e
theorem pw_and (ha : PT X a tA) (hb : PW X (.BoolOp .And (b :: rest) pos) tB') : PW X (.BoolOp .And (a :: b :: rest) pos) (tAnd tA tB') := by
  intro wh pins s σ H Q I h
  refine isTrue_and (thn (ha pins s σ H _ I h) fun c s1 ⟨H1, I1, q1⟩ => ?_)
  cases c with
  | true => exact hb wh pins s1 σ H1 Q I1 q1
  | false => exact ⟨H1, I1, q1⟩
theorem pw_or (ha : PT X a tA) (hb : PW X (.BoolOp .Or (b :: rest) pos) tB') : PW X (.BoolOp .Or (a :: b :: rest) pos) (tOr tA tB') := by
  intro wh pins s σ H Q I h
  refine isTrue_or (thn (ha pins s σ H _ I h) fun c s1 ⟨H1, I1, q1⟩ => ?_)
  cases c with
  | true => exact ⟨H1, I1, q1⟩
  | false => exact hb wh pins s1 σ H1 Q I1 q1
theorem pt_not (ha : PT X a tA) : PT X (.UnaryOp .Not a pos) (tNot tA) := by
  intro pins s σ H Q I h
  exact isTrue_not (ha pins s σ H (fun c H1 => Q (!c) H1) I h)
/-- .. as values (bools) -/
def tAndV (ta tb : TE) : TE := fun σ H Q => ta σ H fun x H1 => ∃ c, x = .bl c ∧ if c = true then tb σ H1 Q else Q (.bl false) H1
def tNotV (ta : TE) : TE := fun σ H Q => ta σ H fun x H1 => ∃ c, x = .bl c ∧ Q (.bl (!c)) H1
theorem pe_one {op} {t : TE} (h : PE X a t) : PE X (.BoolOp op [a] pos) t := fun pins s σ H Q I hw => BoolOp_one (h pins s σ H Q I hw)
theorem pe_and (ha : PE X a ta) (hb : PE X (.BoolOp .And (b :: rest) pos) tb) : PE X (.BoolOp .And (a :: b :: rest) pos) (tAndV ta tb) := by
  intro pins s σ H Q I h
  refine BoolOp_and (thn (ha pins s σ H _ I h) fun v s1 ⟨x, H1, I1, r1, q1⟩ => ?_)
  obtain ⟨c, rfl, q1⟩ := q1
  cases r1
  refine wpAny_truthy_bool ?_
  cases c with
  | true => exact hb pins s1 σ H1 Q I1 q1
  | false => exact ⟨.bl false, H1, I1, rfl, q1⟩
theorem pe_not (ha : PE X a ta) : PE X (.UnaryOp .Not a pos) (tNotV ta) := by
  intro pins s σ H Q I h
  refine UnaryOp_ (thn (ha pins s σ H _ I h) fun v s1 ⟨x, H1, I1, r1, q1⟩ => ?_)
  obtain ⟨c, rfl, q1⟩ := q1
  cases r1
  exact not_of (wpAny_truthy_bool ⟨.bl (!c), H1, I1, rfl, q1⟩)
/-- a if t else b -/
def tIf (t : TT) (ta tb : TE) : TE := fun σ H Q => t σ H fun c H1 => if c = true then ta σ H1 Q else tb σ H1 Q
theorem pe_ifExp {c : Expr} (hc : PT X c tA) (ha : PE X a ta) (hb : PE X b tb) : PE X (.IfExp c a b pos) (tIf tA ta tb) := by
  intro pins s σ H Q I h
  refine wpAny_IfExp (thn (hc pins s σ H _ I h) fun d s1 ⟨H1, I1, q1⟩ => ?_)
  cases d with
  | true => exact ha pins s1 σ H1 Q I1 q1
  | false => exact hb pins s1 σ H1 Q I1 q1
end
end L2
namespace L2
open PySem PySem.Spec PyProof.Rows
def SqL (K : PySem.W.Frag) (H : Hp) (a : Addr) (xs : List V) : Prop :=
  Rd H a (.lst xs) ∨
    ∃ (o : Obj) (its : Array Value) (n : Nat), K.lookup a = some o ∧ o.cls = .type "list" ∧ o.dict = none ∧ o.data = .seq its n ∧ its.size ≤ sizeLine ∧ Vals xs its.toList
def SqT (K : PySem.W.Frag) (H : Hp) (a : Addr) (xs : List V) : Prop :=
  Rd H a (.tup xs) ∨
    ∃ (o : Obj) (its : Array Value) (n : Nat), K.lookup a = some o ∧ o.cls = .type "tuple" ∧ o.data = .seq its n ∧ its.size ≤ sizeLine ∧ Vals xs its.toList
def absV : Value → Option V
  | .none => some .non
  | .bool b => some (.bl b)
  | .int i _ => some (.int i)
  | .str x _ => some (.str x)
  | .bytes b _ => some (.byt b)
  | .float b _ => some (.flt b)
  | .ref a => some (.ref a)
  | .type n => some (.ty n)
  | _ => none
theorem RelV.abs {x : V} {u : Value} (r : RelV x u) : absV u = some x := by
  cases x with
  | non => cases r; rfl
  | bl _ => cases r; rfl
  | int _ => obtain ⟨t, rfl⟩ := r; rfl
  | str _ => obtain ⟨t, rfl⟩ := r; rfl
  | byt _ => obtain ⟨t, rfl⟩ := r; rfl
  | flt _ => obtain ⟨t, rfl⟩ := r; rfl
  | ref _ => cases r; rfl
  | ty _ => cases r; rfl
theorem RelV.inj {x y : V} {u : Value} (r : RelV x u) (q : RelV y u) : x = y := Option.some.inj (r.abs.symm.trans q.abs)
theorem Vals.inj : ∀ {xs ys : List V} {us : List Value}, Vals xs us → Vals ys us → xs = ys
  | _, _, _, .nil, .nil => rfl
  | _, _, _, .cons r t, .cons r' t' => by rw [r.inj r', Vals.inj t t']
section
variable {X : Cx} {pins : List (Addr × Obj)} {σ : St} {H : Hp} {s : Shared} {a : Addr} {xs ys : List V}
theorem SqL.of {K : PySem.W.Frag} (h : H a = some (.lst xs)) : SqL K H a xs := .inl (.inl h)
theorem SqT.of {K : PySem.W.Frag} (h : H a = some (.tup xs)) : SqT K H a xs := .inl (.inl h)
theorem Inv.list (I : Inv X pins σ H s) (h : SqL X.K H a xs) : ∃ its : List Value, Vals xs its ∧ PlainL s.heap a its.toArray ∧ xs.length ≤ sizeLine := by
  rcases h with h | ⟨o, its, n, hk, hc, hd, hs, hz, r⟩
  · obtain ⟨z, its, n, r, e⟩ := h.ok I.hok
    exact ⟨its, r, ⟨_, n, e, rfl, rfl, rfl⟩, z⟩
  · refine ⟨its.toList, r, ⟨o, n, I.kIn a o hk, hc, hd, by simpa using hs⟩, ?_⟩
    have e := r.length
    simp only [Array.length_toList] at e
    omega
theorem Inv.tuple (I : Inv X pins σ H s) (h : SqT X.K H a xs) : ∃ its : List Value, Vals xs its ∧ IsTup s.heap a its.toArray ∧ xs.length ≤ sizeLine := by
  rcases h with h | ⟨o, its, n, hk, hc, hs, hz, r⟩
  · obtain ⟨z, its, r, p⟩ := h.ok I.hok
    exact ⟨its, r, p, z⟩
  · refine ⟨its.toList, r, ⟨o, I.kIn a o hk, hc, n, by simpa using hs⟩, ?_⟩
    have e := r.length
    simp only [Array.length_toList] at e
    omega
theorem Inv.list_inj (I : Inv X pins σ H s) (h : SqL X.K H a xs) (h' : SqL X.K H a ys) : xs = ys := by
  obtain ⟨its, r, ⟨o, n, e, _, _, d⟩, _⟩ := I.list h
  obtain ⟨its', r', ⟨o', n', e', _, _, d'⟩, _⟩ := I.list h'
  rw [e] at e'; cases e'
  rw [d] at d'
  injection d' with d1 _
  have : its = its' := by simpa using congrArg Array.toList d1
  subst this
  exact r.inj r'
end
abbrev Cx.wish (X : Cx) (E : Value → Shared → Prop) : Cx := { X with xe := E }
/-- no exception leaves -/
abbrev Cx.nox (X : Cx) : Cx := X.wish fun _ _ => False
theorem Cx.Ok.wish {X : Cx} (ok : X.Ok) (E : Value → Shared → Prop) : (X.wish E).Ok :=
  ⟨ok.mod, ok.kind, ok.glob, ok.blt, ok.above, ok.inj, ok.has, ok.cab, ok.hd, ok.frames, ok.stk, ok.exf, ok.bs, ok.bsz, ok.noex, ok.exfs, ok.funs, ok.frf⟩
theorem Cx.Ok.unwish {X : Cx} {E : Value → Shared → Prop} (ok : (X.wish E).Ok) : X.Ok :=
  ⟨ok.mod, ok.kind, ok.glob, ok.blt, ok.above, ok.inj, ok.has, ok.cab, ok.hd, ok.frames, ok.stk, ok.exf, ok.bs, ok.bsz, ok.noex, ok.exfs, ok.funs, ok.frf⟩
section
variable {X : Cx} {pins : List (Addr × Obj)} {σ : St} {H : Hp} {s : Shared} {E : Value → Shared → Prop}
theorem Inv.wish (I : Inv X pins σ H s) (E : Value → Shared → Prop) : Inv (X.wish E) pins σ H s := ⟨I.ok.wish E, I.os, I.bare, I.base, I.loc, I.cell, I.free, I.freeC, I.pin, I.hok, I.len⟩
theorem Inv.unwish (I : Inv (X.wish E) pins σ H s) : Inv X pins σ H s := ⟨I.ok.unwish, I.os, I.bare, I.base, I.loc, I.cell, I.free, I.freeC, I.pin, I.hok, I.len⟩
theorem SP.unwish {D : Ends} {f : Flow} {s' : Shared} (h : SP (X.wish E) pins D f s') : SP X pins D f s' := by
  cases f with
  | next => obtain ⟨σ', H', I, q⟩ := h; exact ⟨σ', H', I.unwish, q⟩
  | brk => obtain ⟨σ', H', I, q⟩ := h; exact ⟨σ', H', I.unwish, q⟩
  | cont => obtain ⟨σ', H', I, q⟩ := h; exact ⟨σ', H', I.unwish, q⟩
  | ret u => obtain ⟨v, σ', H', I, r, q⟩ := h; exact ⟨v, σ', H', I.unwish, r, q⟩
theorem PSs.nox {st : List Stmt} {t : TS} (h : PSs X.nox st t) : PSs X st t := fun pins s σ H D I hw =>
  wpAny_mono (h pins s σ H D (I.wish _) hw) (fun _ _ q => q.unwish) fun _ _ z => False.elim z
end
section
variable {X : Cx} {st : Stmt} {rest : List Stmt} {t u : TS} {e : Expr} {te : TE} {pos : Pos}
def tNext : TS := fun D σ H => D.nx σ H
def tSeq (t u : TS) : TS := fun D σ H => t { D with nx := u D } σ H
theorem pss_nil : PSs X [] tNext := fun _ _ σ H _ I h => wpAny_execs_nil ⟨σ, H, I, h⟩
theorem pss_cons (h1 : PS X st t) (h2 : PSs X rest u) : PSs X (st :: rest) (tSeq t u) := by
  intro pins s σ H D I h
  refine wpAny_execs_cons (thn (h1 pins s σ H { D with nx := u D } I h) fun f s1 q => ?_)
  cases f with
  | next =>
    obtain ⟨σ', H', I', q⟩ := q
    exact h2 pins s1 σ' H' D I' q
  | ret v => exact q
  | brk => exact q
  | cont => exact q
theorem pss_one (h1 : PS X st t) : PSs X [st] t := by
  intro pins s σ H D I h
  refine wpAny_execs_cons (thn (h1 pins s σ H D I h) fun f s1 q => ?_)
  cases f with
  | next => exact wpAny_execs_nil q
  | ret v => exact q
  | brk => exact q
  | cont => exact q
/-- in a def's body nothing is shown -/
theorem Inv.quiet {pins : List (Addr × Obj)} {σ : St} {H : Hp} {s : Shared} (I : Inv X pins σ H s) : interactive X.env = false := by simp [interactive, I.ok.kind]
/-- an expression whose value is dropped -/
def tDrop (te : TE) : TS := fun D σ H => te σ H fun _ H1 => D.nx σ H1
theorem ps_expr (he : PE X e te) (hs : swapsWith e none pos.line X.env = pure false := by rfl) : PS X (.Expr e pos) (tDrop te) := by
  intro pins s σ H D I h
  exact wpAny_Expr_any (thn (he pins s σ H _ I h) fun v s1 ⟨x, H1, I1, r1, q1⟩ => ⟨σ, H1, I1, q1⟩) I.quiet hs
def tRet (te : TE) : TS := fun D σ H => te σ H D.rt
theorem ps_ret (he : PE X e te) : PS X (.Return (some e) pos) (tRet te) := by
  intro pins s σ H D I h
  exact wpAny_Return_some (thn (he pins s σ H _ I h) fun v s1 ⟨x, H1, I1, r1, q1⟩ => ⟨x, σ, H1, I1, r1, q1⟩)
def tIfS (c : TT) (t u : TS) : TS := fun D σ H => c σ H fun b H1 => if b = true then t D σ H1 else u D σ H1
theorem ps_if {c : Expr} {a b : List Stmt} {tc : TT} (hc : PT X c tc) (ha : PSs X a t) (hb : PSs X b u) : PS X (.If c a b pos) (tIfS tc t u) := by
  intro pins s σ H D I h
  refine wpAny_If (thn (hc pins s σ H _ I h) fun d s1 ⟨H1, I1, q1⟩ => ?_)
  cases d with
  | true => exact ha pins s1 σ H1 D I1 q1
  | false => exact hb pins s1 σ H1 D I1 q1
end
abbrev TG := V → St → Hp → (St → Hp → Prop) → Prop
abbrev TGs := List V → St → Hp → (St → Hp → Prop) → Prop
def PG (X : Cx) (target : Expr) (t : TG) : Prop :=
  ∀ (pins : List (Addr × Obj)) (s : Shared) (σ : St) (H : Hp) (v : V) (u : Value) (Q : St → Hp → Prop), Inv X pins σ H s → RelV v u → t v σ H Q →
    wpAny (model X.prog X.w) X.A (assign target X.env u) (fun _ s' => ∃ σ' H', Inv X pins σ' H' s' ∧ Q σ' H') X.xe s
/-- several targets, one after another -/
def PGs (X : Cx) (ts : List Expr) (t : TGs) : Prop :=
  ∀ (pins : List (Addr × Obj)) (s : Shared) (σ : St) (H : Hp) (vs : List V) (us : List Value) (Q : St → Hp → Prop), Inv X pins σ H s → Vals vs us → t vs σ H Q →
    wpAny (model X.prog X.w) X.A (assignInOrder ((assignEach ts X.env).map (·.2)) us) (fun _ s' => ∃ σ' H', Inv X pins σ' H' s' ∧ Q σ' H') X.xe s
section
variable {X : Cx} {pos : Pos}
def gName (i : Nat) : TG := fun v σ H Q => Q (σ.set i (some v)) H
theorem pg_name {i : Nat} {x : Str} (hN : X.N.Nodup) (hi : X.N[i]? = some x) (hx : Loc X.env.scope x) (hf : X.fn x = true ∨ X.env.scope.names.lookup x = some .local := by first | exact .inl rfl | exact .inr rfl | assumption) : PG X (.Name x pos) (gName i) := by
  intro pins s σ H v u Q I r h
  exact wpAny_assign_Name (store_ok I hN hi hx r (fun s' I' => ⟨_, H, I', h⟩) hf)
def gNil : TGs := fun vs σ H Q => vs = [] ∧ Q σ H
def gCons (t : TG) (u : TGs) : TGs := fun vs σ H Q => ∃ v r, vs = v :: r ∧ t v σ H fun σ' H' => u r σ' H' Q
theorem pgs_nil : PGs X [] gNil := by
  intro pins s σ H vs us Q I r h
  obtain ⟨e, h⟩ := h
  subst e
  cases r
  exact assignInOrder_nil ⟨σ, H, I, h⟩
theorem pgs_cons {e : Expr} {es : List Expr} {t : TG} {u : TGs} (h1 : PG X e t) (h2 : PGs X es u)
    (hs : (assignEach (e :: es) X.env).map (·.2) = assign e X.env :: (assignEach es X.env).map (·.2) := by rfl) : PGs X (e :: es) (gCons t u) := by
  intro pins s σ H vs us Q I r h
  obtain ⟨v, vr, e1, h⟩ := h
  subst e1
  cases r with
  | cons r rr =>
    rw [hs]
    refine assignInOrder_cons (thn (h1 pins s σ H _ _ _ I r h) fun _ s1 ⟨σ1, H1, I1, q1⟩ => ?_)
    exact h2 pins s1 σ1 H1 _ _ Q I1 rr q1
/-- (a, b, ..) = a tuple of that length -/
def gTup (K : PySem.W.Frag) (n : Nat) (t : TGs) : TG := fun v σ H Q => ∃ a xs, v = .ref a ∧ SqT K H a xs ∧ xs.length = n ∧ t xs σ H Q
theorem pg_tup {es : List Expr} {k : Nat} {t : TGs} {n : Nat} (hc : X.calm = true) (h : PGs X es t)
    (hn : (assignEach es X.env).length = n := by rfl) (hst : (assignEach es X.env).findIdx? (·.1) = none := by rfl) : PG X (.Tuple es k pos) (gTup X.K n t) := by
  intro pins s σ H v u Q I r hw
  obtain ⟨a, xs, e1, hq, hl, hw⟩ := hw
  subst e1
  cases r
  obtain ⟨its, rv, ht, hz⟩ := I.tuple hq
  refine assign_Tuple_tuple (I.ok.hd hc) ht (by simp [hn, ← hl, rv.length]) hst fun h' hx => ?_
  have I1 : Inv X pins σ H { s with heap := h' } := I.kept (t' := s.toks) fun b o e => hx b o (Nat.ne_of_lt (Heap.lt_size e)) e
  exact h pins _ σ H xs _ Q I1 (by simpa using rv) hw
/-- target = value -/
def tAsg (te : TE) (g : TG) : TS := fun D σ H => te σ H fun x H1 => g x σ H1 D.nx
/-- name = value -/
theorem ps_set {i : Nat} {x : Str} {e : Expr} {te : TE} {pos' : Pos} (hN : X.N.Nodup) (hi : X.N[i]? = some x) (hx : Loc X.env.scope x) (he : PE X e te) (hs : swapsWith e (some (.Name x pos')) pos.line X.env = pure false := by rfl) (hf : X.fn x = true ∨ X.env.scope.names.lookup x = some .local := by first | exact .inl rfl | exact .inr rfl | assumption) :
    PS X (.Assign [.Name x pos'] e pos) (tAsg te (gName i)) := by
  intro pins s σ H D I h
  refine wpAny_Assign_Name (thn (he pins s σ H _ I h) fun v s1 ⟨y, H1, I1, r1, q1⟩ => ?_) hs
  exact store_ok I1 hN hi hx r1 (fun s2 I2 => ⟨_, H1, I2, q1⟩) hf
end
section
variable {X : Cx} {pos : Pos}
/-- the invariant W with its measure -/
def tWhile (c : TT) (tb : TS) : TS := fun D σ H => ∃ W : Nat → St → Hp → Prop, (∃ m, W m σ H) ∧ ∀ m σ H, W m σ H →
  c σ H fun b H1 => if b = true then ∃ N : St → Hp → Prop, (∀ σ' H', N σ' H' → ∃ m', m' < m ∧ W m' σ' H') ∧ tb { D with nx := N, ct := N, bk := D.nx } σ H1 else D.nx σ H1
theorem ps_while {c : Expr} {body : List Stmt} {tc : TT} {tb : TS} (hp : PassesOwn (model X.prog X.w) X.A X.env X.xe) (hc : PT X c tc) (hb : PSs X body tb) : PS X (.While c body [] pos) (tWhile tc tb) := by
  intro pins s σ H D I h
  obtain ⟨W, ⟨m0, w0⟩, turn⟩ := h
  refine wpAny_While (codeAny_whileLoop (fun n s' => ∃ σ' H', Inv X pins σ' H' s' ∧ W n σ' H') ?_ m0 ⟨σ, H, I, w0⟩)
  rintro n s1 ⟨σ1, H1, I1, w1⟩
  refine wpAny_passesOwn hp (thn (hc pins s1 σ1 H1 _ I1 (turn n σ1 H1 w1)) fun b s2 ⟨H2, I2, q2⟩ => ?_)
  cases b with
  | true =>
    obtain ⟨N, hN, q2⟩ := q2
    rw [if_pos rfl]
    refine wpAny_passesOwn hp (thn (hb pins s2 σ1 H2 _ I2 q2) fun f s3 q3 => ?_)
    cases f with
    | next =>
      obtain ⟨σ3, H3, I3, n3⟩ := q3
      obtain ⟨m', hm, w3⟩ := hN σ3 H3 n3
      exact ⟨m', hm, σ3, H3, I3, w3⟩
    | cont =>
      obtain ⟨σ3, H3, I3, n3⟩ := q3
      obtain ⟨m', hm, w3⟩ := hN σ3 H3 n3
      exact ⟨m', hm, σ3, H3, I3, w3⟩
    | brk => exact q3
    | ret v => exact q3
  | false =>
    rw [if_neg Bool.false_ne_true]
    exact wpAny_execs_nil ⟨σ1, H2, I2, q2⟩
end
/-- at turn i: it yields x (the heap may grow), or it stops -/
structure It where
  go : Nat → Hp → Prop
  yld : Nat → Hp → V → Hp → Prop
  stop : Nat → Hp → Prop
/-- the iterator's own objects may turn: they are not the frame's, not pinned, younger than the entry (or a comprehension's own) -/
def FpOk (X : Cx) (pins : List (Addr × Obj)) (H : Hp) (b : Addr) : Prop :=
  H b = none ∧ b ≠ X.env.locals ∧ b ∉ X.fs ∧ (b ∈ X.ex ∨ X.s_0.heap.objs.size ≤ b) ∧ (∀ x c, X.env.cells.lookup x = some c → c ≠ b) ∧ ∀ p ∈ X.pn ++ pins, p.1 ≠ b
theorem Inv.fpOk {X : Cx} {pins : List (Addr × Obj)} {σ : St} {H H' : Hp} {s : Shared} {b : Addr} (I : Inv X pins σ H s) (hb : s.heap.objs.size ≤ b) (hn : H' b = none) : FpOk X pins H' b := by
  refine ⟨hn, Nat.ne_of_gt (Nat.lt_of_lt_of_le I.lt hb), I.nofs hb, .inr (Nat.le_trans I.sz hb), fun x c e z => ?_, fun p hp z => ?_⟩
  · obtain ⟨v, q⟩ := I.cell x c e
    exact absurd (Nat.lt_of_lt_of_le q.lt (by rw [z]; exact hb)) (Nat.lt_irrefl _)
  · exact absurd (Nat.lt_of_lt_of_le (Heap.lt_size (I.pin p hp).1) (by rw [z]; exact hb)) (Nat.lt_irrefl _)
structure Turn (P : Program) (w : World) (K : PySem.W.Frag) (tg : Expr) (J : It) (fp : List Addr) (it : Addr) (tn : Nat → Heap → Prop) : Prop where
  mem : it ∈ fp
  obj : ∀ i h, tn i h → ∀ b ∈ fp, ∃ o, h.get? b = some o ∧ ∀ v, o.data ≠ .cell v
  keep : ∀ i h h', tn i h → (∀ b ∈ fp, ∀ o, h.get? b = some o → h'.get? b = some o) → tn i h'
  item : ∀ (X : Cx), X.prog = P → X.w = w → X.K = K → X.calm = true → ∀ (i : Nat) (pins : List (Addr × Obj)) (s : Shared) (σ : St) (H : Hp) (E : Value → Shared → Prop), Inv X pins σ H s → (∀ b ∈ fp, FpOk X pins H b) → tn i s.heap → J.go i H →
    wpAny (model P w) X.A (pyNext (.ref it)) (fun r s1 => ∃ u, r = some u ∧
      wpAny (model P w) X.A (letOwnedTupleGo tg (.ref it) u) (fun _ s2 => ∃ x H', Inv X pins σ H' s2 ∧ RelV x u ∧ J.yld i H x H' ∧ tn (i + 1) s2.heap ∧ ∀ b ∈ fp, H' b = none) E s1) E s
  done : ∀ (X : Cx), X.prog = P → X.w = w → X.K = K → X.calm = true → ∀ (i : Nat) (pins : List (Addr × Obj)) (s : Shared) (σ : St) (H : Hp) (E : Value → Shared → Prop), Inv X pins σ H s → (∀ b ∈ fp, FpOk X pins H b) → tn i s.heap → J.stop i H →
    wpAny (model P w) X.A (pyNext (.ref it)) (fun r s1 => r = none ∧ Inv X pins σ H s1) E s
  self : ∀ (A : Around) (i : Nat) (s : Shared) (Q : Value → Shared → Prop) (E : Value → Shared → Prop), tn i s.heap → Q (.ref it) s → wpAny (model P w) A (pyIter (.ref it)) Q E s
abbrev TI := St → Hp → (It → Hp → Prop) → Prop
/-- an iterator has come -/
def PIE (X : Cx) (pins : List (Addr × Obj)) (σ : St) (tg : Expr) (R : It → Hp → Prop) (itv : Value) (s2 : Shared) : Prop :=
  ∃ (it : Addr) (fp : List Addr) (tn : Nat → Heap → Prop) (J : It) (H' : Hp), itv = .ref it ∧ Inv X pins σ H' s2 ∧ Turn X.prog X.w X.K tg J fp it tn ∧ tn 0 s2.heap ∧ (∀ b ∈ fp, FpOk X pins H' b) ∧ R J H'
def PI (X : Cx) (tg iter : Expr) (wi : TI) : Prop :=
  ∀ (pins : List (Addr × Obj)) (s : Shared) (σ : St) (H : Hp) (R : It → Hp → Prop), Inv X pins σ H s → wi σ H R →
    wpAny (model X.prog X.w) X.A (eval iter X.env) (fun v s1 => wpAny (model X.prog X.w) X.A (pyIter v) (PIE X pins σ tg R) X.xe s1) X.xe s
/-- the step ahead of the store is nothing for an iterator that keeps no tuple -/
theorem go_of {M : Model} {A : Around} {E : Value → Shared → Prop} {s : Shared} {tg : Expr} {it : Addr} {u : Value} {o : Obj} {n : String} {vs : Array Value} {Q : Unit → Shared → Prop} (ho : s.heap.get? it = some o) (hc : o.cls = .type n) (hd : o.data = .fields vs)
    (hn : ["enumerate", "zip", "dict_itemiterator", "dict_reverseitemiterator", "odict_iterator", "itertools.zip_longest", "itertools.pairwise"].contains n = false) (hQ : Q () s) : wpAny M A (letOwnedTupleGo tg (.ref it) u) Q E s := by
  unfold letOwnedTupleGo
  cases tg <;> first
    | exact wpAny_pure hQ
    | (cases u <;> first
        | exact wpAny_pure hQ
        | (refine wpAny_bind (wpAny_load ho ?_)
           rw [hc, hd]
           show wpAny M A (if (["enumerate", "zip", "dict_itemiterator", "dict_reverseitemiterator", "odict_iterator", "itertools.zip_longest", "itertools.pairwise"].contains n && vs[0]? == some (rawInt _)) = true then _ else _) Q E s
           rw [if_neg (by intro h; rw [hn, Bool.false_and] at h; cases h)]
           exact wpAny_pure hQ))
/-- the list at a, as it stands at each turn (a loop may append to it) -/
def Itl (K : PySem.W.Frag) (a : Addr) : It :=
  ⟨fun i H => ∃ xs x, SqL K H a xs ∧ xs[i]? = some x, fun i H x H' => H' = H ∧ ∀ xs, SqL K H a xs → xs[i]? = some x, fun i H => ∃ xs, SqL K H a xs ∧ xs.length ≤ i⟩
/-- lo, lo + 1, .. (n of them) -/
def Itr (lo : Int) (n : Nat) : It := ⟨fun i _ => i < n, fun i H x H' => H' = H ∧ x = .int (lo + i), fun i _ => n ≤ i⟩
theorem turn_list {P : Program} {w : World} {K : PySem.W.Frag} {tg : Expr} (a it : Addr) : Turn P w K tg (Itl K a) [it] it (fun i h => h.IsListIter it a i) where
  mem := by simp
  obj := fun i h st b hb => by
    have e : b = it := by simpa using hb
    subst e
    obtain ⟨o, e, c, d⟩ := st
    exact ⟨o, e, fun v z => by rw [d] at z; cases z⟩
  keep := fun i h h' st k => st.at fun o e => k it (by simp) o e
  item := by
    intro X hP hw hK hc i pins s σ H E I hf st hg
    subst hP hw hK
    obtain ⟨xs, x, hq, hx⟩ := hg
    obtain ⟨its, rv, p, hz⟩ := I.list hq
    obtain ⟨u, hu, ru⟩ := rv.get hx
    obtain ⟨f0, f1, f2, f3, f4, f5⟩ := hf it (by simp)
    refine wpAny_pyNext_list_item st p.isList (x := u) (by simpa using hu) fun h' st' sb => ?_
    have I1 : Inv X pins σ H { s with heap := h' } := I.turned (t' := s.toks) (fun b o hb e => (sb.2 b hb).trans e) f0 f1 f3 f4 f5
    obtain ⟨o, e, c, d⟩ := id st'
    exact ⟨u, rfl, go_of (s := { s with heap := h' }) e c d (by decide) ⟨x, H, I1, ru, ⟨rfl, fun ys hy => by rw [I.list_inj hy hq]; exact hx⟩, st', fun b hb => (hf b hb).1⟩⟩
  done := by
    intro X hP hw hK hc i pins s σ H E I hf st hg
    subst hP hw hK
    obtain ⟨xs, hq, hx⟩ := hg
    obtain ⟨its, rv, p, hz⟩ := I.list hq
    obtain ⟨f0, f1, f2, f3, f4, f5⟩ := hf it (by simp)
    have hl := rv.length
    exact wpAny_pyNext_list_end (I.ok.hd hc) st p.isList (by simp; omega) fun h' eb => ⟨rfl, I.turned (t' := s.toks) (fun b o hb e => eb b o hb e) f0 f1 f3 f4 f5⟩
  self := fun _ _ _ _ _ st h => wpAny_pyIter_listiter st h
theorem turn_range {P : Program} {w : World} {K : PySem.W.Frag} {tg : Expr} (it : Addr) (lo : Int) (n : Nat) : Turn P w K tg (Itr lo n) [it] it (fun i h => IsRangeIter h it (lo + (i : Nat) * 1) ((n : Int) - (i : Nat)) 1) where
  mem := by simp
  obj := fun i h st b hb => by
    have e : b = it := by simpa using hb
    subst e
    exact ⟨_, st, fun v z => by
      have z' : Data.fields _ = Data.cell v := z
      cases z'⟩
  keep := fun i h h' st k => k it (by simp) _ st
  item := by
    intro X hP hw hK hc i pins s σ H E I hf st hg
    subst hP hw hK
    obtain ⟨f0, f1, f2, f3, f4, f5⟩ := hf it (by simp)
    have W := Walks.range (prog := X.prog) (w := X.w) (I.ok.hd hc) it lo 1 n
    refine W.item i s _ _ hg st fun v h' tk hv st' kk => ?_
    obtain ⟨t, rfl⟩ := hv
    have I1 : Inv X pins σ H { s with heap := h', toks := tk } := I.turned (fun b o hb e => kk b o (by simpa using hb) e) f0 f1 f3 f4 f5
    refine ⟨_, rfl, go_of (s := { s with heap := h', toks := tk }) (n := "range_iterator") st' rfl rfl (by decide) ⟨.int (lo + i), H, I1, ⟨t, ?_⟩, ⟨rfl, rfl⟩, st', fun b hb => (hf b hb).1⟩⟩
    rw [Int.mul_one]
  done := by
    intro X hP hw hK hc i pins s σ H E I hf st hg
    subst hP hw hK
    obtain ⟨f0, f1, f2, f3, f4, f5⟩ := hf it (by simp)
    exact wpAny_pyNext_range_end (I.ok.hd hc) st (by have : n ≤ i := hg; omega) fun h' eb => ⟨rfl, I.turned (t' := s.toks) (fun b o hb e => eb b o hb e) f0 f1 f3 f4 f5⟩
  self := fun _ _ _ _ _ st h => wpAny_pyIter_rangeiter st h
end L2
namespace L2
open PySem PySem.Spec PyProof.Rows
section
variable {X : Cx} {tg : Expr}
def iList (K : PySem.W.Frag) (tl : TE) : TI := fun σ H R => tl σ H fun x H1 => ∃ a, x = .ref a ∧ (∃ xs, SqL K H1 a xs) ∧ R (Itl K a) H1
theorem pi_list {l : Expr} {tl : TE} (hl : PE X l tl) : PI X tg l (iList X.K tl) := by
  intro pins s σ H R I h
  refine thn (hl pins s σ H _ I h) fun v s1 ⟨x, H1, I1, r1, q1⟩ => ?_
  obtain ⟨a, e, ⟨xs, hq⟩, q⟩ := q1
  subst e
  cases r1
  obtain ⟨its, rv, p, hz⟩ := I1.list hq
  refine wpAny_pyIter_list p.isList ?_
  refine ⟨s1.heap.objs.size, [s1.heap.objs.size], _, _, H1, rfl, I1.kept (t' := s1.toks) fun b o e => Heap.get?_push_of_some _ e, turn_list a _, ⟨_, Heap.get?_push_size _ rfl, rfl, rfl⟩, fun b hb => ?_, q⟩
  have e : b = s1.heap.objs.size := by simpa using hb
  subst e
  exact I1.fpOk (Nat.le_refl _) (I1.hok.fresh (Nat.le_refl _))
/-- a range object just made, walked -/
theorem range_it {pins : List (Addr × Obj)} {σ : St} {H : Hp} {s : Shared} {R : It → Hp → Prop} {E : Value → Shared → Prop} {lo hi : Int} {t u v : Tok} {tk : Nat} (I : Inv X pins σ H s) (h1 : -(2 ^ 62) ≤ lo) (h2 : lo < 2 ^ 62) (h3 : -(2 ^ 62) ≤ hi) (h4 : hi < 2 ^ 62)
    (q : R (Itr lo (hi - lo).toNat) H) : wpAny (model X.prog X.w) X.A (pyIter (.ref s.heap.objs.size)) (PIE X pins σ tg R) E { s with heap := s.heap.push { cls := .type "range", data := .fields #[.int lo t, .int hi u, .int 1 v] }, toks := tk } := by
  refine wpAny_pyIter_range (IsRange.new ..) (small_one h1 h2 h3 h4) ?_
  have I1 : Inv X pins σ H { s with heap := s.heap.push { cls := .type "range", data := .fields #[.int lo t, .int hi u, .int 1 v] }, toks := tk } := I.kept fun b o e => Heap.get?_push_of_some _ e
  refine ⟨(s.heap.push { cls := .type "range", data := .fields #[.int lo t, .int hi u, .int 1 v] }).objs.size, [(s.heap.push { cls := .type "range", data := .fields #[.int lo t, .int hi u, .int 1 v] }).objs.size], _, _, H, rfl,
    I1.kept (t' := tk) fun b o e => Heap.get?_push_of_some _ e, turn_range _ lo (hi - lo).toNat, ?_, fun b hb => ?_, q⟩
  · have e1 : lo + ((0 : Nat) : Int) * 1 = lo := by simp
    have e2 : (((hi - lo).toNat : Nat) : Int) - ((0 : Nat) : Int) = Builtin.Range.rangeSize lo hi 1 := by rw [rangeSize_one]; split <;> omega
    show IsRangeIter _ _ (lo + ((0 : Nat) : Int) * 1) ((((hi - lo).toNat : Nat) : Int) - ((0 : Nat) : Int)) 1
    rw [e1, e2]
    exact Heap.get?_push_size _ rfl
  · have e : b = (s.heap.push { cls := .type "range", data := .fields #[.int lo t, .int hi u, .int 1 v] }).objs.size := by simpa using hb
    subst e
    exact I1.fpOk (Nat.le_refl _) (I1.hok.fresh (Nat.le_refl _))
def iRng1 (ta : TA) : TI := fun σ H R => ta σ H fun vs H1 => ∃ j : Int, vs = [.int j] ∧ -(2 ^ 62) ≤ j ∧ j < 2 ^ 62 ∧ R (Itr 0 j.toNat) H1
theorem pi_range1 {a : Expr} {ta : TA} {p pos : Pos} (hg : Gl X "range") (hm : X.mg "range" = none) (ha : PA X [a] ta) (hs : starEach [a] X.env = [(false, eval a X.env)] := by rfl) : PI X tg (.Call (.Name "range" p) [a] [] pos) (iRng1 ta) := by
  intro pins s σ H R I h
  refine Call_ (ld_blt I hg hm boot_range (PyProof.Rows.callWith_type1 (thn (ha pos pins s σ H _ I h) fun us s1 ⟨vs, H1, I1, r1, q1⟩ => ?_) hs rfl))
  obtain ⟨j, e, q1, q2, q⟩ := q1
  subst e
  cases r1 with
  | cons r rr =>
    cases rr
    obtain ⟨t, rfl⟩ := r
    exact call_range_1 (range_it I1 (by omega) (by omega) q1 q2 (by simpa using q))
/-- W: the invariant by the turn and a measure; N: what the body is to reach -/
def tFor (wi : TI) (g : TG) (tb : TS) : TS := fun D σ H => wi σ H fun J H1 => ∃ W : Nat → Nat → St → Hp → Prop, (∃ m, W 0 m σ H1) ∧ ∀ i m σ H, W i m σ H →
  (J.stop i H ∧ D.nx σ H) ∨ (J.go i H ∧ ∃ N : St → Hp → Prop, (∀ σ' H', N σ' H' → ∃ m', m' < m ∧ W (i + 1) m' σ' H') ∧ ∀ x H', J.yld i H x H' → g x σ H' fun σ2 H2 => tb { D with nx := N, ct := N, bk := D.nx } σ2 H2)
/-- the records at fp as they stand -/
def pinsAt (fp : List Addr) (h : Heap) : List (Addr × Obj) := fp.filterMap fun b => (h.get? b).map fun o => (b, o)
theorem mem_pinsAt {fp : List Addr} {h : Heap} {b : Addr} {o : Obj} (hb : b ∈ fp) (e : h.get? b = some o) : (b, o) ∈ pinsAt fp h := List.mem_filterMap.mpr ⟨b, hb, by rw [e]; rfl⟩
theorem of_pinsAt {fp : List Addr} {h : Heap} {p : Addr × Obj} (hp : p ∈ pinsAt fp h) : p.1 ∈ fp ∧ h.get? p.1 = some p.2 := by
  obtain ⟨b, hb, e⟩ := List.mem_filterMap.mp hp
  cases q : h.get? b with
  | none => rw [q] at e; cases e
  | some o =>
    rw [q] at e
    have e' : (b, o) = p := Option.some.inj e
    subst e'
    exact ⟨hb, q⟩
theorem Inv.pinned {pins : List (Addr × Obj)} {σ : St} {H : Hp} {s : Shared} {fp : List Addr} (I : Inv X pins σ H s) (hf : ∀ b ∈ fp, FpOk X pins H b) (ho : ∀ b ∈ fp, ∃ o, s.heap.get? b = some o ∧ ∀ v, o.data ≠ .cell v) : Inv X (pins ++ pinsAt fp s.heap) σ H s :=
  I.pins_of fun p hp => (List.mem_append.mp hp).elim (fun z => I.pin p (List.mem_append_right _ z)) fun z => by
    obtain ⟨hb, e⟩ := of_pinsAt z
    obtain ⟨f0, f1, f2, _⟩ := hf p.1 hb
    obtain ⟨o, e', d⟩ := ho p.1 hb
    rw [e] at e'; cases e'
    exact ⟨e, f0, f1, f2, d⟩
theorem Inv.unpinned {pins pl : List (Addr × Obj)} {σ : St} {H : Hp} {s : Shared} (I : Inv X (pins ++ pl) σ H s) : Inv X pins σ H s := I.pins_of fun p hp => I.pin p (List.mem_append_right _ (List.mem_append_left _ hp))
theorem ps_for {iter : Expr} {body : List Stmt} {wi : TI} {g : TG} {tb : TS} {pos : Pos} (hp : PassesOwn (model X.prog X.w) X.A X.env X.xe) (hc : X.calm = true) (hi : PI X tg iter wi) (hg : PG X tg g) (hb : PSs X body tb)
    (hs : ∀ x, foldedSetIterable iter X.env x = pure x := by intro _; rfl) : PS X (.For tg iter body [] pos) (tFor wi g tb) := by
  intro pins s σ H D I h
  refine wpAny_For (thn (hi pins s σ H _ I h) fun v s1 h1 => thn h1 fun itv s2 h2 => ?_) hs
  obtain ⟨it, fp, tn, J, H2, e, I2, T, st2, f2, W, ⟨m0, w0⟩, turn⟩ := h2
  subst e
  -- what stays true of the iterator's objects through the loop
  have stat : ∀ {H' : Hp}, (∀ b ∈ fp, H' b = none) → ∀ b ∈ fp, FpOk X pins H' b := fun hn b hb => ⟨hn b hb, (f2 b hb).2⟩
  refine codeAny_forLoop_any (fun n s' => ∃ i σ' H', Inv X pins σ' H' s' ∧ tn i s'.heap ∧ (∀ b ∈ fp, H' b = none) ∧ W i n σ' H') ?_ m0 ⟨0, σ, H2, I2, st2, fun b hb => (f2 b hb).1, w0⟩
  rintro n s3 ⟨i, σ3, H3, I3, st3, fr3, w3⟩
  rcases turn i n σ3 H3 w3 with ⟨stop, qn⟩ | ⟨go, N, hN, step⟩
  · refine wpAny_passesOwn hp (thn (T.done X rfl rfl rfl hc i pins s3 σ3 H3 X.xe I3 (stat fr3) st3 stop) fun r s4 ⟨hr, I4⟩ => ?_)
    subst hr
    exact wpAny_execs_nil ⟨σ3, H3, I4, qn⟩
  · refine wpAny_passesOwn hp (thn (T.item X rfl rfl rfl hc i pins s3 σ3 H3 X.xe I3 (stat fr3) st3 go) fun r s4 ⟨u, hr, h4⟩ => ?_)
    subst hr
    refine wpAny_passesOwn hp (thn h4 fun _ s5 ⟨x, H5, I5, r5, y5, st5, fr5⟩ => ?_)
    have I5' := I5.pinned (stat fr5) (T.obj _ _ st5)
    refine wpAny_passesOwn hp (thn (hg _ s5 σ3 H5 x u _ I5' r5 (step x H5 y5)) fun _ s6 ⟨σ6, H6, I6, q6⟩ => ?_)
    refine wpAny_passesOwn hp (thn (hb _ s6 σ6 H6 _ I6 q6) fun f s7 q7 => ?_)
    have again : ∀ {σ7 : St} {H7 : Hp}, Inv X (pins ++ pinsAt fp s5.heap) σ7 H7 s7 → N σ7 H7 → ∃ m, m < n ∧ ∃ i σ' H', Inv X pins σ' H' s7 ∧ tn i s7.heap ∧ (∀ b ∈ fp, H' b = none) ∧ W i m σ' H' := fun {σ7 H7} I7 n7 => by
      obtain ⟨m', hm, w7⟩ := hN σ7 H7 n7
      refine ⟨m', hm, i + 1, σ7, H7, I7.unpinned, T.keep _ _ _ st5 fun b hb o e => (I7.pin (b, o) (List.mem_append_right _ (List.mem_append_right _ (mem_pinsAt hb e)))).1, fun b hb => ?_, w7⟩
      obtain ⟨o, e, d⟩ := T.obj _ _ st5 b hb
      exact (I7.pin (b, o) (List.mem_append_right _ (List.mem_append_right _ (mem_pinsAt hb e)))).2.1
    cases f with
    | next => obtain ⟨σ7, H7, I7, n7⟩ := q7; exact again I7 n7
    | cont => obtain ⟨σ7, H7, I7, n7⟩ := q7; exact again I7 n7
    | brk => obtain ⟨σ7, H7, I7, q7⟩ := q7; exact ⟨σ7, H7, I7.unpinned, q7⟩
    | ret v => obtain ⟨x7, σ7, H7, I7, r7, q7⟩ := q7; exact ⟨x7, σ7, H7, I7.unpinned, r7, q7⟩
end
/-- over a list that the body leaves as it is -/
theorem for_list {K : PySem.W.Frag} {a : Addr} {xs : List V} {g : TG} {tb : TS} {D : Ends} {σ : St} {H : Hp} (Pv : Nat → St → Hp → Prop) (h0 : Pv 0 σ H) (hl : ∀ i σ H, i ≤ xs.length → Pv i σ H → SqL K H a xs)
    (hs : ∀ i x σ H, xs[i]? = some x → Pv i σ H → g x σ H fun σ2 H2 => tb { D with nx := Pv (i + 1), ct := Pv (i + 1), bk := D.nx } σ2 H2) (hd : ∀ σ H, Pv xs.length σ H → D.nx σ H) :
    ∃ W : Nat → Nat → St → Hp → Prop, (∃ m, W 0 m σ H) ∧ ∀ i m σ H, W i m σ H →
      ((Itl K a).stop i H ∧ D.nx σ H) ∨ ((Itl K a).go i H ∧ ∃ N : St → Hp → Prop, (∀ σ' H', N σ' H' → ∃ m', m' < m ∧ W (i + 1) m' σ' H') ∧ ∀ x H', (Itl K a).yld i H x H' → g x σ H' fun σ2 H2 => tb { D with nx := N, ct := N, bk := D.nx } σ2 H2) := by
  refine ⟨fun i m σ H => m = xs.length - i ∧ i ≤ xs.length ∧ Pv i σ H, ⟨xs.length, by simp, Nat.zero_le _, h0⟩, ?_⟩
  rintro i m σ H ⟨rfl, hi, p⟩
  have q := hl i σ H hi p
  by_cases hlt : i < xs.length
  · refine .inr ⟨⟨xs, xs[i], q, by simp [hlt]⟩, Pv (i + 1), fun σ' H' p' => ⟨xs.length - (i + 1), by omega, rfl, hlt, p'⟩, fun x H' y => ?_⟩
    obtain ⟨e, y⟩ := y
    subst e
    exact hs i x σ _ (y xs q) p
  · have e : i = xs.length := by omega
    subst e
    exact .inl ⟨⟨xs, q, Nat.le_refl _⟩, hd σ H p⟩
/-- while, by a word and a measure of the state -/
theorem while_by {c : TT} {tb : TS} {D : Ends} {σ : St} {H : Hp} (Pv : St → Hp → Prop) (μ : St → Hp → Nat) (h0 : Pv σ H)
    (hs : ∀ σ H, Pv σ H → c σ H fun b H1 => if b = true then tb { D with nx := fun σ' H' => Pv σ' H' ∧ μ σ' H' < μ σ H, ct := fun σ' H' => Pv σ' H' ∧ μ σ' H' < μ σ H, bk := D.nx } σ H1 else D.nx σ H1)
    (mono : ∀ σ H Q Q', (∀ b H1, Q b H1 → Q' b H1) → c σ H Q → c σ H Q') : tWhile c tb D σ H := by
  refine ⟨fun m σ H => m = μ σ H ∧ Pv σ H, ⟨_, rfl, h0⟩, ?_⟩
  rintro m σ H ⟨rfl, p⟩
  refine mono σ H _ _ (fun b H1 q => ?_) (hs σ H p)
  cases b with
  | true => exact ⟨_, fun σ' H' ⟨p', l⟩ => ⟨_, l, rfl, p'⟩, q⟩
  | false => exact q
end L2
namespace L2
open PySem PySem.Spec PyProof.Rows
abbrev R2 := V → V → Hp → VK → Prop
/-- a two-place operation on values: f is binaryOp op, inplaceOp op or compareOp op -/
def OpR (X : Cx) (f : Value → Value → Sem Value) (r : R2) : Prop :=
  ∀ (pins : List (Addr × Obj)) (s : Shared) (σ : St) (H : Hp) (x y : V) (v u : Value) (Q : VK), Inv X pins σ H s → RelV x v → RelV y u → r x y H Q →
    wpAny (model X.prog X.w) X.A (f v u) (EP X pins σ Q) X.xe s
/-- a one-place operation -/
def UnR (X : Cx) (f : Value → Sem Value) (r : V → Hp → VK → Prop) : Prop :=
  ∀ (pins : List (Addr × Obj)) (s : Shared) (σ : St) (H : Hp) (x : V) (v : Value) (Q : VK), Inv X pins σ H s → RelV x v → r x H Q →
    wpAny (model X.prog X.w) X.A (f v) (EP X pins σ Q) X.xe s
/-- a call of a value that is known (a builtin, a type) with values -/
def CallR (X : Cx) (f : Value) (r : List V → Hp → VK → Prop) : Prop :=
  ∀ (pins : List (Addr × Obj)) (s : Shared) (σ : St) (H : Hp) (xs : List V) (us : List Value) (Q : VK), Inv X pins σ H s → Vals xs us → r xs H Q →
    wpAny (model X.prog X.w) X.A (call f us) (EP X pins σ Q) X.xe s
/-- a value's truth -/
def TruR (X : Cx) (r : V → Hp → (Bool → Hp → Prop) → Prop) : Prop :=
  ∀ (pins : List (Addr × Obj)) (s : Shared) (σ : St) (H : Hp) (x : V) (v : Value) (Q : Bool → Hp → Prop), Inv X pins σ H s → RelV x v → r x H Q →
    wpAny (model X.prog X.w) X.A (truthy v) (TP X pins σ Q) X.xe s
def tOp (r : R2) (ta tb : TE) : TE := fun σ H Q => ta σ H fun x H1 => tb σ H1 fun y H2 => r x y H2 Q
def tUn (r : V → Hp → VK → Prop) (ta : TE) : TE := fun σ H Q => ta σ H fun x H1 => r x H1 Q
/-- ints in, under C, and a value out -/
def rI (C : Int → Int → Prop) (g : Int → Int → V) : R2 := fun x y H Q => ∃ i j, x = .int i ∧ y = .int j ∧ C i j ∧ Q (g i j) H
def rI0 (g : Int → Int → V) : R2 := fun x y H Q => ∃ i j, x = .int i ∧ y = .int j ∧ Q (g i j) H
def rU (g : Int → V) : V → Hp → VK → Prop := fun x H Q => ∃ i, x = .int i ∧ Q (g i) H
section
variable {X : Cx} {a b c : Expr} {ta tb tc : TE} {pos : Pos}
theorem binT (ha : PE X a ta) (hb : PE X b tb) {pins : List (Addr × Obj)} {s : Shared} {σ : St} {H : Hp} {R : V → V → Hp → Prop} (I : Inv X pins σ H s)
    (h : ta σ H fun x H1 => tb σ H1 fun y H2 => R x y H2) {Q : Value → Shared → Prop} {f : Value → Value → Sem Value}
    (hf : ∀ v u s2 x y H2, Inv X pins σ H2 s2 → RelV x v → RelV y u → R x y H2 → wpAny (model X.prog X.w) X.A (f v u) Q X.xe s2) :
    wpAny (model X.prog X.w) X.A (eval a X.env) (fun v s₁ => wpAny (model X.prog X.w) X.A (eval b X.env) (fun u s₂ => wpAny (model X.prog X.w) X.A (f v u) Q X.xe s₂) X.xe s₁) X.xe s := by
  refine thn (ha pins s σ H _ I h) fun v s1 ⟨x, H1, I1, r1, q1⟩ => ?_
  refine thn (hb pins s1 σ H1 _ I1 q1) fun u s2 ⟨y, H2, I2, r2, q2⟩ => ?_
  exact hf v u s2 x y H2 I2 r1 r2 q2
theorem pe_op {op : Operator} {r : R2} (ho : OpR X (binaryOp op) r) (ha : PE X a ta) (hb : PE X b tb) : PE X (.BinOp a op b pos) (tOp r ta tb) := by
  intro pins s σ H Q I h
  exact wpAny_BinOp (binT ha hb I h fun v u s2 x y H2 I2 rx ry q => ho pins s2 σ H2 x y v u Q I2 rx ry q)
theorem pe_un {op : UnaryOp} {r : V → Hp → VK → Prop} (ho : UnR X (unaryOp op) r) (ha : PE X a ta) : PE X (.UnaryOp op a pos) (tUn r ta) := by
  intro pins s σ H Q I h
  exact UnaryOp_ (thn (ha pins s σ H _ I h) fun v s1 ⟨x, H1, I1, r1, q1⟩ => ho pins s1 σ H1 x v Q I1 r1 q1)
theorem opI {f : Value → Value → Sem Value} {C : Int → Int → Prop} {g : Int → Int → Int}
    (rule : ∀ (i j : Int) (t u : Tok) (s : Shared) (Q : Value → Shared → Prop) (E : Value → Shared → Prop), C i j → Q (.int (g i j) s.toks) { s with toks := s.toks + 1 } → wpAny (model X.prog X.w) X.A (f (.int i t) (.int j u)) Q E s) :
    OpR X f (rI C fun i j => .int (g i j)) := by
  intro pins s σ H x y v u Q I rx ry h
  obtain ⟨i, j, rfl, rfl, hc, q⟩ := h
  obtain ⟨t, rfl⟩ := rx
  obtain ⟨t', rfl⟩ := ry
  exact rule i j t t' s _ _ hc ⟨.int (g i j), H, I.tok _, ⟨_, rfl⟩, q⟩
theorem opI0 {f : Value → Value → Sem Value} {g : Int → Int → Int}
    (rule : ∀ (i j : Int) (t u : Tok) (s : Shared) (Q : Value → Shared → Prop) (E : Value → Shared → Prop), Q (.int (g i j) s.toks) { s with toks := s.toks + 1 } → wpAny (model X.prog X.w) X.A (f (.int i t) (.int j u)) Q E s) :
    OpR X f (rI0 fun i j => .int (g i j)) := by
  intro pins s σ H x y v u Q I rx ry h
  obtain ⟨i, j, rfl, rfl, q⟩ := h
  obtain ⟨t, rfl⟩ := rx
  obtain ⟨t', rfl⟩ := ry
  exact rule i j t t' s _ _ ⟨.int (g i j), H, I.tok _, ⟨_, rfl⟩, q⟩
theorem opB0 {f : Value → Value → Sem Value} {g : Int → Int → Bool}
    (rule : ∀ (i j : Int) (t u : Tok) (s : Shared) (Q : Value → Shared → Prop) (E : Value → Shared → Prop), Q (.bool (g i j)) s → wpAny (model X.prog X.w) X.A (f (.int i t) (.int j u)) Q E s) :
    OpR X f (rI0 fun i j => .bl (g i j)) := by
  intro pins s σ H x y v u Q I rx ry h
  obtain ⟨i, j, rfl, rfl, q⟩ := h
  obtain ⟨t, rfl⟩ := rx
  obtain ⟨t', rfl⟩ := ry
  exact rule i j t t' s _ _ ⟨.bl (g i j), H, I, rfl, q⟩
def CPow (i j : Int) : Prop := 0 ≤ j ∧ j ≤ 1000000 ∧ i.natAbs < 2 ^ 64
theorem two_pow_nn (k : Nat) : (0 : Int) ≤ 2 ^ k := by
  rw [two_pow_cast]
  exact Int.natCast_nonneg _
theorem op_add : OpR X (binaryOp .Add) (rI0 fun i j => .int (i + j)) := opI0 fun _ _ _ _ _ _ _ q => add_int q
theorem op_sub : OpR X (binaryOp .Sub) (rI0 fun i j => .int (i - j)) := opI0 fun _ _ _ _ _ _ _ q => sub_int q
theorem op_shl : OpR X (binaryOp .LShift) (rI CPow fun i j => .int (i * 2 ^ j.toNat)) := opI fun _ _ _ _ _ _ _ hc q => lshift_int_small hc.1 hc.2.1 hc.2.2 q
theorem op_shr : OpR X (binaryOp .RShift) (rI (fun _ j => 0 ≤ j) fun i j => .int (i / 2 ^ j.toNat)) := opI fun i j _ _ _ _ _ hc q =>
  rshift_int hc (by rw [Int.fdiv_eq_ediv_of_nonneg i (two_pow_nn _)]; exact q)
theorem op_and : OpR X (binaryOp .BitAnd) (rI0 fun i j => .int (Builtin.bitAnd i j)) := opI0 fun _ _ _ _ _ _ _ q => and_int q
theorem op_or : OpR X (binaryOp .BitOr) (rI0 fun i j => .int (Builtin.bitOr i j)) := opI0 fun _ _ _ _ _ _ _ q => or_int q
theorem unI {f : Value → Sem Value} {g : Int → Int}
    (rule : ∀ (i : Int) (t : Tok) (s : Shared) (Q : Value → Shared → Prop) (E : Value → Shared → Prop), Q (.int (g i) s.toks) { s with toks := s.toks + 1 } → wpAny (model X.prog X.w) X.A (f (.int i t)) Q E s) :
    UnR X f (rU fun i => .int (g i)) := by
  intro pins s σ H x v Q I rx h
  obtain ⟨i, rfl, q⟩ := h
  obtain ⟨t, rfl⟩ := rx
  exact rule i t s _ _ ⟨.int (g i), H, I.tok _, ⟨_, rfl⟩, q⟩
theorem un_neg : UnR X (unaryOp .USub) (rU fun i => .int (-i)) := unI fun _ _ _ _ _ q => neg_int q
end
/-- the scalars that == tells apart as data does -/
def scal : V → V → Bool
  | .non, .non => true | .non, .int _ => true | .int _, .non => true | .non, .bl _ => true | .bl _, .non => true | .non, .str _ => true | .str _, .non => true
  | .int _, .int _ => true | .bl _, .bl _ => true | .str _, .str _ => true | .byt _, .byt _ => true
  | .int _, .str _ => true | .str _, .int _ => true | .bl _, .str _ => true | .str _, .bl _ => true
  | _, _ => false
def rEq : R2 := fun x y H Q => scal x y = true ∧ Q (.bl (decide (x = y))) H
def rNe : R2 := fun x y H Q => scal x y = true ∧ Q (.bl (!decide (x = y))) H
theorem dec_int {i j : Int} : decide (V.int i = V.int j) = (i == j) := by
  rw [Bool.eq_iff_iff]
  simp
theorem dec_bl {i j : Bool} : decide (V.bl i = V.bl j) = (i == j) := by
  rw [Bool.eq_iff_iff]
  simp
theorem dec_str {i j : Str} : decide (V.str i = V.str j) = (i == j) := by
  rw [Bool.eq_iff_iff]
  simp
theorem dec_byt {i j : Array UInt8} : decide (V.byt i = V.byt j) = (i.toList == j.toList) := by
  rw [Bool.eq_iff_iff]
  cases i
  cases j
  simp
section
variable {X : Cx} {a b c : Expr} {ta tb tc : TE} {pos : Pos}
theorem fin_bl {pins : List (Addr × Obj)} {σ : St} {H : Hp} {s : Shared} {Q : VK} {k k' : Bool} (I : Inv X pins σ H s) (q : Q (.bl k) H) (e : k = k') : EP X pins σ Q (.bool k') s := by
  subst e
  exact ⟨.bl k, H, I, rfl, q⟩
theorem op_eq : OpR X (compareOp .Eq) rEq := by
  intro pins s σ H x y v u Q I rx ry h
  obtain ⟨hs, q⟩ := h
  cases x with
  | non =>
    cases rx
    cases y with
    | non => cases ry; exact PySem.EqNone.eq_none_none (fin_bl I q (by simp))
    | bl j => cases ry; exact PySem.EqNone.eq_none_bool (fin_bl I q (by simp))
    | int j => obtain ⟨t', rfl⟩ := ry; exact PySem.EqNone.eq_none_int (fin_bl I q (by simp))
    | str j => obtain ⟨t', rfl⟩ := ry; exact PySem.EqNone.eq_none_str (fin_bl I q (by simp))
    | _ => exact absurd (show false = true from hs) Bool.false_ne_true
  | bl i =>
    cases rx
    cases y with
    | non => cases ry; exact PySem.EqNone.eq_bool_none (fin_bl I q (by simp))
    | bl j => cases ry; exact eq_bool (fin_bl I q dec_bl)
    | str j => obtain ⟨t', rfl⟩ := ry; exact PySem.EqMixed.eq_bool_str (fin_bl I q (by simp))
    | _ => exact absurd (show false = true from hs) Bool.false_ne_true
  | int i =>
    obtain ⟨t, rfl⟩ := rx
    cases y with
    | non => cases ry; exact PySem.EqNone.eq_int_none (fin_bl I q (by simp))
    | int j => obtain ⟨t', rfl⟩ := ry; exact eq_int (fin_bl I q dec_int)
    | str j => obtain ⟨t', rfl⟩ := ry; exact PySem.EqMixed.eq_int_str (fin_bl I q (by simp))
    | _ => exact absurd (show false = true from hs) Bool.false_ne_true
  | str i =>
    obtain ⟨t, rfl⟩ := rx
    cases y with
    | non => cases ry; exact PySem.EqNone.eq_str_none (fin_bl I q (by simp))
    | bl j => cases ry; exact PySem.EqMixed.eq_str_bool (fin_bl I q (by simp))
    | int j => obtain ⟨t', rfl⟩ := ry; exact PySem.EqMixed.eq_str_int (fin_bl I q (by simp))
    | str j => obtain ⟨t', rfl⟩ := ry; exact eq_str (fin_bl I q dec_str)
    | _ => exact absurd (show false = true from hs) Bool.false_ne_true
  | byt i =>
    obtain ⟨t, rfl⟩ := rx
    cases y with
    | byt j => obtain ⟨t', rfl⟩ := ry; exact PySem.W.eq_bytes (fin_bl I q dec_byt)
    | _ => exact absurd (show false = true from hs) Bool.false_ne_true
  | _ => cases y <;> exact absurd (show false = true from hs) Bool.false_ne_true
theorem op_lt : OpR X (compareOp .Lt) (rI0 fun i j => .bl (decide (i < j))) := opB0 fun _ _ _ _ _ _ _ q => lt_int q
theorem op_gt : OpR X (compareOp .Gt) (rI0 fun i j => .bl (decide (j < i))) := opB0 fun _ _ _ _ _ _ _ q => gt_int q
theorem op_ge : OpR X (compareOp .GtE) (rI0 fun i j => .bl (decide (j ≤ i))) := opB0 fun _ _ _ _ _ _ _ q => ge_int q
theorem nomark (b : Expr) {op : CmpOp} (h : op ≠ .In := by decide) (h2 : op ≠ .NotIn := by decide) : behindInMarks op b = false := by
  have e1 : (op == CmpOp.In) = false := by cases op <;> first | rfl | exact absurd rfl h
  have e2 : (op == CmpOp.NotIn) = false := by cases op <;> first | rfl | exact absurd rfl h2
  cases b <;> simp [behindInMarks, e1, e2]
/-- a comparison as a value; hm: nomark b, or (for in, not in) by with_unfolding_all rfl -/
theorem pe_cmpR {op : CmpOp} {r : R2} (ho : OpR X (compareOp op) r) (ha : PE X a ta) (hb : PE X b tb) (hm : behindInMarks op b = false) : PE X (.Compare a [op] [b] pos) (tOp r ta tb) := by
  intro pins s σ H Q I h
  exact wpAny_Compare1 (binT ha hb I h fun v u s2 x y H2 I2 rx ry q => ho pins s2 σ H2 x y v u Q I2 rx ry q) hm
/-- a reading of a value as a test -/
def tTest (t : TE) : TT := fun σ H Q => t σ H fun x H' => ∃ k, x = .bl k ∧ Q k H'
theorem pt_cmpR {op : CmpOp} {r : R2} (ho : OpR X (compareOp op) r) (ha : PE X a ta) (hb : PE X b tb) (hm : behindInMarks op b = false) : PT X (.Compare a [op] [b] pos) (tTest (tOp r ta tb)) := by
  intro pins s σ H Q I h
  refine wpAny_isTrue_Compare1 (thn (ha pins s σ H _ I h) fun v s1 ⟨x, H1, I1, r1, q1⟩ => thn (hb pins s1 σ H1 _ I1 q1) fun u s2 ⟨y, H2, I2, r2, q2⟩ =>
    thn (ho pins s2 σ H2 x y v u _ I2 r1 r2 q2) fun c s3 ⟨z, H3, I3, r3, k, e, q3⟩ => ?_) hm
  subst e
  cases r3
  exact wpAny_truthy_bool ⟨H3, I3, q3⟩
/-- a value's truth by the abstract heap -/
def TruV (K : PySem.W.Frag) (x : V) (H : Hp) (k : Bool) : Prop :=
  match x with
  | .non => k = false
  | .bl b => k = b
  | .int i => k = (i != 0)
  | .str y => y.length ≤ sizeLine ∧ k = ((y.length : Int) != 0)
  | .byt y => y.size ≤ sizeLine ∧ k = ((y.size : Int) != 0)
  | .ref p => (∃ xs, SqL K H p xs ∧ k = !xs.isEmpty) ∨ (∃ xs, SqT K H p xs ∧ k = !xs.isEmpty) ∨ ∃ kvs, H p = some (.dK kvs) ∧ k = !kvs.isEmpty
  | _ => False
theorem isEmpty_kv {κ : Type} {kvs : List (κ × V)} {vs : List (κ × Value)} (r : KV kvs vs) : (!vs.isEmpty) = !kvs.isEmpty := by
  cases r <;> rfl
theorem isEmpty_of {xs : List V} {its : List Value} (r : Vals xs its) : (!its.toArray.isEmpty) = !xs.isEmpty := by
  cases r <;> simp
theorem line63 : (sizeLine : Nat) < 2 ^ 63 := by rw [sizeLine_eq]; decide
theorem tru_ok : TruR X (fun x H Q => ∃ k, TruV X.K x H k ∧ Q k H) := by
  intro pins s σ H x v Q I rx h
  obtain ⟨k, e, q⟩ := h
  have hl := line63
  have hs : sizeLine = 16777216 := sizeLine_eq
  cases x with
  | non =>
    cases rx
    have e' : k = false := e
    subst e'
    exact truthy_none ⟨H, I, q⟩
  | bl b =>
    cases rx
    have e' : k = b := e
    subst e'
    exact wpAny_truthy_bool ⟨H, I, q⟩
  | int i =>
    obtain ⟨t, rfl⟩ := rx
    have e' : k = (i != 0) := e
    subst e'
    exact PySem.P.truthy_int ⟨H, I, q⟩
  | str y =>
    obtain ⟨t, rfl⟩ := rx
    obtain ⟨hy, e'⟩ : y.length ≤ sizeLine ∧ k = ((y.length : Int) != 0) := e
    subst e'
    exact PySem.P.truthy_str (by omega) ⟨H, I.tok _, q⟩
  | byt y =>
    obtain ⟨t, rfl⟩ := rx
    obtain ⟨hy, e'⟩ : y.size ≤ sizeLine ∧ k = ((y.size : Int) != 0) := e
    subst e'
    exact PySem.W.truthy_bytes (by omega) ⟨H, I.tok _, q⟩
  | ref p =>
    cases rx
    have e' : (∃ xs, SqL X.K H p xs ∧ k = !xs.isEmpty) ∨ (∃ xs, SqT X.K H p xs ∧ k = !xs.isEmpty) ∨ ∃ kvs, H p = some (.dK kvs) ∧ k = !kvs.isEmpty := e
    rcases e' with ⟨xs, hx, e'⟩ | ⟨xs, hx, e'⟩ | ⟨kvs, hx, e'⟩
    · subst e'
      obtain ⟨its, r, pl, hz⟩ := I.list hx
      have hlen := r.length
      exact wpAny_truthy_list pl.isList (by simp only [List.size_toArray]; omega) ⟨H, I.tok _, by rw [isEmpty_of r]; exact q⟩
    · subst e'
      obtain ⟨its, r, pl, hz⟩ := I.tuple hx
      have hlen := r.length
      exact truthy_tuple pl (by simp only [List.size_toArray]; omega) ⟨H, I.tok _, by rw [isEmpty_of r]; exact q⟩
    · subst e'
      obtain ⟨hz, hS, vs, r, m⟩ : kvs.length ≤ sizeLine ∧ (p == sysModules) = false ∧ ∃ vs, KV kvs vs ∧ s.heap.DictOf (mixKind X.prog X.w) p vs := I.hok p _ hx
      have hlen : kvs.length = vs.length := Paired.length r
      exact wpAny_truthy_dict hS m (by omega) ⟨H, I.tok _, by rw [isEmpty_kv r]; exact q⟩
  | _ => exact (show False from e).elim
/-- any expression whose test is its value's truth (a name, a call, a subscript, a field ..: he by fun _ => rfl) -/
theorem pt_truth (ha : PE X a ta) (he : ∀ whole, isTrue a X.env whole = (do let v ← whole; standAt a.pos; holding [v] (truthy v))) :
    PT X a (fun σ H Q => ta σ H fun x H' => ∃ k, TruV X.K x H' k ∧ Q k H') := by
  intro pins s σ H Q I h
  exact isTrue_plain (thn (ha pins s σ H _ I h) fun v s1 ⟨x, H1, I1, r1, q1⟩ => tru_ok pins s1 σ H1 x v Q I1 r1 q1) (he _)
theorem vals1 {x : V} {us : List Value} (r : Vals [x] us) : ∃ u, us = [u] ∧ RelV x u := by
  cases r with
  | cons r1 r2 => cases r2; exact ⟨_, rfl, r1⟩
end
end L2
namespace L2
open PySem PySem.Spec PyProof.Rows
structure ObjM (h : Heap) (x dx C : Addr) (mA : Str → Option Value) : Prop where
  obj : h.get? x = some (PySem.W.instObj C dx)
  ns : h.Ns1 dx mA
  ne : dx ≠ x
theorem lookIn_ns {h : Heap} {dx : Addr} {mA : Str → Option Value} (n : h.Ns1 dx mA) : ∃ od, h.get? dx = some od ∧ ∀ name, PySem.W.lookIn name od = some (mA name) := by
  obtain ⟨o, es, ep, ho, hd, hk, _, hm⟩ := n
  refine ⟨o, ho, fun name => ?_⟩
  have e := hm name
  unfold nsFind findBy at e
  rw [← Array.find?_toList] at e
  unfold PySem.W.lookIn
  rw [hd]
  dsimp only
  split
  · rename_i y q
    rw [q] at e
    exact congrArg some e
  · rename_i q
    rw [q] at e
    have a : es.toList.any (·.refKey) = false := by
      rw [List.any_eq_false]
      intro y hy
      obtain ⟨z, t, hkey⟩ := hk y (Array.mem_toList_iff.mp hy)
      simp [DictEntry.refKey, hkey]
    have a' : ¬ es.toList.any (·.refKey) = true := by rw [a]; exact Bool.false_ne_true
    rw [if_neg a']
    exact congrArg some e
theorem ObjM.look {h : Heap} {x dx C : Addr} {mA : Str → Option Value} (I : ObjM h x dx C mA) : ∃ od, PySem.W.InstAt h x (PySem.W.instObj C dx) C (some od) ∧ ∀ name, PySem.W.lookIn name od = some (mA name) :=
  let ⟨od, ho, hl⟩ := lookIn_ns I.ns
  ⟨od, ⟨I.obj, rfl, rfl, ho⟩, hl⟩
section
variable {prog : Program} {w : World} {A : Around} {E : Value → Shared → Prop} {s : Shared} {K : PySem.W.Frag} {x dx C f : Addr} {mA : Str → Option Value} {name : Str} {v : Value}
theorem get_map {expr : Bool} {Q : Value → Shared → Prop} (X : K.In s.heap) (I : ObjM s.heap x dx C mA) (hg : PySem.W.plainGet K C name = true) (hh : PySem.W.hasDictIn K C = true)
    (ha : PySem.W.findIn K (.ref C) name = some none) (hv : mA name = some v) (hv' : PySem.W.handedIn v = true) (h : Q v { s with toks := s.toks + 1 }) :
    wpAny (model prog w) A (getAttr (.ref x) name expr) Q E s := by
  obtain ⟨od, J, hl⟩ := I.look
  exact PySem.W.get_value X J (PySem.W.plainGet_of hg).1 (PySem.W.findObj_own hh ha rfl (by rw [hl, hv])) hv' h
theorem get_meth {pl : Sem Bool} {Q : Value × List Value → Shared → Prop} (X : K.In s.heap) (I : ObjM s.heap x dx C mA) (hg : PySem.W.plainGet K C name = true)
    (hf : PySem.W.findIn K (.ref C) name = some (some (.ref f))) (ht : PySem.W.isFn K (.ref f) = true) (hv : mA name = none) (h : Q (.ref f, [.ref x]) s) :
    wpAny (model prog w) A (getMethod (.ref x) name pl) Q E s := by
  obtain ⟨od, J, hl⟩ := I.look
  exact PySem.W.method_fn X J (PySem.W.plainGet_of hg).1 (PySem.W.plainGet_of hg).2 hf (beq_iff_eq.mp ht) (by show (PySem.W.lookIn name od).map (·.isSome) = some false; rw [hl, hv]; rfl) h
theorem set_map {ns : List Str} {Q : Unit → Shared → Prop} (X : K.In s.heap) (I : ObjM s.heap x dx C mA)
    (hs : PySem.W.findIn K (.ref C) "__setattr__" = some (some (.builtin "object.__setattr__"))) (hp : PySem.W.plainOver K C = true) (ht : PySem.W.takerIn K C name = some none) (hh : PySem.W.hasDictIn K C = true)
    (hw : PySem.Within mA ns) (hsz : ns.length ≤ sizeLine)
    (h : ∀ h', ObjM h' x dx C (fun y => if y = name then some v else mA y) → Heap.SameBut dx s.heap h' → Q () { s with heap := h', toks := s.toks + 2 }) :
    wpAny (model prog w) A (setAttr (.ref x) name v) Q E s := by
  obtain ⟨od, J, hl⟩ := I.look
  refine PySem.W.set_plain X J hs (PySem.W.osa_open (s := { s with toks := s.toks + 1 }) (r := none) X J hp ht fun b => ?_)
  obtain ⟨cd, hc, hd'⟩ := PySem.W.any_some hh
  have hx : s.heap.get? x = some ⟨.ref C, some dx, .plain, #[]⟩ := I.obj
  refine wpAny_bind (wpAny_pure (wpAny_bind (wpAny_bind (wpAny_loadPart hx (wpAny_bind (PySem.W.Looks.here (s := { s with toks := s.toks + 1 }) (PySem.W.looks_clsIn X hc) ?_))))))
  rw [hd']
  refine wpAny_pure (a := some dx) (wpAny_bind (wpAny_pure (wpAny_bind ?_)))
  refine wpAny_nsSet1 (s := { s with toks := s.toks + 1 }) I.ns fun h' hn2 hs2 => ?_
  obtain ⟨oD, esD, epD, hoD, hdD, hcD⟩ := hn2.count (PySem.Within.cons name v hw)
  refine wpAny_bind (wpAny_lookBehind hoD (by rw [hdD]; exact pastItsLine_dict (Nat.le_trans hcD (by rw [List.length_cons]; omega))) ?_)
  exact wpAny_pure (h _ ⟨(hs2.2 _ (Ne.symm I.ne)).trans I.obj, hn2, I.ne⟩ hs2)
/-- C(..): the dict at the heap's end, the instance behind it; then its __init__ -/
theorem make_map {R : Result → Shared → Prop} {vs : List Value} {kw : List (Str × Value)} (X : K.In s.heap) (hm : PySem.W.makesIn K C = true)
    (hi : PySem.W.findIn K (.ref C) "__init__" = some (some (.ref f))) (hf : PySem.W.typeIn K (.ref f) = some (.type "function"))
    (h : codeAny (model prog w) (A.under (.builtin "type.__call__" ⟨.ref C :: vs, kw⟩)) (.call (.ref f) ⟨.ref (s.heap.objs.size + 1) :: vs, kw⟩) (PySem.W.InitBack (s.heap.objs.size + 1) R)
      { s with heap := (s.heap.push PySem.W.emptyDict).push (PySem.W.instObj C s.heap.objs.size) }) :
    codeAny (model prog w) A (.call (.ref C) ⟨vs, kw⟩) R s := by
  obtain ⟨hh, g, d, t, os⟩ := s
  exact PySem.W.make_core (PySem.W.makes_of X hm) (PySem.W.looks_findIn X hi) (fun self => PySem.W.bind_fn X self hf) (.inl rfl) h
end
def putF (f : Str) (v : V) : List (Str × V) → List (Str × V)
  | [] => [(f, v)]
  | (g, x) :: r => if g = f then (g, v) :: r else (g, x) :: putF f v r
theorem lookup_putF (f g : Str) (v : V) : ∀ fs : List (Str × V), (putF f v fs).lookup g = if g = f then some v else fs.lookup g
  | [] => by
    show List.lookup g [(f, v)] = _
    by_cases h : g = f
    · have hb : (g == f) = true := beq_iff_eq.mpr h
      simp only [List.lookup, hb, if_pos h]
    · have hb : (g == f) = false := beq_eq_false_iff_ne.mpr h
      simp only [List.lookup, hb, if_neg h]
  | (k, x) :: r => by
    have ih := lookup_putF f g v r
    rw [show putF f v ((k, x) :: r) = (if k = f then (k, v) :: r else (k, x) :: putF f v r) from rfl]
    by_cases hk : k = f
    · rw [if_pos hk]
      by_cases h : g = k
      · have hb : (g == k) = true := beq_iff_eq.mpr h
        simp only [List.lookup, hb, if_pos (h.trans hk)]
      · have hb : (g == k) = false := beq_eq_false_iff_ne.mpr h
        simp only [List.lookup, hb, if_neg (fun e : g = f => h (e.trans hk.symm))]
    · rw [if_neg hk]
      by_cases h : g = k
      · have hb : (g == k) = true := beq_iff_eq.mpr h
        simp only [List.lookup, hb, if_neg (fun e : g = f => hk (h.symm.trans e))]
      · have hb : (g == k) = false := beq_eq_false_iff_ne.mpr h
        simp only [List.lookup, hb]
        exact ih
theorem keys_putF (f : Str) (v : V) : ∀ fs : List (Str × V), f ∈ (putF f v fs).map (·.1) ∧ ∀ g, g ∈ fs.map (·.1) → g ∈ (putF f v fs).map (·.1)
  | [] => ⟨by simp [putF], fun g h => by simp at h⟩
  | (k, x) :: r => by
    obtain ⟨i1, i2⟩ := keys_putF f v r
    rw [show putF f v ((k, x) :: r) = (if k = f then (k, v) :: r else (k, x) :: putF f v r) from rfl]
    by_cases hk : k = f
    · rw [if_pos hk]
      subst hk
      exact ⟨by simp, fun g h => by simpa using h⟩
    · rw [if_neg hk]
      refine ⟨?_, fun g h => ?_⟩
      · rw [List.map_cons]
        exact List.mem_cons_of_mem _ i1
      · rw [List.map_cons] at h ⊢
        rcases List.mem_cons.mp h with e | e
        · exact List.mem_cons.mpr (.inl e)
        · exact List.mem_cons_of_mem _ (i2 g e)
theorem length_putF (f : Str) (v : V) : ∀ fs : List (Str × V), (putF f v fs).length ≤ fs.length + 1
  | [] => by simp [putF]
  | (k, x) :: r => by
    have ih := length_putF f v r
    rw [show putF f v ((k, x) :: r) = (if k = f then (k, v) :: r else (k, x) :: putF f v r) from rfl]
    by_cases hk : k = f
    · rw [if_pos hk, List.length_cons, List.length_cons]; omega
    · rw [if_neg hk, List.length_cons, List.length_cons]; omega
theorem RelO.some_of {v : V} {o : Option Value} (r : RelO (some v) o) : ∃ u, o = some u ∧ RelV v u := by
  cases o with
  | none => exact (show False from r).elim
  | some u => exact ⟨u, rfl, r⟩
theorem RelO.none_of {o : Option Value} (r : RelO none o) : o = none := by
  cases o with
  | none => rfl
  | some u => exact (show False from r).elim
theorem handed_of {v : V} {u : Value} (r : RelV v u) : PySem.W.handedIn u = true := by
  cases v with
  | non => cases (show u = Value.none from r); rfl
  | bl b => cases (show u = Value.bool b from r); rfl
  | int i => obtain ⟨t, e⟩ := (show ∃ t, u = Value.int i t from r); cases e; rfl
  | str x => obtain ⟨t, e⟩ := (show ∃ t, u = Value.str x t from r); cases e; rfl
  | byt b => obtain ⟨t, e⟩ := (show ∃ t, u = Value.bytes b t from r); cases e; rfl
  | flt b => obtain ⟨t, e⟩ := (show ∃ t, u = Value.float b t from r); cases e; rfl
  | ref a => cases (show u = Value.ref a from r); rfl
  | ty n => cases (show u = Value.type n from r); rfl
section
variable {P : Program} {w : World} {H H' : Hp} {h h' : Heap} {a C dx : Addr} {fs fs' : List (Str × V)}
theorem ins_get (hok : HOk P w H h) (e : H a = some (.ins C dx fs)) : ∃ mA, ObjM h a dx C mA ∧ (∀ f, RelO (fs.lookup f) (mA f)) ∧ PySem.Within mA (fs.map (·.1)) ∧ fs.length ≤ 1000 ∧ H dx = some (.own a) := by
  obtain ⟨d, z, ne, ob, mA, n, r, q⟩ := (show ObjOk P w H h a (.ins C dx fs) from hok a _ e)
  exact ⟨mA, ⟨ob, n, ne⟩, r, q, z, d⟩
end
structure Cls (K : PySem.W.Frag) (C : Addr) : Prop where
  pg : PySem.W.plainGet K C Str.empty = true
  hd : PySem.W.hasDictIn K C = true
  po : PySem.W.plainOver K C = true
  sa : PySem.W.findIn K (.ref C) "__setattr__" = some (some (.builtin "object.__setattr__"))
theorem Cls.get {K : PySem.W.Frag} {C : Addr} (c : Cls K C) (f : Str) : PySem.W.plainGet K C f = true := c.pg
/-- no class of it has the name -/
def NoAttr (K : PySem.W.Frag) (C : Addr) (f : Str) : Prop := PySem.W.findIn K (.ref C) f = some none
theorem NoAttr.taker {K : PySem.W.Frag} {C : Addr} {f : Str} (n : NoAttr K C f) : PySem.W.takerIn K C f = some none := by
  unfold PySem.W.takerIn
  rw [show PySem.W.findIn K (.ref C) f = some none from n]
  rfl
/-- a method: a plain def of the class or of one above it -/
structure Meth (K : PySem.W.Frag) (C : Addr) (m : Str) (f : Addr) : Prop where
  at_ : PySem.W.findIn K (.ref C) m = some (some (.ref f))
  fn : PySem.W.isFn K (.ref f) = true
  kp : PySem.W.keepIn K (.ref f) = true
section
variable {X : Cx} {pins : List (Addr × Obj)} {σ : St} {H : Hp} {s : Shared} {a C dx : Addr} {fs : List (Str × V)} {f : Str} {v : V} {A : Around} {E : Value → Shared → Prop}
theorem getattr_ok {b : Bool} {Q : Value → Shared → Prop} (I : Inv X pins σ H s) (e : H a = some (.ins C dx fs)) (c : Cls X.K C) (n : NoAttr X.K C f) (l : fs.lookup f = some v)
    (h : ∀ u s', Inv X pins σ H s' → RelV v u → Q u s') : wpAny (model X.prog X.w) A (getAttr (.ref a) f b) Q E s := by
  obtain ⟨mA, O, r, _, _, _⟩ := ins_get I.hok e
  obtain ⟨u, hu, ru⟩ := RelO.some_of (v := v) (o := mA f) (by rw [← l]; exact r f)
  exact get_map I.kIn O (c.get f) c.hd n hu (handed_of ru) (h u _ (I.tok _) ru)
theorem getmeth_ok {m : Str} {g : Addr} {pl : Sem Bool} {Q : Value × List Value → Shared → Prop} (I : Inv X pins σ H s) (e : H a = some (.ins C dx fs)) (c : Cls X.K C) (k : Meth X.K C m g) (l : fs.lookup m = none)
    (h : Q (.ref g, [.ref a]) s) : wpAny (model X.prog X.w) A (getMethod (.ref a) m pl) Q E s := by
  obtain ⟨mA, O, r, _, _, _⟩ := ins_get I.hok e
  have hn : mA m = none := RelO.none_of (by rw [← l]; exact r m)
  exact get_meth I.kIn O (c.get m) k.at_ k.fn hn h
theorem setattr_ok {y : V} {u : Value} {Q : Unit → Shared → Prop} (I : Inv X pins σ H s) (e : H a = some (.ins C dx fs)) (c : Cls X.K C) (n : NoAttr X.K C f) (hl : fs.length < 1000) (ry : RelV y u)
    (h : ∀ s', Inv X pins σ (upd H a (.ins C dx (putF f y fs))) s' → Q () s') : wpAny (model X.prog X.w) A (setAttr (.ref a) f u) Q E s := by
  obtain ⟨mA, O, r, wi, _, ho⟩ := ins_get I.hok e
  have hz : (fs.map (·.1)).length ≤ sizeLine := by rw [List.length_map, sizeLine_eq]; omega
  refine set_map I.kIn O c.sa c.po n.taker c.hd wi hz fun h' O' sb => h _ ?_
  have hd : ∃ o, h'.get? dx = some o := let ⟨o, _, _, e', _⟩ := O'.ns; ⟨o, e'⟩
  refine I.write (x := a) (e := dx) (by rw [e]; exact True.intro) (.inr ho) (fun b q hb z => (sb.2 b hb).trans z) hd ?_
  refine ⟨by rw [upd_ne O.ne]; exact ho, ?_, O.ne, O'.obj, _, O'.ns, fun g => ?_, fun g hg => ?_⟩
  · have := length_putF f y fs; omega
  · show RelO ((putF f y fs).lookup g) (if g = f then some u else mA g)
    rw [lookup_putF]
    by_cases q : g = f
    · rw [if_pos q, if_pos q]; exact ry
    · rw [if_neg q, if_neg q]; exact r g
  · by_cases q : g = f
    · rw [q]; exact (keys_putF f y fs).1
    · refine (keys_putF f y fs).2 g (wi g fun z => hg ?_)
      show (if g = f then some u else mA g) = none
      rw [if_neg q]; exact z
/-- a new instance, tracked, without attributes -/
theorem Inv.made (I : Inv X pins σ H s) : Inv X pins σ (upd (upd H s.heap.objs.size (.own (s.heap.objs.size + 1))) (s.heap.objs.size + 1) (.ins C s.heap.objs.size []))
    { s with heap := (s.heap.push PySem.W.emptyDict).push (PySem.W.instObj C s.heap.objs.size) } := by
  have e1 : (s.heap.push PySem.W.emptyDict).get? s.heap.objs.size = some PySem.W.emptyDict := Heap.get?_push_size s.heap rfl
  have e2 : ((s.heap.push PySem.W.emptyDict).push (PySem.W.instObj C s.heap.objs.size)).get? (s.heap.objs.size + 1) = some (PySem.W.instObj C s.heap.objs.size) := by
    have := Heap.get?_push_size (s.heap.push PySem.W.emptyDict) (o := PySem.W.instObj C s.heap.objs.size) rfl
    rwa [Heap.size_push] at this
  have e3 : (s.heap.push PySem.W.emptyDict).Ns s.heap.objs.size (fun _ => none) := ⟨PySem.W.emptyDict, #[], _, e1, rfl, (fun e he => absurd he (by simp)), fun _ => rfl⟩
  have I1 := I.laid (a := s.heap.objs.size) (o := .own (s.heap.objs.size + 1)) (h' := s.heap.push PySem.W.emptyDict) (t' := s.toks) (fun b u q => Heap.get?_push_of_some _ q) (Nat.le_refl _) ⟨_, e1⟩
  refine I1.laid (a := s.heap.objs.size + 1) (o := .ins C s.heap.objs.size []) (t' := s.toks) (fun b u q => Heap.get?_push_of_some _ q) (Nat.le_of_eq (Heap.size_push _ _)) ?_
  have ne : s.heap.objs.size ≠ s.heap.objs.size + 1 := Nat.ne_of_lt (Nat.lt_succ_self _)
  refine ⟨by rw [upd_ne ne, upd_same], Nat.zero_le _, ne, e2, fun _ => none, (Heap.Ns1.of_empty e3).at fun o q => Heap.get?_push_of_some _ q, fun _ => True.intro, fun y hy => absurd rfl hy⟩
/-- e.f where nothing but the object is asked: through attributeBase (super) and the last hold -/
theorem attr_of {prog : Program} {w : World} {env : Env} {e : Expr} {f : Str} {pos : Pos} {s : Shared} {Q : Value → Shared → Prop} (hb : attributeBase e f env (eval e env) = eval e env)
    (h : wpAny (model prog w) A (eval e env) (fun o s₁ => wpAny (model prog w) A (getAttr o f true) Q E s₁) E s) : wpAny (model prog w) A (eval (.Attribute e f pos) env) Q E s :=
  Attribute_any_ h (by rw [arm_eval_Attribute, hb])
end
/-- e.f, an attribute of the instance -/
def tFld (K : PySem.W.Frag) (ta : TE) (f : Str) : TE := fun σ H Q => ta σ H fun x H1 => ∃ a C dx fs v, x = .ref a ∧ H1 a = some (.ins C dx fs) ∧ Cls K C ∧ NoAttr K C f ∧ fs.lookup f = some v ∧ Q v H1
/-- e.f = value -/
def sFld (K : PySem.W.Frag) (ta tv : TE) (f : Str) : TS := fun D σ H => tv σ H fun y H1 => ta σ H1 fun x H2 => ∃ a C dx fs, x = .ref a ∧ H2 a = some (.ins C dx fs) ∧ Cls K C ∧ NoAttr K C f ∧ fs.length < 1000 ∧
  D.nx σ (upd H2 a (.ins C dx (putF f y fs)))
section
variable {X : Cx} {o e value : Expr} {f : Str} {pos pos' tpos : Pos} {ta tv : TE}
theorem pe_fld (he : PE X e ta) (hb : attributeBase e f X.env (eval e X.env) = eval e X.env) : PE X (.Attribute e f pos) (tFld X.K ta f) := by
  intro pins s σ H Q I h
  refine attr_of hb (thn (he pins s σ H _ I h) fun u s1 ⟨x, H1, I1, rx, a, C, dx, fs, v, ex, ea, c, n, l, q⟩ => ?_)
  subst ex
  obtain rfl : u = Value.ref a := rx
  exact getattr_ok I1 ea c n l fun u' s2 I2 ru => ⟨v, H1, I2, ru, q⟩
theorem ps_fld (ha : PE X o ta) (hv : PE X value tv) (hs : swapsWith value (some (.Attribute o f pos')) pos.line X.env = pure false) : PS X (.Assign [.Attribute o f pos'] value pos) (sFld X.K ta tv f) := by
  intro pins s σ H D I h
  refine plainObj_wpAny_Assign_Attribute (thn (hv pins s σ H _ I h) fun u s1 ⟨y, H1, I1, ry, q⟩ => thn (ha pins s1 σ H1 _ I1 q) fun ov s2 ⟨x, H2, I2, rx, a, C, dx, fs, ex, ea, c, n, l, q2⟩ => ?_) hs
  subst ex
  obtain rfl : ov = Value.ref a := rx
  exact setattr_ok I2 ea c n l ry fun s3 I3 => ⟨σ, _, I3, q2⟩
end
section
variable {X : Cx} {pins : List (Addr × Obj)} {σ : St} {H : Hp} {s : Shared} {A : Around} {E : Value → Shared → Prop} {Q : Value → Shared → Prop} {c : Value} {b : Bool}
end
end L2
namespace L2
open PySem PySem.Spec PyProof.Rows
structure Room (k : Nat) (A : Around) : Prop where
  hd : A.handled = none
  dp : A.depth + 3 * k + 5 < recursionLimit
  un : A.units + 16 * k + 200 < cLine
theorem Room.mono {j k : Nat} {A : Around} (r : Room k A) (h : j ≤ k) : Room j A := ⟨r.hd, by have := r.dp; omega, by have := r.un; omega⟩
theorem Room.deeper {k : Nat} {A : Around} (r : Room (k + 1) A) (env : Env) : Room k (A.deeper env) :=
  ⟨r.hd, by have := r.dp; show A.depth + 1 + 3 * k + 5 < _; omega, by have := r.un; show A.units + 3 + 16 * k + 200 < _; omega⟩
theorem make_depth {A : Around} {C : Addr} {us : List Value} {kw : List (Str × Value)} : (A.under (.builtin "type.__call__" ⟨.ref C :: us, kw⟩)).depth = A.depth + 1 := by
  first | rfl | simp [Around.under, Code.weight, Code.isCreation, Code.isGuard, Code.isCaller, Code.frames, Code.isFrame, guardIds]
theorem make_units {A : Around} {C : Addr} {us : List Value} {kw : List (Str × Value)} : (A.under (.builtin "type.__call__" ⟨.ref C :: us, kw⟩)).units = A.units + 1 := by
  first | rfl | simp [Around.under, Code.cUnits, Code.frames, Code.isFrame]
theorem Room.make {k : Nat} {A : Around} (r : Room (k + 1) A) (C : Addr) (us : List Value) (kw : List (Str × Value)) : Room k (A.under (.builtin "type.__call__" ⟨.ref C :: us, kw⟩)) :=
  ⟨r.hd, by have := r.dp; rw [make_depth]; omega, by have := r.un; rw [make_units]; omega⟩
theorem Room.depth {k : Nat} {A : Around} (r : Room k A) : A.depth < recursionLimit := by have := r.dp; omega
theorem Room.units {k : Nat} {A : Around} (r : Room k A) : A.units + 64 < cLine := by have := r.un; omega
def tNil : TA := fun _ H Q => Q [] H
def tCons (ta : TE) (tr : TA) : TA := fun σ H Q => ta σ H fun x H1 => tr σ H1 fun xs H2 => Q (x :: xs) H2
section
variable {X : Cx} {e : Expr} {es : List Expr} {te : TE} {t : TA} {pos : Pos}
theorem pa_nil : PA X [] tNil := fun _ _ _ _ H Q I h => Calls.spliced_nil ⟨[], H, I, .nil, h⟩
theorem pa_cons (ha : PE X e te) (hr : PA X es t) (hs : starEach (e :: es) X.env = (false, eval e X.env) :: starEach es X.env := by rfl) : PA X (e :: es) (tCons te t) := by
  intro pos pins s σ H Q I h
  rw [hs]
  show wpAny _ _ (spliced ((false, eval e X.env) :: backTo pos (starEach es X.env))) _ _ s
  refine Calls.spliced_cons (thn (ha pins s σ H _ I h) fun u s1 ⟨x, H1, I1, r1, q1⟩ => ?_)
  exact thn (hr pos pins s1 σ H1 _ I1 q1) fun us s2 ⟨xs, H2, I2, r2, q2⟩ => ⟨x :: xs, H2, I2, .cons r1 r2, q2⟩
/-- a tuple, a list of written items -/
def tTup (t : TA) : TE := fun σ H Q => t σ H fun xs H1 => xs.length ≤ sizeLine ∧ ∀ p, H1 p = none → Q (.ref p) (upd H1 p (.tup xs))
def tLst (t : TA) : TE := fun σ H Q => t σ H fun xs H1 => xs.length ≤ sizeLine ∧ ∀ p, H1 p = none → Q (.ref p) (upd H1 p (.lst xs))
theorem pe_tup {x1} (h : PA X es t) : PE X (.Tuple es x1 pos) (tTup t) := by
  intro pins s σ H Q I hq
  refine wpAny_Tuple_spliced (thn (h pos pins s σ H _ I hq) fun us s1 ⟨xs, H1, I1, r, z, q⟩ => ⟨by rw [← r.length]; exact z, ?_⟩)
  have hf : H1 s1.heap.objs.size = none := I1.hok.fresh (Nat.le_refl _)
  refine ⟨.ref s1.heap.objs.size, upd H1 s1.heap.objs.size (.tup xs), I1.laid (t' := s1.toks) (fun b u e => Heap.get?_push_of_some _ e) (Nat.le_refl _) ?_, rfl, q _ hf⟩
  exact ⟨z, us, r, ⟨_, Heap.get?_push_size _ rfl, rfl, _, rfl⟩⟩
theorem pe_lst (h : PA X es t) : PE X (.List es pos) (tLst t) := by
  intro pins s σ H Q I hq
  refine wpAny_List_spliced (thn (h pos pins s σ H _ I hq) fun us s1 ⟨xs, H1, I1, r, z, q⟩ => ⟨by rw [← r.length]; exact z, ?_⟩)
  have hf : H1 s1.heap.objs.size = none := I1.hok.fresh (Nat.le_refl _)
  refine ⟨.ref s1.heap.objs.size, upd H1 s1.heap.objs.size (.lst xs), I1.laid (t' := s1.toks) (fun b u e => Heap.get?_push_of_some _ e) (Nat.le_refl _) ?_, rfl, q _ hf⟩
  exact ⟨z, us, 0, r, Heap.get?_push_size _ rfl⟩
end
/-- a def's promise: the bound arguments in the parameters' order, the heap, the wanted end, the wanted exception -/
abbrev Sp := List V → Hp → VK → XK → Prop
/-- how an exception lies behind a call (file 08 gives it): the callers' frames, abstract heap and state ahead of the call, the wish, the exception, the state -/
abbrev CXT := List Env → Hp → Shared → XK → Value → Shared → Prop
/-- the state at a call -/
structure Env0 (P : Program) (w : World) (K : PySem.W.Frag) (mg : Str → Option Value) (base : Heap) (A : Around) (outer : List Env) (s : Shared) (H : Hp) : Prop where
  frames : A.frames = some outer
  mod : Mod K mg base
  bs : ∀ b o, base.get? b = some o → s.heap.get? b = some o ∧ H b = none
  bsz : base.objs.size ≤ s.heap.objs.size
  funs : s.heap.FunFrames base outer
  frf : ∀ b ∈ frs outer, H b = none
  hok : HOk P w H s.heap
  bare : AllBare s.gens
/-- a call's end -/
def CE (outer : List Env) (P : Program) (w : World) (H : Hp) (s : Shared) (Q : VK) (u : Value) (s' : Shared) : Prop :=
  ∃ v H', s'.os = s.os ∧ AllBare s'.gens ∧ Un (frs outer) [] H H' s.heap s'.heap ∧ HOk P w H' s'.heap ∧ RelV v u ∧ Q v H'
def CR (CX : CXT) (outer : List Env) (P : Program) (w : World) (H : Hp) (s : Shared) (Q : VK) (E : XK) (r : Result) (s' : Shared) : Prop :=
  match r with
  | .ok (.ret u) => CE outer P w H s Q u s'
  | .ok _ => False
  | .error e => CX outer H s E e s'
structure FnOk (P : Program) (w : World) (K : PySem.W.Frag) (mg : Str → Option Value) (base : Heap) (CX : CXT) (k : Nat) (f : Addr) (fd : FuncData) (ps : List Str) (sp : Sp) : Prop where
  len : ∀ vs H Q E, sp vs H Q E → vs.length = ps.length
  run : ∀ (A : Around) (outer : List Env) (s : Shared) (H : Hp) (args : Args) (us : List Value) (vs : List V) (Q : VK) (E : XK), Room k A → Env0 P w K mg base A outer s H → BindsTo s fd args (ps.zip us) → Vals vs us → sp vs H Q E →
    codeAny (model P w) A (.call (.ref f) args) (CR CX outer P w H s Q E) s
theorem Env0.make {P : Program} {w : World} {K : PySem.W.Frag} {mg : Str → Option Value} {base : Heap} {A : Around} {outer : List Env} {s : Shared} {H : Hp} (e : Env0 P w K mg base A outer s H) (C : Addr) (us : List Value) (kw : List (Str × Value)) :
    Env0 P w K mg base (A.under (.builtin "type.__call__" ⟨.ref C :: us, kw⟩)) outer s H := ⟨by first | exact e.frames | (simpa [Around.under, Code.envs, Code.isFrame, pushEnvs] using e.frames), e.mod, e.bs, e.bsz, e.funs, e.frf, e.hok, e.bare⟩
section
variable {X : Cx} {pins : List (Addr × Obj)} {σ : St} {H : Hp} {s s' : Shared}
/-- from a body: what a callee wants -/
theorem Inv.env0 (I : Inv X pins σ H s) : Env0 X.prog X.w X.K X.mg X.base X.A X.stack s H :=
  ⟨I.ok.frames, I.ok.mod, I.bs, Nat.le_trans I.ok.bsz I.sz, I.stack, I.stkFree, I.hok, I.bare⟩
/-- behind a call -/
theorem Inv.after {Q : VK} {u : Value} (I : Inv X pins σ H s) (h : CE X.stack X.prog X.w H s Q u s') : EP X pins σ Q u s' := by
  obtain ⟨v, H', os, bare, un, hok, r, q⟩ := h
  obtain ⟨hh, g, d, t, os'⟩ := s'
  obtain rfl : os' = s.os := os
  exact ⟨v, H', I.call (h' := hh) (g' := g) (d' := d) (t' := t) (ch := []) un hok bare (fun b z => absurd z (by simp)), r, q⟩
end
/-- f(..): the written arguments, then the defaults dvs; E: what is wanted of an exception -/
def tCall (sp : Sp) (dvs : List V) (E : XK) (t : TA) : TE := fun σ H Q => t σ H fun vs H1 => sp (vs ++ dvs) H1 Q E
/-- o.m(..) of an instance of the class at C -/
def tMeth (C : Addr) (m : Str) (sp : Sp) (dvs : List V) (E : XK) (ta : TE) (t : TA) : TE := fun σ H Q => ta σ H fun x H1 => ∃ a dx fs, x = .ref a ∧ H1 a = some (.ins C dx fs) ∧ fs.lookup m = none ∧
  t σ H1 fun vs H2 => sp (x :: (vs ++ dvs)) H2 Q E
/-- C(..): a new instance and its dict, then __init__ -/
def tMake (C : Addr) (sp : Sp) (dvs : List V) (E : XK) (t : TA) : TE := fun σ H Q => t σ H fun vs H1 => ∀ x dx, H1 x = none → H1 dx = none → dx ≠ x →
  sp (.ref x :: (vs ++ dvs)) (upd (upd H1 dx (.own x)) x (.ins C dx [])) (fun v H2 => v = .non ∧ Q (.ref x) H2) E
/-- how the parameters are bound: us the positional arguments, kw the keywords' values by name, ds the defaults that fill up -/
def Binds (K : PySem.W.Frag) (fd : FuncData) (ps : List Str) (ds : List Value) : Prop :=
  ∀ (s : Shared) (us : List Value), K.In s.heap → (us ++ ds).length = ps.length → BindsTo s fd ⟨us, []⟩ (ps.zip (us ++ ds))
/-- every parameter is given -/
theorem Binds.all {K : PySem.W.Frag} {fd : FuncData} {ps : List Str} (h : ∀ us : List Value, us.length = ps.length → bindArgs fd ⟨us, []⟩ = pure (ps.zip us)) : Binds K fd ps [] := fun s us _ hl => by
  rw [List.append_nil] at hl ⊢
  exact .of_eq (h us hl)
/-- an exception of a callee reaches what this body wants of exceptions -/
def Passes (CX : CXT) (X : Cx) (E : XK) : Prop := ∀ (pins : List (Addr × Obj)) (σ : St) (H : Hp) (s : Shared) (e : Value) (s' : Shared), Inv X pins σ H s → CX X.stack H s E e s' → X.xe e s'
section
variable {X : Cx} {CX : CXT} {k : Nat} {f C : Addr} {fd : FuncData} {ps : List Str} {sp : Sp} {dvs : List V} {ds : List Value} {E : XK} {x m : Str} {p pos apos : Pos} {e o : Expr} {es : List Expr} {ta : TE} {t : TA}
/-- the callee runs -/
theorem run_fn {pins : List (Addr × Obj)} {σ : St} {H : Hp} {s : Shared} {Q : VK} {us : List Value} {vs : List V} (F : FnOk X.prog X.w X.K X.mg X.base CX k f fd ps sp) (hr : Room k X.A) (hb : Binds X.K fd ps ds) (hd : Vals dvs ds) (hx : Passes CX X E)
    (I : Inv X pins σ H s) (r : Vals vs us) (h : sp (vs ++ dvs) H Q E) : wpAny (model X.prog X.w) X.A (call (.ref f) us) (EP X pins σ Q) X.xe s := by
  have r2 : Vals (vs ++ dvs) (us ++ ds) := r.append hd
  have hl : (us ++ ds).length = ps.length := by rw [← r2.length]; exact F.len _ _ _ _ h
  refine wpAny_call (codeAny_mono (F.run X.A X.stack s H ⟨us, []⟩ (us ++ ds) (vs ++ dvs) Q E hr I.env0 (hb s us I.kIn hl) r2 h) fun r s' hq => ?_)
  cases r with
  | error e => exact hx pins σ H s e s' I hq
  | ok fl =>
    cases fl with
    | ret u => exact I.after hq
    | next => exact False.elim hq
    | brk => exact False.elim hq
    | cont => exact False.elim hq
theorem pe_call (F : FnOk X.prog X.w X.K X.mg X.base CX k f fd ps sp) (hr : Room k X.A) (hg : Gl X x) (hm : X.mg x = some (.ref f)) (hk : PySem.W.keepIn X.K (.ref f) = true) (hb : Binds X.K fd ps ds) (hd : Vals dvs ds) (hx : Passes CX X E)
    (ha : PA X (e :: es) t) (hdb : (x == ("__debug__" : Str)) = false := by decide) (he : starEach (e :: es) X.env = (false, eval e X.env) :: starEach es X.env := by rfl) (hpl : (backTo pos (starEach es X.env)).any (·.1) = false := by rfl) :
    PE X (.Call (.Name x p) (e :: es) [] pos) (tCall sp dvs E t) := by
  intro pins s σ H Q I h
  refine wpAny_Call_Name_kw (ld_glob I hg hm ?_ hdb)
  refine PySem.W.callWith_K (h₀ := X.base) I.ok.mod.kin hk (thn (ha pos pins s σ H _ I h) fun us s1 ⟨vs, H1, I1, r, q⟩ => ⟨I1.kIn, ?_⟩) he hpl
  exact run_fn F hr hb hd hx I1 r q
/-- o.m(e, ..) -/
theorem pe_meth {pl : Sem Bool} (he : PE X o ta) (c : Cls X.K C) (hm : Meth X.K C m f) (F : FnOk X.prog X.w X.K X.mg X.base CX k f fd ps sp) (hr : Room k X.A) (hb : Binds X.K fd ps ds) (hd : Vals dvs ds) (hx : Passes CX X E) (ha : PA X (e :: es) t)
    (hst : starEach (e :: es) X.env = (false, eval e X.env) :: starEach es X.env := by rfl) (hpl : (backTo pos (starEach es X.env)).any (·.1) = false := by rfl)
    (ht : eval (.Call (.Attribute o m apos) (e :: es) [] pos) X.env = (do
      let ov ← eval o X.env
      standAt apos.atName
      let (f, first) ← holding [ov] (getMethod ov m pl)
      callWith pos f first (backTo pos (starEach (e :: es) X.env)) (backToKw pos (keywordEach [] X.env))) := by rfl) :
    PE X (.Call (.Attribute o m apos) (e :: es) [] pos) (tMeth C m sp dvs E ta t) := by
  intro pins s σ H Q I h
  refine PySem.W.methodCall_KW (pl := pl) (thn (he pins s σ H _ I h) fun u s1 ⟨x, H1, I1, rx, a, dx, fs, ex, ea, l, q⟩ => ?_) ht
  subst ex
  obtain rfl : u = Value.ref a := rx
  refine getmeth_ok I1 ea c hm l ?_
  refine PySem.W.callWith_K (first := [.ref a]) (h₀ := X.base) I.ok.mod.kin hm.kp (thn (ha pos pins s1 σ H1 _ I1 q) fun us s2 ⟨vs, H2, I2, r, q2⟩ => ⟨I2.kIn, ?_⟩) hst hpl
  exact run_fn (us := .ref a :: us) (vs := .ref a :: vs) F hr hb hd hx I2 (.cons rfl r) q2
/-- o.m() -/
theorem pe_meth0 {pl : Sem Bool} (he : PE X o ta) (c : Cls X.K C) (hm : Meth X.K C m f) (F : FnOk X.prog X.w X.K X.mg X.base CX k f fd ps sp) (hr : Room k X.A) (hb : Binds X.K fd ps ds) (hd : Vals dvs ds) (hx : Passes CX X E)
    (ht : eval (.Call (.Attribute o m apos) [] [] pos) X.env = (do
      let ov ← eval o X.env
      standAt apos.atName
      let (f, first) ← holding [ov] (getMethod ov m pl)
      callWith pos f first (backTo pos (starEach [] X.env)) (backToKw pos (keywordEach [] X.env))) := by rfl) :
    PE X (.Call (.Attribute o m apos) [] [] pos) (tMeth C m sp dvs E ta tNil) := by
  intro pins s σ H Q I h
  refine PySem.W.methodCall_KW (pl := pl) (thn (he pins s σ H _ I h) fun u s1 ⟨x, H1, I1, rx, a, dx, fs, ex, ea, l, q⟩ => ?_) ht
  subst ex
  obtain rfl : u = Value.ref a := rx
  refine getmeth_ok I1 ea c hm l ?_
  exact PySem.W.callWith_K0 (first := [.ref a]) I1.kIn hm.kp (run_fn (us := [.ref a]) (vs := [.ref a]) F hr hb hd hx I1 (.cons rfl .nil) q)
/-- what a class must have to be made -/
structure Mk (K : PySem.W.Frag) (C f : Addr) : Prop where
  makes : PySem.W.makesIn K C = true
  init : PySem.W.findIn K (.ref C) "__init__" = some (some (.ref f))
  fn : PySem.W.isFn K (.ref f) = true
  kp : PySem.W.keepIn K (.ref C) = true
theorem run_make {pins : List (Addr × Obj)} {σ : St} {H : Hp} {s : Shared} {Q : VK} {us : List Value} {vs : List V} (M : Mk X.K C f) (F : FnOk X.prog X.w X.K X.mg X.base CX k f fd ps sp) (hr : Room (k + 1) X.A) (hb : Binds X.K fd ps ds) (hd : Vals dvs ds)
    (hx : Passes CX X E) (I : Inv X pins σ H s) (r : Vals vs us)
    (h : ∀ x dx, H x = none → H dx = none → dx ≠ x → sp (.ref x :: (vs ++ dvs)) (upd (upd H dx (.own x)) x (.ins C dx [])) (fun v H2 => v = .non ∧ Q (.ref x) H2) E) :
    wpAny (model X.prog X.w) X.A (call (.ref C) us) (EP X pins σ Q) X.xe s := by
  have hq := h (s.heap.objs.size + 1) s.heap.objs.size (I.hok.fresh (Nat.le_succ _)) (I.hok.fresh (Nat.le_refl _)) (Nat.ne_of_lt (Nat.lt_succ_self _))
  have I2 := Inv.made (C := C) I
  have r2 : Vals (V.ref (s.heap.objs.size + 1) :: (vs ++ dvs)) (Value.ref (s.heap.objs.size + 1) :: (us ++ ds)) := .cons rfl (r.append hd)
  have hl : (Value.ref (s.heap.objs.size + 1) :: us ++ ds).length = ps.length := by
    have e := r2.length
    rw [F.len _ _ _ _ hq] at e
    exact e.symm
  refine wpAny_call (make_map (f := f) I.kIn M.makes M.init (beq_iff_eq.mp M.fn) (codeAny_mono (F.run _ X.stack _ _ ⟨Value.ref (s.heap.objs.size + 1) :: us, []⟩ (Value.ref (s.heap.objs.size + 1) :: (us ++ ds)) _ _ E (hr.make C us [])
    (I2.env0.make C us []) (hb _ (Value.ref (s.heap.objs.size + 1) :: us) I2.kIn hl) r2 hq) fun r s' hq' => ?_))
  cases r with
  | error e => exact hx pins σ _ _ e s' I2 hq'
  | ok fl =>
    cases fl with
    | ret u =>
      obtain ⟨v, H', I3, rv, ev, q3⟩ := I2.after hq'
      subst ev
      exact ⟨rv, ⟨V.ref (s.heap.objs.size + 1), H', I3, rfl, q3⟩⟩
    | next => exact False.elim hq'
    | brk => exact False.elim hq'
    | cont => exact False.elim hq'
theorem pe_make (M : Mk X.K C f) (F : FnOk X.prog X.w X.K X.mg X.base CX k f fd ps sp) (hr : Room (k + 1) X.A) (hg : Gl X x) (hm : X.mg x = some (.ref C)) (hb : Binds X.K fd ps ds) (hd : Vals dvs ds) (hx : Passes CX X E)
    (ha : PA X (e :: es) t) (hdb : (x == ("__debug__" : Str)) = false := by decide) (he : starEach (e :: es) X.env = (false, eval e X.env) :: starEach es X.env := by rfl) (hpl : (backTo pos (starEach es X.env)).any (·.1) = false := by rfl) :
    PE X (.Call (.Name x p) (e :: es) [] pos) (tMake C sp dvs E t) := by
  intro pins s σ H Q I h
  refine wpAny_Call_Name_kw (ld_glob I hg hm ?_ hdb)
  refine PySem.W.callWith_K (h₀ := X.base) I.ok.mod.kin M.kp (thn (ha pos pins s σ H _ I h) fun us s1 ⟨vs, H1, I1, r, q⟩ => ⟨I1.kIn, ?_⟩) he hpl
  exact run_make M F hr hb hd hx I1 r q
theorem pe_make0 (M : Mk X.K C f) (F : FnOk X.prog X.w X.K X.mg X.base CX k f fd ps sp) (hr : Room (k + 1) X.A) (hg : Gl X x) (hm : X.mg x = some (.ref C)) (hb : Binds X.K fd ps ds) (hd : Vals dvs ds) (hx : Passes CX X E)
    (hdb : (x == ("__debug__" : Str)) = false := by decide) : PE X (.Call (.Name x p) [] [] pos) (tMake C sp dvs E tNil) := by
  intro pins s σ H Q I h
  refine wpAny_Call_Name_kw (ld_glob I hg hm ?_ hdb)
  exact PySem.W.callWith_K0 I.kIn M.kp (run_make (us := []) M F hr hb hd hx I .nil h)
end
section
variable {X : Cx} {CX : CXT} {k : Nat} {f C : Addr} {fd : FuncData} {ps ks : List Str} {sp : Sp} {E : XK} {x m : Str} {p pos apos kpos : Pos} {e o : Expr} {es : List Expr} {kws : List Keyword} {te ta : TE} {t tk : TA} {nm : Option Str}
variable {g : List Value → List Value → List Value} {gV : List V → List V → List V}
end
/-- names: the parameters first -/
structure FnScope (N P : List Str) (sc : Scope) : Prop where
  kind : sc.kind = .function
  co : sc.isCoroutine = false
  gen : sc.isGenerator = false
  nd : N.Nodup
  pre : N.take P.length = P
  par : ∀ x ∈ P, sc.names.lookup x = some .local ∨ sc.names.lookup x = some .cell
  nofree : ∀ y ∈ sc.names, y.2 ≠ .free
theorem bindL_out {kindOf : Str → Option NameKind} {x : Str} : ∀ {binds : List (Str × Value)} {m : Str → Option Value}, (∀ v, (x, v) ∉ binds) → bindL kindOf binds m x = m x
  | [], _, _ => rfl
  | (n, v) :: r, m, h => by
    unfold bindL
    rw [bindL_out fun w hw => h w (List.mem_cons_of_mem _ hw)]
    split
    · have : x ≠ n := by rintro rfl; exact h v List.mem_cons_self
      simp [this]
    · rfl
theorem bindC_out {kindOf : Str → Option NameKind} {x : Str} : ∀ {binds : List (Str × Value)} {m : Str → Option Value}, (∀ v, (x, v) ∉ binds) → bindC kindOf binds m x = m x
  | [], _, _ => rfl
  | (n, v) :: r, m, h => by
    unfold bindC
    rw [bindC_out fun w hw => h w (List.mem_cons_of_mem _ hw)]
    split
    · rfl
    · have : x ≠ n := by rintro rfl; exact h v List.mem_cons_self
      simp [this]
theorem bindL_get {kindOf : Str → Option NameKind} {x : Str} {v : Value} : ∀ {P : List Str} {vs : List Value} {i : Nat} {m : Str → Option Value}, P.Nodup → P[i]? = some x → vs[i]? = some v → kindOf x = some .local →
    bindL kindOf (P.zip vs) m x = some v
  | [], _, _, _, _, h, _, _ => by simp at h
  | _ :: _, [], _, _, _, _, h, _ => by simp at h
  | p :: P, w :: vs, 0, m, nd, h1, h2, hk => by
    simp at h1 h2; subst h1; subst h2
    show bindL kindOf ((p, w) :: P.zip vs) m p = _
    unfold bindL
    rw [bindL_out fun v hv => (List.nodup_cons.mp nd).1 (List.of_mem_zip hv).1, if_pos hk]
    simp
  | p :: P, w :: vs, i + 1, m, nd, h1, h2, hk => by
    show bindL kindOf ((p, w) :: P.zip vs) m x = _
    unfold bindL
    exact bindL_get (i := i) (List.nodup_cons.mp nd).2 (by simpa using h1) (by simpa using h2) hk
theorem bindC_get {kindOf : Str → Option NameKind} {x : Str} {v : Value} : ∀ {P : List Str} {vs : List Value} {i : Nat} {m : Str → Option Value}, P.Nodup → P[i]? = some x → vs[i]? = some v → kindOf x ≠ some .local →
    bindC kindOf (P.zip vs) m x = some v
  | [], _, _, _, _, h, _, _ => by simp at h
  | _ :: _, [], _, _, _, _, h, _ => by simp at h
  | p :: P, w :: vs, 0, m, nd, h1, h2, hk => by
    simp at h1 h2; subst h1; subst h2
    show bindC kindOf ((p, w) :: P.zip vs) m p = _
    unfold bindC
    rw [bindC_out fun v hv => (List.nodup_cons.mp nd).1 (List.of_mem_zip hv).1, if_neg hk]
    simp
  | p :: P, w :: vs, i + 1, m, nd, h1, h2, hk => by
    show bindC kindOf ((p, w) :: P.zip vs) m x = _
    unfold bindC
    exact bindC_get (i := i) (List.nodup_cons.mp nd).2 (by simpa using h1) (by simpa using h2) hk
/-- the names' values at the entry -/
def start (N : List Str) (vs : List V) : St := vs.map some ++ List.replicate (N.length - vs.length) none
/-- the context of a def's body, at its entry; an exception leaves the frame, then lies as CX says -/
def cxOf (CX : CXT) (P : Program) (w : World) (K : PySem.W.Frag) (mg : Str → Option Value) (base : Heap) (N : List Str) (qual : Str) (scope : Scope) (f : Addr) (cd : Value) (A : Around) (outer : List Env) (s : Shared) (H : Hp) (E : XK) : Cx where
  prog := P
  w := w
  K := K
  mg := mg
  base := base
  A := A.deeper (envOfC qual scope s.heap.objs.size f cd)
  N := N
  s_0 := s
  H_0 := H
  env := envOfC qual scope s.heap.objs.size f cd
  outer := outer
  stack := envOfC qual scope s.heap.objs.size f cd :: outer
  ex := []
  calm := true
  fn := fun _ => true
  pn := []
  xe := fun e s' => wpAny (model P w) (A.deeper (envOfC qual scope s.heap.objs.size f cd)) (leaving (envOfC qual scope s.heap.objs.size f cd) e) (fun _ s'' => CX outer H s E e s'') (fun e' s'' => CX outer H s E e' s'') s'
theorem cell_has {sc : Scope} {n : Nat} {x : Str} (h : sc.names.lookup x = some .cell) : ∃ c, (cellsFrom n sc.names []).lookup x = some c := by
  have q := PySem.W.cellsFrom_some sc.names n [] (.inl h)
  exact Option.isSome_iff_exists.mp q
theorem inv_start {CX : CXT} {P : Program} {w : World} {K : PySem.W.Frag} {mg : Str → Option Value} {base : Heap} {N ps : List Str} {qual : Str} {scope : Scope} {f : Addr} {cd : Value} {A : Around} {outer : List Env} {s s1 : Shared} {H : Hp} {E : XK} {us : List Value} {vs : List V}
    (S : FnScope N ps scope) (hd : A.handled = none) (e0 : Env0 P w K mg base A outer s H) (hl : vs.length = ps.length) (r : Vals vs us)
    (x : InCallC s s.heap.objs.size (bindL (envOfC qual scope s.heap.objs.size f cd).kindOf (ps.zip us) fun _ => none) (cellsFrom (s.heap.objs.size + 1) scope.names []) (bindC (envOfC qual scope s.heap.objs.size f cd).kindOf (ps.zip us) fun _ => none) s1) :
    Inv (cxOf CX P w K mg base N qual scope f cd A outer s H E) [] (start N vs) H s1 := by
  have hpl : ps.length ≤ N.length := by have := congrArg List.length S.pre; rw [List.length_take] at this; omega
  obtain ⟨h1, tk, rfl, hk⟩ := x.done
  have noA : ∀ b : Addr, b ∉ (cxOf CX P w K mg base N qual scope f cd A outer s H E).ex := fun b z => absurd (show b ∈ ([] : List Addr) from z) (by simp)
  refine ⟨⟨e0.mod, S.kind, rfl, rfl, Nat.le_refl _, fun y z c h1 h2 => ?_, fun y hy => ?_, fun y c _ h => ?_, fun _ => hd, Around.frames_deeper e0.frames, .inr ⟨rfl, rfl⟩, fun b z => absurd z (noA b), e0.bs, e0.bsz, fun b _ _ => noA b, fun b z => absurd z (noA b), e0.funs, e0.frf⟩,
    rfl, e0.bare, Un.kept hk, ⟨_, x.toInCall.ns, fun i y v h1 h2 h3 => ?_⟩, fun y c h => ⟨_, x.cell y c h⟩, e0.hok.fresh (Nat.le_refl _), fun y c h => ?_, fun p hp => absurd (show p ∈ ([] : List (Addr × Obj)) from hp) (by simp), e0.hok.kept hk, ?_⟩
  · exact name_of_addr x.apart (PySem.mem_of_lookup h1) (PySem.mem_of_lookup h2)
  · have hy : scope.names.lookup y = some .cell ∨ scope.names.lookup y = some .free := hy
    rcases hy with hy | hy
    · exact cell_has hy
    · exact absurd rfl (S.nofree _ (PySem.mem_of_lookup hy))
  · exact Nat.le_of_lt (x.above y c (PySem.mem_of_lookup h))
  · have hi : i < vs.length := by
      unfold start at h2
      by_cases hi : i < vs.length
      · exact hi
      · rw [List.getElem?_append_right (by simpa using hi)] at h2
        rw [List.getElem?_replicate] at h2
        split at h2 <;> cases h2
    have ha : vs[i]? = some v := by
      unfold start at h2
      rw [List.getElem?_append_left (by simpa using hi), List.getElem?_map] at h2
      cases e : vs[i]? with
      | none => rw [e] at h2; cases h2
      | some a => rw [e] at h2; cases h2; rfl
    obtain ⟨u, hu, rv⟩ := r.get ha
    have hp : ps[i]? = some y := by
      rw [← S.pre, List.getElem?_take_of_lt (by omega)]; exact h1
    have ndP : ps.Nodup := by rw [← S.pre]; exact S.nd.sublist (List.take_sublist _ _)
    refine ⟨u, rv, ?_⟩
    rcases S.par y (List.mem_of_getElem? hp) with k | k
    · exact .inl ⟨k, bindL_get ndP hp hu k⟩
    · obtain ⟨c, e⟩ := cell_has (n := s.heap.objs.size + 1) k
      refine .inr ⟨.inl k, c, e, ?_⟩
      have q := x.cell y c e
      rw [bindC_get ndP hp hu (by show scope.names.lookup y ≠ _; rw [k]; decide)] at q
      exact q
  · exact e0.hok.fresh (Nat.le_of_lt (x.above y c (PySem.mem_of_lookup h)))
  · unfold start
    show _ = N.length
    rw [List.length_append, List.length_map, List.length_replicate]
    omega
/-- THE RULE: a def (or a method) of the text, by its body. The body's reading t is chosen for each entry; it is run at the parameters' values -/
theorem fn_of {CX : CXT} {P : Program} {w : World} {K : PySem.W.Frag} {mg : Str → Option Value} {base : Heap} {k : Nat} {f : Addr} {name qual : Str} {params : Arguments} {body : List Stmt} {scope : Scope} {dV kV doc pm cdv ct oc : Value} {an od : Option Addr}
    {osl : Array (Option Value)} {N ps : List Str} {sp : Sp} (lk : K.lookup f = some ⟨oc, od, .func (PySem.W.fnOf name qual params body scope dV kV doc pm an cdv ct), osl⟩) (hcd : PySem.W.codeIn K cdv qual = true) (S : FnScope N ps scope)
    (len : ∀ vs H Q E, sp vs H Q E → vs.length = ps.length)
    (hbody : ∀ (A : Around) (outer : List Env) (s : Shared) (H : Hp) (vs : List V) (Q : VK) (E : XK), Room k (A.deeper (envOfC qual scope s.heap.objs.size f cdv)) → sp vs H Q E →
      ∃ t, PSs (cxOf CX P w K mg base N qual scope f cdv A outer s H E) body t ∧ t { nx := fun _ H' => Q .non H', rt := Q } (start N vs) H) :
    FnOk P w K mg base CX (k + 1) f (PySem.W.fnOf name qual params body scope dV kV doc pm an cdv ct) ps sp := by
  refine ⟨len, fun A outer s H args us vs Q E hr e0 hb r hsp => ?_⟩
  have hl := len _ _ _ _ hsp
  have KX : K.In s.heap := e0.mod.kin.keeps fun b o e => (e0.bs b o e).1
  have lim : s.heap.NoLimit := e0.mod.nolimit.keeps fun b o e => (e0.bs b o e).1
  have hkind : ∀ y ∈ ps.zip us, scope.names.lookup y.1 = some .local ∨ (scope.names.lookup y.1 = some .cell ∧ ((cellsFrom (s.heap.objs.size + 1) scope.names []).lookup y.1).isSome = true) := fun ⟨n, v⟩ hy => by
    rcases S.par n (List.of_mem_zip hy).1 with q | q
    · exact .inl q
    · exact .inr ⟨q, PySem.W.cellsFrom_some _ _ _ (.inl q)⟩
  refine codeAny_call_function hr.depth (KX _ _ lk) rfl S.co S.gen rfl (PySem.W.codeRec_of KX hcd) (hb _ _ _ _ ?_)
  refine wpAny_newFunctionEnv_cells S.kind hkind fun env he s1 x => ?_
  subst he
  refine ⟨lim.keeps x.toInCall.keep, codeAny_func ?_⟩
  obtain ⟨t, ht, hq⟩ := hbody A outer s H vs Q E (hr.deeper _) hsp
  have I : Inv (cxOf CX P w K mg base N qual scope f cdv A outer s H E) [] (start N vs) H s1 := inv_start S hr.hd e0 hl r x
  refine wpAny_mono (ht [] s1 (start N vs) H _ I hq) (fun fl s' hs => ?_) fun e s' hs => hs
  have fin : ∀ {σ' : St} {H' : Hp} {v : V} {u : Value}, Inv (cxOf CX P w K mg base N qual scope f cdv A outer s H E) [] σ' H' s' → RelV v u → Q v H' → CE outer P w H s Q u s' :=
    fun {σ' H' v u} J rv q => ⟨v, H', J.os, J.bare, J.base, J.hok, rv, q⟩
  cases fl with
  | ret u =>
    obtain ⟨v, σ', H', J, rv, q⟩ := hs
    exact fin J rv q
  | next =>
    obtain ⟨σ', H', J, q⟩ := hs
    exact fin (v := V.non) (u := Value.none) J rfl q
  | brk =>
    obtain ⟨_, _, _, q⟩ := hs
    exact False.elim q
  | cont =>
    obtain ⟨_, _, _, q⟩ := hs
    exact False.elim q
end L2
namespace L2
open PySem PySem.Spec PyProof.Rows
section
variable {X : Cx} {x : Str} {p pos : Pos} {e : Expr} {es : List Expr} {t : TA} {id T : String} {r : List V → Hp → VK → Prop}
def tCB (r : List V → Hp → VK → Prop) (t : TA) : TE := fun σ H Q => t σ H fun vs H1 => r vs H1 Q
/-- f(e, ..), f a built-in function -/
theorem pe_callB (hc : CallR X (.builtin id) r) (hg : Gl X x) (hm : X.mg x = none) (hv : bootBuiltins x = some (.builtin id)) (ha : PA X (e :: es) t) (hn : x ≠ "__name__" := by decide) (hdb : (x == ("__debug__" : Str)) = false := by decide)
    (he : starEach (e :: es) X.env = (false, eval e X.env) :: starEach es X.env := by rfl) (hpl : (backTo pos (starEach es X.env)).any (·.1) = false := by rfl) : PE X (.Call (.Name x p) (e :: es) [] pos) (tCB r t) := by
  intro pins s σ H Q I h
  refine wpAny_Call_Name_kw (ld_blt I hg hm hv ?_ hn hdb)
  exact PyProof.Rows.callWith_builtin1 (thn (ha pos pins s σ H _ I h) fun us s1 ⟨vs, H1, I1, r1, q1⟩ => hc pins s1 σ H1 vs us Q I1 r1 q1) he hpl
end
end L2
namespace HT
open PySem PyProof.Rows
section
open PySem.SeqAt
open PySem.AutoSeq1 (wpAny_loadPart')
open PySem.MeetsSeq PySem.MeetsSeq2 PySem.MeetsSeq3
end
section
variable {prog : Program} {w : World} {A : Around} {E : Value → Shared → Prop} {s : Shared}
/-- a slice's bound as a place among n (d where it is left out) -/
def sIx (n d : Nat) : Option Int → Nat
  | none => d
  | some v => if v < 0 then (v + (n : Int)).toNat else min v.toNat n
theorem sIx_none (n d : Nat) : sIx n d none = d := rfl
theorem sIx_nat (n d k : Nat) : sIx n d (some (k : Int)) = min k n := by
  show (if (k : Int) < 0 then ((k : Int) + (n : Int)).toNat else min (k : Int).toNat n) = min k n
  rw [if_neg (by omega), Int.toNat_natCast]
end
end HT
namespace L2
open PySem PySem.Spec PyProof.Rows
abbrev TO := St → Hp → (Option Int → Hp → Prop) → Prop
/-- a slice's part (left out, or an int) -/
def PO (X : Cx) (e : Option Expr) (t : TO) : Prop :=
  ∀ (pins : List (Addr × Obj)) (s : Shared) (σ : St) (H : Hp) (Q : Option Int → Hp → Prop), Inv X pins σ H s → t σ H Q →
    wpAny (model X.prog X.w) X.A (evalPart e X.env) (fun u s' => ∃ o H', Inv X pins σ H' s' ∧ IsPart u o ∧ Q o H') X.xe s
def tNoPart : TO := fun _ H Q => Q none H
def tPart (t : TE) : TO := fun σ H Q => t σ H fun x H1 => ∃ i, x = .int i ∧ Q (some i) H1
section
variable {X : Cx} {e : Expr} {te : TE} {lo hi : Option Expr} {tl th : TO} {pos p2 : Pos}
theorem po_none : PO X none tNoPart := by
  intro pins s σ H Q I h
  rw [evalPart_none]
  exact wpAny_pure ⟨none, H, I, .none, h⟩
theorem po_some (h : PE X e te) : PO X (some e) (tPart te) := by
  intro pins s σ H Q I hw
  rw [evalPart_some]
  refine thn (h pins s σ H _ I hw) fun u s1 ⟨x, H1, I1, r1, q1⟩ => ?_
  obtain ⟨i, rfl, q⟩ := q1
  obtain ⟨t, rfl⟩ := r1
  exact ⟨some i, H1, I1, .int i t, q⟩
/-- what a slice of a value is, by values: the slice object stands at sl -/
def SlR (X : Cx) (r : V → Option Int → Option Int → Hp → VK → Prop) : Prop :=
  ∀ (pins : List (Addr × Obj)) (s : Shared) (σ : St) (H : Hp) (x : V) (v vl vu : Value) (lo hi : Option Int) (sl : Addr) (Q : VK), Inv X pins σ H s → RelV x v → s.heap.IsSliceOf sl vl vu .none → IsPart vl lo → IsPart vu hi → r x lo hi H Q →
    ∃ T id, typeLookup (.type T) "__getitem__" = pure (some (.builtin id)) ∧ s.TypeIs v T ∧ wpAny (model X.prog X.w) X.A (getItem v (.ref sl)) (EP X pins σ Q) X.xe s
def tSl (r : V → Option Int → Option Int → Hp → VK → Prop) (te : TE) (tl th : TO) : TE := fun σ H Q => te σ H fun x H1 => tl σ H1 fun l H2 => th σ H2 fun u H3 => r x l u H3 Q
/-- a[lo:hi], any a -/
theorem pe_slice {r : V → Option Int → Option Int → Hp → VK → Prop} (hr : SlR X r) (he : PE X e te) (hl : PO X lo tl) (hu : PO X hi th) : PE X (.Subscript e (.Slice lo hi none p2) pos) (tSl r te tl th) := by
  intro pins s σ H Q I h
  refine Subscript_ (thn (he pins s σ H _ I h) fun v s1 ⟨x, H1, I1, r1, q1⟩ => ?_)
  refine wpAny_Slice (thn (hl pins s1 σ H1 _ I1 q1) fun vl s2 ⟨l, H2, I2, pl, q2⟩ => thn (hu pins s2 σ H2 _ I2 q2) fun vu s3 ⟨u, H3, I3, pu, q3⟩ => ?_)
  rw [evalPart_none]
  refine wpAny_pure ?_
  have I4 : Inv X pins σ H3 { s3 with heap := s3.heap.push { cls := .type "slice", data := .fields #[vl, vu, .none] } } := I3.kept (t' := s3.toks) fun b ob q => Heap.get?_push_of_some _ q
  obtain ⟨T, id, hT, ht, hg⟩ := hr pins { s3 with heap := s3.heap.push { cls := .type "slice", data := .fields #[vl, vu, .none] } } σ H3 x v vl vu l u s3.heap.objs.size Q I4 r1 (Heap.IsSliceOf.new ..) pl pu q3
  show wpAny (model X.prog X.w) X.A (subscriptTail e (.Slice lo hi none p2) v (.ref s3.heap.objs.size)) (EP X pins σ Q) X.xe { s3 with heap := s3.heap.push { cls := .type "slice", data := .fields #[vl, vu, .none] } }
  exact tail_any (ops := [.ref s3.heap.objs.size, v]) ht hT hg (by with_unfolding_all rfl)
/-- the items of xs[lo:hi] -/
def cutV (xs : List V) (lo hi : Option Int) : List V := (xs.drop (HT.sIx xs.length 0 lo)).take (HT.sIx xs.length xs.length hi - HT.sIx xs.length 0 lo)
theorem cutV_length (xs : List V) (lo hi : Option Int) : (cutV xs lo hi).length ≤ xs.length := by
  unfold cutV
  rw [List.length_take, List.length_drop]
  omega
end
end L2
namespace L2
open PySem PySem.Spec PyProof.Rows
/-- the place that an index of any sign means -/
def ixN (n : Nat) (i : Int) : Option Nat := if 0 ≤ i then (if i < n then some i.toNat else none) else if -(n : Int) ≤ i then some (i + n).toNat else none
def atI {α : Type} (xs : List α) (i : Int) : Option α := (ixN xs.length i).bind fun j => xs[j]?
theorem ixN_seq {n : Nat} {i : Int} {j : Nat} (h : ixN n i = some j) : seqIndex? i n = some j ∧ j < n ∧ -(n : Int) ≤ i ∧ i < n := by
  unfold ixN at h
  by_cases h0 : 0 ≤ i
  · rw [if_pos h0] at h
    by_cases h1 : i < n
    · rw [if_pos h1] at h
      have e : i.toNat = j := Option.some.inj h
      exact ⟨by rw [seqIndex_of h0 h1, e], by omega, by omega, h1⟩
    · rw [if_neg h1] at h; cases h
  · rw [if_neg h0] at h
    by_cases h1 : -(n : Int) ≤ i
    · rw [if_pos h1] at h
      have e : (i + n).toNat = j := Option.some.inj h
      exact ⟨by rw [seqIndex_neg (by omega) h1, e], by omega, h1, by omega⟩
    · rw [if_neg h1] at h; cases h
theorem atI_get {α : Type} {xs : List α} {i : Int} {v : α} (h : atI xs i = some v) : ∃ j, seqIndex? i xs.length = some j ∧ xs[j]? = some v ∧ j < xs.length ∧ -(xs.length : Int) ≤ i ∧ i < xs.length := by
  unfold atI at h
  cases e : ixN xs.length i with
  | none => rw [e] at h; cases h
  | some j =>
    rw [e] at h
    obtain ⟨h1, h2, h3, h4⟩ := ixN_seq e
    exact ⟨j, h1, h, h2, h3, h4⟩
theorem atI_nat {α : Type} {xs : List α} {j : Nat} {v : α} (h : xs[j]? = some v) : atI xs (j : Int) = some v := by
  have hj : j < xs.length := (List.getElem?_eq_some_iff.mp h).1
  have e : ixN xs.length (j : Int) = some j := by
    unfold ixN
    rw [if_pos (by omega), if_pos (by omega)]; simp
  unfold atI; rw [e]; exact h
theorem atI_last {α : Type} (xs : List α) (v : α) : atI (xs ++ [v]) (-1) = some v := by
  have hl : (xs ++ [v]).length = xs.length + 1 := by simp
  have e : ixN (xs ++ [v]).length (-1) = some xs.length := by
    unfold ixN
    rw [hl, if_neg (by decide), if_pos (by omega)]
    congr 1
    omega
  unfold atI
  rw [e]
  show (xs ++ [v])[xs.length]? = some v
  simp
/-- what stands as an index of a plain subscript -/
def PlainIx (b : Expr) : Prop := ∀ o i, subscripted b false o i = operate [o, i] (getItem o i)
/-- a subscript by values -/
def IxR (X : Cx) (r : R2) : Prop :=
  ∀ (value slice : Expr) (pins : List (Addr × Obj)) (s : Shared) (σ : St) (H : Hp) (x y : V) (v u : Value) (Q : VK), Inv X pins σ H s → RelV x v → RelV y u → r x y H Q →
    subscripted slice false v u = operate [v, u] (getItem v u) → wpAny (model X.prog X.w) X.A (subscriptTail value slice v u) (EP X pins σ Q) X.xe s
/-- a call of a builtin's method by values: the receiver, the arguments -/
def MtR (X : Cx) (id : String) (r : V → List V → Hp → VK → Prop) : Prop :=
  ∀ (pins : List (Addr × Obj)) (s : Shared) (σ : St) (H : Hp) (x : V) (xs : List V) (v : Value) (us : List Value) (Q : VK), Inv X pins σ H s → RelV x v → Vals xs us → r x xs H Q →
    wpAny (model X.prog X.w) X.A (call (.builtin id) (v :: us)) (EP X pins σ Q) X.xe s
section
variable {X : Cx} {a b : Expr} {ta tb : TE} {pos : Pos}
/-- a[b] -/
theorem pe_ix {r : R2} (hr : IxR X r) (ha : PE X a ta) (hb : PE X b tb) (hs : PlainIx b) : PE X (.Subscript a b pos) (tOp r ta tb) := by
  intro pins s σ H Q I h
  exact Subscript_ (binT ha hb I h fun v u s2 x y H2 I2 rx ry q => hr a b pins s2 σ H2 x y v u Q I2 rx ry q (hs _ _))
def rIxL (K : PySem.W.Frag) : R2 := fun x y H Q => ∃ p xs i v, x = .ref p ∧ y = .int i ∧ SqL K H p xs ∧ atI xs i = some v ∧ Q v H
def rIxT (K : PySem.W.Frag) : R2 := fun x y H Q => ∃ p xs i v, x = .ref p ∧ y = .int i ∧ SqT K H p xs ∧ atI xs i = some v ∧ Q v H
theorem ix_list : IxR X (rIxL X.K) := by
  intro value slice pins s σ H x y v u Q I rx ry h hs
  obtain ⟨p, xs, i, z, rfl, rfl, hq, he, q⟩ := h
  cases rx
  obtain ⟨t, rfl⟩ := ry
  obtain ⟨its, r, pl, hz⟩ := I.list hq
  obtain ⟨j, h1, h2, h3, h4, h5⟩ := atI_get he
  obtain ⟨w, ew, rw'⟩ := r.get h2
  have hl := r.length
  have hn := line63
  have fin : EP X pins σ Q w s := ⟨z, H, I, rw', q⟩
  by_cases h0 : 0 ≤ i
  · have hj : i.toNat = j := by
      rw [seqIndex_of h0 h5] at h1
      exact Option.some.inj h1
    exact item_listR pl.isList h0 (by omega) (by rw [hj]; simpa using ew) fin hs
  · have hj : (i + (its.toArray.size : Int)).toNat = j := by
      rw [seqIndex_neg (by omega) h4] at h1
      rw [List.size_toArray, ← hl]
      exact Option.some.inj h1
    exact subscriptTail_builtinR (x := w) pl.isList.typeIs slot_list_getitem.lookup
      (wpAny_getItem_list_neg (Q := fun r s' => r = w ∧ EP X pins σ Q r s') pl.isList (by omega) (by rw [List.size_toArray] <;> omega) (by omega) (by rw [hj]; simpa using ew) ⟨rfl, fin⟩) hs
theorem ix_tup : IxR X (rIxT X.K) := by
  intro value slice pins s σ H x y v u Q I rx ry h hs
  obtain ⟨p, xs, i, z, rfl, rfl, hq, he, q⟩ := h
  cases rx
  obtain ⟨t, rfl⟩ := ry
  obtain ⟨its, r, pl, hz⟩ := I.tuple hq
  obtain ⟨j, h1, h2, h3, h4, h5⟩ := atI_get he
  obtain ⟨w, ew, rw'⟩ := r.get h2
  have hl := r.length
  have hn := line63
  have fin : EP X pins σ Q w s := ⟨z, H, I, rw', q⟩
  exact subscriptTail_builtinR (x := w) pl.typeIs slot_tuple_getitem.lookup
    (getItem_tuple (j := j) (Q := fun r s' => r = w ∧ EP X pins σ Q r s') pl (by omega) (by omega) (by rw [List.size_toArray, ← hl]; exact h1) (by simpa using ew) ⟨rfl, fin⟩) hs
theorem slice_bounds (lo hi : Option Int) (n : Nat) : (sliceBounds lo hi none n).1 = ((HT.sIx n 0 lo : Nat) : Int) ∧ (sliceBounds lo hi none n).2.1 = ((HT.sIx n n hi : Nat) : Int) ∧ (sliceBounds lo hi none n).2.2 = 1 := by
  refine ⟨?_, ?_, rfl⟩
  · cases lo with
    | none => simp [sliceBounds, HT.sIx]
    | some i =>
      simp only [sliceBounds, HT.sIx, Option.getD_none, show (1 : Int) > 0 by decide, if_true]
      by_cases h : i < 0
      · simp only [h, if_true] <;> omega
      · simp only [h, if_false] <;> omega
  · cases hi with
    | none => simp [sliceBounds, HT.sIx]
    | some i =>
      simp only [sliceBounds, HT.sIx, Option.getD_none, show (1 : Int) > 0 by decide, if_true]
      by_cases h : i < 0
      · simp only [h, if_true] <;> omega
      · simp only [h, if_false] <;> omega
theorem slicePick_cut (its : List Value) (lo hi : Option Int) : slicePick its.toArray lo hi none = ((its.drop (HT.sIx its.length 0 lo)).take (HT.sIx its.length its.length hi - HT.sIx its.length 0 lo)).toArray := by
  obtain ⟨h1, h2, h3⟩ := slice_bounds lo hi its.toArray.size
  unfold slicePick
  rw [h1, h2, h3]
  simp only [sliceRange_one, pick_run, List.size_toArray] <;> rfl
/-- xs[lo:hi] of a list: a new list -/
def rSlL (K : PySem.W.Frag) : V → Option Int → Option Int → Hp → VK → Prop := fun x lo hi H Q => ∃ a xs, x = .ref a ∧ SqL K H a xs ∧ ∀ p, H p = none → Q (.ref p) (upd H p (.lst (cutV xs lo hi)))
theorem sl_list : SlR X (rSlL X.K) := by
  intro pins s σ H x v vl vu lo hi sl Q I rx hs pl pu h
  obtain ⟨a, xs, rfl, hx, q⟩ := h
  cases rx
  obtain ⟨its, r, ht, hz⟩ := I.list hx
  have hlen := r.length
  refine ⟨"list", _, slot_list_getitem.lookup, ht.isList.typeIs, ?_⟩
  refine wpAny_getItem_list_slice ht.isList hs pl pu .none (by simp) ?_ (by rw [List.size_toArray] <;> omega)
  rw [slicePick_cut, ← hlen]
  refine ⟨.ref s.heap.objs.size, _, I.laid (t' := s.toks) (o := .lst (cutV xs lo hi)) (fun b ob q => Heap.get?_push_of_some _ q) (Nat.le_refl _) ?_, rfl, q _ (I.hok.fresh (Nat.le_refl _))⟩
  exact ⟨Nat.le_trans (cutV_length xs lo hi) hz, _, 0, (r.drop (HT.sIx xs.length 0 lo)).take (HT.sIx xs.length xs.length hi - HT.sIx xs.length 0 lo), Heap.get?_push_size _ rfl⟩
def flatV : V → Bool
  | .non => true
  | .bl _ => true
  | .int _ => true
  | .str _ => true
  | _ => false
/-- == of flat values -/
def eqV : V → V → Bool
  | .non, .non => true
  | .bl a, .bl b => a == b
  | .bl a, .int b => (if a then 1 else 0) == b
  | .int a, .bl b => a == (if b then 1 else 0)
  | .int a, .int b => a == b
  | .str a, .str b => a == b
  | _, _ => false
theorem eqAt_V {A : Around} {s : Shared} {y x : V} {u v : Value} (ry : RelV y u) (rx : RelV x v) (fy : flatV y = true) (fx : flatV x = true) : SeqAt.EqAt A s u v (eqV y x) := by
  cases y with
  | non =>
    cases ry
    cases x with
    | non => cases rx; exact SeqAt.EqAt.same _
    | bl b => cases rx; exact SeqAt.EqAt.none_bool b
    | int b => obtain ⟨t, rfl⟩ := rx; exact SeqAt.EqAt.none_int b t
    | str b => obtain ⟨t, rfl⟩ := rx; exact SeqAt.EqAt.none_str b t
    | _ => exact absurd (show false = true from fx) Bool.false_ne_true
  | bl a =>
    cases ry
    cases x with
    | non => cases rx; exact SeqAt.EqAt.bool_none a
    | bl b => cases rx; exact SeqAt.EqAt.bool_bool a b
    | int b => obtain ⟨t, rfl⟩ := rx; exact SeqAt.EqAt.bool_int a b t
    | str b => obtain ⟨t, rfl⟩ := rx; exact SeqAt.EqAt.bool_str a b t
    | _ => exact absurd (show false = true from fx) Bool.false_ne_true
  | int a =>
    obtain ⟨t', rfl⟩ := ry
    cases x with
    | non => cases rx; exact SeqAt.EqAt.int_none a t'
    | bl b => cases rx; exact SeqAt.EqAt.int_bool a t' b
    | int b => obtain ⟨t, rfl⟩ := rx; exact SeqAt.EqAt.int_int a t' b t
    | str b => obtain ⟨t, rfl⟩ := rx; exact SeqAt.EqAt.int_str a t' b t
    | _ => exact absurd (show false = true from fx) Bool.false_ne_true
  | str a =>
    obtain ⟨t', rfl⟩ := ry
    cases x with
    | non => cases rx; exact SeqAt.EqAt.str_none a t'
    | bl b => cases rx; exact SeqAt.EqAt.str_bool a t' b
    | int b => obtain ⟨t, rfl⟩ := rx; exact SeqAt.EqAt.str_int a t' b t
    | str b => obtain ⟨t, rfl⟩ := rx; exact SeqAt.EqAt.str_str a t' b t
    | _ => exact absurd (show false = true from fx) Bool.false_ne_true
  | _ => exact absurd (show false = true from fy) Bool.false_ne_true
/-- the items' answers, read off the values (a value's own answer does not lean on its token) -/
def eqU (x : V) (u : Value) : Bool := match u with
  | .none => eqV .non x
  | .bool b => eqV (.bl b) x
  | .int i _ => eqV (.int i) x
  | .str z _ => eqV (.str z) x
  | _ => false
theorem eqU_of {x y : V} {u : Value} (r : RelV y u) (f : flatV y = true) : eqU x u = eqV y x := by
  cases y with
  | non => cases r; rfl
  | bl b => cases r; rfl
  | int i => obtain ⟨t, rfl⟩ := r; rfl
  | str z => obtain ⟨t, rfl⟩ := r; rfl
  | _ => exact absurd (show false = true from f) Bool.false_ne_true
theorem any_eqU {x : V} : ∀ {xs : List V} {us : List Value}, Vals xs us → xs.all flatV = true → us.any (eqU x) = xs.any fun y => eqV y x
  | _, _, .nil, _ => rfl
  | y :: xs, u :: us, .cons r t, f => by
    rw [List.all_cons, Bool.and_eq_true] at f
    rw [List.any_cons, List.any_cons, eqU_of r f.1, any_eqU t f.2]
theorem mem_eqAt {A : Around} {s : Shared} {x : V} {v : Value} (rx : RelV x v) (fx : flatV x = true) : ∀ {xs : List V} {us : List Value}, Vals xs us → xs.all flatV = true → ∀ u ∈ us, SeqAt.EqAt A s u v (eqU x u)
  | _, _, .nil, _ => fun u hu => by cases hu
  | y :: xs, u :: us, .cons r t, f => fun u' hu => by
    rw [List.all_cons, Bool.and_eq_true] at f
    rcases List.mem_cons.mp hu with rfl | hu
    · rw [eqU_of r f.1]; exact eqAt_V r rx f.1 fx
    · exact mem_eqAt rx fx t f.2 u' hu
def inV (x : V) (xs : List V) : Bool := xs.any fun y => eqV y x
/-- x in a list or tuple of flat items -/
def rIn (K : PySem.W.Frag) (neg : Bool) : R2 := fun x y H Q => ∃ p xs, y = .ref p ∧ (SqL K H p xs ∨ SqT K H p xs) ∧ flatV x = true ∧ xs.all flatV = true ∧ Q (.bl (if neg then !inV x xs else inV x xs)) H
theorem op_in_seq : OpR X (compareOp .In) (rIn X.K false) := by
  intro pins s σ H x y v u Q I rx ry h
  obtain ⟨p, xs, rfl, hq, fx, fs, q⟩ := h
  cases ry
  rcases hq with hq | hq
  · obtain ⟨its, r, pl, hz⟩ := I.list hq
    refine SeqAt.in_listAt (eqU x) pl.isList (fun w hw => mem_eqAt rx fx r fs w (by simpa using hw)) ⟨.bl _, H, I, rfl, ?_⟩
    rw [show its.toArray.any (eqU x) = its.any (eqU x) by simp, any_eqU r fs]
    exact q
  · obtain ⟨its, r, pl, hz⟩ := I.tuple hq
    refine SeqAt.in_tupleAt (eqU x) pl (fun w hw => mem_eqAt rx fx r fs w (by simpa using hw)) ⟨.bl _, H, I, rfl, ?_⟩
    rw [show its.toArray.any (eqU x) = its.any (eqU x) by simp, any_eqU r fs]
    exact q
theorem call_len_seq : CallR X (.builtin "len") (fun xs H Q => ∃ p ys, xs = [.ref p] ∧ (SqL X.K H p ys ∨ SqT X.K H p ys) ∧ Q (.int ys.length) H) := by
  intro pins s σ H xs us Q I r h
  obtain ⟨p, ys, rfl, hq, q⟩ := h
  obtain ⟨u, rfl, rx⟩ := vals1 r
  cases rx
  have hn := line63
  rcases hq with hq | hq
  · obtain ⟨its, r', pl, hz⟩ := I.list hq
    have hlen := r'.length
    exact Calls.call_len_list pl.isList (by simp only [List.size_toArray] <;> omega) ⟨.int ys.length, H, I.tok _, ⟨s.toks + 1, by rw [List.size_toArray, hlen]⟩, q⟩
  · obtain ⟨its, r', pl, hz⟩ := I.tuple hq
    have hlen := r'.length
    exact len_tuple pl (by simp only [List.size_toArray] <;> omega) ⟨.int ys.length, H, I.tok _, ⟨s.toks + 1, by rw [List.size_toArray, hlen]⟩, q⟩
/-- the value is of that builtin type -/
def tyV (K : PySem.W.Frag) (T : String) (x : V) (H : Hp) : Prop := match x with
  | .str _ => T = "str"
  | .int _ => T = "int"
  | .ref p => (T = "list" ∧ ∃ xs, SqL K H p xs) ∨ (T = "tuple" ∧ ∃ o, K.lookup p = some o ∧ o.cls = .type "tuple" ∧ o.dict = none) ∨
      (T = "dict" ∧ ((∃ kvs, H p = some (.dK kvs)) ∨ ∃ kvs, H p = some (.dT kvs))) ∨ (T = "set" ∧ ∃ S n, H p = some (.set S n))
  | _ => False
theorem tyV_is {pins : List (Addr × Obj)} {σ : St} {H : Hp} {s : Shared} {T : String} {x : V} {v : Value} (I : Inv X pins σ H s) (r : RelV x v) (ty : tyV X.K T x H) :
    s.TypeIs v T ∧ ∀ a, v = .ref a → ∃ ob, s.heap.get? a = some ob ∧ ob.dict = none := by
  cases x with
  | str z =>
    obtain ⟨t, rfl⟩ := r
    cases (show T = "str" from ty)
    exact ⟨typeIs_str s z t, fun _ e => nomatch e⟩
  | int i =>
    obtain ⟨t, rfl⟩ := r
    cases (show T = "int" from ty)
    exact ⟨typeIs_int s i t, fun _ e => nomatch e⟩
  | ref p =>
    cases r
    rcases ty with ⟨rfl, xs, hq⟩ | ⟨rfl, o, hk, hc, hd⟩ | ⟨rfl, hk⟩ | ⟨rfl, S, n, hk⟩
    · obtain ⟨its, _, pl, _⟩ := I.list hq
      refine ⟨pl.isList.typeIs, fun a e => ?_⟩
      cases e
      obtain ⟨o, n, e, c, hd, _⟩ := pl
      exact ⟨o, e, hd⟩
    · refine ⟨⟨o, I.kIn p o hk, hc⟩, fun a e => ?_⟩
      cases e
      exact ⟨o, I.kIn _ o hk, hd⟩
    · have z : ∃ o, s.heap.get? p = some o ∧ o.ExactDict := by
        rcases hk with ⟨kvs, hk⟩ | ⟨kvs, hk⟩
        · obtain ⟨_, _, _, _, o, _, _, e, ex, _⟩ := I.hok p _ hk
          exact ⟨o, e, ex⟩
        · obtain ⟨_, _, _, _, o, _, _, e, ex, _⟩ := I.hok p _ hk
          exact ⟨o, e, ex⟩
      obtain ⟨o, e, ex⟩ := z
      refine ⟨⟨o, e, ex.1⟩, fun a e2 => ?_⟩
      cases e2
      exact ⟨o, e, ex.2.1⟩
    · obtain ⟨o, _, _, _, e, ex, _⟩ := I.hok p _ hk
      refine ⟨⟨o, e, ex.1⟩, fun a e2 => ?_⟩
      cases e2
      exact ⟨o, e, ex.2.1⟩
  | _ => exact False.elim ty
def tBM (K : PySem.W.Frag) (T : String) (r : V → List V → Hp → VK → Prop) (to : TE) (t : TA) : TE := fun σ H Q => to σ H fun x H1 => tyV K T x H1 ∧ t σ H1 fun xs H2 => r x xs H2 Q
variable {o e : Expr} {es : List Expr} {to : TE} {t : TA} {name : Str} {apos cpos : Pos} {T id : String} {r : V → List V → Hp → VK → Prop}
theorem pe_bm (pa : PlainAttrs T) (slot : Slot T name id) (hty : typeOf (.builtin id) = pure (.type "method_descriptor")) (hm : MtR X id r) (ho : PE X o to) (ha : PA X (e :: es) t)
    (hbase : attributeBase o name X.env (eval o X.env) = eval o X.env := by rfl)
    (hfew : ((backTo cpos (starEach (e :: es) X.env)).all (fun x => !x.1) && (backToKw cpos (keywordEach [] X.env)).all (fun x => x.1.isSome)
      && decide ((e :: es).length + ([] : List Keyword).length + (if ([] : List Keyword).isEmpty then 0 else 1) < 30)) = true := by rfl)
    (hline : (apos.endLine == cpos.line) = true := by rfl) (hs : starEach (e :: es) X.env = (false, eval e X.env) :: starEach es X.env := by rfl) (hplain : (backTo cpos (starEach es X.env)).any (·.1) = false := by rfl) :
    PE X (.Call (.Attribute o name apos) (e :: es) [] cpos) (tBM X.K T r to t) := by
  intro pins s σ H Q I h
  refine wpAny_Call_method_late hbase hfew hline rfl (thn (ho pins s σ H _ I h) fun v s1 ⟨x, H1, I1, r1, ty, q1⟩ => ?_)
  obtain ⟨h1, h2⟩ := tyV_is I1 r1 ty
  refine ⟨T, id, pa, slot, hty, h1, h2, ?_⟩
  have hA := ha cpos pins s1 σ H1 _ I1 q1
  rw [hs] at hA ⊢
  refine Calls.callWith_builtin (by show (false || (backTo cpos (starEach es X.env)).any (·.1)) = false; rw [hplain] <;> rfl) (Calls.evalArgs_plain ?_)
  exact thn hA fun us s2 ⟨vs, H2, I2, r2, q2⟩ => hm pins s2 σ H2 x vs v us Q I2 r1 r2 q2
/- xs.append(e), list.index on a module's tuple .. are MtR facts of 06m -/
end
end L2
namespace L2
open PySem PySem.Spec PyProof.Rows
def MtM (X : Cx) (id : String) (r : V → List V → Hp → VK → Prop) : Prop :=
  ∀ (pins : List (Addr × Obj)) (s : Shared) (σ : St) (H : Hp) (x : V) (xs : List V) (v : Value) (us : List Value) (Q : VK), Inv X pins σ H s → RelV x v → Vals xs us → r x xs H Q →
    wpAny (model X.prog X.w) X.A (call (.builtin id) (v :: us)) (EP X pins σ Q) X.xe s
theorem Vals.one : ∀ {x : V} {us : List Value}, Vals [x] us → ∃ u, us = [u] ∧ RelV x u
  | _, _, .cons r .nil => ⟨_, rfl, r⟩
section
variable {X : Cx} {pins : List (Addr × Obj)} {σ : St} {H : Hp} {s : Shared} {l b : Addr} {xs ys zs : List V}
theorem Inv.lset {its its' : List Value} {n : Nat} {f : Array Value → Array Value} {t' : Nat} (I : Inv X pins σ H s) (hH : H l = some (.lst xs))
    (e : s.heap.get? l = some { cls := .type "list", data := .seq its.toArray n }) (hf : f its.toArray = its'.toArray) (hv : Vals ys its') (hz : ys.length ≤ sizeLine) :
    Inv X pins σ (upd H l (.lst ys)) { s with heap := s.heap.update l (Obj.mapSeq f), toks := t' } := by
  have q := PySem.IsL.update e f
  rw [hf] at q
  refine I.write (x := l) (e := l) (by rw [hH]; exact trivial) (.inl rfl) (fun b' u hb hu => (Heap.get?_update_other s.heap (Obj.mapSeq f) (Ne.symm hb)).trans hu) ⟨_, q⟩ ?_
  exact ⟨hz, its', _, hv, q⟩
theorem Inv.lnew {its : List Value} {t' : Nat} (I : Inv X pins σ H s) (hv : Vals ys its) (hz : ys.length ≤ sizeLine) :
    Inv X pins σ (upd H s.heap.objs.size (.lst ys)) { s with heap := s.heap.push { cls := .type "list", data := .seq its.toArray }, toks := t' } :=
  I.laid (fun _ _ q => Heap.get?_push_of_some _ q) (Nat.le_refl _) ⟨hz, its, 0, hv, Heap.get?_push_size _ rfl⟩
theorem Inv.fresh (I : Inv X pins σ H s) : H s.heap.objs.size = none := I.hok.fresh (Nat.le_refl _)
theorem Inv.lstM (I : Inv X pins σ H s) (hH : H l = some (.lst xs)) : xs.length ≤ sizeLine ∧ ∃ (its : List Value) (n : Nat), Vals xs its ∧ xs.length = its.length ∧ s.heap.get? l = some { cls := .type "list", data := .seq its.toArray n } := by
  obtain ⟨z, its, n, r, e⟩ := I.hok l _ hH
  exact ⟨z, its, n, r, r.length, e⟩
theorem notLongL {n : Nat} (h : n ≤ sizeLine) : Builtin.List.listTooLong n = false := by
  unfold Builtin.List.listTooLong
  exact decide_eq_false (by omega)
end
section
variable {X : Cx}
def rAppend : V → List V → Hp → VK → Prop := fun x vs H Q => ∃ l xs y, x = .ref l ∧ vs = [y] ∧ H l = some (.lst xs) ∧ xs.length < sizeLine ∧ Q .non (upd H l (.lst (xs ++ [y])))
theorem mt_append : MtM X "list.append" rAppend := by
  intro pins s σ H x vs v us Q I rx rv h
  obtain ⟨l, xs, y, rfl, rfl, hH, hz, q⟩ := h
  cases rx
  obtain ⟨u, rfl, ru⟩ := rv.one
  obtain ⟨z, its, n, r, hl, e⟩ := I.lstM hH
  refine call_meets F.slot_list_append ⟨_, e, rfl⟩ F.entry_list_append (F.args_list_append_2 _ _) (PySem.list_append l its.toArray n u (by rw [List.size_toArray]; omega)) ⟨e, ?_⟩
  refine ⟨.non, _, I.lset (its' := its ++ [u]) hH e (by simp) (r.append (.cons ru .nil)) ?_, rfl, q⟩
  rw [List.length_append, List.length_singleton]
  omega
def rExtend : V → List V → Hp → VK → Prop := fun x vs H Q => ∃ l b xs zs, x = .ref l ∧ vs = [.ref b] ∧ H l = some (.lst xs) ∧ H b = some (.lst zs) ∧ xs.length + zs.length ≤ sizeLine ∧ Q .non (upd H l (.lst (xs ++ zs)))
theorem mt_extend : MtM X "list.extend" rExtend := by
  intro pins s σ H x vs v us Q I rx rv h
  obtain ⟨l, b, xs, zs, rfl, rfl, hH, hB, hz, q⟩ := h
  cases rx
  obtain ⟨u, rfl, ru⟩ := rv.one
  cases ru
  obtain ⟨z, its, n, r, hl, e⟩ := I.lstM hH
  obtain ⟨z2, its2, n2, r2, hl2, e2⟩ := I.lstM hB
  have hsz : its.toArray.size + its2.toArray.size ≤ sizeLine := by rw [List.size_toArray, List.size_toArray]; omega
  have hlong : ¬ (!its.toArray.isEmpty && Builtin.List.listTooLong (its.toArray.size + its2.toArray.size)) = true := by
    rw [notLongL hsz, Bool.and_false]
    exact Bool.false_ne_true
  refine call_meets F.slot_list_extend ⟨_, e, rfl⟩ F.entry_list_extend (F.args_list_extend_2 _ _)
    (AutoSeq1.list_extend_list_list_0 l its.toArray n b its2.toArray n2 hlong (by rw [List.size_toArray]; omega) (by omega)) ⟨e, e2, ?_⟩
  refine ⟨.non, _, I.lset (its' := its ++ its2) hH e (by simp) (r.append r2) ?_, rfl, q⟩
  rw [List.length_append]
  omega
def rCat : R2 := fun x y H Q => ∃ l b xs zs, x = .ref l ∧ y = .ref b ∧ H l = some (.lst xs) ∧ H b = some (.lst zs) ∧ xs.length + zs.length ≤ sizeLine ∧ ∀ p, H p = none → Q (.ref p) (upd H p (.lst (xs ++ zs)))
theorem op_cat : OpR X (binaryOp .Add) rCat := by
  intro pins s σ H x y v u Q I rx ry h
  obtain ⟨l, b, xs, zs, rfl, rfl, hH, hB, hz, q⟩ := h
  cases rx
  cases ry
  obtain ⟨z, its, n, r, hl, e⟩ := I.lstM hH
  obtain ⟨z2, its2, n2, r2, hl2, e2⟩ := I.lstM hB
  refine PySem.P.add_list e e2 ?_ (by rw [List.size_toArray, List.size_toArray]; omega)
  have ea : its.toArray ++ its2.toArray = (its ++ its2).toArray := by simp
  rw [ea]
  exact ⟨.ref _, _, I.lnew (t' := s.toks) (r.append r2) (by rw [List.length_append]; omega), rfl, q _ I.fresh⟩
end
section
variable {prog : Program} {w : World} {A : Around} {E : Value → Shared → Prop} {s : Shared}
set_option maxRecDepth 100000 in
end
section
variable {X : Cx}
end
end L2
namespace L2
open PySem PySem.Spec PyProof.Rows
theorem Vals.ints : ∀ {ns : List Int} {us : List Value}, Vals (ns.map V.int) us → IntsAre us ns
  | [], us, h => by
    rw [List.map_nil] at h
    cases h
    exact IntsAre.nil
  | n :: ns, us, h => by
    rw [List.map_cons] at h
    cases h with
    | cons r t =>
      obtain ⟨k, rfl⟩ := r
      exact IntsAre.cons n k (Vals.ints t)
theorem Vals.bls : ∀ {bs : List Bool} {us : List Value}, Vals (bs.map V.bl) us → us = bs.map Value.bool
  | [], us, h => by
    rw [List.map_nil] at h
    cases h
    rfl
  | b :: bs, us, h => by
    rw [List.map_cons] at h
    cases h with
    | cons r t =>
      cases r
      rw [Vals.bls t, List.map_cons]
theorem Vals.ref1 {a : Addr} {us : List Value} (r : Vals [V.ref a] us) : us = [Value.ref a] := by
  cases r with
  | cons r t =>
    cases t
    cases r
    rfl
section
variable {prog : Program} {w : World} {A : Around} {E : Value → Shared → Prop} {s : Shared} {l : Addr} {its : List Value} {ns : List Int} {Q : Value → Shared → Prop}
theorem sum_raw (hh : A.handled = none) (hl : s.heap.IsList l its.toArray) (hi : IntsAre its ns)
    (h : ∀ h' tk t', (∀ b o, s.heap.get? b = some o → h'.get? b = some o) → Q (.int ns.sum t') { s with heap := h', toks := tk }) : wpAny (model prog w) A (call (.builtin "sum") [.ref l]) Q E s := by
  obtain ⟨xs, e⟩ := hi.allInts.items
  have hn : numsOf (intItems xs).toList = ns := by rw [← e]; exact hi.numsOf
  rw [nums_intItems] at hn
  rw [e] at hl
  refine PySem.sum_intListG hh hl fun h' tk t' hk => ?_
  have := h h' tk t' hk
  rw [preSum_eq, List.take_of_length_le (by simp), hn]; exact this
theorem max_raw (hh : A.handled = none) (hl : s.heap.IsList l its.toArray) (hi : IntsAre its ns) (hne : 0 < ns.length)
    (h : ∀ h' tk M t', (∀ b o, s.heap.get? b = some o → h'.get? b = some o) → M ∈ ns → (∀ a, a ∈ ns → a ≤ M) → Q (.int M t') { s with heap := h', toks := tk }) : wpAny (model prog w) A (call (.builtin "max") [.ref l]) Q E s := by
  obtain ⟨xs, e⟩ := hi.allInts.items
  have hn : numsOf (intItems xs).toList = ns := by rw [← e]; exact hi.numsOf
  rw [nums_intItems] at hn
  subst hn
  rw [e] at hl
  have hsz : 0 < xs.size := by simpa using hne
  refine PySem.max_intList hh hl hsz fun v h' tk hv hk => ?_
  obtain ⟨t, rfl⟩ := intItems_at hv
  obtain ⟨h1, h2⟩ := argBest_gt (numAt xs) (xs.size - 1)
  refine h h' tk _ t hk ?_ fun a ha => ?_
  · rw [numAt_eq]; exact PySem.getD_mem (by rw [List.length_map, Array.length_toList]; omega)
  · obtain ⟨j, hj, rfl⟩ := mem_getD ha
    rw [List.length_map, Array.length_toList] at hj
    rw [← numAt_eq]; exact h2 j (by omega)
theorem min_raw (hh : A.handled = none) (hl : s.heap.IsList l its.toArray) (hi : IntsAre its ns) (hne : 0 < ns.length)
    (h : ∀ h' tk M t', (∀ b o, s.heap.get? b = some o → h'.get? b = some o) → M ∈ ns → (∀ a, a ∈ ns → M ≤ a) → Q (.int M t') { s with heap := h', toks := tk }) : wpAny (model prog w) A (call (.builtin "min") [.ref l]) Q E s := by
  obtain ⟨xs, e⟩ := hi.allInts.items
  have hn : numsOf (intItems xs).toList = ns := by rw [← e]; exact hi.numsOf
  rw [nums_intItems] at hn
  subst hn
  rw [e] at hl
  have hsz : 0 < xs.size := by simpa using hne
  refine PySem.min_intList hh hl hsz fun v h' tk hv hk => ?_
  obtain ⟨t, rfl⟩ := intItems_at hv
  obtain ⟨h1, h2⟩ := argBest_lt (numAt xs) (xs.size - 1)
  refine h h' tk _ t hk ?_ fun a ha => ?_
  · rw [numAt_eq]; exact PySem.getD_mem (by rw [List.length_map, Array.length_toList]; omega)
  · obtain ⟨j, hj, rfl⟩ := mem_getD ha
    rw [List.length_map, Array.length_toList] at hj
    rw [← numAt_eq]; exact h2 j (by omega)
end
section
variable {X : Cx}
/-- sum(xs) of a list of ints -/
def rSum (K : PySem.W.Frag) : List V → Hp → VK → Prop := fun vs H Q => ∃ (a : Addr) (ns : List Int), vs = [V.ref a] ∧ SqL K H a (ns.map V.int) ∧ Q (.int ns.sum) H
/-- max(xs), min(xs) of a list of ints -/
def rMax (K : PySem.W.Frag) : List V → Hp → VK → Prop := fun vs H Q => ∃ (a : Addr) (ns : List Int), vs = [V.ref a] ∧ SqL K H a (ns.map V.int) ∧ 0 < ns.length ∧ ∀ m, m ∈ ns → (∀ y, y ∈ ns → y ≤ m) → Q (.int m) H
def rMin (K : PySem.W.Frag) : List V → Hp → VK → Prop := fun vs H Q => ∃ (a : Addr) (ns : List Int), vs = [V.ref a] ∧ SqL K H a (ns.map V.int) ∧ 0 < ns.length ∧ ∀ m, m ∈ ns → (∀ y, y ∈ ns → m ≤ y) → Q (.int m) H
theorem cr_sum (hc : X.calm = true) : CallR X (.builtin "sum") (rSum X.K) := by
  intro pins s σ H vs us Q I r h
  obtain ⟨a, ns, rfl, hs, q⟩ := h
  obtain ⟨its, rv, hl, _⟩ := I.list hs
  rw [Vals.ref1 r]
  exact sum_raw (I.ok.hd hc) hl.isList rv.ints fun h' tk t' hk => ⟨.int _, H, I.kept hk, ⟨_, rfl⟩, q⟩
theorem cr_max (hc : X.calm = true) : CallR X (.builtin "max") (rMax X.K) := by
  intro pins s σ H vs us Q I r h
  obtain ⟨a, ns, rfl, hs, hne, q⟩ := h
  obtain ⟨its, rv, hl, _⟩ := I.list hs
  rw [Vals.ref1 r]
  exact max_raw (I.ok.hd hc) hl.isList rv.ints hne fun h' tk m t' hk h1 h2 => ⟨.int _, H, I.kept hk, ⟨_, rfl⟩, q m h1 h2⟩
theorem cr_min (hc : X.calm = true) : CallR X (.builtin "min") (rMin X.K) := by
  intro pins s σ H vs us Q I r h
  obtain ⟨a, ns, rfl, hs, hne, q⟩ := h
  obtain ⟨its, rv, hl, _⟩ := I.list hs
  rw [Vals.ref1 r]
  exact min_raw (I.ok.hd hc) hl.isList rv.ints hne fun h' tk m t' hk h1 h2 => ⟨.int _, H, I.kept hk, ⟨_, rfl⟩, q m h1 h2⟩
end
section
variable {X : Cx}
def rIndex (K : PySem.W.Frag) : V → List V → Hp → VK → Prop := fun x xs H Q => ∃ (a : Addr) (ys : List V) (y : V) (j : Nat) (z : V), x = V.ref a ∧ xs = [y] ∧ SqL K H a ys ∧ flatV y = true ∧ ys.all flatV = true ∧ ys[j]? = some z ∧ eqV z y = true ∧
  (∀ (m : Nat) (z' : V), m < j → ys[m]? = some z' → eqV z' y = false) ∧ Q (.int (j : Nat)) H
theorem flat_at {ys : List V} (f : ys.all flatV = true) {j : Nat} {z : V} (h : ys[j]? = some z) : flatV z = true := List.all_eq_true.mp f z (List.mem_of_getElem? h)
theorem mt_index : MtR X "list.index" (rIndex X.K) := by
  intro pins s σ H x xs v us Q I rx rxs h
  obtain ⟨a, ys, y, j, z, rfl, rfl, hs, fy, fys, hz, hzj, hno, q⟩ := h
  cases rx
  cases rxs with
  | cons ry rt =>
    rename_i uy ut
    cases rt
    obtain ⟨its, rv, ⟨⟨cls, dd, data, sl⟩, n, ho, hc, hdn, hd⟩, hlen⟩ := I.list hs
    simp only at hc hd
    subst hc hd
    obtain ⟨u, hu, ru⟩ := rv.get hz
    obtain ⟨hjl, hje⟩ := List.getElem?_eq_some_iff.mp hu
    have hvl := rv.length
    have hj : j < its.toArray.size := by simpa using hjl
    have hsl := sizeLine_eq
    refine call_meets PySem.F.slot_list_index ⟨_, ho, rfl⟩ PySem.F.entry_list_index (PySem.F.args_list_index_2 _ _)
      (SeqAt.list_indexAt a its.toArray n dd sl uy (eqU y) j hj (by omega) ?_ ?_) ⟨ho, fun u' hu' => mem_eqAt ry fy rv fys u' (by simpa using hu'), ?_⟩
    · have e1 : its.toArray[j] = u := by simpa using hje
      rw [e1, eqU_of ru (flat_at fys hz)]
      exact hzj
    · intro m hm hmj
      have hml : m < its.length := by simpa using hm
      have hmy : m < ys.length := by omega
      have hy' : ys[m]? = some ys[m] := List.getElem?_eq_getElem hmy
      obtain ⟨u2, hu2, ru2⟩ := rv.get hy'
      obtain ⟨_, hme⟩ := List.getElem?_eq_some_iff.mp hu2
      have e1 : its.toArray[m] = u2 := by simpa using hme
      rw [e1, eqU_of ru2 (flat_at fys hy')]
      exact hno m _ hmj hy'
    · exact ⟨.int (j : Nat), H, I.tok _, ⟨_, rfl⟩, q⟩
end
section
variable {X : Cx}
end
theorem iter_any {prog : Program} {w : World} {A : Around} {E : Value → Shared → Prop} {s : Shared} {l : Addr} {items : Array Value} {Q : Value → Shared → Prop} (hl : s.heap.IsList l items)
    (h : ∀ s₂ : Shared, s₂ = { s with heap := s.heap.push { cls := .type "list_iterator", data := .fields #[.ref l, .int 0 0] } } →
      (s₂.heap.IsListIter s.heap.objs.size l 0 ∧ s₂.heap.IsList l items) → l ≠ s.heap.objs.size → Q (.ref s.heap.objs.size) s₂) : wpAny (model prog w) A (pyIter (.ref l)) Q E s := by
  have hlt : l < s.heap.objs.size := by obtain ⟨_, e, _⟩ := hl; exact Heap.lt_size e
  exact wpAny_pyIter_list hl (h _ rfl ⟨⟨_, Heap.get?_push_size _ rfl, rfl, rfl⟩, hl.push _⟩ (Nat.ne_of_lt hlt))
theorem truth_bools {prog : Program} {w : World} {A : Around} {bs : List Bool} {its : List Value} (e : its = bs.map Value.bool) :
    TruthOf prog w A (fun i v => its.toArray[i]? = some v) (fun i => bs.getD i false) := fun i v s Q E hv hq => by
  have hv' : its[i]? = some v := by simpa using hv
  rw [e, List.getElem?_map] at hv'
  obtain ⟨b, hb, rfl⟩ := Option.map_eq_some_iff.mp hv'
  have hg : bs.getD i false = b := by rw [List.getD_eq_getElem?_getD, hb] <;> rfl
  have hq' : Q (bs.getD i false) s := hq
  rw [hg] at hq'
  exact wpAny_truthy_bool hq'
theorem any_range : ∀ bs : List Bool, (List.range bs.length).any (fun i => bs.getD i false) = bs.any id
  | [] => rfl
  | b :: bs => by
    rw [List.length_cons, List.range_succ_eq_map, List.any_cons, List.any_map, List.any_cons, ← any_range bs]
    all_goals rfl
section
variable {X : Cx}
def rAny (K : PySem.W.Frag) : List V → Hp → VK → Prop := fun vs H Q => ∃ (a : Addr) (bs : List Bool), vs = [V.ref a] ∧ SqL K H a (bs.map V.bl) ∧ Q (.bl (bs.any id)) H
theorem cr_any (hc : X.calm = true) : CallR X (.builtin "any") (rAny X.K) := by
  intro pins s σ H vs us Q I r h
  obtain ⟨a, bs, rfl, hs, q⟩ := h
  obtain ⟨its, rv, hl, _⟩ := I.list hs
  rw [Vals.ref1 r]
  have hb := rv.bls
  refine call_any_walk (iter_any hl.isList fun s₂ e2 st hne => ?_)
  subst e2
  refine ⟨_, _, _, _, _, _, _, rfl, Walks.list (A := X.A.in1) (I.ok.hd hc) _ a hne its.toArray, st, truth_bools hb, fun h' tk hk => ?_⟩
  refine ⟨.bl _, H, I.kept fun b o eo => hk b o (fun hmem => ?_) (Heap.get?_push_of_some _ eo), ?_, q⟩
  · rcases List.mem_cons.mp hmem with e1 | hmem
    · exact absurd (e1 ▸ Heap.lt_size eo) (Nat.lt_irrefl _)
    · cases hmem
  · show Value.bool _ = Value.bool _
    rw [← any_range, hb, List.size_toArray, List.length_map]
end
mutual
inductive Dp (K : PySem.W.Frag) (H : Hp) : V → PyData → Prop
  | non : Dp K H .non .none
  | bl (b : Bool) : Dp K H (.bl b) (.bool b)
  | int (i : Int) : Dp K H (.int i) (.int i)
  | str (x : Str) : Dp K H (.str x) (.str x)
  | lst {a : Addr} {xs : List V} {ds : List PyData} : SqL K H a xs → DpAll K H xs ds → Dp K H (.ref a) (.list ds)
  | tup {a : Addr} {xs : List V} {ds : List PyData} : SqT K H a xs → DpAll K H xs ds → Dp K H (.ref a) (.tuple ds)
inductive DpAll (K : PySem.W.Frag) (H : Hp) : List V → List PyData → Prop
  | nil : DpAll K H [] []
  | cons {v : V} {vs : List V} {d : PyData} {ds : List PyData} : Dp K H v d → DpAll K H vs ds → DpAll K H (v :: vs) (d :: ds)
end
section
variable {X : Cx} {pins : List (Addr × Obj)} {σ : St} {H : Hp} {s : Shared}
mutual
theorem Dp.reads (I : Inv X pins σ H s) : ∀ (d : PyData) (v : V) (u : Value), Dp X.K H v d → RelV v u → ∃ as, Reads s.heap u d as
  | .none, _, _, h, r => by
    cases h
    cases r
    exact ⟨_, Reads.none⟩
  | .bool b, _, _, h, r => by
    cases h
    cases r
    exact ⟨_, Reads.bool b⟩
  | .int i, _, _, h, r => by
    cases h
    obtain ⟨t, rfl⟩ := r
    exact ⟨_, Reads.int i t⟩
  | .str x, _, _, h, r => by
    cases h
    obtain ⟨t, rfl⟩ := r
    exact ⟨_, Reads.str x t⟩
  | .list ds, _, _, h, r => by
    cases h with
    | lst hs ha =>
      cases r
      obtain ⟨its, rv, ⟨o, n, ho, hc, _, hd⟩, _⟩ := I.list hs
      obtain ⟨as, hr⟩ := Dp.readsAll I ds _ its ha rv
      exact ⟨_, Reads.list ho hc hd hr⟩
  | .tuple ds, _, _, h, r => by
    cases h with
    | tup hs ha =>
      cases r
      obtain ⟨its, rv, ⟨o, ho, hc, n, hd⟩, _⟩ := I.tuple hs
      obtain ⟨as, hr⟩ := Dp.readsAll I ds _ its ha rv
      exact ⟨_, Reads.tuple ho hc hd hr⟩
  | .dict _, _, _, h, _ => by cases h
theorem Dp.readsAll (I : Inv X pins σ H s) : ∀ (ds : List PyData) (vs : List V) (us : List Value), DpAll X.K H vs ds → Vals vs us → ∃ as, ReadsAll s.heap us ds as
  | [], _, _, h, r => by
    cases h
    cases r
    exact ⟨_, ReadsAll.nil⟩
  | d :: ds, _, _, h, r => by
    cases h with
    | cons h1 h2 =>
      cases r with
      | cons r1 r2 =>
        obtain ⟨as, q1⟩ := Dp.reads I d _ _ h1 r1
        obtain ⟨bs, q2⟩ := Dp.readsAll I ds _ _ h2 r2
        exact ⟨_, ReadsAll.cons q1 q2⟩
end
end
section
variable {X : Cx}
def rNeD (K : PySem.W.Frag) : R2 := fun x y H Q => ∃ d e, Dp K H x d ∧ Dp K H y e ∧ SeqAt.shaped d = true ∧ SeqAt.shaped e = true ∧ Q (.bl (!PyData.eqv d e)) H
theorem op_neD (hu : X.A.units + 64 < cLine) : OpR X (compareOp .NotEq) (rNeD X.K) := by
  intro pins s σ H x y v u Q I rx ry h
  obtain ⟨d, e, hd, he, sd, se, q⟩ := h
  obtain ⟨as, r1⟩ := Dp.reads I d x v hd rx
  obtain ⟨bs, r2⟩ := Dp.reads I e y u he ry
  exact SeqAt.compareNe_shaped r1 r2 sd se hu ⟨.bl _, H, I, rfl, q⟩
end
end L2
namespace L2
open PySem PySem.Spec PyProof.Rows
abbrev CellAt (h : Heap) (c : Addr) (v : Option Value) : Prop := h.IsCell c v
def relS (scope sc : Scope) : Scope :=
  { scope with names := scope.names.map fun (n, k) => if (k == .free && sc.kind == .function && sc.names.lookup n == some .cell) then (n, .cell) else (n, k) }
def cloFrom (cells : List (Str × Addr)) : List (Str × NameKind) → List (Str × Addr) → List (Str × Addr)
  | [], acc => acc
  | (n, k) :: r, acc => if k == .free then cloFrom cells r ((n, (cells.lookup n).getD 0) :: acc) else cloFrom cells r acc
theorem closure_loop (env : Env) (f : Str × NameKind → List (Str × Addr) → Sem (ForInStep (List (Str × Addr))))
    (hf : ∀ n k c, f (n, k) c = if k == .free then (do let a ← cellOf env n; pure (.yield ((n, a) :: c))) else pure (.yield c)) :
    ∀ (names : List (Str × NameKind)) (acc : List (Str × Addr)), (∀ y ∈ names, y.2 = .free → ∃ c, env.cells.lookup y.1 = some c) → forIn names acc f = pure (cloFrom env.cells names acc)
  | [], acc, _ => by rw [List.forIn_nil]; rfl
  | (n, k) :: r, acc, h => by
    rw [List.forIn_cons, hf]
    have ih := fun acc => closure_loop env f hf r acc fun y hy => h y (List.mem_cons_of_mem _ hy)
    unfold cloFrom
    by_cases hk : (k == NameKind.free) = true
    · rw [if_pos hk, if_pos hk]
      obtain ⟨c, hc⟩ := h (n, k) List.mem_cons_self (by simpa using hk)
      have e : cellOf env n = pure c := by unfold cellOf; rw [hc]
      rw [e]
      have e2 : (env.cells.lookup n).getD 0 = c := by rw [hc]; rfl
      rw [e2]
      exact ih _
    · rw [if_neg hk, if_neg hk]
      exact ih _
theorem closure_ok {scope : Scope} {env : Env} (h : ∀ y ∈ scope.names, y.2 = .free → ∃ c, env.cells.lookup y.1 = some c) : closureFor scope env = pure (cloFrom env.cells scope.names []) := by
  simp only [closureFor]
  rw [closure_loop env _ (fun n k c => rfl) scope.names [] h]
  rfl
theorem mem_lookup {α : Type} : ∀ {l : List (Str × α)} {n : Str} {c : α}, (n, c) ∈ l → ∃ c', l.lookup n = some c'
  | (k, v) :: r, n, c, h => by
    rw [List.lookup_cons]
    cases hb : n == k with
    | true => exact ⟨_, rfl⟩
    | false =>
      rcases List.mem_cons.mp h with e | h
      · cases e; simp at hb
      · exact mem_lookup h
theorem cloFrom_mem {cells : List (Str × Addr)} : ∀ {names : List (Str × NameKind)} {acc : List (Str × Addr)} {n : Str} {c : Addr}, (n, c) ∈ cloFrom cells names acc → (n, c) ∈ acc ∨ ((n, .free) ∈ names ∧ c = (cells.lookup n).getD 0)
  | [], _, _, _, h => .inl h
  | (m, k) :: r, acc, n, c, h => by
    unfold cloFrom at h
    split at h
    · rename_i hk
      have hk : k = .free := by simpa using hk
      rcases cloFrom_mem h with h | ⟨h1, h2⟩
      · rcases List.mem_cons.mp h with e | h
        · cases e; exact .inr ⟨hk ▸ List.mem_cons_self, rfl⟩
        · exact .inl h
      · exact .inr ⟨List.mem_cons_of_mem _ h1, h2⟩
    · rcases cloFrom_mem h with h | ⟨h1, h2⟩
      · exact .inl h
      · exact .inr ⟨List.mem_cons_of_mem _ h1, h2⟩
theorem cloFrom_acc {cells : List (Str × Addr)} : ∀ {names : List (Str × NameKind)} {acc : List (Str × Addr)} {p : Str × Addr}, p ∈ acc → p ∈ cloFrom cells names acc
  | [], _, _, h => h
  | (m, k) :: r, acc, p, h => by
    unfold cloFrom
    split
    · exact cloFrom_acc (List.mem_cons_of_mem _ h)
    · exact cloFrom_acc h
theorem cloFrom_has {cells : List (Str × Addr)} : ∀ {names : List (Str × NameKind)} {acc : List (Str × Addr)} {n : Str}, (n, .free) ∈ names → (n, (cells.lookup n).getD 0) ∈ cloFrom cells names acc
  | (m, k) :: r, acc, n, h => by
    unfold cloFrom
    rcases List.mem_cons.mp h with e | h
    · cases e
      exact cloFrom_acc List.mem_cons_self
    · split
      · exact cloFrom_has h
      · exact cloFrom_has h
theorem cells_mem : ∀ {names : List (Str × NameKind)} {h : Heap} {acc : List (Str × Addr)} {x : Str} {c : Addr}, (x, c) ∈ cellsFrom h.objs.size names acc →
    (x, c) ∈ acc ∨ ((x, .cell) ∈ names ∧ h.objs.size ≤ c ∧ CellAt (pushCells h names) c none)
  | [], _, _, _, _, h => .inl h
  | (n, k) :: r, h, acc, x, c, hm => by
    unfold cellsFrom at hm
    unfold pushCells
    split at hm
    · rename_i hk
      rw [if_pos hk]
      have hk : k = .cell := by simpa using hk
      rw [← Heap.size_push h { cls := .type "cell", data := .cell none }] at hm
      rcases cells_mem hm with hm | ⟨h1, h2, h3⟩
      · rcases List.mem_cons.mp hm with e | hm
        · cases e
          exact .inr ⟨hk ▸ List.mem_cons_self, Nat.le_refl _, _, pushCells_keeps r _ _ _ (Heap.get?_push_size _ rfl), rfl⟩
        · exact .inl hm
      · rw [Heap.size_push] at h2
        exact .inr ⟨List.mem_cons_of_mem _ h1, Nat.le_of_succ_le h2, h3⟩
    · rename_i hk
      rw [if_neg hk]
      rcases cells_mem hm with hm | ⟨h1, h2, h3⟩
      · exact .inl hm
      · exact .inr ⟨List.mem_cons_of_mem _ h1, h2, h3⟩
theorem cells_acc : ∀ {names : List (Str × NameKind)} {n : Nat} {acc : List (Str × Addr)} {p : Str × Addr}, p ∈ acc → p ∈ cellsFrom n names acc
  | [], _, _, _, h => h
  | (m, k) :: r, n, acc, p, h => by
    unfold cellsFrom
    split
    · exact cells_acc (List.mem_cons_of_mem _ h)
    · exact cells_acc h
theorem cells_has : ∀ {names : List (Str × NameKind)} {n : Nat} {acc : List (Str × Addr)} {x : Str}, (x, .cell) ∈ names → ∃ c, (x, c) ∈ cellsFrom n names acc
  | (m, k) :: r, n, acc, x, h => by
    unfold cellsFrom
    rcases List.mem_cons.mp h with e | h
    · cases e
      exact ⟨n, cells_acc List.mem_cons_self⟩
    · split
      · exact cells_has h
      · exact cells_has h
theorem cells_inj : ∀ {names : List (Str × NameKind)} {h : Heap} {acc : List (Str × Addr)} {x y : Str} {c : Addr}, (∀ p ∈ acc, p.2 < h.objs.size) → (∀ x y c, (x, c) ∈ acc → (y, c) ∈ acc → x = y) →
    (x, c) ∈ cellsFrom h.objs.size names acc → (y, c) ∈ cellsFrom h.objs.size names acc → x = y
  | [], _, _, _, _, _, _, hi, h1, h2 => hi _ _ _ h1 h2
  | (n, k) :: r, h, acc, x, y, c, hl, hi, h1, h2 => by
    unfold cellsFrom at h1 h2
    split at h1
    · rename_i hk
      rw [if_pos hk] at h2
      rw [← Heap.size_push h { cls := .type "cell", data := .cell none }] at h1 h2
      refine cells_inj (h := h.push _) (fun p hp => ?_) (fun x y c a b => ?_) h1 h2
      · rw [Heap.size_push]
        rcases List.mem_cons.mp hp with rfl | hp
        · exact Nat.lt_succ_self _
        · exact Nat.lt_succ_of_lt (hl p hp)
      · rcases List.mem_cons.mp a with e | a <;> rcases List.mem_cons.mp b with e' | b
        · cases e; cases e'; rfl
        · cases e; exact absurd (hl _ b) (Nat.lt_irrefl _)
        · cases e'; exact absurd (hl _ a) (Nat.lt_irrefl _)
        · exact hi _ _ _ a b
    · rename_i hk
      rw [if_neg hk] at h2
      exact cells_inj hl hi h1 h2
theorem newEnv_comp {M : Model} {A : Around} {E : Value → Shared → Prop} {s : Shared} {scope : Scope} {globals : Addr} {closure : List (Str × Addr)} {qual : Str} {func : Option Addr} {code : Value} {around : Env} {builtins : Addr} {Q : Env → Shared → Prop}
    (h : Q (newEnv scope s.heap.objs.size globals (cellsFrom (s.heap.objs.size + 1) scope.names closure) qual func code (some around) builtins)
      { s with heap := pushCells (s.heap.push { cls := .type "dict", data := .dict #[] }) scope.names }) :
    wpAny M A (newFunctionEnv scope globals closure [] qual func code (some around) builtins) Q E s := by
  simp only [newFunctionEnv, Option.isSome_some, if_true]
  refine wpAny_bind (wpAny_alloc ?_)
  refine wpAny_bind (wpAny_layCells _ (fun n k c => rfl) scope.names closure _ _ ?_)
  rw [show ({ s with heap := s.heap.push { cls := .type "dict", data := .dict #[] } } : Shared).heap.objs.size = s.heap.objs.size + 1 from Heap.size_push ..]
  rw [List.forIn_nil]
  exact wpAny_bind (wpAny_pure (wpAny_pure h))
/-- every name of the written scope, in the scope that runs -/
theorem lookup_relS {sc : Scope} : ∀ {names : List (Str × NameKind)} {x : Str} {k : NameKind},
    (names.map fun (n, k) => if (k == NameKind.free && sc.kind == .function && sc.names.lookup n == some .cell) then (n, NameKind.cell) else (n, k)).lookup x = some k →
    ∃ k', names.lookup x = some k' ∧ (k = k' ∨ (k' = .free ∧ k = .cell))
  | [], _, _, h => by simp at h
  | (n, k₀) :: r, x, k, h => by
    have ih := @lookup_relS sc r x k
    have h' : List.lookup x ((if (k₀ == NameKind.free && sc.kind == .function && sc.names.lookup n == some .cell) = true then (n, NameKind.cell) else (n, k₀)) :: (r.map _)) = some k := h
    cases hx : x == n with
    | true =>
      simp only [List.lookup_cons, hx]
      by_cases hc : (k₀ == NameKind.free && sc.kind == .function && sc.names.lookup n == some .cell) = true
      · rw [if_pos hc] at h'
        simp only [List.lookup_cons, hx] at h'
        cases h'
        simp only [Bool.and_eq_true, beq_iff_eq] at hc
        exact ⟨k₀, rfl, .inr ⟨hc.1.1, rfl⟩⟩
      · rw [if_neg hc] at h'
        simp only [List.lookup_cons, hx] at h'
        cases h'
        exact ⟨_, rfl, .inl rfl⟩
    | false =>
      simp only [List.lookup_cons, hx]
      by_cases hc : (k₀ == NameKind.free && sc.kind == .function && sc.names.lookup n == some .cell) = true
      · rw [if_pos hc] at h'
        simp only [List.lookup_cons, hx] at h'
        exact ih h'
      · rw [if_neg hc] at h'
        simp only [List.lookup_cons, hx] at h'
        exact ih h'
/-- the names of a comprehension's block: its own (with their places in N), or captured -/
structure BlkOk (N : List Str) (sc scope : Scope) (own : List (Str × Nat)) : Prop where
  kind : scope.kind = .function
  uniq : ∀ y ∈ scope.names, scope.names.lookup y.1 = some y.2
  ix : ∀ p ∈ own, N[p.2]? = some p.1
  free : ∀ y ∈ scope.names, y.2 = .free → sc.names.lookup y.1 = some .cell ∨ sc.names.lookup y.1 = some .free
  own : ∀ y ∈ scope.names, y.2 = .local ∨ y.2 = .cell → y.1 ∈ own.map (·.1) ∨ y.1 ∉ N
/-- the slots of the block's own names forgotten -/
def wipe (σ : St) : List Nat → St
  | [] => σ
  | v :: vs => (wipe σ vs).set v none
theorem wipe_length (σ : St) : ∀ vs : List Nat, (wipe σ vs).length = σ.length
  | [] => rfl
  | v :: vs => by unfold wipe; rw [List.length_set, wipe_length σ vs]
theorem wipe_some {σ : St} {i : Nat} {x : V} : ∀ {vs : List Nat}, (wipe σ vs)[i]? = some (some x) → σ[i]? = some (some x) ∧ i ∉ vs
  | [], h => ⟨h, by simp⟩
  | v :: vs, h => by
    unfold wipe at h
    by_cases hi : v = i
    · subst hi
      by_cases hv : v < (wipe σ vs).length
      · rw [List.getElem?_set_self hv] at h; cases h
      · rw [List.getElem?_eq_none (by simpa using hv)] at h; cases h
    · rw [List.getElem?_set_ne hi] at h
      obtain ⟨h1, h2⟩ := wipe_some h
      exact ⟨h1, by simp only [List.mem_cons, not_or]; exact ⟨fun e => hi e.symm, h2⟩⟩
/-- the context of a block that starts at s, its iterator's objects at fp -/
abbrev Cx.blk (X : Cx) (s : Shared) (H : Hp) (scope : Scope) (cenv : Env) (fp : List Addr) : Cx := { X with s_0 := s, H_0 := H, env := cenv, outer := X.stack, ex := fp, fn := fun x => scope.names.lookup x == some .cell, pn := [], xe := fun _ _ => False }
section
variable {X : Cx} {pins : List (Addr × Obj)} {σ : St} {H : Hp} {s : Shared}
theorem block_start {scope : Scope} {own : List (Str × Nat)} {fp : List Addr} (I : Inv X pins σ H s) (ok : BlkOk X.N X.env.scope scope own) (hN : X.N.Nodup) (hfp : ∀ b ∈ fp, FpOk X pins H b ∧ b < s.heap.objs.size) :
    Inv (X.blk s H scope (compEnvC scope (cellsFrom (s.heap.objs.size + 1) scope.names (cloFrom X.env.cells scope.names [])) s.heap.objs.size X.env) fp) [] (wipe σ (own.map (·.2))) H { s with heap := pushCells (s.heap.push { cls := .type "dict", data := .dict #[] }) scope.names } := by
  have hfree : ∀ y ∈ scope.names, y.2 = .free → ∃ c, X.env.cells.lookup y.1 = some c := fun y hy e => by
    rcases ok.free y hy e with k | k
    · exact I.ok.has _ (.inl k)
    · exact I.ok.has _ (.inr k)
  generalize hcenv : compEnvC scope (cellsFrom (s.heap.objs.size + 1) scope.names (cloFrom X.env.cells scope.names [])) s.heap.objs.size X.env = cenv
  have kp : ∀ b o, s.heap.get? b = some o → (pushCells (s.heap.push { cls := .type "dict", data := .dict #[] }) scope.names).get? b = some o := fun b o e => pushCells_keeps _ _ _ _ (Heap.get?_push_of_some _ e)
  have hL : cenv.locals = s.heap.objs.size := by rw [← hcenv]; rfl
  have hcl : cenv.cells = cellsFrom (s.heap.objs.size + 1) scope.names (cloFrom X.env.cells scope.names []) := by rw [← hcenv]; rfl
  have hsc : cenv.scope = relS scope X.env.scope := by rw [← hcenv]; rfl
  rw [← Heap.size_push s.heap { cls := .type "dict", data := .dict #[] }] at hcl
  have cm : ∀ {y c}, (y, c) ∈ cloFrom X.env.cells scope.names [] → X.env.cells.lookup y = some c ∧ c < s.heap.objs.size := fun {y c} hm => by
    rcases cloFrom_mem hm with hm | ⟨h1, rfl⟩
    · cases hm
    · obtain ⟨c, hc⟩ := hfree _ h1 rfl
      rw [hc]
      obtain ⟨w, z⟩ := I.cell _ _ hc
      exact ⟨rfl, z.lt⟩
  have mem : ∀ {y c}, cenv.cells.lookup y = some c → (X.env.cells.lookup y = some c ∧ c < s.heap.objs.size) ∨ (s.heap.objs.size + 1 ≤ c ∧ CellAt (pushCells (s.heap.push { cls := .type "dict", data := .dict #[] }) scope.names) c none) := fun {y c} e => by
    rw [hcl] at e
    rcases cells_mem (PySem.mem_of_lookup e) with hm | ⟨_, h2, h3⟩
    · exact .inl (cm hm)
    · rw [Heap.size_push] at h2; exact .inr ⟨h2, h3⟩
  have look : ∀ {y}, scope.names.lookup y = some .free → ∃ c, cenv.cells.lookup y = some c ∧ X.env.cells.lookup y = some c := fun {y} hl => by
    have hy : (y, NameKind.free) ∈ scope.names := PySem.mem_of_lookup hl
    obtain ⟨c', e'⟩ := mem_lookup (cells_acc (names := scope.names) (n := (s.heap.push { cls := .type "dict", data := .dict #[] }).objs.size) (cloFrom_has (cells := X.env.cells) (acc := []) hy))
    rw [← hcl] at e'
    refine ⟨c', e', ?_⟩
    rw [hcl] at e'
    rcases cells_mem (PySem.mem_of_lookup e') with hm | ⟨h1, _, _⟩
    · exact (cm hm).1
    · have := ok.uniq _ h1
      rw [hl] at this; cases this
  have okB : (X.blk s H scope cenv fp).Ok := by
    refine ⟨I.ok.mod, by show cenv.scope.kind = _; rw [hsc]; exact ok.kind, by show cenv.globals = _; rw [← hcenv]; exact I.ok.glob, by show cenv.builtins = _; rw [← hcenv]; exact I.ok.blt, by show s.heap.objs.size ≤ cenv.locals; rw [hL]; exact Nat.le_refl _,
      fun y z c e1 e2 => ?_, fun y hy => ?_, fun y c z e => ?_, I.ok.hd, I.ok.frames, .inl rfl, fun b hb => ⟨?_, fun y c e z => ?_⟩, I.bs, Nat.le_trans I.ok.bsz I.sz, fun b o e hb => ?_, fun b hb z => ?_, I.stack, I.stkFree⟩
    · have e1 : cenv.cells.lookup y = some c := e1
      have e2 : cenv.cells.lookup z = some c := e2
      rw [hcl] at e1 e2
      refine cells_inj (fun p hp => ?_) (fun y z c a b => I.ok.inj y z c (cm a).1 (cm b).1) (PySem.mem_of_lookup e1) (PySem.mem_of_lookup e2)
      rw [Heap.size_push]
      exact Nat.lt_succ_of_lt (cm (y := p.1) (c := p.2) hp).2
    · show ∃ c, cenv.cells.lookup y = some c
      have key : ∀ k, cenv.kindOf y = some k → (k = .cell ∨ k = .free) → ∃ c, cenv.cells.lookup y = some c := fun k hk hk' => by
        unfold Env.kindOf at hk
        rw [hsc] at hk
        obtain ⟨k', e, r⟩ := lookup_relS hk
        have : k' = .cell ∨ k' = .free := by
          rcases r with rfl | ⟨rfl, _⟩
          · exact hk'
          · exact .inr rfl
        rcases this with rfl | rfl
        · obtain ⟨c, hm⟩ := cells_has (n := (s.heap.push { cls := .type "dict", data := .dict #[] }).objs.size) (acc := cloFrom X.env.cells scope.names []) (PySem.mem_of_lookup e)
          obtain ⟨c', e'⟩ := mem_lookup hm
          exact ⟨c', by rw [hcl]; exact e'⟩
        · obtain ⟨c, h1, _⟩ := look e
          exact ⟨c, h1⟩
      rcases hy with hy | hy
      · exact key _ hy (.inl rfl)
      · exact key _ hy (.inr rfl)
    · have z : (scope.names.lookup y == some NameKind.cell) = true := z
      have z : scope.names.lookup y = some .cell := by simpa using z
      have e : cenv.cells.lookup y = some c := e
      rw [hcl] at e
      rcases cells_mem (PySem.mem_of_lookup e) with hm | ⟨_, h2, _⟩
      · rcases cloFrom_mem hm with hm | ⟨h1, _⟩
        · cases hm
        · have q := ok.uniq _ h1
          rw [z] at q; cases q
      · rw [Heap.size_push] at h2
        exact Nat.le_of_succ_le h2
    · show b ≠ cenv.locals
      rw [hL]; exact Nat.ne_of_lt (hfp b hb).2
    · have e : cenv.cells.lookup y = some c := e
      rcases mem e with ⟨h1, _⟩ | ⟨h1, _⟩
      · exact (hfp b hb).1.2.2.2.2.1 y c h1 z
      · have h2 : s.heap.objs.size + 1 ≤ b := by rw [← z]; exact h1
        exact absurd (Nat.lt_of_lt_of_le (hfp b hb).2 (Nat.le_of_succ_le h2)) (Nat.lt_irrefl _)
    · rcases (hfp b hb).1.2.2.2.1 with z | z
      · exact I.ok.noex b o e z
      · exact absurd (Nat.lt_of_lt_of_le (Heap.lt_size e) (Nat.le_trans I.ok.bsz z)) (Nat.lt_irrefl _)
    · rcases List.mem_cons.mp (I.stkSub b z) with z | z
      · exact (hfp b hb).1.2.1 z
      · exact (hfp b hb).1.2.2.1 z
  refine ⟨okB, rfl, I.bare, Un.kept kp, ⟨fun _ => none, ?_, fun i y av e1 e2 e3 => ?_⟩, fun y c e => ?_, ?_, fun y c e => ?_, fun p hp => ?_, I.hok.kept kp, by rw [wipe_length]; exact I.len⟩
  · show Heap.Ns _ cenv.locals _
    rw [hL]
    exact Heap.Ns.keeps (Heap.Ns.new ..) fun b o e => pushCells_keeps _ _ _ _ e
  · obtain ⟨e2, hne⟩ := wipe_some e2
    have hfr : scope.names.lookup y = some .free ∧ (cenv.kindOf y = some .cell ∨ cenv.kindOf y = some .free) := by
      have key : ∀ k, cenv.scope.names.lookup y = some k → k = .local ∨ k = .cell ∨ k = .free → scope.names.lookup y = some .free ∧ (cenv.kindOf y = some .cell ∨ cenv.kindOf y = some .free) := fun k hk hk' => by
        have hk0 := hk
        rw [hsc] at hk
        obtain ⟨k', e, r⟩ := lookup_relS hk
        have no : ¬ (k' = .local ∨ k' = .cell) := fun hh => by
          rcases ok.own _ (PySem.mem_of_lookup e) hh with e' | e'
          · obtain ⟨p, hp, hpy⟩ := List.mem_map.mp e'
            have e3 := ok.ix p hp
            have : p.1 = y := hpy
            rw [this] at e3
            exact hne (List.mem_map.mpr ⟨p, hp, nodup_ix hN e3 e1⟩)
          · exact e' (List.mem_of_getElem? e1)
        rcases r with rfl | ⟨rfl, rfl⟩
        · rcases hk' with rfl | rfl | rfl
          · exact absurd (.inl rfl) no
          · exact absurd (.inr rfl) no
          · exact ⟨e, .inr hk0⟩
        · exact ⟨e, .inl hk0⟩
      have e3 : Vis cenv.scope y := e3
      rcases e3 with e3 | e3 | e3
      · exact key _ e3 (.inl rfl)
      · exact key _ e3 (.inr (.inl rfl))
      · exact key _ e3 (.inr (.inr rfl))
    obtain ⟨m, hn, hl⟩ := I.loc
    have hvis : Vis X.env.scope y := (ok.free _ (PySem.mem_of_lookup hfr.1) rfl).elim (fun k => .inr (.inl k)) (fun k => .inr (.inr k))
    obtain ⟨w, r, q⟩ := hl i y av e1 e2 hvis
    refine ⟨w, r, .inr ⟨hfr.2, ?_⟩⟩
    obtain ⟨c, h1, h2⟩ := look hfr.1
    rcases q with ⟨k, _⟩ | ⟨_, c', e', z⟩
    · have k : X.env.scope.names.lookup y = some .local := k
      rcases ok.free _ (PySem.mem_of_lookup hfr.1) rfl with k' | k' <;> rw [show X.env.scope.names.lookup y = _ from k'] at k <;> cases k
    · rw [h2] at e'; cases e'
      exact ⟨c, h1, z.keeps kp⟩
  · have e : cenv.cells.lookup y = some c := e
    rcases mem e with ⟨h1, _⟩ | ⟨_, z⟩
    · obtain ⟨w, z⟩ := I.cell y c h1
      exact ⟨w, z.keeps kp⟩
    · exact ⟨_, z⟩
  · show H cenv.locals = none
    rw [hL]; exact I.hok.fresh (Nat.le_refl _)
  · have e : cenv.cells.lookup y = some c := e
    rcases mem e with ⟨h1, _⟩ | ⟨h1, _⟩
    · exact I.freeC y c h1
    · exact I.hok.fresh (Nat.le_of_succ_le h1)
  · exact absurd (show p ∈ ([] : List (Addr × Obj)) ++ [] from hp) (by simp)
/-- an item appended to a tracked list -/
theorem app_ok {E : Value → Shared → Prop} {D : Addr} {xs : List V} {y : V} {v : Value} {Q : Value → Shared → Prop} (I : Inv X pins σ H s) (hD : H D = some (.lst xs)) (hz : xs.length < sizeLine) (r : RelV y v)
    (h : ∀ s', Inv X pins σ (upd H D (.lst (xs ++ [y]))) s' → Q .none s') : wpAny (model X.prog X.w) X.A (call (.builtin "list.append") [.ref D, v]) Q E s := by
  obtain ⟨hz', its, n, ri, e⟩ := I.hok D _ hD
  have hl := ri.length
  refine append_at (hsz := by rw [List.size_toArray]; omega) e fun h' sb ho' => ?_
  refine h { s with heap := h' } (I.write (t' := s.toks) (by rw [hD]; trivial) (.inl rfl) (fun b u hb q => (sb.2 b hb).trans q) ⟨_, ho'⟩ ⟨by rw [List.length_append]; exact hz, its ++ [v], n + 1, ri.append (.cons r .nil), ?_⟩)
  rw [ho']
  simp
/-- a clause's tests -/
def PTs (X : Cx) (ifs : List Expr) (t : TT) : Prop :=
  ∀ (pins : List (Addr × Obj)) (s : Shared) (σ : St) (H : Hp) (Q : Bool → Hp → Prop), Inv X pins σ H s → t σ H Q →
    wpAny (model X.prog X.w) X.A (forIn ifs true fun c r => if r = true then do let ok ← isTrue c X.env (eval c X.env); pure (ForInStep.yield ok) else pure (ForInStep.yield r)) (TP X pins σ Q) X.xe s
def tYes : TT := fun _ H Q => Q true H
theorem pts_nil : PTs X [] tYes := fun _ _ _ H _ I h => wpAny_tests_nil ⟨H, I, h⟩
theorem pts_one {c : Expr} {t : TT} (h : PT X c t) : PTs X [c] t := fun pins s σ H Q I hw => wpAny_tests_one (h pins s σ H Q I hw)
end
theorem thnF {α : Type} {t : Sem α} {Q Q' : α → Shared → Prop} {M : Model} {A : Around} {E : Value → Shared → Prop} {s : Shared} (h : wpAny M A t Q (fun _ _ => False) s) (hQ : ∀ a s, Q a s → Q' a s) : wpAny M A t Q' E s := wpAny_mono h hQ fun _ _ z => False.elim z
/-- the loop of a list comprehension's block, the target of any form (codeAny_compLoop_tests asks a target that no tuple goes to; statement and proof follow it, PyProof/CompMap.lean:41-61, with the step letOwnedTupleGo kept) -/
theorem compLoop_any {prog : Program} {w : World} {A : Around} {R : Result → Shared → Prop} {s : Shared} {elt target iter : Expr} {ifs : List Expr} {scope : Scope} {pos : Pos} {it acc : Value} {env : Env} (I : Nat → Shared → Prop)
    (turn : ∀ n s, I n s → wpAny (model prog w) A (pyNext it) (fun r s₁ => match r with
      | none => R (.ok .next) s₁
      | some v => wpAny (model prog w) A (letOwnedTupleGo target it v) (fun _ s₁' => wpAny (model prog w) A (assign target env v) (fun _ s₂ =>
          wpAny (model prog w) A (forIn ifs true fun c r => if r = true then do let ok ← isTrue c env (eval c env); pure (ForInStep.yield ok) else pure (ForInStep.yield r)) (fun ok s₃ =>
            if ok = true then wpAny (model prog w) A (eval elt env) (fun x s₄ =>
              wpAny (model prog w) A (call (.builtin "list.append") [acc, x]) (fun _ s₅ => ∃ m, m < n ∧ I m s₅) (notedBy (model prog w) A env fun e s' => R (.error e) s') s₄) (notedBy (model prog w) A env fun e s' => R (.error e) s') s₃
            else ∃ m, m < n ∧ I m s₃) (notedBy (model prog w) A env fun e s' => R (.error e) s') s₂) (notedBy (model prog w) A env fun e s' => R (.error e) s') s₁') (notedBy (model prog w) A env fun e s' => R (.error e) s') s₁) (notedBy (model prog w) A env fun e s' => R (.error e) s') s)
    (n : Nat) (h : I n s) :
    codeAny (model prog w) A (.compLoop (.ListComp elt [⟨target, iter, ifs, 0⟩] scope pos) 0 it acc env) R s := by
  refine codeAny_loop rfl I (fun n s hI => ?_) n h
  show wpAny _ A ((compTurn (.ListComp elt [⟨target, iter, ifs, 0⟩] scope pos) 0 it acc env).onRaise (fun x => do noteFrame x env; theTreesLotGoes x)) _ _ s
  refine wpAny_noted ?_
  rw [compTurn_list]
  refine wpAny_bind (wpAny_standAt (wpAny_bind (wpAny_mono (turn n s hI) (fun r s₁ h₁ => ?_) fun _ _ h' => h')))
  cases r with
  | none => exact wpAny_pure h₁
  | some v =>
    refine wpAny_bind (wpAny_mono h₁ (fun _ s₁' h₁' => ?_) fun _ _ h' => h')
    refine wpAny_bind (wpAny_mono h₁' (fun _ s₂ h₂ => wpAny_bind (wpAny_mono h₂ (fun ok s₃ h₃ => ?_) fun _ _ h' => h')) fun _ _ h' => h')
    cases ok with
    | false => exact wpAny_pure ⟨rfl, h₃⟩
    | true =>
      exact wpAny_bind (wpAny_bind (wpAny_mono h₃ (fun x s₄ h₄ => wpAny_bind (wpAny_mono h₄ (fun _ s₅ h₅ => wpAny_pure (wpAny_pure ⟨rfl, h₅⟩)) fun _ _ h' => h')) fun _ _ h' => h'))
section
variable {X : Cx}
/-- [elt for target in iter if ..]: D the new list; W by the turn and a measure, Nx what a turn is to reach -/
def tLc (wi : TI) (g : TG) (tt : TT) (te : TE) (vs : List Nat) : TE := fun σ H Q => wi σ H fun J H1 => ∀ D, H1 D = none → ∃ W : Nat → Nat → Hp → Prop, (∃ m, W 0 m (upd H1 D (.lst []))) ∧ ∀ i m H, W i m H →
  (J.stop i H ∧ Q (.ref D) H) ∨ (J.go i H ∧ ∃ Nx : Hp → Prop, (∀ H', Nx H' → ∃ m', m' < m ∧ W (i + 1) m' H') ∧ ∀ x H', J.yld i H x H' → g x (wipe σ vs) H' fun σ2 H2 => wipe σ2 vs = wipe σ vs ∧ tt σ2 H2 fun b H3 =>
    if b = true then te σ2 H3 fun y H4 => ∃ acc, H4 D = some (.lst acc) ∧ acc.length < sizeLine ∧ Nx (upd H4 D (.lst (acc ++ [y]))) else Nx H3)
theorem lc_core {pins : List (Addr × Obj)} {s : Shared} {σ : St} {H : Hp} {Q : VK} {elt tg iter : Expr} {ifs : List Expr} {scope : Scope} {own : List (Str × Nat)} {pos pos' : Pos} {wi : TI} {g : TG} {tt : TT} {te : TE} {use : Option (Value → Sem Unit)} {Qf : Value → Shared → Prop}
    (hc : X.calm = true) (hN : X.N.Nodup) (I : Inv X pins σ H s) (hi : PI X tg iter wi) (ok : BlkOk X.N X.env.scope scope own)
    (hg : ∀ (s : Shared) (H : Hp) (C : Addr) (cl : List (Str × Addr)) (fp : List Addr), PG (X.blk s H scope (compEnvC scope cl C X.env) fp) tg g) (ht : ∀ (s : Shared) (H : Hp) (C : Addr) (cl : List (Str × Addr)) (fp : List Addr), PTs (X.blk s H scope (compEnvC scope cl C X.env) fp) ifs tt)
    (he : ∀ (s : Shared) (H : Hp) (C : Addr) (cl : List (Str × Addr)) (fp : List Addr), PE (X.blk s H scope (compEnvC scope cl C X.env) fp) elt te) (hs : ∀ x, foldedSetIterable iter X.env x = pure x)
    (h : tLc wi g tt te (own.map (·.2)) σ H Q)
    (hRR : ∀ D C s' m H', Inv X pins σ H' s' → Q (.ref D) H' → s'.heap.Ns C m → FpOk X pins H' C → compPost (model X.prog X.w) X.A X.xe use Qf (.ref D) C (.ok .next) s') :
    wpAny (model X.prog X.w) X.A (comprehension (.ListComp elt [⟨tg, iter, ifs, 0⟩] scope pos) scope X.env pos' (newList []) false (eval iter X.env) use) Qf X.xe s := by
  have hfree : ∀ y ∈ scope.names, y.2 = .free → ∃ c, X.env.cells.lookup y.1 = some c := fun y hy e => by
    rcases ok.free y hy e with k | k
    · exact I.ok.has _ (.inl k)
    · exact I.ok.has _ (.inr k)
  refine wpAny_comprehension_free (use := use) rfl hs (closure_ok hfree) ok.kind (fun y hy e => by rw [ok.uniq y hy, e])
    (thn (hi pins s σ H _ I h) fun xv s1 hx => thn hx fun itv s2 h2 => ?_)
  obtain ⟨it, fp, tn, J, H2, e, I2, T, st2, f2, q⟩ := h2
  subst e
  refine wpAny_newObj_type (newEnv_comp ?_) (by show 0 ≤ sizeLine; decide)
  generalize hD : s2.heap.objs.size = D
  have hDn : H2 D = none := I2.hok.fresh (Nat.le_of_eq hD)
  obtain ⟨W, ⟨m0, w0⟩, turn⟩ := q D hDn
  -- the new list
  generalize hs3 : ({ s2 with heap := s2.heap.push { cls := .type "list", data := .seq ([] : List Value).toArray } } : Shared) = s3
  have I3 : Inv X pins σ (upd H2 D (.lst [])) s3 := by
    rw [← hs3]
    refine I2.laid (t' := s2.toks) (fun b o e => Heap.get?_push_of_some _ e) (Nat.le_of_eq hD) ⟨Nat.zero_le _, [], 0, .nil, ?_⟩
    rw [← hD]
    exact Heap.get?_push_size _ rfl
  have h3 : s3.heap = s2.heap.push { cls := .type "list", data := .seq ([] : List Value).toArray } := by rw [← hs3]
  have sz : ∀ b ∈ fp, b < s2.heap.objs.size := fun b hb => by
    obtain ⟨o, e, _⟩ := T.obj _ _ st2 b hb
    exact Heap.lt_size e
  have f3 : ∀ b ∈ fp, FpOk X pins (upd H2 D (.lst [])) b ∧ b < s3.heap.objs.size := fun b hb => by
    have hlt := sz b hb
    refine ⟨⟨?_, (f2 b hb).2⟩, by rw [h3, Heap.size_push]; exact Nat.lt_succ_of_lt hlt⟩
    rw [upd_ne (by rw [← hD]; exact Nat.ne_of_lt hlt)]
    exact (f2 b hb).1
  have st3 : tn 0 s3.heap := T.keep _ _ _ st2 fun b _ o e => by rw [h3]; exact Heap.get?_push_of_some _ e
  have I4 := block_start I3 ok hN f3
  have pg := hg s3 (upd H2 D (.lst [])) s3.heap.objs.size (cellsFrom (s3.heap.objs.size + 1) scope.names (cloFrom X.env.cells scope.names [])) fp
  have pt := ht s3 (upd H2 D (.lst [])) s3.heap.objs.size (cellsFrom (s3.heap.objs.size + 1) scope.names (cloFrom X.env.cells scope.names [])) fp
  have pe := he s3 (upd H2 D (.lst [])) s3.heap.objs.size (cellsFrom (s3.heap.objs.size + 1) scope.names (cloFrom X.env.cells scope.names [])) fp
  show codeAny _ _ (.compStart (.ListComp elt [⟨tg, iter, ifs, 0⟩] scope pos) 0 (.ref it) (.ref D) (compEnvC scope (cellsFrom (s3.heap.objs.size + 1) scope.names (cloFrom X.env.cells scope.names [])) s3.heap.objs.size X.env)) (compPost (model X.prog X.w) X.A X.xe use Qf (.ref D) s3.heap.objs.size) { s3 with heap := pushCells (s3.heap.push { cls := .type "dict", data := .dict #[] }) scope.names }
  have nfp : ∀ b ∈ fp, (upd H2 D (.lst [])) b = none := fun b hb => (f3 b hb).1.1
  generalize hce : compEnvC scope (cellsFrom (s3.heap.objs.size + 1) scope.names (cloFrom X.env.cells scope.names [])) s3.heap.objs.size X.env = ce at I4 pg pt pe ⊢
  have cL : ce.locals = s3.heap.objs.size := by subst hce; rfl
  generalize hH3 : upd H2 D (.lst []) = H3 at I3 I4 pg pt pe w0 nfp f3
  generalize hs4 : ({ s3 with heap := pushCells (s3.heap.push { cls := .type "dict", data := .dict #[] }) scope.names } : Shared) = s4 at I4 ⊢
  have st4 : tn 0 s4.heap := T.keep _ _ _ st3 fun b _ o e => by rw [← hs4]; exact pushCells_keeps _ _ _ _ (Heap.get?_push_of_some _ e)
  have stat : ∀ {σ' : St} {H' : Hp} {s' : Shared}, Inv (X.blk s3 H3 scope ce fp) [] σ' H' s' → (∀ b ∈ fp, H' b = none) → ∀ b ∈ fp, FpOk (X.blk s3 H3 scope ce fp) [] H' b := fun {σ' H' s'} I' hn b hb =>
    ⟨hn b hb, (I'.ok.exf b hb).1, I'.ok.exfs b hb, .inl hb, fun x c e => (I'.ok.exf b hb).2 x c e, fun p hp => absurd (show p ∈ ([] : List (Addr × Obj)) ++ [] from hp) (by simp)⟩
  have loop : codeAny (model X.prog X.w) X.A (.compLoop (.ListComp elt [⟨tg, iter, ifs, 0⟩] scope pos) 0 (.ref it) (.ref D) ce) (compPost (model X.prog X.w) X.A X.xe use Qf (.ref D) s3.heap.objs.size) s4 := by
    refine compLoop_any (fun n s' => ∃ i H', Inv (X.blk s3 H3 scope ce fp) [] (wipe σ (own.map (·.2))) H' s' ∧ tn i s'.heap ∧ (∀ b ∈ fp, H' b = none) ∧ W i n H') ?_ m0 ⟨0, H3, I4, st4, nfp, w0⟩
    rintro n s5 ⟨i, H5, I5, st5, n5, w5⟩
    rcases turn i n H5 w5 with ⟨stop, qq⟩ | ⟨go, Nx, hNx, step⟩
    · have td := T.done (X.blk s3 H3 scope ce fp) rfl rfl rfl hc i [] s5 _ H5 (fun _ _ => False) I5 (stat I5 n5) st5 stop
      refine thnF td fun r s6 ⟨hr, I6⟩ => ?_
      subst hr
      -- back in the def's context
      have I7 : Inv X pins σ H5 s6 := I3.call' (ch := fp) I6.os I6.base I6.hok I6.bare fun b hb => ⟨(f3 b hb).1.2.2.2.1, (f3 b hb).1.2.1, (f3 b hb).1.2.2.2.2.1, (f3 b hb).1.2.2.2.2.2⟩
      have nC : H5 s3.heap.objs.size = none := by
        have z : H5 ce.locals = none := I6.free
        rw [cL] at z
        exact z
      obtain ⟨m, hn, _⟩ := I6.loc
      have hn : s6.heap.Ns ce.locals m := hn
      rw [cL] at hn
      exact hRR D s3.heap.objs.size s6 m H5 I7 qq hn (I3.fpOk (Nat.le_refl _) nC)
    · have ti := T.item (X.blk s3 H3 scope ce fp) rfl rfl rfl hc i [] s5 _ H5 (fun _ _ => False) I5 (stat I5 n5) st5 go
      refine thnF ti fun r s6 ⟨u, hr, h6⟩ => ?_
      subst hr
      refine thnF h6 fun _ s7 ⟨x, H7, I7, r7, y7, st7, n7⟩ => ?_
      have I7' := I7.pinned (stat I7 n7) (T.obj _ _ st7)
      refine thnF (pg _ s7 _ H7 x u _ I7' r7 (step x H7 y7)) fun _ s8 ⟨σ8, H8, I8, hw8, q8⟩ => ?_
      refine thnF (pt _ s8 σ8 H8 _ I8 q8) fun b s9 ⟨H9, I9, q9⟩ => ?_
      -- the turn's end
      have fin : ∀ {s' : Shared} {H' : Hp}, Inv (X.blk s3 H3 scope ce fp) ([] ++ pinsAt fp s7.heap) σ8 H' s' → Nx H' → ∃ m, m < n ∧ ∃ i H', Inv (X.blk s3 H3 scope ce fp) [] (wipe σ (own.map (·.2))) H' s' ∧ tn i s'.heap ∧ (∀ b ∈ fp, H' b = none) ∧ W i m H' := fun {s' H'} I' nx => by
        obtain ⟨m', hm, w'⟩ := hNx H' nx
        have pin' : ∀ b ∈ fp, ∀ o, s7.heap.get? b = some o → s'.heap.get? b = some o ∧ H' b = none := fun b hb o e =>
          let z := I'.pin (b, o) (List.mem_append_right _ (List.mem_append_right _ (mem_pinsAt hb e)))
          ⟨z.1, z.2.1⟩
        have hl : (wipe σ (own.map (·.2))).length = σ8.length := by rw [← hw8, wipe_length]
        refine ⟨m', hm, i + 1, H', (I'.unpinned (pins := [])).weak hl (fun j v e => ?_), T.keep _ _ _ st7 fun b hb o e => (pin' b hb o e).1, fun b hb => ?_, w'⟩
        · rw [← hw8] at e
          exact (wipe_some e).1
        · obtain ⟨o, e, _⟩ := T.obj _ _ st7 b hb
          exact (pin' b hb o e).2
      cases b with
      | false =>
        simp only [Bool.false_eq_true, if_false] at q9 ⊢
        exact fin I9 q9
      | true =>
        simp only [if_true] at q9 ⊢
        refine thnF (pe _ s9 σ8 H9 _ I9 q9) fun z s10 ⟨yv, H10, I10, r10, acc, hD10, hz10, nx⟩ => ?_
        exact app_ok (X := X.blk s3 H3 scope ce fp) I10 hD10 hz10 r10 fun s11 I11 => fin I11 nx
  exact codeAny_compStart_list loop (T.self X.A 0 _ _ _ st4 loop)
/-- as a value -/
theorem pe_lc {elt tg iter : Expr} {ifs : List Expr} {scope : Scope} {own : List (Str × Nat)} {pos : Pos} {wi : TI} {g : TG} {tt : TT} {te : TE} (hc : X.calm = true) (hN : X.N.Nodup) (hi : PI X tg iter wi) (ok : BlkOk X.N X.env.scope scope own)
    (hg : ∀ (s : Shared) (H : Hp) (C : Addr) (cl : List (Str × Addr)) (fp : List Addr), PG (X.blk s H scope (compEnvC scope cl C X.env) fp) tg g) (ht : ∀ (s : Shared) (H : Hp) (C : Addr) (cl : List (Str × Addr)) (fp : List Addr), PTs (X.blk s H scope (compEnvC scope cl C X.env) fp) ifs tt)
    (he : ∀ (s : Shared) (H : Hp) (C : Addr) (cl : List (Str × Addr)) (fp : List Addr), PE (X.blk s H scope (compEnvC scope cl C X.env) fp) elt te) (hs : ∀ x, foldedSetIterable iter X.env x = pure x := by intro _; rfl) :
    PE X (.ListComp elt [⟨tg, iter, ifs, 0⟩] scope pos) (tLc wi g tt te (own.map (·.2))) := by
  intro pins s σ H Q I h
  rw [eval_ListComp]
  refine lc_core hc hN I hi ok hg ht he hs h fun D C s' m H' I' q hn f => ⟨m, hn, fun h'' sb => ?_⟩
  obtain ⟨f0, f1, f2, f3, f4, f5⟩ := f
  exact ⟨.ref D, H', I'.turned (t' := s'.toks) (fun b o hb e => (sb.2 b hb).trans e) f0 f1 f3 f4 f5, rfl, q⟩
/-- name = [..] on one line, the name a local -/
theorem ps_setLc {i : Nat} {y : Str} {py : Pos} {elt tg iter : Expr} {ifs : List Expr} {scope : Scope} {own : List (Str × Nat)} {pos spos : Pos} {wi : TI} {g : TG} {tt : TT} {te : TE} (hc : X.calm = true) (hN : X.N.Nodup) (hy : X.N[i]? = some y) (hyl : X.env.scope.names.lookup y = some .local)
    (hsw : swapsWith (.ListComp elt [⟨tg, iter, ifs, 0⟩] scope pos) (some (.Name y py)) spos.line X.env = pure true) (hi : PI X tg iter wi) (ok : BlkOk X.N X.env.scope scope own)
    (hg : ∀ (s : Shared) (H : Hp) (C : Addr) (cl : List (Str × Addr)) (fp : List Addr), PG (X.blk s H scope (compEnvC scope cl C X.env) fp) tg g) (ht : ∀ (s : Shared) (H : Hp) (C : Addr) (cl : List (Str × Addr)) (fp : List Addr), PTs (X.blk s H scope (compEnvC scope cl C X.env) fp) ifs tt)
    (he : ∀ (s : Shared) (H : Hp) (C : Addr) (cl : List (Str × Addr)) (fp : List Addr), PE (X.blk s H scope (compEnvC scope cl C X.env) fp) elt te) (hs : ∀ x, foldedSetIterable iter X.env x = pure x := by intro _; rfl) :
    PS X (.Assign [.Name y py] (.ListComp elt [⟨tg, iter, ifs, 0⟩] scope pos) spos) (tAsg (tLc wi g tt te (own.map (·.2))) (gName i)) := by
  intro pins s σ H D I h
  rw [exec_Assign_Name_used _ _ _ _ hsw]
  refine wpAny_bind (wpAny_standAt (wpAny_bind ?_))
  show wpAny _ X.A (do let _ ← comprehension (.ListComp elt [⟨tg, iter, ifs, 0⟩] scope pos) scope X.env (firstIterPos [⟨tg, iter, ifs, 0⟩] pos) (newList []) false (eval iter X.env) (some (assign (.Name y py) X.env))) _ _ s
  have h : tLc wi g tt te (own.map (·.2)) σ H (fun x H1 => gName i x σ H1 D.nx) := h
  refine wpAny_bind (thn (lc_core (Qf := fun _ s' => SP X pins D .next s') hc hN I hi ok hg ht he hs h fun L C s' m H' I' q hn f => ?_) fun _ s' hq => wpAny_pure (wpAny_pure hq))
  show wpAny _ _ (assign (.Name y py) X.env (.ref L)) _ _ _
  refine wpAny_assign_Name (store_ok2 (v := V.ref L) I' hN hy (.inl hyl) rfl (fun s2 I2 ⟨a, sb, ha⟩ => ?_) (.inr hyl))
  obtain ⟨f0, f1, f2, f3, f4, f5⟩ := f
  have haC : C ≠ a := by
    rcases ha with z | z
    · rw [z]; exact f1
    · exact fun e => f4 y a z e.symm
  refine ⟨m, hn.sameBut sb haC, fun h3 sb3 => ?_⟩
  exact ⟨_, H', I2.turned (t' := s2.toks) (fun b o hb e => (sb3.2 b hb).trans e) f0 f1 f3 f4 f5, q⟩
theorem sw_true {elt : Expr} {gs : List Comprehension} {scope : Scope} {pos py : Pos} {y : Str} {l : Nat} {env : Env} (hk : env.scope.kind = .function) (hy : env.scope.names.lookup y = some .local) (hl : (py.line == pos.line) = true)
    (ha : (scope.names.any fun (n, k) => n == y && (k == .local || k == .cell)) = false) : swapsWith (.ListComp elt gs scope pos) (some (.Name y py)) l env = pure true := by
  have ky : env.kindOf y = some .local := hy
  have hb : env.blockKind = .function := by unfold Env.blockKind; rw [hk]; rfl
  unfold swapsWith
  simp only [hb, ky, ha, Expr.pos, hl]
  rfl
end
/-- over a range: Pv by the turn and the heap (the new list at D within) -/
theorem lc_range {lo : Int} {n : Nat} {g : TG} {tt : TT} {te : TE} {vs : List Nat} {σ : St} {H1 : Hp} {D : Addr} {Qd : Hp → Prop} (Pv : Nat → Hp → Prop) (h0 : Pv 0 (upd H1 D (.lst [])))
    (hs : ∀ i H, i < n → Pv i H → g (.int (lo + i)) (wipe σ vs) H fun σ2 H2 => wipe σ2 vs = wipe σ vs ∧ tt σ2 H2 fun b H3 =>
      if b = true then te σ2 H3 fun y H4 => ∃ acc, H4 D = some (.lst acc) ∧ acc.length < sizeLine ∧ Pv (i + 1) (upd H4 D (.lst (acc ++ [y]))) else Pv (i + 1) H3) (hd : ∀ H, Pv n H → Qd H) :
    ∃ W : Nat → Nat → Hp → Prop, (∃ m, W 0 m (upd H1 D (.lst []))) ∧ ∀ i m H, W i m H →
      ((Itr lo n).stop i H ∧ Qd H) ∨ ((Itr lo n).go i H ∧ ∃ Nx : Hp → Prop, (∀ H', Nx H' → ∃ m', m' < m ∧ W (i + 1) m' H') ∧ ∀ x H', (Itr lo n).yld i H x H' → g x (wipe σ vs) H' fun σ2 H2 => wipe σ2 vs = wipe σ vs ∧ tt σ2 H2 fun b H3 =>
        if b = true then te σ2 H3 fun y H4 => ∃ acc, H4 D = some (.lst acc) ∧ acc.length < sizeLine ∧ Nx (upd H4 D (.lst (acc ++ [y]))) else Nx H3) := by
  refine ⟨fun i m H => m = n - i ∧ i ≤ n ∧ Pv i H, ⟨n, by simp, Nat.zero_le _, h0⟩, ?_⟩
  rintro i m H ⟨rfl, hi, p⟩
  by_cases hlt : i < n
  · refine .inr ⟨hlt, Pv (i + 1), fun H' p' => ⟨n - (i + 1), by omega, rfl, hlt, p'⟩, fun x H' y => ?_⟩
    obtain ⟨e, y⟩ := y
    subst e y
    exact hs i _ hlt p
  · have e : i = n := by omega
    subst e
    exact .inl ⟨Nat.le_refl _, hd H p⟩
/-- over a list that the block leaves as it is -/
theorem lc_list {K : PySem.W.Frag} {a : Addr} {xs : List V} {g : TG} {tt : TT} {te : TE} {vs : List Nat} {σ : St} {H1 : Hp} {D : Addr} {Qd : Hp → Prop} (Pv : Nat → Hp → Prop) (h0 : Pv 0 (upd H1 D (.lst []))) (hl : ∀ i H, i ≤ xs.length → Pv i H → SqL K H a xs)
    (hs : ∀ i x H, xs[i]? = some x → Pv i H → g x (wipe σ vs) H fun σ2 H2 => wipe σ2 vs = wipe σ vs ∧ tt σ2 H2 fun b H3 =>
      if b = true then te σ2 H3 fun y H4 => ∃ acc, H4 D = some (.lst acc) ∧ acc.length < sizeLine ∧ Pv (i + 1) (upd H4 D (.lst (acc ++ [y]))) else Pv (i + 1) H3) (hd : ∀ H, Pv xs.length H → Qd H) :
    ∃ W : Nat → Nat → Hp → Prop, (∃ m, W 0 m (upd H1 D (.lst []))) ∧ ∀ i m H, W i m H →
      ((Itl K a).stop i H ∧ Qd H) ∨ ((Itl K a).go i H ∧ ∃ Nx : Hp → Prop, (∀ H', Nx H' → ∃ m', m' < m ∧ W (i + 1) m' H') ∧ ∀ x H', (Itl K a).yld i H x H' → g x (wipe σ vs) H' fun σ2 H2 => wipe σ2 vs = wipe σ vs ∧ tt σ2 H2 fun b H3 =>
        if b = true then te σ2 H3 fun y H4 => ∃ acc, H4 D = some (.lst acc) ∧ acc.length < sizeLine ∧ Nx (upd H4 D (.lst (acc ++ [y]))) else Nx H3) := by
  refine ⟨fun i m H => m = xs.length - i ∧ i ≤ xs.length ∧ Pv i H, ⟨xs.length, by simp, Nat.zero_le _, h0⟩, ?_⟩
  rintro i m H ⟨rfl, hi, p⟩
  have q := hl i H hi p
  by_cases hlt : i < xs.length
  · refine .inr ⟨⟨xs, xs[i], q, by simp [hlt]⟩, Pv (i + 1), fun H' p' => ⟨xs.length - (i + 1), by omega, rfl, hlt, p'⟩, fun x H' y => ?_⟩
    obtain ⟨e, y⟩ := y
    subst e
    exact hs i x _ (y xs q) p
  · have e : i = xs.length := by omega
    subst e
    exact .inl ⟨⟨xs, q, Nat.le_refl _⟩, hd H p⟩
def blkC (N : List Str) (sc scope : Scope) (own : List (Str × Nat)) : Bool :=
  (match scope.kind with | .function => true | _ => false) && (scope.names.all fun y => decide (scope.names.lookup y.1 = some y.2)) && (own.all fun p => decide (N[p.2]? = some p.1)) &&
    (scope.names.all fun y => match y.2 with
      | .free => (match sc.names.lookup y.1 with | some .cell => true | some .free => true | _ => false)
      | .local => decide (y.1 ∈ own.map (·.1)) || decide (y.1 ∉ N)
      | .cell => decide (y.1 ∈ own.map (·.1)) || decide (y.1 ∉ N)
      | _ => true)
theorem blkOk_by {N : List Str} {sc scope : Scope} {own : List (Str × Nat)} (h : blkC N sc scope own = true) : BlkOk N sc scope own := by
  unfold blkC at h
  simp only [Bool.and_eq_true, List.all_eq_true, decide_eq_true_eq] at h
  obtain ⟨⟨⟨h1, h2⟩, h3⟩, h4⟩ := h
  refine ⟨?_, h2, h3, fun y hy e => ?_, fun y hy e => ?_⟩
  · split at h1
    · assumption
    · cases h1
  · have q := h4 y hy
    simp only [e] at q
    split at q <;> first | exact .inl (by assumption) | exact .inr (by assumption) | cases q
  · have q := h4 y hy
    rcases e with e | e <;> (simp only [e, Bool.or_eq_true, decide_eq_true_eq] at q; exact q)
end L2
namespace L2
open PySem PySem.Spec PyProof.Rows
section
variable {prog : Program} {w : World} {A : Around} {R : Result → Shared → Prop} {s : Shared} {elt t0 i0 t1 i1 : Expr} {ifs0 ifs1 : List Expr} {scope : Scope} {pos : Pos} {it acc : Value} {env : Env}
end
section
variable {X : Cx}
end
end L2
namespace L2
open PySem PySem.Spec PyProof.Rows
section
variable {κ : Type} [DecidableEq κ]
end
section
variable {P : Program} {w : World} {H : Hp} {h : Heap} {a : Addr}
end
section
variable {X : Cx} {pins : List (Addr × Obj)} {σ : St} {H : Hp} {s : Shared} {a : Addr} {y v : V} {u r : Value} {o : Option V} {A : Around} {E : Value → Shared → Prop}
end
section
variable {X : Cx} {pins : List (Addr × Obj)} {σ : St} {H : Hp} {s : Shared} {a : Addr} {kvs : List (Key × V)} {k : Key} {u : Value} {A : Around} {E : Value → Shared → Prop}
end
section
variable {X : Cx} {o i e value : Expr} {pos pos' tpos : Pos} {td ty tv : TE}
end
section
variable {X : Cx} {pos : Pos}
end
section
variable {X : Cx} {pins : List (Addr × Obj)} {σ : St} {H : Hp} {s : Shared} {a : Addr} {y d : V} {u r : Value} {o : Option V} {A : Around} {E : Value → Shared → Prop}
end
section
variable {X : Cx} {o e f : Expr} {apos cpos : Pos} {td ty tx : TE}
end
section
variable {X : Cx} {pins : List (Addr × Obj)} {σ : St} {H : Hp} {s : Shared} {a : Addr} {kvs : List (Key × V)} {A : Around} {E : Value → Shared → Prop}
end
section
variable {X : Cx} {pins : List (Addr × Obj)} {σ : St} {H : Hp} {s : Shared} {a : Addr} {y : V} {u : Value} {A : Around} {E : Value → Shared → Prop}
end
end L2
namespace L2
open PySem PySem.Spec PyProof.Rows
section
variable {prog : Program} {w : World} {A : Around} {E : Value → Shared → Prop}
end
section
variable {X : Cx}
end
end L2
namespace L2
open PySem PySem.Spec PyProof.Rows
section
variable {X : Cx} {pins : List (Addr × Obj)} {σ : St} {H : Hp} {s : Shared} {h' : Heap}
/-- .. and one new object is laid -/
theorem Inv.turnedNew {t' : Nat} {ch : List Addr} {T : Addr} {ob : HO} (I : Inv X pins σ H s) (k : ∀ b o, b ∉ ch → s.heap.get? b = some o → h'.get? b = some o) (hf : ∀ b ∈ ch, FpOk X pins H b) (hT : s.heap.objs.size ≤ T)
    (new : ObjOk X.prog X.w (upd H T ob) h' T ob) : Inv X pins σ (upd H T ob) { s with heap := h', toks := t' } := by
  have hn : H T = none := I.hok.fresh hT
  have nit : ∀ b u, H b = some u → b ∉ ch := fun b u e z => by
    have q := (hf b z).1
    rw [q] at e; cases e
  refine I.step (g' := s.gens) (d' := s.drawn) (ch := ch) (fun b hb => ⟨(hf b hb).2.2.2.1, (hf b hb).2.1, (hf b hb).2.2.2.2.1, (hf b hb).2.2.2.2.2⟩) (fun b o _ _ hc e _ => k b o hc e) (fun b o _ _ hc e _ => ⟨o.slots, k b o hc e⟩)
    (fun b o _ e n => ?_) (fun b o hc e => ⟨o, k b o hc e⟩) (fun b xs e => ?_) (fun b o u e => ?_) (fun b ps e => ⟨#[], ?_⟩) (fun m hm => ?_) (fun b u e => ?_) I.bare
  · rw [upd_ne (Nat.ne_of_lt (Nat.lt_of_lt_of_le (Heap.lt_size e) hT))]; exact n
  · rw [upd_ne (ne_of_none e hn)]; exact e
  · rw [upd_ne (ne_of_none e hn)]; exact e
  · rw [upd_ne (ne_of_none e hn), e]; simp
  · obtain ⟨o, es, ep, ho, r⟩ := hm
    exact ⟨o, es, ep, k _ o (fun z => (hf _ z).2.1 rfl) ho, r⟩
  · by_cases hb : b = T
    · subst hb
      rw [upd_same] at e
      cases e
      exact new
    · rw [upd_ne hb] at e
      refine (I.hok b u e).stay (fun c v hc q => k c v ?_ q) (fun c q => by rw [upd_ne (ne_of_none q hn)]; exact q) fun c xs q => by rw [upd_ne (ne_of_none q hn)]; exact q
      rcases hc with z | z
      · rw [z]; exact nit b u e
      · exact nit c _ z
end
section
variable {X : Cx}
end
section
variable {X : Cx} {tg : Expr}
end
section
variable {X : Cx} {tg : Expr}
end
section
variable {prog : Program} {w : World} {A : Around} {E : Value → Shared → Prop} {s : Shared}
end
section
variable {X : Cx} {pins : List (Addr × Obj)} {σ : St} {H : Hp} {s : Shared} {d : Addr} {o : Obj}
end
section
variable {P : Program} {w : World} {K : PySem.W.Frag} {tg : Expr} {d : Addr} {o : Obj} {es : Array DictEntry} {ep : Nat}
end
section
variable {X : Cx} {tg e : Expr} {td : TE} {apos cpos : Pos}
end
/-- the list at a as it stands at each turn, each item in a new pair -/
def Ite (K : PySem.W.Frag) (a : Addr) : It :=
  ⟨fun i H => ∃ (xs : List V) (x : V), SqL K H a xs ∧ xs[i]? = some x, fun i H v H' => ∃ T x, v = .ref T ∧ H T = none ∧ H' = upd H T (.tup [.int (i : Nat), x]) ∧ ∀ xs, SqL K H a xs → xs[i]? = some x, fun i H => ∃ xs : List V, SqL K H a xs ∧ xs.length ≤ i⟩
theorem turn_enum {P : Program} {w : World} {K : PySem.W.Frag} {elts : List Expr} {kk : Nat} {tpos : Pos} (a e it : Addr) :
    Turn P w K (.Tuple elts kk tpos) (Ite K a) [e, it] e (fun i h => (∃ old, IsEnum h e it ((i : Nat) : Int) old) ∧ h.IsListIter it a i ∧ e ≠ it) where
  mem := by simp
  obj := fun i h st b hb => by
    obtain ⟨⟨old, he⟩, ⟨o, ho, hc, hd⟩, _⟩ := st
    have e' : b = e ∨ b = it := by simpa using hb
    rcases e' with z | z
    · rw [z]; exact ⟨_, he, fun v q => nomatch q⟩
    · rw [z]; exact ⟨o, ho, fun v q => by rw [hd] at q; cases q⟩
  keep := fun i h h' st k => let ⟨⟨old, he⟩, hi, hne⟩ := st; ⟨⟨old, k e (by simp) _ he⟩, hi.at fun o q => k it (by simp) o q, hne⟩
  item := by
    intro X hP hw hK hc i pins s σ H E I hf st hg
    subst hP hw hK
    obtain ⟨⟨old, he⟩, hit, hne⟩ := st
    obtain ⟨xs, x, hq, hx⟩ := hg
    obtain ⟨its, rv, p, hz⟩ := I.list hq
    obtain ⟨u, hu, ru⟩ := rv.get hx
    have hel : e < s.heap.objs.size := Heap.lt_size he
    have hil : it < s.heap.objs.size := by obtain ⟨_, q, _⟩ := hit; exact Heap.lt_size q
    refine wpAny_pyNext_enum_item he hit p.isList (x := u) (by simpa using hu) hne fun h' ho hit' hT hsz hk => ?_
    refine ⟨_, rfl, wpAny_letOwnedTupleGo_enum (s := { s with heap := h', toks := s.toks + 1 }) ho fun h'' he' sb => ?_⟩
    have hT2 : h''.get? s.heap.objs.size = some { cls := .type "tuple", data := .seq #[.int i s.toks, u] } := (sb.2 _ (Nat.ne_of_gt hel)).trans hT
    have new : ObjOk X.prog X.w (upd H s.heap.objs.size (.tup [.int (i : Nat), x])) h'' s.heap.objs.size (.tup [.int (i : Nat), x]) :=
      ⟨by show 2 ≤ sizeLine; decide, [.int i s.toks, u], .cons ⟨_, rfl⟩ (.cons ru .nil), ⟨_, hT2, rfl, _, rfl⟩⟩
    have I1 : Inv X pins σ (upd H s.heap.objs.size (.tup [.int (i : Nat), x])) { s with heap := h'', toks := s.toks + 1 } :=
      I.turnedNew (ch := [e, it]) (fun b ob hb q => (sb.2 b (fun z => hb (by simp [z]))).trans (hk b ob (fun z => hb (by simp [z])) (fun z => hb (by simp [z])) q)) hf (Nat.le_refl _) new
    refine ⟨.ref s.heap.objs.size, _, I1, rfl, ⟨_, x, rfl, I.hok.fresh (Nat.le_refl _), rfl, fun ys hy => by rw [I.list_inj hy hq]; exact hx⟩, ⟨⟨u, ?_⟩, hit'.at fun o q => (sb.2 it (Ne.symm hne)).trans q, hne⟩, fun b hb => ?_⟩
    · have e1 : ((i + 1 : Nat) : Int) = (i : Int) + 1 := by omega
      rw [e1]; exact he'
    · have hb' : b < s.heap.objs.size := by
        have e' : b = e ∨ b = it := by simpa using hb
        rcases e' with z | z
        · rw [z]; exact hel
        · rw [z]; exact hil
      rw [upd_ne (Nat.ne_of_lt hb')]
      exact (hf b hb).1
  done := by
    intro X hP hw hK hc i pins s σ H E I hf st hg
    subst hP hw hK
    obtain ⟨⟨old, he⟩, hit, hne⟩ := st
    obtain ⟨xs, hq, hx⟩ := hg
    obtain ⟨its, rv, p, hz⟩ := I.list hq
    obtain ⟨f0, f1, f2, f3, f4, f5⟩ := hf it (by simp)
    have hl := rv.length
    exact wpAny_pyNext_enum_end (I.ok.hd hc) he hit p.isList (by simp; omega) fun h' eb => ⟨rfl, I.turned (t' := s.toks) (fun b o hb q => eb b o hb q) f0 f1 f3 f4 f5⟩
  self := fun A i s Q E st h => let ⟨⟨_, he⟩, _⟩ := st; wpAny_pyIter_enum he h
def iEnum (K : PySem.W.Frag) (ta : TA) : TI := fun σ H R => ta σ H fun vs H1 => ∃ a xs, vs = [.ref a] ∧ SqL K H1 a xs ∧ R (Ite K a) H1
theorem pi_enum {X : Cx} {e : Expr} {ta : TA} {p pos tpos : Pos} {elts : List Expr} {kk : Nat} (hg : Gl X "enumerate") (hm : X.mg "enumerate" = none) (ha : PA X [e] ta) (hs : starEach [e] X.env = [(false, eval e X.env)] := by rfl) :
    PI X (.Tuple elts kk tpos) (.Call (.Name "enumerate" p) [e] [] pos) (iEnum X.K ta) := by
  intro pins s σ H R I h
  refine Call_ (ld_blt I hg hm boot_enumerate (PyProof.Rows.callWith_type1 (thn (ha pos pins s σ H _ I h) fun us s1 ⟨vs, H1, I1, r1, q1⟩ => ?_) hs rfl))
  obtain ⟨a, xs, ex, hq, q⟩ := q1
  subst ex
  cases r1 with
  | cons r rr =>
    cases rr
    cases r
    obtain ⟨its, rv, p', hz⟩ := I1.list hq
    refine call_enumerate_list p'.isList fun h' he hit hsz hk => wpAny_pyIter_enum he ?_
    have I2 : Inv X pins σ H1 { s1 with heap := h' } := I1.kept (t' := s1.toks) hk
    refine ⟨s1.heap.objs.size + 1, [s1.heap.objs.size + 1, s1.heap.objs.size], _, _, H1, rfl, I2, turn_enum a (s1.heap.objs.size + 1) s1.heap.objs.size, ⟨⟨.none, he⟩, hit, Nat.succ_ne_self _⟩, fun b hb => ?_, q⟩
    have e' : b = s1.heap.objs.size + 1 ∨ b = s1.heap.objs.size := by simpa using hb
    have hle : s1.heap.objs.size ≤ b := by
      rcases e' with z | z
      · rw [z]; exact Nat.le_add_right _ _
      · rw [z]; exact Nat.le_refl _
    exact I1.fpOk hle (I1.hok.fresh hle)
end L2
section
namespace Bits
open PySem PyProof.Rows
/-- (x >> i) & 1 -/
theorem bit_at {x : Int} (i : Nat) : Builtin.bitAnd (x.fdiv (2 ^ i)) 1 = x / 2 ^ i % 2 := by
  have hp : (0 : Int) ≤ 2 ^ i := by
    rw [two_pow_cast]
    exact Int.natCast_nonneg _
  rw [Int.fdiv_eq_ediv_of_nonneg _ hp, bitAnd_m1]
theorem bitOr_pp {x y : Int} (hx : 0 ≤ x) (hy : 0 ≤ y) : Builtin.bitOr x y = ((x.toNat ||| y.toNat : Nat) : Int) := by
  have e := nat_or_add_and x.toNat y.toNat
  rw [bitOr_and, bitAnd_pp hx hy]
  omega
end Bits
end
section
namespace TL
open PySem PySem.Builtin PySem.Builtin.Str PySem.StrLaws
end TL
end
namespace L2
open PySem PySem.Spec PyProof.Rows
section
variable {X : Cx} {pins : List (Addr × Obj)} {σ : St} {H : Hp} {s : Shared} {Q : VK}
end
section
variable {X : Cx}
end
section
variable {X : Cx} {o e : Expr} {to te : TE}
end
end L2
namespace L2
open PySem PySem.Spec PyProof.Rows
section
variable {X : Cx}
end
end L2
namespace Att
open PySem PySem.W PySem.Calls PyProof.Rows
section
variable {prog : Program} {w : World} {A : Around} {E : Value → Shared → Prop} {s : Shared} {K : Frag}
end
end Att
namespace L2
open PySem PySem.Spec PyProof.Rows
end L2
namespace L2
open PySem PySem.Spec PyProof.Rows
end L2
namespace L2
open PySem PySem.Spec PyProof.Rows
/-- the j-th statement of a class's body -/
def inClass (s : Stmt) (j : Nat) : Stmt := match s with
  | .ClassDef _ _ _ body _ _ _ _ _ _ _ => body.getD j (.Pass ⟨0, 0, 0, 0⟩)
  | _ => .Pass ⟨0, 0, 0, 0⟩
def defArgs (s : Stmt) : Arguments := match s with
  | .FunctionDef _ a _ _ _ _ _ _ _ _ => a
  | _ => { posonlyargs := [], args := [], vararg := none, kwonlyargs := [], kw_defaults := [], kwarg := none, defaults := [] }
def defBody (s : Stmt) : List Stmt := match s with
  | .FunctionDef _ _ b _ _ _ _ _ _ _ => b
  | _ => []
def defScope (s : Stmt) : Scope := match s with
  | .FunctionDef _ _ _ _ _ _ sc _ _ _ => sc
  | _ => { kind := .function, names := [], isGenerator := false, isCoroutine := false }
abbrev CX0 : CXT := fun _ _ _ _ _ _ => False
abbrev E0 : XK := fun _ _ _ => False
theorem pass0 {X : Cx} : Passes CX0 X E0 := fun _ _ _ _ _ _ _ h => h.elim
structure Fun (K : PySem.W.Frag) (x qual : Str) (st : Stmt) (f : Addr) (fd : FuncData) : Prop where
  ex : ∃ (oc : Value) (od : Option Addr) (kV doc pm : Value) (an : Option Addr) (cdv ct : Value) (osl : Array (Option Value)),
    fd = PySem.W.fnOf x qual (defArgs st) (defBody st) (defScope st) .none kV doc pm an cdv ct ∧ K.lookup f = some ⟨oc, od, .func fd, osl⟩ ∧ PySem.W.codeIn K cdv qual = true
  kp : PySem.W.keepIn K (.ref f) = true
section
variable {P : Program} {w : World} {K : PySem.W.Frag} {mg : Str → Option Value} {base : Heap}
/-- THE RULE for a def: its body as a term of rules, and the reading of that term -/
theorem Fun.ok {x qual : Str} {st : Stmt} {f : Addr} {fd : FuncData} {N ps : List Str} {k : Nat} {sp : Sp} (F : Fun K x qual st f fd) (S : FnScope N ps (defScope st)) (len : ∀ vs H Q E, sp vs H Q E → vs.length = ps.length)
    (hbody : ∀ (cdv : Value) (A : Around) (outer : List Env) (s : Shared) (H : Hp) (vs : List V) (Q : VK) (E : XK), Room k (A.deeper (envOfC qual (defScope st) s.heap.objs.size f cdv)) → sp vs H Q E →
      ∃ t, PSs (cxOf CX0 P w K mg base N qual (defScope st) f cdv A outer s H E).nox (defBody st) t ∧ t { nx := fun _ H' => Q .non H', rt := Q } (start N vs) H) : FnOk P w K mg base CX0 (k + 1) f fd ps sp := by
  obtain ⟨oc, od, kV, doc, pm, an, cdv, ct, osl, rfl, lk, hcd⟩ := F.ex
  refine fn_of lk hcd S len fun A outer s H vs Q E hr hsp => ?_
  obtain ⟨t, h, q⟩ := hbody cdv A outer s H vs Q E hr hsp
  exact ⟨t, h.nox, q⟩
/-- how its arguments bind (no defaults): h is «fun _ _ _ _ _ _ us hl => match us, hl with | [_, _], _ => rfl», one _ a parameter -/
theorem Fun.binds {x qual : Str} {st : Stmt} {f : Addr} {fd : FuncData} {ps : List Str} (F : Fun K x qual st f fd)
    (h : ∀ (kV doc pm : Value) (an : Option Addr) (cdv ct : Value) (us : List Value), us.length = ps.length → bindArgs (PySem.W.fnOf x qual (defArgs st) (defBody st) (defScope st) .none kV doc pm an cdv ct) ⟨us, []⟩ = pure (ps.zip us)) : Binds K fd ps [] := by
  obtain ⟨oc, od, kV, doc, pm, an, cdv, ct, osl, rfl, lk, hcd⟩ := F.ex
  exact .all (h kV doc pm an cdv ct)
theorem fun_mk {x qual : Str} {st : Stmt} {f : Addr} {oc : Value} {od an : Option Addr} {osl : Array (Option Value)} {kV doc pm cdv ct : Value} (l : K.lookup f = some ⟨oc, od, .func (PySem.W.fnOf x qual (defArgs st) (defBody st) (defScope st) .none kV doc pm an cdv ct), osl⟩)
    (c : PySem.W.codeIn K cdv qual = true) (k : PySem.W.keepIn K (.ref f) = true) : Fun K x qual st f (PySem.W.fnOf x qual (defArgs st) (defBody st) (defScope st) .none kV doc pm an cdv ct) := ⟨⟨oc, od, kV, doc, pm, an, cdv, ct, osl, rfl, l, c⟩, k⟩
end
section
variable {X : Cx}
theorem pv (i : Nat) {x : Str} {pos : Pos} (hN : X.N[i]? = some x := by rfl) (hv : Vis X.env.scope x := by first | exact Or.inl rfl | exact Or.inr (Or.inl rfl) | exact Or.inr (Or.inr rfl)) (hd : (x == ("__debug__" : Str)) = false := by decide)
    (hcd : (x == ("__classdict__" : Str)) = false := by decide) : PE X (.Name x pos) (tVar i) := pe_var hN hv hd hcd
end
theorem iteF {A B : Prop} (h : B) : if false = true then A else B := by
  rw [if_neg Bool.false_ne_true]
  exact h
theorem iteT {A B : Prop} (h : A) : if true = true then A else B := by
  rw [if_pos rfl]
  exact h
/-- all that was tracked is as it was -/
def Same (H H' : Hp) : Prop := ∀ b o, H b = some o → H' b = some o
theorem Same.refl (H : Hp) : Same H H := fun _ _ h => h
theorem Same.trans {H H1 H2 : Hp} (a : Same H H1) (b : Same H1 H2) : Same H H2 := fun c o h => b c o (a c o h)
theorem Same.free {H H' : Hp} (e : Same H H') {l : Addr} (h : H' l = Option.none) : H l = Option.none := by
  cases q : H l with
  | none => rfl
  | some o =>
    rw [e l o q] at h
    cases h
theorem Same.seq {K : PySem.W.Frag} {H H' : Hp} {a : Addr} {xs : List V} (e : Same H H') (h : SqL K H a xs) : SqL K H' a xs := by
  rcases h with (h | ⟨o, h⟩) | h
  · exact .inl (.inl (e _ _ h))
  · exact .inl (.inr ⟨o, e _ _ h⟩)
  · exact .inr h
section
variable {κ : Type} [DecidableEq κ]
end
end L2
section
set_option Elab.async false
set_option linter.all false
set_option maxRecDepth 100000
set_option maxHeartbeats 2000000
namespace L2
open PySem PySem.Spec PyProof.Rows
open PySem.W (WData Codec OpenSpec Well WellAll ReadsW ReadsAllW)
mutual
/-- x stands for the datum d, lists and tuples all the way -/
inductive Dw (K : PySem.W.Frag) (H : Hp) : V → WData → Prop
  | non : Dw K H .non .none
  | bl (b : Bool) : Dw K H (.bl b) (.bool b)
  | int (i : Int) : Dw K H (.int i) (.int i)
  | str (x : Str) : Dw K H (.str x) (.str x)
  | byt (b : Array UInt8) : Dw K H (.byt b) (.bytes b.toList)
  | lst {a : Addr} {xs : List V} {ds : List WData} : SqL K H a xs → DwAll K H xs ds → Dw K H (.ref a) (.list ds)
  | tup {a : Addr} {xs : List V} {ds : List WData} : SqT K H a xs → DwAll K H xs ds → Dw K H (.ref a) (.tuple ds)
inductive DwAll (K : PySem.W.Frag) (H : Hp) : List V → List WData → Prop
  | nil : DwAll K H [] []
  | cons {v : V} {vs : List V} {d : WData} {ds : List WData} : Dw K H v d → DwAll K H vs ds → DwAll K H (v :: vs) (d :: ds)
end
theorem dw_ints {K : PySem.W.Frag} {H : Hp} : ∀ ns : List Int, DwAll K H (ns.map V.int) (ns.map WData.int)
  | [] => .nil
  | n :: r => .cons (.int n) (dw_ints r)
theorem ints_dw {K : PySem.W.Frag} {H : Hp} : ∀ (ns : List Int) (xs : List V), DwAll K H xs (ns.map WData.int) → xs = ns.map V.int
  | [], xs, h => by
    cases h
    rfl
  | n :: r, xs, h => by
    cases h with
    | cons h1 h2 =>
      cases h1
      rw [ints_dw r _ h2] <;> rfl
section
variable {P : Program} {w : World} {K : PySem.W.Frag} {H : Hp} {h : Heap} {R : PySem.W.WRecords} {cl : Str → Option Addr}
theorem sqL_at {a : Addr} {xs : List V} (hok : HOk P w H h) (KX : K.In h) (q : SqL K H a xs) : ∃ (its : List Value) (o : Obj) (n : Nat), Vals xs its ∧ h.get? a = some o ∧ o.cls = .type "list" ∧ o.data = .seq its.toArray n := by
  rcases q with q | ⟨o, its, n, e, hc, _, hd, _, hv⟩
  · obtain ⟨_, its, n, hv, e⟩ := (show ObjOk P w H h a (.lst xs) from q.ok hok)
    exact ⟨its, _, n, hv, e, rfl, rfl⟩
  · exact ⟨its.toList, o, n, hv, KX _ _ e, hc, by simp [hd]⟩
theorem sqT_at {a : Addr} {xs : List V} (hok : HOk P w H h) (KX : K.In h) (q : SqT K H a xs) : ∃ (its : List Value) (o : Obj) (n : Nat), Vals xs its ∧ h.get? a = some o ∧ o.cls = .type "tuple" ∧ o.data = .seq its.toArray n := by
  rcases q with q | ⟨o, its, n, e, hc, hd, _, hv⟩
  · obtain ⟨_, its, hv, o, e, hc, n, hd⟩ := (show ObjOk P w H h a (.tup xs) from q.ok hok)
    exact ⟨its, o, n, hv, e, hc, hd⟩
  · exact ⟨its.toList, o, n, hv, KX _ _ e, hc, by simp [hd]⟩
mutual
theorem Dw.reads (hok : HOk P w H h) (KX : K.In h) : ∀ (d : WData) (v : V) (u : Value), Dw K H v d → RelV v u → ∃ as, ReadsW R cl h u d as
  | .none, _, _, x, r => by
    cases x
    cases r
    exact ⟨_, ReadsW.none⟩
  | .bool b, _, _, x, r => by
    cases x
    cases r
    exact ⟨_, ReadsW.bool b⟩
  | .int i, _, _, x, r => by
    cases x
    obtain ⟨t, rfl⟩ := r
    exact ⟨_, ReadsW.int i t⟩
  | .str s, _, _, x, r => by
    cases x
    obtain ⟨t, rfl⟩ := r
    exact ⟨_, ReadsW.str s t⟩
  | .bytes b, _, _, x, r => by
    cases x
    obtain ⟨t, rfl⟩ := r
    exact ⟨_, ReadsW.bytes _ t⟩
  | .list ds, _, _, x, r => by
    cases x with
    | lst hs ha =>
      cases r
      obtain ⟨its, o, n, rv, ho, hc, hd⟩ := sqL_at hok KX hs
      obtain ⟨as, hr⟩ := Dw.readsAll hok KX ds _ its ha rv
      exact ⟨_, ReadsW.list ho hc hd hr⟩
  | .tuple ds, _, _, x, r => by
    cases x with
    | tup hs ha =>
      cases r
      obtain ⟨its, o, n, rv, ho, hc, hd⟩ := sqT_at hok KX hs
      obtain ⟨as, hr⟩ := Dw.readsAll hok KX ds _ its ha rv
      exact ⟨_, ReadsW.tuple ho hc hd hr⟩
  | .float _, _, _, x, _ => by cases x
  | .dict _, _, _, x, _ => by cases x
  | .bytearray _, _, _, x, _ => by cases x
  | .set _, _, _, x, _ => by cases x
  | .frozenset _, _, _, x, _ => by cases x
  | .obj _ _, _, _, x, _ => by cases x
theorem Dw.readsAll (hok : HOk P w H h) (KX : K.In h) : ∀ (ds : List WData) (vs : List V) (us : List Value), DwAll K H vs ds → Vals vs us → ∃ as, ReadsAllW R cl h us ds as
  | [], _, _, x, r => by
    cases x
    cases r
    exact ⟨_, ReadsAllW.nil⟩
  | d :: ds, _, _, x, r => by
    cases x with
    | cons h1 h2 =>
      cases r with
      | cons r1 r2 =>
        obtain ⟨as, q1⟩ := Dw.reads hok KX d _ _ h1 r1
        obtain ⟨bs, q2⟩ := Dw.readsAll hok KX ds _ _ h2 r2
        exact ⟨_, ReadsAllW.cons q1 q2⟩
end
end
mutual
/-- data that a codec tells -/
def plW : WData → Bool
  | .none => true
  | .bool _ => true
  | .int _ => true
  | .str _ => true
  | .bytes _ => true
  | .list xs => plWs xs
  | .tuple xs => plWs xs
  | _ => false
def plWs : List WData → Bool
  | [] => true
  | x :: r => plW x && plWs r
end
theorem plWs_map {α : Type} {f : α → WData} (h : ∀ a, plW (f a) = true) : ∀ l : List α, plWs (l.map f) = true
  | [] => rfl
  | x :: r => by
    show (plW (f x) && plWs (r.map f)) = true
    rw [h x, plWs_map h r] <;> rfl
theorem pl_enc : ∀ (c : Codec) (a : c.denote), plW (c.enc a) = true
  | .unit, _ => rfl
  | .bool, _ => rfl
  | .int _ _, _ => rfl
  | .nat _ _, _ => rfl
  | .u8, _ => rfl
  | .bytes _ _, _ => rfl
  | .text _ _ _ _, _ => rfl
  | .list _ _ c, a => plWs_map (fun x => pl_enc c x) a
  | .pair c d, a => by
    show (plW (c.enc a.1) && (plW (d.enc a.2) && true)) = true
    rw [pl_enc c a.1, pl_enc d a.2] <;> rfl
  | .triple c d e, a => by
    show (plW (c.enc a.1) && (plW (d.enc a.2.1) && (plW (e.enc a.2.2) && true))) = true
    rw [pl_enc c a.1, pl_enc d a.2.1, pl_enc e a.2.2] <;> rfl
  | .option c, none => rfl
  | .option c, some x => pl_enc c x
theorem pl_encAll : ∀ (cs : List Codec) (a : Codec.denoteAll cs), plWs (Codec.encAll cs a) = true
  | [], _ => rfl
  | c :: cs, a => by
    show (plW (c.enc a.1) && plWs (Codec.encAll cs a.2)) = true
    rw [pl_enc c a.1, pl_encAll cs a.2] <;> rfl
theorem weight_mem : ∀ {xs : List WData} {d : WData}, d ∈ xs → d.weight ≤ WData.weightAll xs
  | [], d, h => absurd h (by simp)
  | x :: r, d, h => by
    show d.weight ≤ x.weight + 1 + WData.weightAll r
    rcases List.mem_cons.mp h with e | m
    · rw [e]
      omega
    · have z := weight_mem m
      omega
def toV : Value → V
  | .none => .non
  | .bool b => .bl b
  | .int i _ => .int i
  | .str x _ => .str x
  | .bytes b _ => .byt b
  | .ref a => .ref a
  | _ => .non
/-- a value of the arguments, its objects among A -/
def OkU (A : List Addr) : Value → Prop
  | .none => True
  | .bool _ => True
  | .int _ _ => True
  | .str _ _ => True
  | .bytes _ _ => True
  | .ref a => a ∈ A
  | _ => False
theorem OkU.mono {A B : List Addr} (h : ∀ a ∈ A, a ∈ B) : ∀ {u : Value}, OkU A u → OkU B u := fun {u} x => by
  cases u with
  | ref a => exact h a x
  | none => trivial
  | bool b => trivial
  | int i t => trivial
  | str s t => trivial
  | bytes b t => trivial
  | _ => exact False.elim x
theorem relV_toV {A : List Addr} {u : Value} (x : OkU A u) : RelV (toV u) u := by
  cases u with
  | ref a => rfl
  | none => rfl
  | bool b => rfl
  | int i t => exact ⟨t, rfl⟩
  | str s t => exact ⟨t, rfl⟩
  | bytes b t => exact ⟨t, rfl⟩
  | _ => exact False.elim x
theorem vals_toV {A : List Addr} : ∀ {vs : List Value}, (∀ u ∈ vs, OkU A u) → Vals (vs.map toV) vs
  | [], _ => .nil
  | u :: r, h => .cons (relV_toV (h u (List.mem_cons_self ..))) (vals_toV fun x hx => h x (List.mem_cons_of_mem _ hx))
/-- an object of the arguments -/
def ArgOb (h : Heap) (A : List Addr) (a : Addr) : Prop := ∃ vs : List Value, vs.length ≤ sizeLine ∧ (∀ u ∈ vs, OkU A u) ∧
  (h.get? a = some { cls := .type "list", data := .seq vs.toArray } ∨ h.get? a = some { cls := .type "tuple", data := .seq vs.toArray })
theorem ArgOb.mono {h : Heap} {A B : List Addr} {a : Addr} (k : ∀ a ∈ A, a ∈ B) (x : ArgOb h A a) : ArgOb h B a := by
  obtain ⟨vs, h1, h2, h3⟩ := x
  exact ⟨vs, h1, fun u hu => (h2 u hu).mono k, h3⟩
theorem wellAll_len {P : Params} {h : Heap} : ∀ {vs : List Value} {ds : List WData}, WellAll P h vs ds → vs.length = ds.length
  | _, _, .nil => rfl
  | _, _, .cons _ b => by
    show _ + 1 = _ + 1
    rw [wellAll_len b]
theorem well_list {P : Params} {h : Heap} {v : Value} {ds : List WData} (x : Well P h v (.list ds)) : ∃ (a : Addr) (vs : List Value), v = .ref a ∧ h.get? a = some { cls := .type "list", data := .seq vs.toArray } ∧ WellAll P h vs ds := by
  cases x with
  | list ho hall => exact ⟨_, _, rfl, ho, hall⟩
theorem well_tuple {P : Params} {h : Heap} {v : Value} {ds : List WData} (x : Well P h v (.tuple ds)) : ∃ (a : Addr) (vs : List Value), v = .ref a ∧ h.get? a = some { cls := .type "tuple", data := .seq vs.toArray } ∧ WellAll P h vs ds := by
  cases x with
  | tuple ho hall => exact ⟨_, _, rfl, ho, hall⟩
theorem well_cons {P : Params} {h : Heap} {us : List Value} {d : WData} {ds : List WData} (x : WellAll P h us (d :: ds)) : ∃ (v : Value) (vs : List Value), us = v :: vs ∧ Well P h v d ∧ WellAll P h vs ds := by
  cases x with
  | cons a b => exact ⟨_, _, rfl, a, b⟩
theorem line_of {n : Nat} (h : n ≤ 1048576) : n ≤ sizeLine := Nat.le_trans h (by decide)
section
variable {P : Params} {h : Heap}
mutual
theorem area_one : ∀ (d : WData) (v : Value), Well P h v d → plW d = true → d.weight ≤ 1048576 → ∃ A : List Addr, OkU A v ∧ ∀ a ∈ A, ArgOb h A a
  | .none, _, x, _, _ => by
    cases x
    exact ⟨[], trivial, fun a m => absurd m (by simp)⟩
  | .bool b, _, x, _, _ => by
    cases x
    exact ⟨[], trivial, fun a m => absurd m (by simp)⟩
  | .int i, _, x, _, _ => by
    cases x
    exact ⟨[], trivial, fun a m => absurd m (by simp)⟩
  | .str s, _, x, _, _ => by
    cases x
    exact ⟨[], trivial, fun a m => absurd m (by simp)⟩
  | .bytes b, _, x, _, _ => by
    cases x
    exact ⟨[], trivial, fun a m => absurd m (by simp)⟩
  | .list ds, _, x, p, z => by
    obtain ⟨a, vs, rfl, ho, hall⟩ := well_list x
    have z2 : WData.weightAll ds ≤ 1048576 := z
    obtain ⟨A, h1, h2⟩ := area_all ds _ hall p fun d hd => Nat.le_trans (weight_mem hd) z2
    have k : ∀ b ∈ A, b ∈ a :: A := fun b hb => List.mem_cons_of_mem _ hb
    refine ⟨a :: A, List.mem_cons_self .., fun b hb => ?_⟩
    rcases List.mem_cons.mp hb with e | m
    · rw [e]
      exact ⟨vs, line_of (by rw [wellAll_len hall]; exact Nat.le_trans (PySem.W.length_le_weightAllW ds) z2), fun u hu => (h1 u hu).mono k, .inl ho⟩
    · exact (h2 b m).mono k
  | .tuple ds, _, x, p, z => by
    obtain ⟨a, vs, rfl, ho, hall⟩ := well_tuple x
    have z2 : WData.weightAll ds ≤ 1048576 := z
    obtain ⟨A, h1, h2⟩ := area_all ds _ hall p fun d hd => Nat.le_trans (weight_mem hd) z2
    have k : ∀ b ∈ A, b ∈ a :: A := fun b hb => List.mem_cons_of_mem _ hb
    refine ⟨a :: A, List.mem_cons_self .., fun b hb => ?_⟩
    rcases List.mem_cons.mp hb with e | m
    · rw [e]
      exact ⟨vs, line_of (by rw [wellAll_len hall]; exact Nat.le_trans (PySem.W.length_le_weightAllW ds) z2), fun u hu => (h1 u hu).mono k, .inr ho⟩
    · exact (h2 b m).mono k
  | .float _, _, _, p, _ => Bool.noConfusion (show false = true from p)
  | .dict _, _, _, p, _ => Bool.noConfusion (show false = true from p)
  | .bytearray _, _, _, p, _ => Bool.noConfusion (show false = true from p)
  | .set _, _, _, p, _ => Bool.noConfusion (show false = true from p)
  | .frozenset _, _, _, p, _ => Bool.noConfusion (show false = true from p)
  | .obj _ _, _, _, p, _ => Bool.noConfusion (show false = true from p)
theorem area_all : ∀ (ds : List WData) (vs : List Value), WellAll P h vs ds → plWs ds = true → (∀ d ∈ ds, d.weight ≤ 1048576) → ∃ A : List Addr, (∀ u ∈ vs, OkU A u) ∧ ∀ a ∈ A, ArgOb h A a
  | [], _, x, _, _ => by
    cases x
    exact ⟨[], fun u m => absurd m (by simp), fun a m => absurd m (by simp)⟩
  | d :: ds, _, x, p, z => by
    obtain ⟨v, vs, rfl, x1, x2⟩ := well_cons x
    have q : plW d = true ∧ plWs ds = true := Bool.and_eq_true_iff.mp p
    obtain ⟨A, a1, a2⟩ := area_one d v x1 q.1 (z d (List.mem_cons_self ..))
    obtain ⟨B, b1, b2⟩ := area_all ds vs x2 q.2 fun e he => z e (List.mem_cons_of_mem _ he)
    have kA : ∀ b ∈ A, b ∈ A ++ B := fun b hb => List.mem_append.mpr (.inl hb)
    have kB : ∀ b ∈ B, b ∈ A ++ B := fun b hb => List.mem_append.mpr (.inr hb)
    refine ⟨A ++ B, fun u hu => ?_, fun b hb => ?_⟩
    · rcases List.mem_cons.mp hu with e | m
      · rw [e]
        exact a1.mono kA
      · exact (b1 u m).mono kB
    · rcases List.mem_append.mp hb with m | m
      · exact (a2 b m).mono kA
      · exact (b2 b m).mono kB
end
end
/-- what is tracked of an argument's object -/
def hoOf (o : Obj) : Option HO := match o.data with
  | .seq vs _ => if (o.cls == Value.type "list") = true then some (.frz o (.lst (vs.toList.map toV))) else some (.frz o (.tup (vs.toList.map toV)))
  | _ => none
def argH (K : PySem.W.Frag) (h : Heap) (A : List Addr) : Hp := fun b => if b ∈ A then (if (K.lookup b).isNone = true then (h.get? b).bind hoOf else none) else none
/-- nothing is tracked but what is known to the object -/
def OnlyF (H : Hp) : Prop := ∀ b, H b = none ∨ ∃ o u, H b = some (.frz o u)
theorem hoOf_lst (vs : List Value) : hoOf { cls := .type "list", data := .seq vs.toArray } = some (.frz { cls := .type "list", data := .seq vs.toArray } (.lst (vs.map toV))) := by
  show (if (Value.type "list" == Value.type "list") = true then some (HO.frz { cls := .type "list", data := .seq vs.toArray } (.lst (vs.toArray.toList.map toV))) else some (HO.frz { cls := .type "list", data := .seq vs.toArray } (.tup (vs.toArray.toList.map toV)))) = _
  rw [if_pos (beq_self_eq_true _)]
theorem hoOf_tup (vs : List Value) : hoOf { cls := .type "tuple", data := .seq vs.toArray } = some (.frz { cls := .type "tuple", data := .seq vs.toArray } (.tup (vs.map toV))) := by
  show (if (Value.type "tuple" == Value.type "list") = true then some (HO.frz { cls := .type "tuple", data := .seq vs.toArray } (.lst (vs.toArray.toList.map toV))) else some (HO.frz { cls := .type "tuple", data := .seq vs.toArray } (.tup (vs.toArray.toList.map toV)))) = _
  rw [if_neg (by decide)]
section
variable {P : Program} {w : World} {K : PySem.W.Frag} {h : Heap} {A : List Addr}
theorem argH_at {b : Addr} {o : Obj} (hb : b ∈ A) (hk : K.lookup b = none) (e : h.get? b = some o) : argH K h A b = hoOf o := by
  unfold argH
  rw [if_pos hb, hk, if_pos (show (none : Option Obj).isNone = true from rfl), e] <;> rfl
theorem of_argH {b : Addr} {u : HO} (q : argH K h A b = some u) : b ∈ A ∧ K.lookup b = none := by
  unfold argH at q
  by_cases hb : b ∈ A
  · rw [if_pos hb] at q
    cases hk : K.lookup b with
    | none => exact ⟨hb, rfl⟩
    | some o =>
      rw [hk, if_neg (by simp)] at q
      cases q
  · rw [if_neg hb] at q
    cases q
/-- what stands tracked -/
theorem argH_is (ar : ∀ a ∈ A, ArgOb h A a) {b : Addr} {u : HO} (q : argH K h A b = some u) : K.lookup b = none ∧ ∃ vs : List Value, vs.length ≤ sizeLine ∧ (∀ u ∈ vs, OkU A u) ∧
    ((h.get? b = some { cls := .type "list", data := .seq vs.toArray } ∧ u = .frz { cls := .type "list", data := .seq vs.toArray } (.lst (vs.map toV))) ∨
     (h.get? b = some { cls := .type "tuple", data := .seq vs.toArray } ∧ u = .frz { cls := .type "tuple", data := .seq vs.toArray } (.tup (vs.map toV)))) := by
  obtain ⟨hb, hk⟩ := of_argH q
  obtain ⟨vs, h1, h2, h3⟩ := ar b hb
  refine ⟨hk, vs, h1, h2, ?_⟩
  rcases h3 with e | e
  · rw [argH_at hb hk e, hoOf_lst] at q
    exact .inl ⟨e, (Option.some.inj q).symm⟩
  · rw [argH_at hb hk e, hoOf_tup] at q
    exact .inr ⟨e, (Option.some.inj q).symm⟩
theorem argH_only (ar : ∀ a ∈ A, ArgOb h A a) : OnlyF (argH K h A) := fun b => by
  cases q : argH K h A b with
  | none => exact .inl rfl
  | some u =>
    obtain ⟨_, vs, _, _, ⟨_, e⟩ | ⟨_, e⟩⟩ := argH_is ar q
    · exact .inr ⟨_, _, by rw [e]⟩
    · exact .inr ⟨_, _, by rw [e]⟩
theorem argH_ok (ar : ∀ a ∈ A, ArgOb h A a) : HOk P w (argH K h A) h := fun b u q => by
  obtain ⟨_, vs, h1, h2, ⟨e, rfl⟩ | ⟨e, rfl⟩⟩ := argH_is ar q
  · exact ⟨e, by rw [List.length_map]; exact h1, vs, _, vals_toV h2, e⟩
  · exact ⟨e, by rw [List.length_map]; exact h1, vs, vals_toV h2, _, e, rfl, _, rfl⟩
theorem seq_inj {c c' : Value} {vs us : List Value} (e : (some { cls := c, data := .seq vs.toArray } : Option Obj) = some { cls := c', data := .seq us.toArray }) : c = c' ∧ vs = us := by
  have e1 := Option.some.inj e
  have e2 : c = c' := congrArg Obj.cls e1
  have e3 : Data.seq vs.toArray = Data.seq us.toArray := congrArg Obj.data e1
  injection e3 with e4
  refine ⟨e2, ?_⟩
  have e5 := congrArg Array.toList e4
  simpa using e5
/-- a list argument -/
theorem argL (KX : K.In h) (ar : ∀ a ∈ A, ArgOb h A a) {a : Addr} {vs : List Value} (ha : a ∈ A) (e : h.get? a = some { cls := .type "list", data := .seq vs.toArray }) : (∀ u ∈ vs, OkU A u) ∧ SqL K (argH K h A) a (vs.map toV) := by
  obtain ⟨us, h1, h2, h3⟩ := ar a ha
  have hu : us = vs := by
    rcases h3 with q | q
    · rw [e] at q
      exact (seq_inj q).2.symm
    · rw [e] at q
      exact absurd (Value.type.inj (seq_inj q).1) (by decide)
  subst hu
  refine ⟨h2, ?_⟩
  cases hk : K.lookup a with
  | none => exact .inl (.inr ⟨_, by rw [argH_at ha hk e, hoOf_lst]⟩)
  | some o =>
    have e2 := KX a o hk
    rw [e] at e2
    obtain rfl := Option.some.inj e2
    exact .inr ⟨_, us.toArray, _, hk, rfl, rfl, rfl, by rw [List.size_toArray]; exact h1, by simpa using vals_toV h2⟩
theorem argT (KX : K.In h) (ar : ∀ a ∈ A, ArgOb h A a) {a : Addr} {vs : List Value} (ha : a ∈ A) (e : h.get? a = some { cls := .type "tuple", data := .seq vs.toArray }) : (∀ u ∈ vs, OkU A u) ∧ SqT K (argH K h A) a (vs.map toV) := by
  obtain ⟨us, h1, h2, h3⟩ := ar a ha
  have hu : us = vs := by
    rcases h3 with q | q
    · rw [e] at q
      exact absurd (Value.type.inj (seq_inj q).1) (by decide)
    · rw [e] at q
      exact (seq_inj q).2.symm
  subst hu
  refine ⟨h2, ?_⟩
  cases hk : K.lookup a with
  | none => exact .inl (.inr ⟨_, by rw [argH_at ha hk e, hoOf_tup]⟩)
  | some o =>
    have e2 := KX a o hk
    rw [e] at e2
    obtain rfl := Option.some.inj e2
    exact .inr ⟨_, us.toArray, _, hk, rfl, rfl, by rw [List.size_toArray]; exact h1, by simpa using vals_toV h2⟩
mutual
theorem dw_one {Pm : Params} (KX : K.In h) (ar : ∀ a ∈ A, ArgOb h A a) : ∀ (d : WData) (v : Value), Well Pm h v d → plW d = true → OkU A v → Dw K (argH K h A) (toV v) d
  | .none, _, x, _, _ => by
    cases x
    exact .non
  | .bool b, _, x, _, _ => by
    cases x
    exact .bl b
  | .int i, _, x, _, _ => by
    cases x
    exact .int i
  | .str s, _, x, _, _ => by
    cases x
    exact .str s
  | .bytes b, _, x, _, _ => by
    cases x
    have z := Dw.byt (K := K) (H := argH K h A) b.toArray
    exact z
  | .list ds, _, x, p, hu => by
    obtain ⟨a, vs, rfl, ho, hall⟩ := well_list x
    obtain ⟨h2, hs⟩ := argL KX ar hu ho
    exact .lst hs (dw_all KX ar ds _ hall p h2)
  | .tuple ds, _, x, p, hu => by
    obtain ⟨a, vs, rfl, ho, hall⟩ := well_tuple x
    obtain ⟨h2, hs⟩ := argT KX ar hu ho
    exact .tup hs (dw_all KX ar ds _ hall p h2)
  | .float _, _, _, p, _ => Bool.noConfusion (show false = true from p)
  | .dict _, _, _, p, _ => Bool.noConfusion (show false = true from p)
  | .bytearray _, _, _, p, _ => Bool.noConfusion (show false = true from p)
  | .set _, _, _, p, _ => Bool.noConfusion (show false = true from p)
  | .frozenset _, _, _, p, _ => Bool.noConfusion (show false = true from p)
  | .obj _ _, _, _, p, _ => Bool.noConfusion (show false = true from p)
theorem dw_all {Pm : Params} (KX : K.In h) (ar : ∀ a ∈ A, ArgOb h A a) : ∀ (ds : List WData) (vs : List Value), WellAll Pm h vs ds → plWs ds = true → (∀ u ∈ vs, OkU A u) → DwAll K (argH K h A) (vs.map toV) ds
  | [], _, x, _, _ => by
    cases x
    exact .nil
  | d :: ds, _, x, p, hu => by
    obtain ⟨v, vs, rfl, x1, x2⟩ := well_cons x
    have q : plW d = true ∧ plWs ds = true := Bool.and_eq_true_iff.mp p
    exact .cons (dw_one KX ar d v x1 q.1 (hu _ (List.mem_cons_self ..))) (dw_all KX ar ds vs x2 q.2 fun u m => hu u (List.mem_cons_of_mem _ m))
end
end
theorem spec_call {P : Program} {w : World} {K : PySem.W.Frag} {mg mb : Str → Option Value} {CX : CXT} {k : Nat} {fa : Addr} {fd : FuncData} {ps : List Str} {sp : Sp} {s₁ : Shared} {vals : List Value} {ds : List WData} {R : PySem.W.WRecords} {cl : Str → Option Addr} {d0 : WData}
    (KX : K.In s₁.heap) (hns : s₁.heap.Ns mainGlobals mg) (hb : s₁.heap.Ns builtinsNs mb) (hbb : ∀ x : Str, x ≠ "__name__" → mb x = bootBuiltins x) (hlim : s₁.heap.NoLimit) (hg : s₁.gens = #[])
    (hwl : WellAll w.params s₁.heap vals ds) (hpl : plWs ds = true) (hwt : ∀ d ∈ ds, d.weight ≤ 1048576) (hr : Room k callerA)
    (F : ∀ base : Heap, K.In base → base.Ns mainGlobals mg → FnOk P w K mg base CX k fa fd ps sp) (hbind : ∀ (s : Shared) (us : List Value), us.length = ps.length → BindsTo s fd ⟨us, []⟩ (ps.zip us)) (hlen : ds.length = ps.length)
    (hsp : ∀ (H : Hp) (xs : List V), OnlyF H → DwAll K H xs ds → sp xs H (fun v H' => Dw K H' v d0) fun _ _ _ => False)
    (hCX : ∀ H e s', CX [] H s₁ (fun _ _ _ => False) e s' → False) :
    codeAny (model P w) callerA (.call (.ref fa) ⟨vals, []⟩) (fun r s' => ∃ u as, r = .ok (.ret u) ∧ ReadsW R cl s'.heap u d0 as ∧ OldK s₁.heap s'.heap ∧ s'.os = s₁.os ∧ AllBare s'.gens) s₁ := by
  obtain ⟨A, ho, ar⟩ := area_all ds vals hwl hpl hwt
  have hO : OnlyF (argH K s₁.heap A) := argH_only ar
  have hok : HOk P w (argH K s₁.heap A) s₁.heap := argH_ok ar
  have hS := dw_all KX ar ds vals hwl hpl ho
  have hV := vals_toV ho
  have hK : ∀ b u, argH K s₁.heap A b = some u → K.lookup b = none := fun b u q => (argH_is ar q).1
  have noA : ∀ {b : Addr} {o : Obj} {es : Array DictEntry} {ep : Nat}, s₁.heap.get? b = some o → o.data = .dict es ep → argH K s₁.heap A b = none := fun {b o es ep} e d => by
    cases q : argH K s₁.heap A b with
    | none => rfl
    | some u =>
      obtain ⟨_, vs, _, _, ⟨e2, _⟩ | ⟨e2, _⟩⟩ := argH_is ar q
      · rw [e2] at e
        cases e
        have d' : Data.seq vs.toArray _ = Data.dict es ep := d
        cases d'
      · rw [e2] at e
        cases e
        have d' : Data.seq vs.toArray _ = Data.dict es ep := d
        cases d'
  generalize argH K s₁.heap A = H at hO hok hS hK noA
  have base_of : ∀ {b : Addr} {o : Obj}, s₁.heap.get? b = some o → H b = none → (hidT s₁.heap H).get? b = some o := fun e n => hidT_get e n
  have nsK : ∀ {b : Addr} {m : Str → Option Value}, s₁.heap.Ns b m → (hidT s₁.heap H).Ns b m := fun {b m} ⟨o, es, ep, e, d, r⟩ => ⟨o, es, ep, base_of e (noA e d), d, r⟩
  have nK : ∀ b o, K.lookup b = some o → H b = none := fun b o e => by
    cases q : H b with
    | none => rfl
    | some u =>
      rw [hK b u q] at e
      cases e
  have hKb : K.In (hidT s₁.heap H) := fun b o e => base_of (KX b o e) (nK b o e)
  have hM : Mod K mg (hidT s₁.heap H) := ⟨hKb, nsK hns, ⟨mb, nsK hb, hbb⟩, let ⟨mc, h1, h2⟩ := hlim; ⟨mc, nsK h1, h2⟩⟩
  have e0 : Env0 P w K mg (hidT s₁.heap H) callerA [] s₁ H := ⟨rfl, hM, fun b o e => of_hidT e, Nat.le_of_eq (hidT_size _ _), trivial, fun b hb => absurd (show b ∈ ([] : List Addr) from hb) (by simp), hok, .of_eq hg⟩
  have hl : vals.length = ps.length := by rw [wellAll_len hwl]; exact hlen
  refine codeAny_mono ((F _ hKb (nsK hns)).run callerA [] s₁ H ⟨vals, []⟩ vals (vals.map toV) _ _ hr e0 (hbind s₁ vals hl) hV (hsp H _ hO hS)) fun r s' x => ?_
  cases r with
  | error e => exact (hCX H e s' x).elim
  | ok fl =>
    cases fl with
    | next => exact False.elim x
    | brk => exact False.elim x
    | cont => exact False.elim x
    | ret u =>
      obtain ⟨v, H', os, bare, un, hok', r', q⟩ := x
      have kept : ∀ b o, s₁.heap.get? b = some o → s'.heap.get? b = some o := fun b o e => by
        cases q2 : H b with
        | none => exact un.keep b o e q2 (by intro z; exact absurd (show b ∈ ([] : List Addr) from z) (by simp)) (by simp)
        | some u2 =>
          rcases hO b with z | ⟨ob, u3, z⟩
          · rw [q2] at z
            cases z
          · have z2 := un.frzs b ob _ z
            obtain ⟨e1, _⟩ := hok b _ z
            obtain ⟨e2, _⟩ := hok' b _ z2
            rw [e] at e1
            cases e1
            exact e2
      have KX' : K.In s'.heap := fun b o e => kept b o (KX b o e)
      obtain ⟨as, hrd⟩ := Dw.reads (R := R) (cl := cl) hok' KX' d0 v u q r'
      exact ⟨u, as, rfl, hrd, OldK.of_keep kept, os, bare⟩
theorem layable_weight {ds : List WData} (h : WData.layableAll ds = true) : ∀ d ∈ ds, d.weight ≤ 1048576 := fun d hd =>
  (PySem.W.layableW_iff.mp (List.all_eq_true.mp h d hd)).2.2
theorem encAll_len : ∀ (cs : List Codec) (a : Codec.denoteAll cs), (Codec.encAll cs a).length = cs.length
  | [], _ => rfl
  | c :: cs, a => by
    show (Codec.encAll cs a.2).length + 1 = cs.length + 1
    rw [encAll_len cs a.2]
/-- the goal that k_headS leaves (case hc), from the promise of the row's def: whatever the arguments that the codecs let and the row asks for, the def gives what stands for enc (f ..) -/
theorem walk_spec {r : OpenSpec} {k : Nat} {q : Program} {loose : List Str} {XP : (Str → Option Value) → Heap → Prop} {YP : World → Heap → Prop} {d : DefRec} {K : Params → PySem.W.Frag} {CX : World → CXT} {ps : List Str} {sp : World → Sp}
    (hwell : r.wellSaid = true) (hdf : d.params.defaults = []) (hlen : r.args.length = ps.length) (hr : Room k callerA)
    (hY : ∀ (w : World) (h : Heap), YP w h → (K w.params).In h)
    (F : ∀ (w : World) (mg : Str → Option Value) (fa : Addr) (h : Heap), YP w h → (K w.params).In h → h.Ns mainGlobals mg → mg d.name = some (.ref fa) →
      ∃ fd : FuncData, (∀ (s : Shared) (us : List Value), us.length = ps.length → BindsTo s fd ⟨us, []⟩ (ps.zip us)) ∧
        ∀ base : Heap, (K w.params).In base → base.Ns mainGlobals mg → FnOk r.prog w (K w.params) mg base (CX w) k fa fd ps (sp w))
    (hsp : ∀ (w : World) (H : Hp) (xs : List V) (a : Codec.denoteAll r.args), OnlyF H → Codec.withinAll r.args a = true → Codec.app r.args r.asked a = true → DwAll (K w.params) H xs (Codec.encAll r.args a) →
      sp w xs H (fun v H' => Dw (K w.params) H' v (r.ret.enc (Codec.app r.args r.f a))) fun _ _ _ => False)
    (hCX : ∀ (w : World) (H : Hp) (s : Shared) (e : Value) (s' : Shared), CX w [] H s (fun _ _ _ => False) e s' → False) :
    PySem.W.WalkOS q loose XP YP r d [] (fun f vs => PySem.call f vs) := by
  intro w s_0 s₁ mg mb G Y fa o pm cd doc dV kV ho hd hcd hD hmg hg args vals as hpre hlay hrd hwl hlo
  obtain ⟨a, e1, e2⟩ := PySem.W.os_pre_some hpre
  obtain ⟨e3, hwi⟩ := Codec.encAll_of_decAll r.args args a e1
  subst e3
  have KX := hY w _ Y
  obtain ⟨fd, hb, hF⟩ := F w mg fa _ Y KX G.T.g hmg
  refine PySem.W.enter_call (codeAny_mono (spec_call (R := []) (cl := classAt s_0.heap) (d0 := r.ret.enc (Codec.app r.args r.f a)) KX G.T.g G.T.b G.T.builtins G.T.nolimit hg hwl (pl_encAll _ _) (layable_weight hlay) hr hF hb (by rw [encAll_len]; exact hlen)
    (fun H xs hO hS => hsp w H xs a hO hwi e2 hS) fun H e s' => hCX w H s₁ e s') fun r' s' hq => ?_)
  obtain ⟨u, as', rfl, h1, h2, h3, h4⟩ := hq
  exact ⟨.inl ⟨u, _, as', rfl, fun _ => rfl, h1, (OpenSpec.post_iff hwell hwi _ _).mpr rfl, fun z => Bool.noConfusion (show false = true from z)⟩, h2, h3, h4⟩
/-- the same where the promise hangs on the written part alone -/
theorem walk_specK {r : OpenSpec} {k : Nat} {q : Program} {loose : List Str} {XP : (Str → Option Value) → Heap → Prop} {YP : World → Heap → Prop} {d : DefRec} {K : Params → PySem.W.Frag} {CX : CXT} {ps : List Str} {sp : PySem.W.Frag → Sp}
    (hwell : r.wellSaid = true) (hdf : d.params.defaults = []) (hlen : r.args.length = ps.length) (hr : Room k callerA)
    (hY : ∀ (w : World) (h : Heap), YP w h → (K w.params).In h)
    (F : ∀ (w : World) (mg : Str → Option Value) (fa : Addr) (h : Heap), YP w h → (K w.params).In h → h.Ns mainGlobals mg → mg d.name = some (.ref fa) →
      ∃ fd : FuncData, (∀ (s : Shared) (us : List Value), us.length = ps.length → BindsTo s fd ⟨us, []⟩ (ps.zip us)) ∧
        ∀ base : Heap, (K w.params).In base → base.Ns mainGlobals mg → FnOk r.prog w (K w.params) mg base CX k fa fd ps (sp (K w.params)))
    (hsp : ∀ (K : PySem.W.Frag) (H : Hp) (xs : List V) (a : Codec.denoteAll r.args), OnlyF H → Codec.withinAll r.args a = true → Codec.app r.args r.asked a = true → DwAll K H xs (Codec.encAll r.args a) →
      sp K xs H (fun v H' => Dw K H' v (r.ret.enc (Codec.app r.args r.f a))) fun _ _ _ => False)
    (hCX : ∀ (H : Hp) (s : Shared) (e : Value) (s' : Shared), CX [] H s (fun _ _ _ => False) e s' → False) :
    PySem.W.WalkOS q loose XP YP r d [] (fun f vs => PySem.call f vs) :=
  walk_spec (K := K) (CX := fun _ => CX) (sp := fun w => sp (K w.params)) hwell hdf hlen hr hY F (fun w H xs a h1 h2 h3 h4 => hsp (K w.params) H xs a h1 h2 h3 h4) fun _ H s e s' => hCX H s e s'
end L2
-- rests on (row put in by the clerk, for the bench that shows a file only what it spells): KE.SpHead KE.OsShapes
end
set_option Elab.async false
set_option maxRecDepth 100000
namespace My
open Km483 (Duty Link Book weight least count)
/-! ### what the program reckons, in plain words -/
def over (e d : Duty) : Bool := e.i == d.i && e.j == d.j && e.a == d.a && decide (d.day < e.day)
def standB (ds : List Duty) (d : Duty) : Bool := !(ds.any fun e => over e d)
def bitI (c a : Nat) : Int := if c.testBit a then 1 else 0
def countI (c : Nat) : Int := ((List.range 8).map (bitI c)).sum
def mayB (ls : List Link) (c : Nat) : Bool := ls.all fun l => !c.testBit l.a || c.testBit l.b
def keepB (c : Nat) (d : Duty) : Bool := decide (bitI c d.a = d.done)
def weightI (ds : List Duty) : Int := (ds.map fun d => (d.weight : Int)).sum
/-- what a book's numbers keep to -/
structure BookOk (b : Book) : Prop where
  n1 : 1 ≤ b.n
  n8 : b.n ≤ 8
  dl : b.duties.length ≤ 16
  dr : ∀ d ∈ b.duties, d.a < b.n ∧ d.done ≤ 1
  ll : b.links.length ≤ 12
  lr : ∀ l ∈ b.links, l.a < b.n ∧ l.b < b.n
  ln : b.links.Nodup
theorem keepB_eq {c : Nat} {d : Duty} (h : d.done ≤ 1) : keepB c d = d.keeps c := by
  unfold keepB Duty.keeps bitI
  have : d.done = 0 ∨ d.done = 1 := by omega
  rcases this with e | e <;> rw [e] <;> cases c.testBit d.a <;> rfl
theorem foldl_add (l : List Nat) : ∀ x, l.foldl (· + ·) x = x + l.sum := by
  induction l with
  | nil => intro x; simp
  | cons a l ih => intro x; rw [List.foldl_cons, ih, List.sum_cons]; omega
theorem weight_sum (l : List Duty) : weight l = (l.map Duty.weight).sum := by
  unfold weight; rw [foldl_add]; omega
theorem weight_nil : weight [] = 0 := rfl
theorem weight_cons (d : Duty) (l : List Duty) : weight (d :: l) = d.weight + weight l := by
  rw [weight_sum, weight_sum, List.map_cons, List.sum_cons]
theorem weightI_eq (l : List Duty) : weightI l = (weight l : Int) := by
  unfold weightI
  induction l with
  | nil => rfl
  | cons d l ih => rw [List.map_cons, List.sum_cons, ih, weight_cons]; omega
theorem countL (c : Nat) : ∀ l : List Nat, (l.map (bitI c)).sum = ((l.filter fun i => c.testBit i).length : Int)
  | [] => rfl
  | a :: l => by
    rw [List.map_cons, List.sum_cons, countL c l, List.filter_cons]
    unfold bitI
    split
    · rw [List.length_cons]; omega
    · omega
theorem countI_eq (c : Nat) : countI c = (count c : Int) := countL c _
theorem bits_keep {b : Book} (h : BookOk b) {c : Nat} {l : List Duty} (hl : ∀ d ∈ l, d ∈ b.duties) : (l.filter fun d => !keepB c d) = l.filter fun d => !d.keeps c := by
  refine List.filter_congr fun d hd => ?_
  rw [keepB_eq (h.dr d (hl d hd)).2]
theorem standing_sub {b : Book} : ∀ d ∈ b.standing, d ∈ b.duties := fun _ h => (List.mem_filter.mp h).1
theorem broken_eq {b : Book} (h : BookOk b) (c : Nat) : ((b.duties.filter (standB b.duties)).filter fun d => !keepB c d) = b.broken c := bits_keep h standing_sub
theorem breaks_eq {b : Book} (h : BookOk b) (c : Nat) : weightI ((b.duties.filter (standB b.duties)).filter fun d => !keepB c d) = (b.breaks c : Int) := by
  rw [broken_eq h, weightI_eq]; rfl
/-! ### least -/
theorem fold_min (f : Nat → Nat) : ∀ (l : List Nat) (x : Nat), l.foldl (fun x t => min x (f t)) x ≤ x ∧ (∀ t ∈ l, l.foldl (fun x t => min x (f t)) x ≤ f t) ∧ (l.foldl (fun x t => min x (f t)) x = x ∨ ∃ t ∈ l, l.foldl (fun x t => min x (f t)) x = f t)
  | [], x => ⟨Nat.le_refl _, fun t h => (by cases h), .inl rfl⟩
  | a :: l, x => by
    obtain ⟨h1, h2, h3⟩ := fold_min f l (min x (f a))
    rw [List.foldl_cons]
    refine ⟨by omega, fun t ht => ?_, ?_⟩
    · rcases List.mem_cons.mp ht with rfl | ht
      · omega
      · exact h2 t ht
    · rcases h3 with h3 | ⟨t, ht, h3⟩
      · by_cases hx : x ≤ f a
        · left; omega
        · right; exact ⟨a, List.mem_cons_self, by omega⟩
      · right; exact ⟨t, List.mem_cons_of_mem _ ht, h3⟩
theorem least_le {f : Nat → Nat} : ∀ {l : List Nat} {s : Nat}, s ∈ l → least f l ≤ f s
  | a :: l, s, h => by
    obtain ⟨h1, h2, _⟩ := fold_min f l (f a)
    rcases List.mem_cons.mp h with rfl | h
    · exact h1
    · exact h2 s h
theorem least_at {f : Nat → Nat} : ∀ {l : List Nat}, l ≠ [] → ∃ s ∈ l, least f l = f s
  | [], h => absurd rfl h
  | a :: l, _ => by
    obtain ⟨_, _, h3⟩ := fold_min f l (f a)
    rcases h3 with h3 | ⟨t, ht, h3⟩
    · exact ⟨a, List.mem_cons_self, h3⟩
    · exact ⟨t, List.mem_cons_of_mem _ ht, h3⟩
/-- the least of what a list of ints holds -/
theorem least_min {f : Nat → Nat} {l : List Nat} {m : Int} (h1 : m ∈ l.map fun s => (f s : Int)) (h2 : ∀ y, (y ∈ l.map fun s => (f s : Int)) → m ≤ y) : m = (least f l : Int) := by
  obtain ⟨s, hs, rfl⟩ := List.mem_map.mp h1
  have a := least_le (f := f) hs
  obtain ⟨t, ht, e⟩ := least_at (f := f) (List.ne_nil_of_mem hs)
  have b := h2 (f t : Int) (List.mem_map.mpr ⟨t, ht, rfl⟩)
  omega
/-! ### the conducts -/
theorem mem_conducts {b : Book} {c : Nat} : c ∈ b.conducts ↔ c < 2 ^ b.n ∧ b.may c = true := by
  unfold Book.conducts
  rw [List.mem_filter, List.mem_range]
theorem zero_mem (b : Book) : 0 ∈ b.conducts := by
  rw [mem_conducts]
  refine ⟨Nat.pow_pos (by decide), ?_⟩
  unfold Book.may
  rw [List.all_eq_true]
  intro l _
  rw [Nat.zero_testBit]; rfl
theorem full_mem {b : Book} (h : BookOk b) : 2 ^ b.n - 1 ∈ b.conducts := by
  rw [mem_conducts]
  refine ⟨by have := Nat.pow_pos (n := b.n) (a := 2) (by decide); omega, ?_⟩
  unfold Book.may
  rw [List.all_eq_true]
  intro l hl
  have := h.lr l hl
  rw [Nat.testBit_two_pow_sub_one, Nat.testBit_two_pow_sub_one, decide_eq_true this.2, Bool.or_true]
theorem conducts_ne (b : Book) : b.conducts ≠ [] := List.ne_nil_of_mem (zero_mem b)
theorem conducts_len {b : Book} (h : BookOk b) : b.conducts.length ≤ 256 := by
  refine Nat.le_trans (List.length_filter_le _ _) ?_
  rw [List.length_range]
  have := Nat.pow_le_pow_right (n := 2) (by decide) h.n8
  omega
theorem worth_le {b : Book} {c : Nat} (h : c ∈ b.conducts) : b.worth ≤ b.breaks c := least_le h
theorem worth_at (b : Book) : ∃ c ∈ b.conducts, b.worth = b.breaks c := least_at (conducts_ne b)
theorem mem_bests {b : Book} {c : Nat} : c ∈ b.bests ↔ c ∈ b.conducts ∧ b.breaks c = b.worth := by
  unfold Book.bests
  rw [List.mem_filter, beq_iff_eq]
theorem bests_ne (b : Book) : b.bests ≠ [] := by
  obtain ⟨c, h, e⟩ := worth_at b
  exact List.ne_nil_of_mem (mem_bests.mpr ⟨h, e.symm⟩)
theorem best_head (b : Book) : ∃ r, b.bests = b.best :: r := by
  unfold Book.best
  cases h : b.bests with
  | nil => exact absurd h (bests_ne b)
  | cons a r => exact ⟨r, rfl⟩
theorem best_mem (b : Book) : b.best ∈ b.bests := by
  obtain ⟨r, e⟩ := best_head b
  rw [e]; exact List.mem_cons_self
theorem best_le {b : Book} {c : Nat} (h : c ∈ b.bests) : b.best ≤ c := by
  have p : b.bests.Pairwise (· < ·) := by
    unfold Book.bests Book.conducts
    exact (List.pairwise_lt_range.filter _).filter _
  obtain ⟨r, e⟩ := best_head b
  rw [e] at p h
  rcases List.mem_cons.mp h with h | h
  · omega
  · have := (List.pairwise_cons.mp p).1 c h
    omega
/-! ### what two do both, what either does -/
theorem may_iff {b : Book} {c : Nat} : b.may c = true ↔ ∀ l ∈ b.links, c.testBit l.a = true → c.testBit l.b = true := by
  unfold Book.may
  rw [List.all_eq_true]
  constructor
  · intro h l hl ha
    have := h l hl
    rw [ha] at this
    simpa using this
  · intro h l hl
    cases ha : c.testBit l.a with
    | false => rfl
    | true => rw [h l hl ha]; rfl
theorem may_and {b : Book} {s t : Nat} (hs : b.may s = true) (ht : b.may t = true) : b.may (s &&& t) = true := by
  rw [may_iff] at *
  intro l hl
  rw [Nat.testBit_and, Nat.testBit_and, Bool.and_eq_true, Bool.and_eq_true]
  exact fun ⟨x, y⟩ => ⟨hs l hl x, ht l hl y⟩
theorem may_or {b : Book} {s t : Nat} (hs : b.may s = true) (ht : b.may t = true) : b.may (s ||| t) = true := by
  rw [may_iff] at *
  intro l hl
  rw [Nat.testBit_or, Nat.testBit_or, Bool.or_eq_true, Bool.or_eq_true]
  exact fun h => h.elim (fun x => .inl (hs l hl x)) fun y => .inr (ht l hl y)
theorem weight_mod (s t : Nat) : ∀ l : List Duty, weight (l.filter fun d => !d.keeps (s &&& t)) + weight (l.filter fun d => !d.keeps (s ||| t)) = weight (l.filter fun d => !d.keeps s) + weight (l.filter fun d => !d.keeps t)
  | [] => rfl
  | d :: l => by
    have ih := weight_mod s t l
    simp only [List.filter_cons]
    unfold Duty.keeps at *
    rw [Nat.testBit_and, Nat.testBit_or]
    cases hs : s.testBit d.a <;> cases ht : t.testBit d.a <;> cases d.done == 1 <;> simp [weight_cons] at * <;> omega
theorem and_bests {b : Book} {s t : Nat} (hs : s ∈ b.bests) (ht : t ∈ b.bests) : s &&& t ∈ b.bests := by
  rw [mem_bests, mem_conducts] at hs ht
  have ha : s &&& t ∈ b.conducts := mem_conducts.mpr ⟨Nat.lt_of_le_of_lt Nat.and_le_left hs.1.1, may_and hs.1.2 ht.1.2⟩
  have ho : s ||| t ∈ b.conducts := mem_conducts.mpr ⟨Nat.or_lt_two_pow hs.1.1 ht.1.1, may_or hs.1.2 ht.1.2⟩
  have e : b.breaks (s &&& t) + b.breaks (s ||| t) = b.breaks s + b.breaks t := weight_mod s t b.standing
  have h1 := worth_le ha
  have h2 := worth_le ho
  refine mem_bests.mpr ⟨ha, ?_⟩
  omega
/-- what the least of the best does, all best do -/
theorem best_all {b : Book} {a : Nat} (h : b.best.testBit a = true) {s : Nat} (hs : s ∈ b.bests) : s.testBit a = true := by
  have h1 := best_le (and_bests (best_mem b) hs)
  have h2 : b.best &&& s ≤ b.best := Nat.and_le_left
  have e : b.best &&& s = b.best := by omega
  rw [← e, Nat.testBit_and, Bool.and_eq_true] at h
  exact h.2
theorem or_fold (a : Nat) : ∀ (l : List Nat) (x : Nat), (l.foldl (· ||| ·) x).testBit a = (x.testBit a || l.any fun s => s.testBit a)
  | [], x => by simp
  | s :: l, x => by rw [List.foldl_cons, or_fold a l, Nat.testBit_or, List.any_cons, Bool.or_assoc]
theorem most_bit (b : Book) (a : Nat) : b.most.testBit a = b.bests.any fun s => s.testBit a := by
  unfold Book.most
  rw [or_fold, Nat.zero_testBit, Bool.false_or]
/-- ck_sure: the least and the greatest of what the best do -/
theorem sure_eq {b : Book} {a : Nat} {lo hi : Int} (l1 : lo ∈ b.bests.map fun s => bitI s a) (l2 : ∀ y, (y ∈ b.bests.map fun s => bitI s a) → lo ≤ y) (h1 : hi ∈ b.bests.map fun s => bitI s a) (h2 : ∀ y, (y ∈ b.bests.map fun s => bitI s a) → y ≤ hi) :
    lo + hi = if b.best.testBit a = true then 2 else if b.most.testBit a = true then 1 else 0 := by
  obtain ⟨s, hs, rfl⟩ := List.mem_map.mp l1
  obtain ⟨t, ht, rfl⟩ := List.mem_map.mp h1
  have hb := best_mem b
  have lb := l2 _ (List.mem_map.mpr ⟨_, hb, rfl⟩)
  by_cases e : b.best.testBit a = true
  · rw [if_pos e]
    unfold bitI
    rw [if_pos (best_all e hs), if_pos (best_all e ht)]
    rfl
  · rw [if_neg e]
    have e0 : bitI b.best a = 0 := by unfold bitI; rw [if_neg e]
    have es : bitI s a = 0 := by
      rw [e0] at lb
      unfold bitI at *
      split at lb <;> rename_i z
      · omega
      · rw [if_neg z]
    rw [es]
    by_cases m : b.most.testBit a = true
    · rw [if_pos m]
      rw [most_bit, List.any_eq_true] at m
      obtain ⟨u, hu, hu1⟩ := m
      have := h2 _ (List.mem_map.mpr ⟨u, hu, rfl⟩)
      unfold bitI at *
      rw [if_pos hu1] at this
      split at this <;> rename_i z
      · rw [if_pos z]; rfl
      · omega
    · rw [if_neg m]
      rw [most_bit, List.any_eq_true] at m
      unfold bitI
      rw [if_neg fun z => m ⟨t, ht, z⟩]
      rfl
end My
namespace My
open Km483 (Duty Link Book weight least count)
/-! ### costs and reliefs -/
theorem kept_ne {b : Book} (h : BookOk b) {d : Duty} (hd : d ∈ b.duties) : b.conducts.filter d.keeps ≠ [] := by
  have := h.dr d hd
  have e : d.done = 0 ∨ d.done = 1 := by omega
  rcases e with e | e
  · refine List.ne_nil_of_mem (List.mem_filter.mpr ⟨zero_mem b, ?_⟩)
    unfold Duty.keeps
    rw [Nat.zero_testBit, e]; rfl
  · refine List.ne_nil_of_mem (List.mem_filter.mpr ⟨full_mem h, ?_⟩)
    unfold Duty.keeps
    rw [Nat.testBit_two_pow_sub_one, decide_eq_true this.1, e]; rfl
theorem worth_keeping {b : Book} (h : BookOk b) {d : Duty} (hd : d ∈ b.duties) : b.worth ≤ b.keeping d := by
  obtain ⟨s, hs, e⟩ := least_at (f := b.breaks) (kept_ne h hd)
  have e2 : b.keeping d = b.breaks s := e
  rw [e2]
  exact worth_le (List.mem_filter.mp hs).1
theorem cost_eq {b : Book} (h : BookOk b) {d : Duty} (hd : d ∈ b.duties) : (b.keeping d : Int) - (b.worth : Int) = ((b.keeping d - b.worth : Nat) : Int) := by
  have := worth_keeping h hd
  omega
theorem but_later (Q : Duty → Bool) (k : Nat) : ∀ (l : List Duty) (i : Nat), k < i → weight (((l.zip (List.range' i l.length)).filter fun x => x.2 != k && Q x.1).map Prod.fst) = weight (l.filter Q)
  | [], _, _ => rfl
  | d :: l, i, h => by
    have ih := but_later Q k l (i + 1) (by omega)
    rw [List.length_cons, List.range'_succ, List.zip_cons_cons, List.filter_cons, List.filter_cons]
    have e : (i != k) = true := by rw [bne_iff_ne]; omega
    simp only [e, Bool.true_and]
    cases Q d with
    | true => simp only [if_true, List.map_cons, weight_cons]; rw [ih]
    | false => simp only [Bool.false_eq_true, if_false]; rw [ih]
theorem but_at (Q : Duty → Bool) (k : Nat) : ∀ (l : List Duty) (i : Nat) (d : Duty), i ≤ k → l[k - i]? = some d →
    weight (((l.zip (List.range' i l.length)).filter fun x => x.2 != k && Q x.1).map Prod.fst) + (if Q d = true then d.weight else 0) = weight (l.filter Q)
  | [], i, d, h, e => by simp at e
  | c :: l, i, d, h, e => by
    rw [List.length_cons, List.range'_succ, List.zip_cons_cons, List.filter_cons, List.filter_cons]
    by_cases z : i = k
    · subst z
      have e1 : c = d := by simpa using e
      subst e1
      have ih := but_later Q i l (i + 1) (by omega)
      have e2 : (i != i) = false := by simp
      simp only [e2, Bool.false_and, Bool.false_eq_true, if_false]
      rw [ih]
      cases Q c with
      | true => simp only [if_true, weight_cons]; omega
      | false => simp
    · have e2 : (i != k) = true := by rw [bne_iff_ne]; exact z
      have e3 : k - i = (k - (i + 1)) + 1 := by omega
      rw [e3, List.getElem?_cons_succ] at e
      have ih := but_at Q k l (i + 1) d (by omega) e
      simp only [e2, Bool.true_and]
      cases Q c with
      | true => simp only [if_true, List.map_cons, weight_cons]; omega
      | false => simp only [Bool.false_eq_true, if_false]; exact ih
theorem duty_at {b : Book} {k : Nat} (h : k < b.duties.length) : b.duties[k]? = some (b.duty k) := by
  unfold Book.duty
  rw [List.getD_eq_getElem?_getD, List.getElem?_eq_getElem h]; rfl
theorem duty_mem {b : Book} {k : Nat} (h : k < b.duties.length) : b.duty k ∈ b.duties := List.mem_of_getElem? (duty_at h)
theorem breaks_but {b : Book} {k : Nat} (h : b.stands k = true) (s : Nat) : b.breaksBut k s + (if (b.duty k).keeps s = true then 0 else (b.duty k).weight) = b.breaks s := by
  unfold Book.stands at h
  rw [Bool.and_eq_true, decide_eq_true_eq] at h
  obtain ⟨hk, ho⟩ := h
  have := but_at (fun d => !b.overtaken d && !d.keeps s) k b.duties 0 (b.duty k) (by omega) (duty_at hk)
  rw [← List.range_eq_range'] at this
  unfold Book.breaksBut Book.breaks Book.broken Book.standing
  rw [List.filter_filter]
  have e1 : (b.duties.filter fun a => !a.keeps s && !b.overtaken a) = b.duties.filter fun d => !b.overtaken d && !d.keeps s := List.filter_congr fun d _ => Bool.and_comm _ _
  rw [e1, ← this]
  simp only [ho, Bool.true_and]
  cases (b.duty k).keeps s <;> rfl
theorem relief_le {b : Book} {k : Nat} (h : b.stands k = true) : least (b.breaksBut k) b.conducts ≤ b.worth := by
  obtain ⟨s, hs, e⟩ := worth_at b
  have h1 := least_le (f := b.breaksBut k) hs
  have h2 := breaks_but h s
  omega
/-- relief_of: the numbers that it takes the least of -/
theorem waived_eq {b : Book} {k : Nat} (h : b.stands k = true) (s : Nat) : (if (b.duty k).keeps s = true then (b.breaks s : Int) else (b.breaks s : Int) - ((b.duty k).weight : Int)) = (b.breaksBut k s : Int) := by
  have := breaks_but h s
  split <;> rename_i e
  · rw [if_pos e] at this; omega
  · rw [if_neg e] at this; omega
theorem relief_eq {b : Book} {k : Nat} (h : b.stands k = true) : (b.worth : Int) - (least (b.breaksBut k) b.conducts : Int) = (b.relief k : Int) := by
  have := relief_le h
  unfold Book.relief
  omega
/-! ### the first of the greatest -/
def pickS (f : Nat → Nat) (o : Option Nat) (k : Nat) : Option Nat := match o with
  | none => some k
  | some l => if f l < f k then some k else some l
theorem pick_from (f : Nat → Nat) (p : Nat) : ∀ (l : List Nat) (x j : Nat), (x :: l)[j]? = some p → (∀ q ∈ x :: l, f q ≤ f p) → (∀ i q, i < j → (x :: l)[i]? = some q → f q ≠ f p) → l.foldl (pickS f) (some x) = some p
  | [], x, j, e, _, _ => by
    cases j with
    | zero => simpa using e
    | succ j => simp at e
  | y :: t, x, j, e, le, first => by
    rw [List.foldl_cons]
    show t.foldl (pickS f) (if f x < f y then some y else some x) = some p
    cases j with
    | zero =>
      have ex : x = p := by simpa using e
      subst ex
      have := le y (by simp)
      rw [if_neg (by omega)]
      exact pick_from f x t x 0 rfl (fun q hq => le q (by rcases List.mem_cons.mp hq with h | h <;> simp [h])) fun i q hi => absurd hi (by omega)
    | succ j =>
      have hx : f x < f p := by
        have a := le x (by simp)
        have c := first 0 x (by omega) rfl
        omega
      by_cases hxy : f x < f y
      · rw [if_pos hxy]
        exact pick_from f p t y j (by simpa using e) (fun q hq => le q (List.mem_cons_of_mem _ hq)) fun i q hi eq => first (i + 1) q (by omega) (by simpa using eq)
      · rw [if_neg hxy]
        cases j with
        | zero =>
          have ey : y = p := by simpa using e
          subst ey
          omega
        | succ j =>
          refine pick_from f p t x (j + 1) (by simpa using e) (fun q hq => le q (by rcases List.mem_cons.mp hq with h | h <;> simp [h])) fun i q hi eq => ?_
          cases i with
          | zero =>
            have : x = q := by simpa using eq
            subst this
            omega
          | succ i => exact first (i + 2) q (by omega) (by simpa using eq)
theorem pick_first (f : Nat → Nat) {l : List Nat} {p j : Nat} (e : l[j]? = some p) (le : ∀ q ∈ l, f q ≤ f p) (first : ∀ i q, i < j → l[i]? = some q → f q ≠ f p) : l.foldl (pickS f) none = some p := by
  cases l with
  | nil => simp at e
  | cons x t => exact pick_from f p t x j e le first
def places (b : Book) : List Nat := (List.range b.duties.length).filter b.stands
theorem waive_eq (b : Book) : b.waive = (places b).foldl (pickS b.relief) none := rfl
theorem waive_nil {b : Book} (h : places b = []) : b.waive = none := by rw [waive_eq, h]; rfl
theorem waive_at {b : Book} {p j : Nat} (e : (places b)[j]? = some p) (le : ∀ q ∈ places b, b.relief q ≤ b.relief p) (first : ∀ i q, i < j → (places b)[i]? = some q → b.relief q ≠ b.relief p) : b.waive = some p := by
  rw [waive_eq]; exact pick_first _ e le first
theorem mem_places {b : Book} {k : Nat} : k ∈ places b ↔ b.stands k = true := by
  unfold places
  rw [List.mem_filter, List.mem_range]
  refine ⟨fun h => h.2, fun h => ⟨?_, h⟩⟩
  unfold Book.stands at h
  rw [Bool.and_eq_true, decide_eq_true_eq] at h
  exact h.1
theorem stands_lt {b : Book} {k : Nat} (h : b.stands k = true) : k < b.duties.length := List.mem_range.mp (List.mem_filter.mp (mem_places.mpr h)).1
theorem stands_eq {b : Book} {k : Nat} (h : k < b.duties.length) : b.stands k = standB b.duties (b.duty k) := by
  unfold Book.stands
  rw [decide_eq_true h, Bool.true_and]; rfl
/-! ### clashes -/
/-- the least conduct that does an act -/
structure LeastWith (ls : List Link) (n a c : Nat) : Prop where
  lt : c < 2 ^ n
  has : c.testBit a = true
  may : mayB ls c = true
  sub : ∀ s, mayB ls s = true → s.testBit a = true → ∀ i, c.testBit i = true → s.testBit i = true
theorem clash_like {b : Book} (h : BookOk b) {d e : Duty} (hd : d ∈ b.duties) (he : e ∈ b.duties) (q : d.done = e.done) : b.clash d e = false := by
  have h1 := h.dr d hd
  have h2 := h.dr e he
  unfold Book.clash
  rw [List.all_eq_false]
  have z : d.done = 0 ∨ d.done = 1 := by omega
  rcases z with z | z
  · refine ⟨0, zero_mem b, ?_⟩
    unfold Duty.keeps
    rw [Nat.zero_testBit, Nat.zero_testBit, ← q, z]; decide
  · refine ⟨_, full_mem h, ?_⟩
    unfold Duty.keeps
    rw [Nat.testBit_two_pow_sub_one, Nat.testBit_two_pow_sub_one, decide_eq_true h1.1, decide_eq_true h2.1, ← q, z]; decide
theorem clash_comm (b : Book) (d e : Duty) : b.clash d e = b.clash e d := by
  unfold Book.clash
  congr 1
  funext s
  rw [Bool.and_comm]
theorem clash_one {b : Book} {d e : Duty} {c : Nat} (hd : d.done = 1) (he : e.done = 0) (L : LeastWith b.links b.n d.a c) : b.clash d e = c.testBit e.a := by
  cases hc : c.testBit e.a with
  | true =>
    unfold Book.clash
    rw [List.all_eq_true]
    intro s hs
    rw [mem_conducts] at hs
    unfold Duty.keeps
    rw [hd, he]
    cases h1 : s.testBit d.a with
    | false => rfl
    | true => rw [L.sub s hs.2 h1 _ hc]; rfl
  | false =>
    unfold Book.clash
    rw [List.all_eq_false]
    refine ⟨c, mem_conducts.mpr ⟨L.lt, L.may⟩, ?_⟩
    unfold Duty.keeps
    rw [hd, he, L.has, hc]; decide
/-- clash of the program, and of the words -/
theorem clash_eq {b : Book} (h : BookOk b) {d e : Duty} (hd : d ∈ b.duties) (he : e ∈ b.duties) (q : ¬ d.done = e.done) {c : Nat} (L : LeastWith b.links b.n (if d.done = 1 then d.a else e.a) c) :
    b.clash d e = c.testBit (if d.done = 1 then e.a else d.a) := by
  have h1 := (h.dr d hd).2
  have h2 := (h.dr e he).2
  by_cases z : d.done = 1
  · rw [if_pos z] at L ⊢
    exact clash_one z (by omega) L
  · rw [if_neg z] at L ⊢
    rw [clash_comm]
    exact clash_one (by omega) (by omega) L
theorem flat_filter {α β : Type} (p : α → Bool) (f : α → List β) : ∀ l : List α, (∀ x ∈ l, p x = false → f x = []) → l.flatMap f = (l.filter p).flatMap f
  | [], _ => rfl
  | a :: l, h => by
    rw [List.flatMap_cons, flat_filter p f l fun x hx => h x (List.mem_cons_of_mem _ hx), List.filter_cons]
    cases e : p a with
    | true => rw [if_pos rfl, List.flatMap_cons]
    | false => rw [h a List.mem_cons_self e]; rfl
theorem pairs_eq (b : Book) : b.pairs = (places b).flatMap fun k => (((places b).filter fun l => decide (k < l)).filter fun l => b.clash (b.duty k) (b.duty l)).map fun l => (k, l) := by
  unfold Book.pairs
  rw [flat_filter b.stands]
  · show (places b).flatMap _ = _
    have e : ∀ k ∈ places b, (((List.range b.duties.length).filter fun l => decide (k < l) && (b.stands k && (b.stands l && b.clash (b.duty k) (b.duty l)))).map fun l => (k, l))
        = (((places b).filter fun l => decide (k < l)).filter fun l => b.clash (b.duty k) (b.duty l)).map fun l => (k, l) := fun k hk => by
      rw [mem_places] at hk
      unfold places
      rw [List.filter_filter, List.filter_filter]
      congr 1
      refine List.filter_congr fun l _ => ?_
      rw [hk, Bool.true_and]
      cases decide (k < l) <;> cases b.stands l <;> cases b.clash (b.duty k) (b.duty l) <;> rfl
    rw [List.flatMap_def, List.flatMap_def, List.map_congr_left e]
  · intro k _ hk
    rw [List.map_eq_nil_iff, List.filter_eq_nil_iff]
    intro l _
    rw [hk]
    simp
/-! ### links -/
theorem free_len {ls : List Link} (h : ls.Nodup) {x : Link} (hx : x ∈ ls) : (ls.filter (· != x)).length = ls.length - 1 := by
  induction ls with
  | nil => cases hx
  | cons a l ih =>
    rw [List.nodup_cons] at h
    rw [List.filter_cons]
    by_cases e : a = x
    · subst e
      have : (a != a) = false := by simp
      rw [this, if_neg (by simp)]
      have e2 : l.filter (· != a) = l := by
        rw [List.filter_eq_self]
        intro y hy
        rw [bne_iff_ne]
        rintro rfl
        exact h.1 hy
      rw [e2, List.length_cons]; omega
    · have : (a != x) = true := by rw [bne_iff_ne]; exact e
      rw [if_pos this, List.length_cons, List.length_cons]
      have hx' : x ∈ l := by
        rcases List.mem_cons.mp hx with z | z
        · exact absurd z.symm e
        · exact z
      have : 0 < l.length := List.length_pos_of_mem hx'
      rw [ih h.2 hx']; omega
end My
namespace My
open Km483 (Duty Link Book Desk weight least count act)
/-! ### least_with's loops -/
def lwStep (c : Nat) (l : Link) : Nat := if c.testBit l.a = true then c ||| 2 ^ l.b else c
def SubC (c s : Nat) : Prop := ∀ i, c.testBit i = true → s.testBit i = true
theorem SubC.le {c s : Nat} (h : SubC c s) : c ≤ s := by
  have e : c &&& s = c := by
    refine Nat.eq_of_testBit_eq fun i => ?_
    rw [Nat.testBit_and]
    cases hc : c.testBit i with
    | false => rfl
    | true => rw [h i hc]; rfl
  rw [← e]; exact Nat.and_le_right
theorem two_pow_bit (a i : Nat) : (2 ^ a).testBit i = decide (a = i) := Nat.testBit_two_pow
theorem lw_sub (c : Nat) (l : Link) : SubC c (lwStep c l) := fun i h => by
  unfold lwStep
  split
  · rw [Nat.testBit_or, h]; rfl
  · exact h
theorem lw_fold_sub : ∀ (ls : List Link) (c : Nat), SubC c (ls.foldl lwStep c)
  | [], _ => fun _ h => h
  | l :: ls, c => fun i h => lw_fold_sub ls (lwStep c l) i (lw_sub c l i h)
theorem lw_fold_has : ∀ (ls : List Link) (c : Nat) (l : Link), l ∈ ls → c.testBit l.a = true → (ls.foldl lwStep c).testBit l.b = true
  | x :: ls, c, l, hl, h => by
    rw [List.foldl_cons]
    rcases List.mem_cons.mp hl with rfl | hl
    · refine lw_fold_sub ls _ _ ?_
      unfold lwStep
      rw [if_pos h, Nat.testBit_or, two_pow_bit, decide_eq_true rfl, Bool.or_true]
    · exact lw_fold_has ls _ l hl (lw_sub c x _ h)
theorem mayB_iff {ls : List Link} {c : Nat} : mayB ls c = true ↔ ∀ l ∈ ls, c.testBit l.a = true → c.testBit l.b = true := may_iff (b := ⟨0, 0, [], ls⟩)
structure LwInv (ls : List Link) (n a c : Nat) : Prop where
  lt : c < 2 ^ n
  has : c.testBit a = true
  sub : ∀ s, mayB ls s = true → s.testBit a = true → SubC c s
theorem lw_start {ls : List Link} {n a : Nat} (h : a < n) : LwInv ls n a (2 ^ a) where
  lt := Nat.pow_lt_pow_right (by decide) h
  has := by rw [two_pow_bit, decide_eq_true rfl]
  sub := fun s _ hs i hi => by
    rw [two_pow_bit, decide_eq_true_eq] at hi
    rw [← hi]; exact hs
theorem lw_turn {ls : List Link} {n a c : Nat} (I : LwInv ls n a c) {l : Link} (hl : l ∈ ls) (hb : l.b < n) : LwInv ls n a (lwStep c l) where
  lt := by
    unfold lwStep
    split
    · exact Nat.or_lt_two_pow I.lt (Nat.pow_lt_pow_right (by decide) hb)
    · exact I.lt
  has := lw_sub c l _ I.has
  sub := fun s hs ha i hi => by
    unfold lwStep at hi
    split at hi
    · rename_i hc
      rw [Nat.testBit_or, Bool.or_eq_true] at hi
      rcases hi with hi | hi
      · exact I.sub s hs ha i hi
      · rw [two_pow_bit, decide_eq_true_eq] at hi
        rw [← hi]
        exact mayB_iff.mp hs l hl (I.sub s hs ha _ hc)
    · exact I.sub s hs ha i hi
theorem lw_more {ls : List Link} {c : Nat} (h : mayB ls c = false) : c < ls.foldl lwStep c := by
  have h1 := (lw_fold_sub ls c).le
  have h2 : ls.foldl lwStep c ≠ c := fun e => by
    have : mayB ls c = true := mayB_iff.mpr fun l hl ha => by
      have := lw_fold_has ls c l hl ha
      rw [e] at this
      exact this
    rw [this] at h; cases h
  omega
theorem lw_done {ls : List Link} {n a c : Nat} (I : LwInv ls n a c) (m : mayB ls c = true) : LeastWith ls n a c := ⟨I.lt, I.has, m, I.sub⟩
/-! ### a desk's numbers stay within their bounds -/
structure DeskOk (d : Desk) : Prop where
  now : BookOk d.now
  past : ∀ b ∈ d.past, BookOk b ∧ b.n = d.now.n ∧ b.m = d.now.m
  future : ∀ b ∈ d.future, BookOk b ∧ b.n = d.now.n ∧ b.m = d.now.m
  len : d.past.length + d.future.length ≤ 20
theorem become_ok {d : Desk} (h : DeskOk d) {b : Book} (hb : BookOk b) (hn : b.n = d.now.n) (hm : b.m = d.now.m) : DeskOk (d.become b) where
  now := hb
  past := fun x hx => by
    have hx := List.mem_of_mem_take hx
    show BookOk x ∧ x.n = b.n ∧ x.m = b.m
    rw [hn, hm]
    rcases List.mem_cons.mp hx with rfl | hx
    · exact ⟨h.now, rfl, rfl⟩
    · exact h.past x hx
  future := fun x hx => by cases hx
  len := by
    show ((d.now :: d.past).take 20).length + 0 ≤ 20
    rw [List.length_take]; omega
theorem start_ok {n m : Nat} (h1 : 1 ≤ n) (h8 : n ≤ 8) : DeskOk ⟨⟨n, m, [], []⟩, [], []⟩ where
  now := ⟨h1, h8, by simp, by simp, by simp, by simp, by simp⟩
  past := by simp
  future := by simp
  len := by simp
theorem act_ok {d : Desk} (h : DeskOk d) (c : Km483.Call) : DeskOk (act d c).1 := by
  have hn := h.now
  cases c with
  | start n m =>
    unfold act
    dsimp only
    split
    · exact h
    · rename_i q
      have : Km483.ACTS = 8 := rfl
      exact start_ok (by omega) (by omega)
  | duty i j a x w t =>
    unfold act
    dsimp only
    split
    · exact h
    · split
      · exact h
      · split
        · exact h
        · rename_i q1 q2 q3
          have : Km483.DUTIES = 16 := rfl
          refine become_ok h ⟨hn.n1, hn.n8, ?_, ?_, hn.ll, hn.lr, hn.ln⟩ rfl rfl
          · show (d.now.duties ++ [_]).length ≤ 16
            rw [List.length_append, List.length_singleton]; omega
          · intro y hy
            rcases List.mem_append.mp hy with hy | hy
            · exact hn.dr y hy
            · have := List.mem_singleton.mp hy
              subst this
              exact ⟨by show a < d.now.n; omega, by show x ≤ 1; omega⟩
  | drop k =>
    unfold act
    dsimp only
    split
    · exact h
    · refine become_ok h ⟨hn.n1, hn.n8, ?_, ?_, hn.ll, hn.lr, hn.ln⟩ rfl rfl
      · show (d.now.duties.take k ++ d.now.duties.drop (k + 1)).length ≤ 16
        have := hn.dl
        rw [List.length_append, List.length_take, List.length_drop]; omega
      · intro y hy
        rcases List.mem_append.mp hy with hy | hy
        · exact hn.dr y (List.mem_of_mem_take hy)
        · exact hn.dr y (List.mem_of_mem_drop hy)
  | needs a b =>
    unfold act
    dsimp only
    split
    · exact h
    · split
      · exact h
      · split
        · exact h
        · split
          · exact h
          · rename_i q1 q2 q3 q4
            have : Km483.LINKS = 12 := rfl
            refine become_ok h ⟨hn.n1, hn.n8, hn.dl, hn.dr, ?_, ?_, ?_⟩ rfl rfl
            · show (d.now.links ++ [_]).length ≤ 12
              rw [List.length_append, List.length_singleton]; omega
            · intro y hy
              rcases List.mem_append.mp hy with hy | hy
              · exact hn.lr y hy
              · have := List.mem_singleton.mp hy
                subst this
                exact ⟨by show a < d.now.n; omega, by show b < d.now.n; omega⟩
            · show (d.now.links ++ [_]).Nodup
              rw [List.nodup_append]
              refine ⟨hn.ln, by simp, fun x hx y hy e => q3 ?_⟩
              rw [List.mem_singleton.mp hy] at e
              rw [List.contains_iff_mem]
              rw [← e]; exact hx
  | free a b =>
    unfold act
    dsimp only
    split
    · exact h
    · split
      · exact h
      · refine become_ok h ⟨hn.n1, hn.n8, hn.dl, hn.dr, ?_, ?_, ?_⟩ rfl rfl
        · exact Nat.le_trans (List.length_filter_le _ _) hn.ll
        · exact fun y hy => hn.lr y (List.mem_filter.mp hy).1
        · exact hn.ln.filter _
  | back =>
    unfold act
    dsimp only
    split
    · exact h
    · rename_i k r e
      have hk := h.past k (by rw [e]; exact List.mem_cons_self)
      refine ⟨hk.1, fun x hx => ?_, fun x hx => ?_, ?_⟩
      · have := h.past x (by rw [e]; exact List.mem_cons_of_mem _ hx)
        show BookOk x ∧ x.n = k.n ∧ x.m = k.m
        rw [hk.2.1, hk.2.2]; exact this
      · show BookOk x ∧ x.n = k.n ∧ x.m = k.m
        rw [hk.2.1, hk.2.2]
        rcases List.mem_cons.mp hx with rfl | hx
        · exact ⟨hn, rfl, rfl⟩
        · exact h.future x hx
      · have := h.len
        rw [e, List.length_cons] at this
        show r.length + (d.now :: d.future).length ≤ 20
        rw [List.length_cons]; omega
  | again =>
    unfold act
    dsimp only
    split
    · exact h
    · rename_i k r e
      have hk := h.future k (by rw [e]; exact List.mem_cons_self)
      refine ⟨hk.1, fun x hx => ?_, fun x hx => ?_, ?_⟩
      · show BookOk x ∧ x.n = k.n ∧ x.m = k.m
        rw [hk.2.1, hk.2.2]
        have hx := List.mem_of_mem_take hx
        rcases List.mem_cons.mp hx with rfl | hx
        · exact ⟨hn, rfl, rfl⟩
        · exact h.past x hx
      · have := h.future x (by rw [e]; exact List.mem_cons_of_mem _ hx)
        show BookOk x ∧ x.n = k.n ∧ x.m = k.m
        rw [hk.2.1, hk.2.2]; exact this
      · have := h.len
        rw [e, List.length_cons] at this
        show ((d.now :: d.past).take 20).length + r.length ≤ 20
        rw [List.length_take, List.length_cons]; omega
  | _ => exact h
end My
namespace My
open Km483 (Desk act)
open Km483Neutral (told step asked1 callOf natural)
/-! ### a line of calls -/
def intsN (ns : List Nat) : List Int := ns.map fun n : Nat => (n : Int)
inductive CallIs : Nat → List Nat → Km483.Call → Prop
  | start (a0 a1 : Nat) : CallIs 0 [a0, a1] (.start a0 a1)
  | duty (a0 a1 a2 a3 a4 a5 : Nat) : CallIs 1 [a0, a1, a2, a3, a4, a5] (.duty a0 a1 a2 a3 a4 a5)
  | drop (a0 : Nat) : CallIs 2 [a0] (.drop a0)
  | told (a0 : Nat) : CallIs 3 [a0] (.told a0)
  | needs (a0 a1 : Nat) : CallIs 4 [a0, a1] (.needs a0 a1)
  | free (a0 a1 : Nat) : CallIs 5 [a0, a1] (.free a0 a1)
  | may (a0 : Nat) : CallIs 6 [a0] (.may a0)
  | breaks (a0 : Nat) : CallIs 7 [a0] (.breaks a0)
  | best : CallIs 8 [] .best
  | most : CallIs 9 [] .most
  | ways : CallIs 10 [] .ways
  | nth (a0 : Nat) : CallIs 11 [a0] (.nth a0)
  | sure (a0 : Nat) : CallIs 12 [a0] (.sure a0)
  | who (a0 : Nat) : CallIs 13 [a0] (.who a0)
  | can (a0 : Nat) : CallIs 14 [a0] (.can a0)
  | cost (a0 : Nat) : CallIs 15 [a0] (.cost a0)
  | clash (a0 a1 : Nat) : CallIs 16 [a0, a1] (.clash a0 a1)
  | clashes : CallIs 17 [] .clashes
  | waive : CallIs 18 [] .waive
  | relief (a0 : Nat) : CallIs 19 [a0] (.relief a0)
  | back : CallIs 20 [] .back
  | again : CallIs 21 [] .again
  | state : CallIs 22 [] .state
def takesN : List Nat := [2, 6, 1, 1, 2, 2, 1, 1, 0, 0, 0, 1, 1, 1, 1, 1, 2, 0, 0, 1, 0, 0, 0]
theorem shape_cases {P : List (List Int) → Prop} {c : List (List Int)} (ok : PyFlat.okCall PyKm483.shape c)
    (h0 : ∀ b0 b1, P [[0, b0, b1]])
    (h1 : ∀ b0 b1 b2 b3 b4 b5, P [[1, b0, b1, b2, b3, b4, b5]])
    (h2 : ∀ b0, P [[2, b0]])
    (h3 : ∀ b0, P [[3, b0]])
    (h4 : ∀ b0 b1, P [[4, b0, b1]])
    (h5 : ∀ b0 b1, P [[5, b0, b1]])
    (h6 : ∀ b0, P [[6, b0]])
    (h7 : ∀ b0, P [[7, b0]])
    (h8 : P [[8]])
    (h9 : P [[9]])
    (h10 : P [[10]])
    (h11 : ∀ b0, P [[11, b0]])
    (h12 : ∀ b0, P [[12, b0]])
    (h13 : ∀ b0, P [[13, b0]])
    (h14 : ∀ b0, P [[14, b0]])
    (h15 : ∀ b0, P [[15, b0]])
    (h16 : ∀ b0 b1, P [[16, b0, b1]])
    (h17 : P [[17]])
    (h18 : P [[18]])
    (h19 : ∀ b0, P [[19, b0]])
    (h20 : P [[20]])
    (h21 : P [[21]])
    (h22 : P [[22]])
    : P c := by
  obtain ⟨p, a, xs, rfl, hs⟩ := ok
  unfold PyKm483.shape at hs
  by_cases g0 : p = 0
  · subst g0
    rw [if_pos rfl] at hs
    obtain ⟨e1, e2⟩ := Prod.mk.inj (Option.some.inj hs)
    exact match a, xs, e1, e2 with
    | [b0, b1], [], _, _ => h0 b0 b1
  rw [if_neg g0] at hs
  by_cases g1 : p = 1
  · subst g1
    rw [if_pos rfl] at hs
    obtain ⟨e1, e2⟩ := Prod.mk.inj (Option.some.inj hs)
    exact match a, xs, e1, e2 with
    | [b0, b1, b2, b3, b4, b5], [], _, _ => h1 b0 b1 b2 b3 b4 b5
  rw [if_neg g1] at hs
  by_cases g2 : p = 2
  · subst g2
    rw [if_pos rfl] at hs
    obtain ⟨e1, e2⟩ := Prod.mk.inj (Option.some.inj hs)
    exact match a, xs, e1, e2 with
    | [b0], [], _, _ => h2 b0
  rw [if_neg g2] at hs
  by_cases g3 : p = 3
  · subst g3
    rw [if_pos rfl] at hs
    obtain ⟨e1, e2⟩ := Prod.mk.inj (Option.some.inj hs)
    exact match a, xs, e1, e2 with
    | [b0], [], _, _ => h3 b0
  rw [if_neg g3] at hs
  by_cases g4 : p = 4
  · subst g4
    rw [if_pos rfl] at hs
    obtain ⟨e1, e2⟩ := Prod.mk.inj (Option.some.inj hs)
    exact match a, xs, e1, e2 with
    | [b0, b1], [], _, _ => h4 b0 b1
  rw [if_neg g4] at hs
  by_cases g5 : p = 5
  · subst g5
    rw [if_pos rfl] at hs
    obtain ⟨e1, e2⟩ := Prod.mk.inj (Option.some.inj hs)
    exact match a, xs, e1, e2 with
    | [b0, b1], [], _, _ => h5 b0 b1
  rw [if_neg g5] at hs
  by_cases g6 : p = 6
  · subst g6
    rw [if_pos rfl] at hs
    obtain ⟨e1, e2⟩ := Prod.mk.inj (Option.some.inj hs)
    exact match a, xs, e1, e2 with
    | [b0], [], _, _ => h6 b0
  rw [if_neg g6] at hs
  by_cases g7 : p = 7
  · subst g7
    rw [if_pos rfl] at hs
    obtain ⟨e1, e2⟩ := Prod.mk.inj (Option.some.inj hs)
    exact match a, xs, e1, e2 with
    | [b0], [], _, _ => h7 b0
  rw [if_neg g7] at hs
  by_cases g8 : p = 8
  · subst g8
    rw [if_pos rfl] at hs
    obtain ⟨e1, e2⟩ := Prod.mk.inj (Option.some.inj hs)
    exact match a, xs, e1, e2 with
    | [], [], _, _ => h8
  rw [if_neg g8] at hs
  by_cases g9 : p = 9
  · subst g9
    rw [if_pos rfl] at hs
    obtain ⟨e1, e2⟩ := Prod.mk.inj (Option.some.inj hs)
    exact match a, xs, e1, e2 with
    | [], [], _, _ => h9
  rw [if_neg g9] at hs
  by_cases g10 : p = 10
  · subst g10
    rw [if_pos rfl] at hs
    obtain ⟨e1, e2⟩ := Prod.mk.inj (Option.some.inj hs)
    exact match a, xs, e1, e2 with
    | [], [], _, _ => h10
  rw [if_neg g10] at hs
  by_cases g11 : p = 11
  · subst g11
    rw [if_pos rfl] at hs
    obtain ⟨e1, e2⟩ := Prod.mk.inj (Option.some.inj hs)
    exact match a, xs, e1, e2 with
    | [b0], [], _, _ => h11 b0
  rw [if_neg g11] at hs
  by_cases g12 : p = 12
  · subst g12
    rw [if_pos rfl] at hs
    obtain ⟨e1, e2⟩ := Prod.mk.inj (Option.some.inj hs)
    exact match a, xs, e1, e2 with
    | [b0], [], _, _ => h12 b0
  rw [if_neg g12] at hs
  by_cases g13 : p = 13
  · subst g13
    rw [if_pos rfl] at hs
    obtain ⟨e1, e2⟩ := Prod.mk.inj (Option.some.inj hs)
    exact match a, xs, e1, e2 with
    | [b0], [], _, _ => h13 b0
  rw [if_neg g13] at hs
  by_cases g14 : p = 14
  · subst g14
    rw [if_pos rfl] at hs
    obtain ⟨e1, e2⟩ := Prod.mk.inj (Option.some.inj hs)
    exact match a, xs, e1, e2 with
    | [b0], [], _, _ => h14 b0
  rw [if_neg g14] at hs
  by_cases g15 : p = 15
  · subst g15
    rw [if_pos rfl] at hs
    obtain ⟨e1, e2⟩ := Prod.mk.inj (Option.some.inj hs)
    exact match a, xs, e1, e2 with
    | [b0], [], _, _ => h15 b0
  rw [if_neg g15] at hs
  by_cases g16 : p = 16
  · subst g16
    rw [if_pos rfl] at hs
    obtain ⟨e1, e2⟩ := Prod.mk.inj (Option.some.inj hs)
    exact match a, xs, e1, e2 with
    | [b0, b1], [], _, _ => h16 b0 b1
  rw [if_neg g16] at hs
  by_cases g17 : p = 17
  · subst g17
    rw [if_pos rfl] at hs
    obtain ⟨e1, e2⟩ := Prod.mk.inj (Option.some.inj hs)
    exact match a, xs, e1, e2 with
    | [], [], _, _ => h17
  rw [if_neg g17] at hs
  by_cases g18 : p = 18
  · subst g18
    rw [if_pos rfl] at hs
    obtain ⟨e1, e2⟩ := Prod.mk.inj (Option.some.inj hs)
    exact match a, xs, e1, e2 with
    | [], [], _, _ => h18
  rw [if_neg g18] at hs
  by_cases g19 : p = 19
  · subst g19
    rw [if_pos rfl] at hs
    obtain ⟨e1, e2⟩ := Prod.mk.inj (Option.some.inj hs)
    exact match a, xs, e1, e2 with
    | [b0], [], _, _ => h19 b0
  rw [if_neg g19] at hs
  by_cases g20 : p = 20
  · subst g20
    rw [if_pos rfl] at hs
    obtain ⟨e1, e2⟩ := Prod.mk.inj (Option.some.inj hs)
    exact match a, xs, e1, e2 with
    | [], [], _, _ => h20
  rw [if_neg g20] at hs
  by_cases g21 : p = 21
  · subst g21
    rw [if_pos rfl] at hs
    obtain ⟨e1, e2⟩ := Prod.mk.inj (Option.some.inj hs)
    exact match a, xs, e1, e2 with
    | [], [], _, _ => h21
  rw [if_neg g21] at hs
  by_cases g22 : p = 22
  · subst g22
    rw [if_pos rfl] at hs
    obtain ⟨e1, e2⟩ := Prod.mk.inj (Option.some.inj hs)
    exact match a, xs, e1, e2 with
    | [], [], _, _ => h22
  rw [if_neg g22] at hs
  cases hs
theorem whole_ok {c : List (List Int)} (ok : PyFlat.okCall PyKm483.shape c) : PyKm483.whole c = c :=
  shape_cases (P := fun c => PyKm483.whole c = c) ok (fun _ _ => rfl) (fun _ _ _ _ _ _ => rfl) (fun _ => rfl) (fun _ => rfl) (fun _ _ => rfl) (fun _ _ => rfl) (fun _ => rfl) (fun _ => rfl) rfl rfl rfl (fun _ => rfl) (fun _ => rfl) (fun _ => rfl) (fun _ => rfl) (fun _ => rfl) (fun _ _ => rfl) rfl rfl (fun _ => rfl) rfl rfl rfl
theorem nat_of {z : Int} (h : natural z 32 = true) : ∃ n : Nat, z = (n : Int) := by
  unfold natural at h
  rw [Bool.and_eq_true, decide_eq_true_eq] at h
  exact ⟨z.toNat, by omega⟩
/-- a call that may be asked -/
theorem nat2 {a b : Int} (h : (natural a 32 && natural b 32) = true) : (∃ n : Nat, a = (n : Int)) ∧ ∃ n : Nat, b = (n : Int) := by
  rw [Bool.and_eq_true] at h
  exact ⟨nat_of h.1, nat_of h.2⟩
def IsAsked (c : List (List Int)) : Prop := ∃ (p : Nat) (ns : List Nat) (x : Km483.Call), c = [(p : Int) :: intsN ns] ∧ takesN[p]? = some ns.length ∧ CallIs p ns x ∧ callOf c = some x
theorem asked_inv {c : List (List Int)} (ok : PyFlat.okCall PyKm483.shape c) : asked1 c = true → IsAsked c := by
  refine shape_cases (P := fun c => asked1 c = true → IsAsked c) ok ?_ ?_ ?_ ?_ ?_ ?_ ?_ ?_ ?_ ?_ ?_ ?_ ?_ ?_ ?_ ?_ ?_ ?_ ?_ ?_ ?_ ?_ ?_
  · intro b0 b1 h
    obtain ⟨⟨n0, rfl⟩, n1, rfl⟩ := nat2 h
    exact ⟨0, [n0, n1], _, rfl, rfl, .start n0 n1, rfl⟩
  · intro b0 b1 b2 b3 b4 b5 h
    have h : (natural b0 32 && natural b1 32 && natural b2 32 && natural b3 32 && natural b4 32 && natural b5 32) = true := h
    simp only [Bool.and_eq_true] at h
    obtain ⟨⟨⟨⟨⟨g0, g1⟩, g2⟩, g3⟩, g4⟩, g5⟩ := h
    obtain ⟨n0, rfl⟩ := nat_of g0
    obtain ⟨n1, rfl⟩ := nat_of g1
    obtain ⟨n2, rfl⟩ := nat_of g2
    obtain ⟨n3, rfl⟩ := nat_of g3
    obtain ⟨n4, rfl⟩ := nat_of g4
    obtain ⟨n5, rfl⟩ := nat_of g5
    exact ⟨1, [n0, n1, n2, n3, n4, n5], _, rfl, rfl, .duty n0 n1 n2 n3 n4 n5, rfl⟩
  · intro b0 h
    obtain ⟨n0, rfl⟩ := nat_of (show natural b0 32 = true from h)
    exact ⟨2, [n0], _, rfl, rfl, .drop n0, rfl⟩
  · intro b0 h
    obtain ⟨n0, rfl⟩ := nat_of (show natural b0 32 = true from h)
    exact ⟨3, [n0], _, rfl, rfl, .told n0, rfl⟩
  · intro b0 b1 h
    obtain ⟨⟨n0, rfl⟩, n1, rfl⟩ := nat2 h
    exact ⟨4, [n0, n1], _, rfl, rfl, .needs n0 n1, rfl⟩
  · intro b0 b1 h
    obtain ⟨⟨n0, rfl⟩, n1, rfl⟩ := nat2 h
    exact ⟨5, [n0, n1], _, rfl, rfl, .free n0 n1, rfl⟩
  · intro b0 h
    obtain ⟨n0, rfl⟩ := nat_of (show natural b0 32 = true from h)
    exact ⟨6, [n0], _, rfl, rfl, .may n0, rfl⟩
  · intro b0 h
    obtain ⟨n0, rfl⟩ := nat_of (show natural b0 32 = true from h)
    exact ⟨7, [n0], _, rfl, rfl, .breaks n0, rfl⟩
  · intro _
    exact ⟨8, [], _, rfl, rfl, .best, rfl⟩
  · intro _
    exact ⟨9, [], _, rfl, rfl, .most, rfl⟩
  · intro _
    exact ⟨10, [], _, rfl, rfl, .ways, rfl⟩
  · intro b0 h
    obtain ⟨n0, rfl⟩ := nat_of (show natural b0 32 = true from h)
    exact ⟨11, [n0], _, rfl, rfl, .nth n0, rfl⟩
  · intro b0 h
    obtain ⟨n0, rfl⟩ := nat_of (show natural b0 32 = true from h)
    exact ⟨12, [n0], _, rfl, rfl, .sure n0, rfl⟩
  · intro b0 h
    obtain ⟨n0, rfl⟩ := nat_of (show natural b0 32 = true from h)
    exact ⟨13, [n0], _, rfl, rfl, .who n0, rfl⟩
  · intro b0 h
    obtain ⟨n0, rfl⟩ := nat_of (show natural b0 32 = true from h)
    exact ⟨14, [n0], _, rfl, rfl, .can n0, rfl⟩
  · intro b0 h
    obtain ⟨n0, rfl⟩ := nat_of (show natural b0 32 = true from h)
    exact ⟨15, [n0], _, rfl, rfl, .cost n0, rfl⟩
  · intro b0 b1 h
    obtain ⟨⟨n0, rfl⟩, n1, rfl⟩ := nat2 h
    exact ⟨16, [n0, n1], _, rfl, rfl, .clash n0 n1, rfl⟩
  · intro _
    exact ⟨17, [], _, rfl, rfl, .clashes, rfl⟩
  · intro _
    exact ⟨18, [], _, rfl, rfl, .waive, rfl⟩
  · intro b0 h
    obtain ⟨n0, rfl⟩ := nat_of (show natural b0 32 = true from h)
    exact ⟨19, [n0], _, rfl, rfl, .relief n0, rfl⟩
  · intro _
    exact ⟨20, [], _, rfl, rfl, .back, rfl⟩
  · intro _
    exact ⟨21, [], _, rfl, rfl, .again, rfl⟩
  · intro _
    exact ⟨22, [], _, rfl, rfl, .state, rfl⟩
def void : Desk := ⟨⟨0, 0, [], []⟩, [], []⟩
def deskOf (s : Km483Neutral.S) : Desk := s.getD void
def StOk (s : Km483Neutral.S) : Prop := ∀ d, s = some d → DeskOk d
theorem ok_or {s : Km483Neutral.S} (h : StOk s) : DeskOk (deskOf s) ∨ s = none := by
  cases s with
  | none => exact .inr rfl
  | some d => exact .inl (h d rfl)
/-- one call: the specification's step, by act -/
theorem step_inv {s : Km483Neutral.S} (h : StOk s) {c : List (List Int)} {x : Km483.Call} (hx : callOf c = some x) (hne : (step s c).2 ≠ []) :
    (step s c).2 = told (act (deskOf s) x).2 ∧ deskOf (step s c).1 = (act (deskOf s) x).1 ∧ StOk (step s c).1 ∧ (s = none → ∃ n m, x = .start n m) := by
  cases s with
  | some d =>
    have e : step (some d) c = (some (act d x).1, told (act d x).2) := by unfold step; rw [hx]
    rw [e]
    exact ⟨rfl, rfl, fun d' hd => (by cases hd; exact act_ok (h d rfl) x), fun z => (nomatch z)⟩
  | none =>
    cases x with
    | start n m =>
      have e : step none c = (if (told (act (Km483.fresh 1 2) (.start n m)).2).headD 0 < 0 then none else some (act (Km483.fresh 1 2) (.start n m)).1, told (act (Km483.fresh 1 2) (.start n m)).2) := by
        unfold step; rw [hx]; rfl
      rw [e]
      by_cases q : n = 0 ∨ Km483.ACTS < n ∨ m < 2 ∨ Km483.STATES < m
      · have e1 : ∀ d, act d (.start n m) = (d, Km483.only (-22)) := fun d => by unfold act; dsimp only; rw [if_pos q]
        rw [e1, e1]
        exact ⟨rfl, rfl, fun d hd => (nomatch hd), fun _ => ⟨n, m, rfl⟩⟩
      · have e1 : ∀ d, act d (.start n m) = (⟨⟨n, m, [], []⟩, [], []⟩, Km483.only 0) := fun d => by unfold act; dsimp only; rw [if_neg q]
        have hA : Km483.ACTS = 8 := rfl
        rw [e1, e1]
        refine ⟨rfl, rfl, fun d hd => ?_, fun _ => ⟨n, m, rfl⟩⟩
        cases hd
        exact start_ok (by omega) (by omega)
    | _ =>
      exfalso
      refine hne ?_
      unfold step
      rw [hx]
      rfl
/-- what is asked of a whole line -/
structure Line (s : Km483Neutral.S) (cs : List (List (List Int))) : Prop where
  st : StOk s
  as : ∀ c ∈ cs, asked1 c = true
  sh : ∀ c ∈ cs, PyFlat.okCall PyKm483.shape c
  may : Km483Neutral.may s cs = true
theorem Line.next {s : Km483Neutral.S} {c : List (List Int)} {cs : List (List (List Int))} (L : Line s (c :: cs)) :
    ∃ (p : Nat) (ns : List Nat) (x : Km483.Call), c = [(p : Int) :: intsN ns] ∧ takesN[p]? = some ns.length ∧ CallIs p ns x ∧ (step s c).2 = told (act (deskOf s) x).2 ∧ deskOf (step s c).1 = (act (deskOf s) x).1 ∧
      Line (step s c).1 cs ∧ (DeskOk (deskOf s) ∨ ∃ n m, x = .start n m) := by
  obtain ⟨p, ns, x, e, ht, hN, hx⟩ := asked_inv (L.sh c List.mem_cons_self) (L.as c List.mem_cons_self)
  have m := L.may
  unfold Km483Neutral.may at m
  rw [Bool.and_eq_true] at m
  have hne : (step s c).2 ≠ [] := fun z => by rw [z] at m; exact absurd m.1 (by decide)
  obtain ⟨h1, h2, h3, h4⟩ := step_inv L.st hx hne
  refine ⟨p, ns, x, e, ht, hN, h1, h2, ⟨h3, fun d hd => L.as d (List.mem_cons_of_mem _ hd), fun d hd => L.sh d (List.mem_cons_of_mem _ hd), m.2⟩, ?_⟩
  rcases ok_or L.st with z | z
  · exact .inl z
  · exact .inr (h4 z)
/-- from what the document lets be handed in -/
theorem asked_line {l : List Int} (h : PyKm483.answers_asked l = true) : ∃ cs, l = PyFlat.put cs ∧ Line Km483Neutral.start cs ∧ PyKm483.answers l = PyFlat.told (PyFlat.played step Km483Neutral.start cs) ∧ (PyKm483.answers l).length ≤ 10000000 := by
  unfold PyKm483.answers_asked at h
  split at h
  · cases h
  · rename_i cs hc
    rw [Bool.and_eq_true, Bool.and_eq_true] at h
    obtain ⟨⟨_, h2⟩, h3⟩ := h
    have em : cs.map PyKm483.whole = cs := by
      have h := List.map_congr_left (f := PyKm483.whole) (g := id) fun c h => whole_ok ((PyFlat.put_calls _ _ _ hc).2 c h)
      rw [h, List.map_id]
    rw [em] at h2
    unfold Km483Neutral.asked at h2
    rw [Bool.and_eq_true, Bool.and_eq_true, Bool.and_eq_true] at h2
    obtain ⟨_, _, h4, h5⟩ := h2
    refine ⟨cs, (PyFlat.put_calls _ _ _ hc).1, ⟨fun d hd => (nomatch hd), fun c hc => List.all_eq_true.mp h4 c hc, (PyFlat.put_calls _ _ _ hc).2, h5⟩, ?_, of_decide_eq_true h3⟩
    unfold PyKm483.answers PyKm483.calls
    rw [hc]
    dsimp only
    rw [em]
theorem put_cons (p : Nat) (ns : List Nat) (cs : List (List (List Int))) : PyFlat.put ([(p : Int) :: intsN ns] :: cs) = (p : Int) :: (intsN ns ++ PyFlat.put cs) := by
  show ((p : Int) :: intsN ns) ++ [] ++ PyFlat.put cs = _
  rw [List.append_nil]
  rfl
theorem told_cons (a : List Int) (l : List (List Int)) : PyFlat.told (a :: l) = ((a.length : Int) :: a) ++ PyFlat.told l := rfl
end My
set_option Elab.async false
set_option maxRecDepth 100000
set_option maxHeartbeats 4000000
namespace My
open PySem PySem.Spec PyProof.Rows L2
open PySem.W (Codec)
def top (i : Nat) : Stmt := PySem.Challenge.pw_promisesheld_s01_answers.main.body.getD i (.Pass ⟨0, 0, 0, 0⟩)
abbrev s_Duty_init : Stmt := inClass (top 15) 0
theorem sc_Duty_init : FnScope ["self", "debtor", "creditor", "act", "owed", "weight", "day"] ["self", "debtor", "creditor", "act", "owed", "weight", "day"] (defScope s_Duty_init) := ⟨rfl, rfl, rfl, by decide +kernel, rfl, by decide +kernel, by decide +kernel⟩
abbrev s_Book_init : Stmt := inClass (top 16) 0
theorem sc_Book_init : FnScope ["self"] ["self"] (defScope s_Book_init) := ⟨rfl, rfl, rfl, by decide +kernel, rfl, by decide +kernel, by decide +kernel⟩
abbrev s_Book_begin : Stmt := inClass (top 16) 1
theorem sc_Book_begin : FnScope ["self", "acts", "states"] ["self", "acts", "states"] (defScope s_Book_begin) := ⟨rfl, rfl, rfl, by decide +kernel, rfl, by decide +kernel, by decide +kernel⟩
abbrev s_Book_page : Stmt := inClass (top 16) 2
theorem sc_Book_page : FnScope ["self"] ["self"] (defScope s_Book_page) := ⟨rfl, rfl, rfl, by decide +kernel, rfl, by decide +kernel, by decide +kernel⟩
abbrev s_Book_turn_to : Stmt := inClass (top 16) 3
theorem sc_Book_turn_to : FnScope ["self", "page"] ["self", "page"] (defScope s_Book_turn_to) := ⟨rfl, rfl, rfl, by decide +kernel, rfl, by decide +kernel, by decide +kernel⟩
abbrev s_Book_change : Stmt := inClass (top 16) 4
theorem sc_Book_change : FnScope ["self", "duties", "links", "before"] ["self", "duties", "links"] (defScope s_Book_change) := ⟨rfl, rfl, rfl, by decide +kernel, rfl, by decide +kernel, by decide +kernel⟩
abbrev s_Book_take_back : Stmt := inClass (top 16) 5
theorem sc_Book_take_back : FnScope ["self"] ["self"] (defScope s_Book_take_back) := ⟨rfl, rfl, rfl, by decide +kernel, rfl, by decide +kernel, by decide +kernel⟩
abbrev s_Book_do_again : Stmt := inClass (top 16) 6
theorem sc_Book_do_again : FnScope ["self"] ["self"] (defScope s_Book_do_again) := ⟨rfl, rfl, rfl, by decide +kernel, rfl, by decide +kernel, by decide +kernel⟩
abbrev s_Book_has_act : Stmt := inClass (top 16) 7
theorem sc_Book_has_act : FnScope ["self", "act"] ["self", "act"] (defScope s_Book_has_act) := ⟨rfl, rfl, rfl, by decide +kernel, rfl, by decide +kernel, by decide +kernel⟩
abbrev s_Book_has_state : Stmt := inClass (top 16) 8
theorem sc_Book_has_state : FnScope ["self", "state"] ["self", "state"] (defScope s_Book_has_state) := ⟨rfl, rfl, rfl, by decide +kernel, rfl, by decide +kernel, by decide +kernel⟩
abbrev s_Book_has_duty : Stmt := inClass (top 16) 9
theorem sc_Book_has_duty : FnScope ["self", "place"] ["self", "place"] (defScope s_Book_has_duty) := ⟨rfl, rfl, rfl, by decide +kernel, rfl, by decide +kernel, by decide +kernel⟩
abbrev s_Book_is_set : Stmt := inClass (top 16) 10
theorem sc_Book_is_set : FnScope ["self", "conduct"] ["self", "conduct"] (defScope s_Book_is_set) := ⟨rfl, rfl, rfl, by decide +kernel, rfl, by decide +kernel, by decide +kernel⟩
abbrev s_overtakes : Stmt := top 17
theorem sc_overtakes : FnScope ["other", "duty"] ["other", "duty"] (defScope s_overtakes) := ⟨rfl, rfl, rfl, by decide +kernel, rfl, by decide +kernel, by decide +kernel⟩
abbrev s_stands : Stmt := top 18
theorem sc_stands : FnScope ["duty", "duties", "other"] ["duty", "duties"] (defScope s_stands) := ⟨rfl, rfl, rfl, by decide +kernel, rfl, by decide +kernel, by decide +kernel⟩
abbrev s_standing : Stmt := top 19
theorem sc_standing : FnScope ["duties", "duty"] ["duties"] (defScope s_standing) := ⟨rfl, rfl, rfl, by decide +kernel, rfl, by decide +kernel, by decide +kernel⟩
abbrev s_standing_places : Stmt := top 20
theorem sc_standing_places : FnScope ["duties", "place", "duty"] ["duties"] (defScope s_standing_places) := ⟨rfl, rfl, rfl, by decide +kernel, rfl, by decide +kernel, by decide +kernel⟩
abbrev s_ck_start : Stmt := top 22
theorem sc_ck_start : FnScope ["book", "n", "m"] ["book", "n", "m"] (defScope s_ck_start) := ⟨rfl, rfl, rfl, by decide +kernel, rfl, by decide +kernel, by decide +kernel⟩
abbrev s_ck_duty : Stmt := top 23
theorem sc_ck_duty : FnScope ["book", "i", "j", "a", "x", "w", "d", "place"] ["book", "i", "j", "a", "x", "w", "d"] (defScope s_ck_duty) := ⟨rfl, rfl, rfl, by decide +kernel, rfl, by decide +kernel, by decide +kernel⟩
abbrev s_ck_drop : Stmt := top 24
theorem sc_ck_drop : FnScope ["book", "k"] ["book", "k"] (defScope s_ck_drop) := ⟨rfl, rfl, rfl, by decide +kernel, rfl, by decide +kernel, by decide +kernel⟩
abbrev s_ck_needs : Stmt := top 25
theorem sc_ck_needs : FnScope ["book", "a", "b"] ["book", "a", "b"] (defScope s_ck_needs) := ⟨rfl, rfl, rfl, by decide +kernel, rfl, by decide +kernel, by decide +kernel⟩
abbrev s_ck_free : Stmt := top 26
theorem sc_ck_free : FnScope ["book", "a", "b", "link"] ["book", "a", "b"] (defScope s_ck_free) := ⟨rfl, rfl, rfl, by decide +kernel, rfl, by decide +kernel, by decide +kernel⟩
abbrev s_ck_back : Stmt := top 27
theorem sc_ck_back : FnScope ["book"] ["book"] (defScope s_ck_back) := ⟨rfl, rfl, rfl, by decide +kernel, rfl, by decide +kernel, by decide +kernel⟩
abbrev s_ck_again : Stmt := top 28
theorem sc_ck_again : FnScope ["book"] ["book"] (defScope s_ck_again) := ⟨rfl, rfl, rfl, by decide +kernel, rfl, by decide +kernel, by decide +kernel⟩
abbrev s_does : Stmt := top 30
theorem sc_does : FnScope ["conduct", "act"] ["conduct", "act"] (defScope s_does) := ⟨rfl, rfl, rfl, by decide +kernel, rfl, by decide +kernel, by decide +kernel⟩
abbrev s_count_acts : Stmt := top 31
theorem sc_count_acts : FnScope ["conduct", "act"] ["conduct"] (defScope s_count_acts) := ⟨rfl, rfl, rfl, by decide +kernel, rfl, by decide +kernel, by decide +kernel⟩
abbrev s_may_be : Stmt := top 32
theorem sc_may_be : FnScope ["conduct", "links", "link"] ["conduct", "links"] (defScope s_may_be) := ⟨rfl, rfl, rfl, by decide +kernel, rfl, by decide +kernel, by decide +kernel⟩
abbrev s_conducts_that_may_be : Stmt := top 33
theorem sc_conducts_that_may_be : FnScope ["book", "conduct"] ["book"] (defScope s_conducts_that_may_be) := ⟨rfl, rfl, rfl, by decide +kernel, rfl, by decide +kernel, by decide +kernel⟩
abbrev s_keeps : Stmt := top 34
theorem sc_keeps : FnScope ["conduct", "duty"] ["conduct", "duty"] (defScope s_keeps) := ⟨rfl, rfl, rfl, by decide +kernel, rfl, by decide +kernel, by decide +kernel⟩
abbrev s_broken_by : Stmt := top 35
theorem sc_broken_by : FnScope ["conduct", "duties", "duty"] ["conduct", "duties"] (defScope s_broken_by) := ⟨rfl, rfl, rfl, by decide +kernel, rfl, by decide +kernel, by decide +kernel⟩
abbrev s_weight_of : Stmt := top 36
theorem sc_weight_of : FnScope ["duties", "duty"] ["duties"] (defScope s_weight_of) := ⟨rfl, rfl, rfl, by decide +kernel, rfl, by decide +kernel, by decide +kernel⟩
abbrev s_weighed_conducts : Stmt := top 37
theorem sc_weighed_conducts : FnScope ["book", "duties", "conduct"] ["book"] (defScope s_weighed_conducts) := ⟨rfl, rfl, rfl, by decide +kernel, rfl, by decide +kernel, by decide +kernel⟩
abbrev s_least_broken : Stmt := top 38
theorem sc_least_broken : FnScope ["weighed", "conduct", "weight"] ["weighed"] (defScope s_least_broken) := ⟨rfl, rfl, rfl, by decide +kernel, rfl, by decide +kernel, by decide +kernel⟩
abbrev s_best_conducts : Stmt := top 39
theorem sc_best_conducts : FnScope ["book", "weighed", "least", "conduct", "weight"] ["book"] (defScope s_best_conducts) := ⟨rfl, rfl, rfl, by decide +kernel, rfl, by decide +kernel, by decide +kernel⟩
abbrev s_least_with : Stmt := top 41
theorem sc_least_with : FnScope ["act", "links", "conduct", "link"] ["act", "links"] (defScope s_least_with) := ⟨rfl, rfl, rfl, by decide +kernel, rfl, by decide +kernel, by decide +kernel⟩
abbrev s_clash : Stmt := top 42
theorem sc_clash : FnScope ["one", "other", "links", "done", "left"] ["one", "other", "links"] (defScope s_clash) := ⟨rfl, rfl, rfl, by decide +kernel, rfl, by decide +kernel, by decide +kernel⟩
abbrev s_clashing_pairs : Stmt := top 43
theorem sc_clashing_pairs : FnScope ["book", "places", "pairs", "place", "behind", "other"] ["book"] (defScope s_clashing_pairs) := ⟨rfl, rfl, rfl, by decide +kernel, rfl, by decide +kernel, by decide +kernel⟩
abbrev s_ck_clash : Stmt := top 44
theorem sc_ck_clash : FnScope ["book", "k", "l"] ["book", "k", "l"] (defScope s_ck_clash) := ⟨rfl, rfl, rfl, by decide +kernel, rfl, by decide +kernel, by decide +kernel⟩
abbrev s_ck_clashes : Stmt := top 45
theorem sc_ck_clashes : FnScope ["book", "pairs"] ["book"] (defScope s_ck_clashes) := ⟨rfl, rfl, rfl, by decide +kernel, rfl, by decide +kernel, by decide +kernel⟩
abbrev s_refusal_of : Stmt := top 47
theorem sc_refusal_of : FnScope ["book", "k"] ["book", "k"] (defScope s_refusal_of) := ⟨rfl, rfl, rfl, by decide +kernel, rfl, by decide +kernel, by decide +kernel⟩
abbrev s_cost_of : Stmt := top 48
theorem sc_cost_of : FnScope ["duty", "weighed", "kept", "conduct", "weight"] ["duty", "weighed"] (defScope s_cost_of) := ⟨rfl, rfl, rfl, by decide +kernel, rfl, by decide +kernel, by decide +kernel⟩
abbrev s_relief_of : Stmt := top 49
theorem sc_relief_of : FnScope ["duty", "weighed", "waived", "conduct", "weight"] ["duty", "weighed"] (defScope s_relief_of) := ⟨rfl, rfl, rfl, by decide +kernel, rfl, by decide +kernel, by decide +kernel⟩
abbrev s_ck_can : Stmt := top 50
theorem sc_ck_can : FnScope ["book", "k", "refusal", "duty", "kept", "conduct"] ["book", "k"] (defScope s_ck_can) := ⟨rfl, rfl, rfl, by decide +kernel, rfl, by decide +kernel, by decide +kernel⟩
abbrev s_ck_cost : Stmt := top 51
theorem sc_ck_cost : FnScope ["book", "k", "refusal"] ["book", "k"] (defScope s_ck_cost) := ⟨rfl, rfl, rfl, by decide +kernel, rfl, by decide +kernel, by decide +kernel⟩
abbrev s_ck_relief : Stmt := top 52
theorem sc_ck_relief : FnScope ["book", "k", "refusal"] ["book", "k"] (defScope s_ck_relief) := ⟨rfl, rfl, rfl, by decide +kernel, rfl, by decide +kernel, by decide +kernel⟩
abbrev s_ck_waive : Stmt := top 53
theorem sc_ck_waive : FnScope ["book", "places", "weighed", "reliefs", "greatest", "place"] ["book"] (defScope s_ck_waive) := ⟨rfl, rfl, rfl, by decide +kernel, rfl, by decide +kernel, by decide +kernel⟩
abbrev s_ck_told : Stmt := top 55
theorem sc_ck_told : FnScope ["book", "k", "duty", "mark"] ["book", "k"] (defScope s_ck_told) := ⟨rfl, rfl, rfl, by decide +kernel, rfl, by decide +kernel, by decide +kernel⟩
abbrev s_ck_may : Stmt := top 56
theorem sc_ck_may : FnScope ["book", "s"] ["book", "s"] (defScope s_ck_may) := ⟨rfl, rfl, rfl, by decide +kernel, rfl, by decide +kernel, by decide +kernel⟩
abbrev s_ck_breaks : Stmt := top 57
theorem sc_ck_breaks : FnScope ["book", "s", "broken"] ["book", "s"] (defScope s_ck_breaks) := ⟨rfl, rfl, rfl, by decide +kernel, rfl, by decide +kernel, by decide +kernel⟩
abbrev s_ck_best : Stmt := top 58
theorem sc_ck_best : FnScope ["book", "best"] ["book"] (defScope s_ck_best) := ⟨rfl, rfl, rfl, by decide +kernel, rfl, by decide +kernel, by decide +kernel⟩
abbrev s_ck_most : Stmt := top 59
theorem sc_ck_most : FnScope ["book", "together", "conduct"] ["book"] (defScope s_ck_most) := ⟨rfl, rfl, rfl, by decide +kernel, rfl, by decide +kernel, by decide +kernel⟩
abbrev s_ck_ways : Stmt := top 60
theorem sc_ck_ways : FnScope ["book"] ["book"] (defScope s_ck_ways) := ⟨rfl, rfl, rfl, by decide +kernel, rfl, by decide +kernel, by decide +kernel⟩
abbrev s_ck_nth : Stmt := top 61
theorem sc_ck_nth : FnScope ["book", "k", "best"] ["book", "k"] (defScope s_ck_nth) := ⟨rfl, rfl, rfl, by decide +kernel, rfl, by decide +kernel, by decide +kernel⟩
abbrev s_ck_sure : Stmt := top 62
theorem sc_ck_sure : FnScope ["book", "a", "done", "conduct"] ["book", "a"] (defScope s_ck_sure) := ⟨rfl, rfl, rfl, by decide +kernel, rfl, by decide +kernel, by decide +kernel⟩
abbrev s_ck_who : Stmt := top 63
theorem sc_ck_who : FnScope ["book", "i", "owed", "broken", "duty"] ["book", "i"] (defScope s_ck_who) := ⟨rfl, rfl, rfl, by decide +kernel, rfl, by decide +kernel, by decide +kernel⟩
abbrev s_ck_state : Stmt := top 64
theorem sc_ck_state : FnScope ["book", "back", "again"] ["book"] (defScope s_ck_state) := ⟨rfl, rfl, rfl, by decide +kernel, rfl, by decide +kernel, by decide +kernel⟩
abbrev s_answer_change : Stmt := top 89
theorem sc_answer_change : FnScope ["book", "call", "given"] ["book", "call", "given"] (defScope s_answer_change) := ⟨rfl, rfl, rfl, by decide +kernel, rfl, by decide +kernel, by decide +kernel⟩
abbrev s_answer_cost : Stmt := top 90
theorem sc_answer_cost : FnScope ["book", "call", "given"] ["book", "call", "given"] (defScope s_answer_cost) := ⟨rfl, rfl, rfl, by decide +kernel, rfl, by decide +kernel, by decide +kernel⟩
abbrev s_answer_question : Stmt := top 91
theorem sc_answer_question : FnScope ["book", "call", "given"] ["book", "call", "given"] (defScope s_answer_question) := ⟨rfl, rfl, rfl, by decide +kernel, rfl, by decide +kernel, by decide +kernel⟩
abbrev s_answer_call : Stmt := top 92
theorem sc_answer_call : FnScope ["book", "call", "given"] ["book", "call", "given"] (defScope s_answer_call) := ⟨rfl, rfl, rfl, by decide +kernel, rfl, by decide +kernel, by decide +kernel⟩
abbrev s_answers : Stmt := top 93
theorem sc_answers : FnScope ["calls", "book", "told", "place", "call", "behind", "answer"] ["calls"] (defScope s_answers) := ⟨rfl, rfl, rfl, by decide +kernel, rfl, by decide +kernel, by decide +kernel⟩
end My
namespace My
open PySem PySem.Spec PyProof.Rows L2
open PySem.W (Codec)
/-! ### a def that keeps its promise, by its name -/
def Does (P : Program) (w : World) (K : PySem.W.Frag) (mg : Str → Option Value) (base : Heap) (k : Nat) (x : Str) (ps : List Str) (sp : Sp) : Prop :=
  ∃ (f : Addr) (fd : FuncData), mg x = some (.ref f) ∧ PySem.W.keepIn K (.ref f) = true ∧ Binds K fd ps [] ∧ FnOk P w K mg base CX0 k f fd ps sp
/-- a method of the class at C -/
def DoesM (P : Program) (w : World) (K : PySem.W.Frag) (mg : Str → Option Value) (base : Heap) (C : Addr) (k : Nat) (x : Str) (ps : List Str) (sp : Sp) : Prop :=
  ∃ (f : Addr) (fd : FuncData), Meth K C x f ∧ Binds K fd ps [] ∧ FnOk P w K mg base CX0 k f fd ps sp
/-- the text has this def -/
def Has (K : PySem.W.Frag) (mg : Str → Option Value) (x : Str) (st : Stmt) (ps : List Str) : Prop :=
  ∃ (f : Addr) (fd : FuncData), mg x = some (.ref f) ∧ Fun K x x st f fd ∧ Binds K fd ps []
def HasM (K : PySem.W.Frag) (C : Addr) (x qual : Str) (st : Stmt) (ps : List Str) : Prop :=
  ∃ (f : Addr) (fd : FuncData), Meth K C x f ∧ Fun K x qual st f fd ∧ Binds K fd ps []
section
variable {P : Program} {w : World} {K : PySem.W.Frag} {mg : Str → Option Value} {base : Heap} {C : Addr}
theorem Has.does {x : Str} {st : Stmt} {N ps : List Str} {k : Nat} {sp : Sp} (h : Has K mg x st ps) (S : FnScope N ps (defScope st)) (len : ∀ vs H Q E, sp vs H Q E → vs.length = ps.length)
    (hbody : ∀ (f : Addr) (cdv : Value) (A : Around) (outer : List Env) (s : Shared) (H : Hp) (vs : List V) (Q : VK) (E : XK), Room k (A.deeper (envOfC x (defScope st) s.heap.objs.size f cdv)) → sp vs H Q E →
      ∃ t, PSs (cxOf CX0 P w K mg base N x (defScope st) f cdv A outer s H E).nox (defBody st) t ∧ t { nx := fun _ H' => Q .non H', rt := Q } (start N vs) H) : Does P w K mg base (k + 1) x ps sp := by
  obtain ⟨f, fd, hm, F, b⟩ := h
  exact ⟨f, fd, hm, F.kp, b, F.ok S len (hbody f)⟩
theorem HasM.does {x qual : Str} {st : Stmt} {N ps : List Str} {k : Nat} {sp : Sp} (h : HasM K C x qual st ps) (S : FnScope N ps (defScope st)) (len : ∀ vs H Q E, sp vs H Q E → vs.length = ps.length)
    (hbody : ∀ (f : Addr) (cdv : Value) (A : Around) (outer : List Env) (s : Shared) (H : Hp) (vs : List V) (Q : VK) (E : XK), Room k (A.deeper (envOfC qual (defScope st) s.heap.objs.size f cdv)) → sp vs H Q E →
      ∃ t, PSs (cxOf CX0 P w K mg base N qual (defScope st) f cdv A outer s H E).nox (defBody st) t ∧ t { nx := fun _ H' => Q .non H', rt := Q } (start N vs) H) : DoesM P w K mg base C (k + 1) x ps sp := by
  obtain ⟨f, fd, hm, F, b⟩ := h
  exact ⟨f, fd, hm, b, F.ok S len (hbody f)⟩
end
section
variable {X : Cx} {x : Str} {p pos apos : Pos} {o e : Expr} {es : List Expr} {t : TA} {to : TE} {k j : Nat} {ps : List Str} {sp : Sp} {C : Addr}
/-- f(e, ..) -/
theorem pe_f (D : Does X.prog X.w X.K X.mg X.base j x ps sp) (hr : Room k X.A) (hjk : j ≤ k := by decide) (hg : Gl X x := by rfl) (ha : PA X (e :: es) t) (hdb : (x == ("__debug__" : Str)) = false := by decide)
    (he : starEach (e :: es) X.env = (false, eval e X.env) :: starEach es X.env := by rfl) (hpl : (backTo pos (starEach es X.env)).any (·.1) = false := by rfl) : PE X (.Call (.Name x p) (e :: es) [] pos) (tCall sp [] E0 t) := by
  obtain ⟨f, fd, hm, hk, hb, G⟩ := D
  exact pe_call G (hr.mono hjk) hg hm hk hb .nil pass0 ha hdb he hpl
theorem pe_m {pl : Sem Bool} (D : DoesM X.prog X.w X.K X.mg X.base C j x ps sp) (c : Cls X.K C) (hr : Room k X.A) (ho : PE X o to) (ha : PA X (e :: es) t) (hjk : j ≤ k := by decide)
    (hst : starEach (e :: es) X.env = (false, eval e X.env) :: starEach es X.env := by rfl) (hpl : (backTo pos (starEach es X.env)).any (·.1) = false := by rfl)
    (ht : eval (.Call (.Attribute o x apos) (e :: es) [] pos) X.env = (do
      let ov ← eval o X.env
      standAt apos.atName
      let (f, first) ← holding [ov] (getMethod ov x pl)
      callWith pos f first (backTo pos (starEach (e :: es) X.env)) (backToKw pos (keywordEach [] X.env))) := by rfl) :
    PE X (.Call (.Attribute o x apos) (e :: es) [] pos) (tMeth C x sp [] E0 to t) := by
  obtain ⟨f, fd, hm, hb, G⟩ := D
  exact pe_meth ho c hm G (hr.mono hjk) hb .nil pass0 ha hst hpl ht
end
/-! ### the same with the written part named (for a comprehension's block) -/
section
variable {X : Cx} {e a b : Expr} {ta tb : TE} {f : Str} {pos : Pos}
theorem pf (K : PySem.W.Frag) (he : PE X e ta) (hK : X.K = K := by rfl) (hb : attributeBase e f X.env (eval e X.env) = eval e X.env := by rfl) : PE X (.Attribute e f pos) (tFld K ta f) := by
  subst hK
  exact pe_fld he hb
theorem pixT (K : PySem.W.Frag) (ha : PE X a ta) (hb : PE X b tb) (hK : X.K = K := by rfl) (hs : PlainIx b := by exact fun _ _ => rfl) : PE X (.Subscript a b pos) (tOp (rIxT K) ta tb) := by
  subst hK
  exact pe_ix ix_tup ha hb hs
theorem pixL (K : PySem.W.Frag) (ha : PE X a ta) (hb : PE X b tb) (hK : X.K = K := by rfl) (hs : PlainIx b := by exact fun _ _ => rfl) : PE X (.Subscript a b pos) (tOp (rIxL K) ta tb) := by
  subst hK
  exact pe_ix ix_list ha hb hs
end
/-! ### small readings -/
theorem bool_if {A B : Prop} (c : Bool) (h1 : c = true → A) (h0 : c = false → B) : if c = true then A else B := by
  cases c with
  | true => exact iteT (h1 rfl)
  | false => exact iteF (h0 rfl)
theorem same_upd {H H' : Hp} {p : Addr} {o : HO} (s : Same H H') (h : H' p = none) : Same H (upd H' p o) := fun b u e => by
  rw [upd_ne (ne_of_none (s b u e) h)]; exact s b u e
theorem take_snoc {α : Type} : ∀ {l : List α} {i : Nat} {x : α}, l[i]? = some x → l.take (i + 1) = l.take i ++ [x]
  | [], i, x, h => by simp at h
  | a :: l, 0, x, h => by
    have e : a = x := Option.some.inj h
    subst e
    rfl
  | a :: l, i + 1, x, h => by
    have ih := take_snoc (l := l) (i := i) (x := x) h
    show a :: l.take (i + 1) = a :: l.take i ++ [x]
    rw [ih]
    rfl
theorem paired_get {α β : Type} {R : α → β → Prop} : ∀ {xs : List α} {ys : List β} {i : Nat} {x : α}, Paired R xs ys → xs[i]? = some x → ∃ y, ys[i]? = some y ∧ R x y
  | _, _, _, _, .nil, e => by simp at e
  | _, _, 0, _, .cons r _, e => by simp at e; subst e; exact ⟨_, rfl, r⟩
  | _, _, i + 1, x, .cons _ t, e => by
    obtain ⟨u, h1, h2⟩ := paired_get (i := i) (x := x) t (by simpa using e)
    exact ⟨u, by simpa using h1, h2⟩
theorem paired_get2 {α β : Type} {R : α → β → Prop} : ∀ {xs : List α} {ys : List β} {i : Nat} {y : β}, Paired R xs ys → ys[i]? = some y → ∃ x, xs[i]? = some x ∧ R x y
  | _, _, _, _, .nil, e => by simp at e
  | _, _, 0, _, .cons r _, e => by simp at e; subst e; exact ⟨_, rfl, r⟩
  | _, _, i + 1, x, .cons _ t, e => by
    obtain ⟨u, h1, h2⟩ := paired_get2 (i := i) (y := x) t (by simpa using e)
    exact ⟨u, by simpa using h1, h2⟩
theorem paired_app {α β : Type} {R : α → β → Prop} : ∀ {xs xs' : List α} {ys ys' : List β}, Paired R xs ys → Paired R xs' ys' → Paired R (xs ++ xs') (ys ++ ys')
  | _, _, _, _, .nil, s => s
  | _, _, _, _, .cons r t, s => .cons r (paired_app t s)
theorem paired_imp {α β : Type} {R S : α → β → Prop} (f : ∀ a b, R a b → S a b) : ∀ {xs : List α} {ys : List β}, Paired R xs ys → Paired S xs ys
  | _, _, .nil => .nil
  | _, _, .cons r t => .cons (f _ _ r) (paired_imp f t)
theorem paired_len {α β : Type} {R : α → β → Prop} {xs : List α} {ys : List β} (h : Paired R xs ys) : xs.length = ys.length := Paired.length h
/-! ### the data: duties, links, conducts -/
def dF (d : Km483.Duty) : List (Str × V) :=
  [("debtor", .int d.i), ("creditor", .int d.j), ("act", .int d.a), ("owed", .int d.done), ("weight", .int d.weight), ("day", .int d.day)]
/-- v stands for the duty d, the link l, the number n -/
def RD (C : Addr) (H : Hp) (v : V) (d : Km483.Duty) : Prop := ∃ a dx, v = .ref a ∧ H a = some (.ins C dx (dF d))
def RL (H : Hp) (v : V) (l : Km483.Link) : Prop := ∃ a, v = .ref a ∧ H a = some (.tup [.int l.a, .int l.b])
def RI (_ : Hp) (v : V) (n : Nat) : Prop := v = .int n
def Mono {α : Type} (R : Hp → V → α → Prop) : Prop := ∀ (H H' : Hp) (v : V) (d : α), Same H H' → R H v d → R H' v d
theorem mono_RD {C : Addr} : Mono (RD C) := fun _ _ _ _ s ⟨a, dx, e, h⟩ => ⟨a, dx, e, s _ _ h⟩
theorem mono_RL : Mono RL := fun _ _ _ _ s ⟨a, e, h⟩ => ⟨a, e, s _ _ h⟩
theorem mono_RI : Mono RI := fun _ _ _ _ _ h => h
/-- the list at p holds what stands for ds -/
def LAt {α : Type} (R : Hp → V → α → Prop) (H : Hp) (p : Addr) (ds : List α) : Prop := ∃ xs : List V, H p = some (.lst xs) ∧ Paired (R H) xs ds ∧ ds.length ≤ 1000
theorem LAt.same {α : Type} {R : Hp → V → α → Prop} {H H' : Hp} {p : Addr} {ds : List α} (m : Mono R) (h : LAt R H p ds) (s : Same H H') : LAt R H' p ds :=
  let ⟨xs, e, q, z⟩ := h; ⟨xs, s _ _ e, paired_imp (fun _ _ r => m _ _ _ _ s r) q, z⟩
theorem ri_all {H : Hp} : ∀ ns : List Nat, Paired (RI H) (ns.map fun n : Nat => V.int (n : Int)) ns
  | [] => .nil
  | _ :: r => .cons rfl (ri_all r)
theorem all_ri {H : Hp} : ∀ {xs : List V} {ns : List Nat}, Paired (RI H) xs ns → xs = ns.map fun n : Nat => V.int (n : Int)
  | _, _, .nil => rfl
  | _, _, .cons r t => by rw [show _ = _ from r, all_ri t]; rfl
/-! ### readings that only read: the value, the heap as it was -/
def Ev (t : TE) (σ : L2.St) (H : Hp) (v : V) : Prop := ∀ Q : VK, Q v H → t σ H Q
def EvT (t : TT) (σ : L2.St) (H : Hp) (b : Bool) : Prop := ∀ Q : Bool → Hp → Prop, Q b H → t σ H Q
def EvA (t : TA) (σ : L2.St) (H : Hp) (vs : List V) : Prop := ∀ Q : List V → Hp → Prop, Q vs H → t σ H Q
section
variable {σ : L2.St} {H : Hp} {ta tb : TE} {tt uu : TT} {x y v : V} {b c : Bool} {K : PySem.W.Frag}
theorem ev_var {i : Nat} (h : σ[i]? = some (some v)) : Ev (tVar i) σ H v := fun _ q => ⟨v, h, q⟩
theorem ev_c : Ev (tC v) σ H v := fun _ q => q
theorem ev_fld {a C dx : Addr} {fs : List (Str × V)} {f : Str} (h : Ev ta σ H (.ref a)) (e : H a = some (.ins C dx fs)) (c : Cls K C) (n : NoAttr K C f) (l : fs.lookup f = some v) : Ev (tFld K ta f) σ H v :=
  fun _ q => h _ ⟨a, C, dx, fs, v, rfl, e, c, n, l, q⟩
theorem ev_eq (hx : Ev ta σ H x) (hy : Ev tb σ H y) (s : scal x y = true) : Ev (tOp rEq ta tb) σ H (.bl (decide (x = y))) := fun _ q => hx _ (hy _ ⟨s, q⟩)
theorem ev_ne (hx : Ev ta σ H x) (hy : Ev tb σ H y) (s : scal x y = true) : Ev (tOp rNe ta tb) σ H (.bl (!decide (x = y))) := fun _ q => hx _ (hy _ ⟨s, q⟩)
theorem ev_i0 {i j : Int} {g : Int → Int → V} (hx : Ev ta σ H (.int i)) (hy : Ev tb σ H (.int j)) : Ev (tOp (rI0 g) ta tb) σ H (g i j) := fun _ q => hx _ (hy _ ⟨i, j, rfl, rfl, q⟩)
theorem ev_i {i j : Int} {g : Int → Int → V} {C : Int → Int → Prop} (hx : Ev ta σ H (.int i)) (hy : Ev tb σ H (.int j)) (hc : C i j) : Ev (tOp (rI C g) ta tb) σ H (g i j) := fun _ q => hx _ (hy _ ⟨i, j, rfl, rfl, hc, q⟩)
theorem ev_un {i : Int} {g : Int → V} (hx : Ev ta σ H (.int i)) : Ev (tUn (rU g) ta) σ H (g i) := fun _ q => hx _ ⟨i, rfl, q⟩
theorem ev_and (hx : Ev ta σ H (.bl b)) (hy : b = true → Ev tb σ H (.bl c)) : Ev (tAndV ta tb) σ H (.bl (b && c)) := fun _ q => hx _ ⟨b, rfl, bool_if b (fun e => hy e _ (by rw [e, Bool.true_and] at q; exact q)) fun e => by rw [e, Bool.false_and] at q; exact q⟩
theorem ev_not (hx : Ev ta σ H (.bl b)) : Ev (tNotV ta) σ H (.bl (!b)) := fun _ q => hx _ ⟨b, rfl, q⟩
theorem ev_ixL {p : Addr} {xs : List V} {i : Int} {ti : TE} (hx : Ev ta σ H (.ref p)) (hi : Ev ti σ H (.int i)) (h : SqL K H p xs) (hv : atI xs i = some v) : Ev (tOp (rIxL K) ta ti) σ H v := fun _ q => hx _ (hi _ ⟨p, xs, i, v, rfl, rfl, h, hv, q⟩)
theorem ev_ixT {p : Addr} {xs : List V} {i : Int} {ti : TE} (hx : Ev ta σ H (.ref p)) (hi : Ev ti σ H (.int i)) (h : SqT K H p xs) (hv : atI xs i = some v) : Ev (tOp (rIxT K) ta ti) σ H v := fun _ q => hx _ (hi _ ⟨p, xs, i, v, rfl, rfl, h, hv, q⟩)
theorem ev_if (ht : EvT tt σ H b) (h1 : b = true → Ev ta σ H x) (h0 : b = false → Ev tb σ H y) : Ev (tIf tt ta tb) σ H (if b then x else y) := fun _ q => ht _ (bool_if b (fun e => h1 e _ (by rw [e, if_pos rfl] at q; exact q)) fun e => h0 e _ (by rw [e] at q; exact q))
theorem evt_b (h : Ev ta σ H (.bl b)) : EvT (tB ta) σ H b := fun _ q => h _ ⟨b, rfl, q⟩
theorem evt_test (h : Ev ta σ H (.bl b)) : EvT (tTest ta) σ H b := fun _ q => h _ ⟨b, rfl, q⟩
theorem evt_and (h : EvT tt σ H b) (h2 : b = true → EvT uu σ H c) : EvT (tAnd tt uu) σ H (b && c) := fun _ q => h _ (bool_if b (fun e => h2 e _ (by rw [e, Bool.true_and] at q; exact q)) fun e => by rw [e, Bool.false_and] at q; exact q)
theorem evt_or (h : EvT tt σ H b) (h2 : b = false → EvT uu σ H c) : EvT (tOr tt uu) σ H (b || c) := fun _ q => h _ (bool_if b (fun e => by rw [e, Bool.true_or] at q; exact q) fun e => h2 e _ (by rw [e, Bool.false_or] at q; exact q))
theorem evt_not (h : EvT tt σ H b) : EvT (tNot tt) σ H (!b) := fun _ q => h _ q
theorem evt_yes : EvT tYes σ H true := fun _ q => q
theorem eva_nil : EvA tNil σ H [] := fun _ q => q
theorem eva_cons {t : TA} {vs : List V} (h : Ev ta σ H v) (r : EvA t σ H vs) : EvA (tCons ta t) σ H (v :: vs) := fun _ q => h _ (r _ q)
/-- a call that only reads and makes nothing -/
theorem ev_call {sp : Sp} {t : TA} {vs : List V} (ha : EvA t σ H vs) (h : ∀ Q : VK, Q v H → sp vs H Q E0) : Ev (tCall sp [] E0 t) σ H v := fun Q q => ha _ (by rw [List.append_nil]; exact h Q q)
theorem ev_meth {sp : Sp} {t : TA} {vs : List V} {C a dx : Addr} {fs : List (Str × V)} {m : Str} (ho : Ev ta σ H (.ref a)) (e : H a = some (.ins C dx fs)) (hl : fs.lookup m = none) (ha : EvA t σ H vs) (h : ∀ Q : VK, Q v H → sp (.ref a :: vs) H Q E0) :
    Ev (tMeth C m sp [] E0 ta t) σ H v := fun Q q => ho _ ⟨a, dx, fs, rfl, e, hl, ha _ (by rw [List.append_nil]; exact h Q q)⟩
theorem ev_len {p : Addr} {ys : List V} {t : TA} (ha : EvA t σ H [.ref p]) (h : SqL K H p ys) : Ev (tCB (fun xs H Q => ∃ p ys, xs = [.ref p] ∧ (SqL K H p ys ∨ SqT K H p ys) ∧ Q (.int ys.length) H) t) σ H (.int ys.length) := fun _ q => ha _ ⟨p, ys, rfl, .inl h, q⟩
end
/-! ### comprehensions: what has been made so far -/
theorem wipe_set {σ : L2.St} {i : Nat} {x : Option V} : wipe ((wipe σ [i]).set i x) [i] = wipe σ [i] := by
  show ((σ.set i none).set i x).set i none = σ.set i none
  rw [List.set_set, List.set_set]
theorem set_wipe {σ : L2.St} {i : Nat} {x : Option V} : (wipe σ [i]).set i x = σ.set i x := by
  show (σ.set i none).set i x = σ.set i x
  rw [List.set_set]
section
variable {K : PySem.W.Frag} {tt : TT} {te : TE} {σ : L2.St} {H : Hp} {D : Addr} {Qd : Hp → Prop}
theorem lc_over {a : Addr} {xs : List V} {i : Nat} (hq : SqL K H a xs) (hD : H D = none) (acc : Nat → List V) (h0 : acc 0 = []) (hz : ∀ k, k < xs.length → (acc k).length < sizeLine)
    (turn : ∀ (k : Nat) (x : V) (H' : Hp) (R : Hp → Prop) (S : VK), xs[k]? = some x → Same H H' → (∀ H3, Same H' H3 → acc (k + 1) = acc k → R H3) → (∀ y H4, Same H' H4 → acc (k + 1) = acc k ++ [y] → S y H4) →
      tt (σ.set i (some x)) H' fun c H3 => if c = true then te (σ.set i (some x)) H3 S else R H3)
    (fin : ∀ H', Same H H' → H' D = some (.lst (acc xs.length)) → Qd H') :
    ∃ W : Nat → Nat → Hp → Prop, (∃ m, W 0 m (upd H D (.lst []))) ∧ ∀ k m H, W k m H →
      ((Itl K a).stop k H ∧ Qd H) ∨ ((Itl K a).go k H ∧ ∃ Nx : Hp → Prop, (∀ H', Nx H' → ∃ m', m' < m ∧ W (k + 1) m' H') ∧ ∀ x H', (Itl K a).yld k H x H' → gName i x (wipe σ [i]) H' fun σ2 H2 => wipe σ2 [i] = wipe σ [i] ∧ tt σ2 H2 fun b H3 =>
        if b = true then te σ2 H3 fun y H4 => ∃ acc, H4 D = some (.lst acc) ∧ acc.length < sizeLine ∧ Nx (upd H4 D (.lst (acc ++ [y]))) else Nx H3) := by
  refine lc_list (xs := xs) (fun k H' => Same H H' ∧ H' D = some (.lst (acc k))) ⟨same_upd (Same.refl H) hD, by rw [h0]; exact upd_same⟩ (fun k H' _ p => p.1.seq hq) (fun k x H' hx p => ?_) fun H' p => fin H' p.1 p.2
  have hk : k < xs.length := (List.getElem?_eq_some_iff.mp hx).1
  refine ⟨wipe_set, ?_⟩
  rw [set_wipe]
  refine turn k x H' _ _ hx p.1 (fun H3 h3 e3 => ?_) fun y H4 h4 e4 => ?_
  · exact ⟨p.1.trans h3, by rw [e3]; exact h3 _ _ p.2⟩
  · refine ⟨acc k, h4 _ _ p.2, hz k hk, fun b o e => ?_, by rw [e4]; exact upd_same⟩
    rw [upd_ne (ne_of_none e hD)]
    exact h4 _ _ (p.1 _ _ e)
theorem lc_upto {n : Nat} {i : Nat} (hD : H D = none) (acc : Nat → List V) (h0 : acc 0 = []) (hz : ∀ k, k < n → (acc k).length < sizeLine)
    (turn : ∀ (k : Nat) (H' : Hp) (R : Hp → Prop) (S : VK), k < n → Same H H' → (∀ H3, Same H' H3 → acc (k + 1) = acc k → R H3) → (∀ y H4, Same H' H4 → acc (k + 1) = acc k ++ [y] → S y H4) →
      tt (σ.set i (some (.int k))) H' fun c H3 => if c = true then te (σ.set i (some (.int k))) H3 S else R H3)
    (fin : ∀ H', Same H H' → H' D = some (.lst (acc n)) → Qd H') :
    ∃ W : Nat → Nat → Hp → Prop, (∃ m, W 0 m (upd H D (.lst []))) ∧ ∀ k m H, W k m H →
      ((Itr 0 n).stop k H ∧ Qd H) ∨ ((Itr 0 n).go k H ∧ ∃ Nx : Hp → Prop, (∀ H', Nx H' → ∃ m', m' < m ∧ W (k + 1) m' H') ∧ ∀ x H', (Itr 0 n).yld k H x H' → gName i x (wipe σ [i]) H' fun σ2 H2 => wipe σ2 [i] = wipe σ [i] ∧ tt σ2 H2 fun b H3 =>
        if b = true then te σ2 H3 fun y H4 => ∃ acc, H4 D = some (.lst acc) ∧ acc.length < sizeLine ∧ Nx (upd H4 D (.lst (acc ++ [y]))) else Nx H3) := by
  refine lc_range (fun k H' => Same H H' ∧ H' D = some (.lst (acc k))) ⟨same_upd (Same.refl H) hD, by rw [h0]; exact upd_same⟩ (fun k H' hk p => ?_) fun H' p => fin H' p.1 p.2
  refine ⟨wipe_set, ?_⟩
  rw [set_wipe, Int.zero_add]
  refine turn k H' _ _ hk p.1 (fun H3 h3 e3 => ?_) fun y H4 h4 e4 => ?_
  · exact ⟨p.1.trans h3, by rw [e3]; exact h3 _ _ p.2⟩
  · refine ⟨acc k, h4 _ _ p.2, hz k hk, fun b o e => ?_, by rw [e4]; exact upd_same⟩
    rw [upd_ne (ne_of_none e hD)]
    exact h4 _ _ (p.1 _ _ e)
theorem small_line {n : Nat} (h : n ≤ 1000) : n < sizeLine := by rw [sizeLine_eq]; omega
/-- [f(x) for x in xs] -/
theorem lc_map {α : Type} {R : Hp → V → α → Prop} (mono : Mono R) {a : Addr} {ds : List α} {i : Nat} (hl : LAt R H a ds) (hD : H D = none) (f : α → V)
    (turn : ∀ (x : V) (d : α) (H' : Hp) (S : VK), d ∈ ds → R H' x d → Same H H' → (∀ H4, Same H' H4 → S (f d) H4) → te (σ.set i (some x)) H' S)
    (fin : ∀ H', Same H H' → H' D = some (.lst (ds.map f)) → Qd H') :
    ∃ W : Nat → Nat → Hp → Prop, (∃ m, W 0 m (upd H D (.lst []))) ∧ ∀ k m H, W k m H →
      ((Itl K a).stop k H ∧ Qd H) ∨ ((Itl K a).go k H ∧ ∃ Nx : Hp → Prop, (∀ H', Nx H' → ∃ m', m' < m ∧ W (k + 1) m' H') ∧ ∀ x H', (Itl K a).yld k H x H' → gName i x (wipe σ [i]) H' fun σ2 H2 => wipe σ2 [i] = wipe σ [i] ∧ tYes σ2 H2 fun b H3 =>
        if b = true then te σ2 H3 fun y H4 => ∃ acc, H4 D = some (.lst acc) ∧ acc.length < sizeLine ∧ Nx (upd H4 D (.lst (acc ++ [y]))) else Nx H3) := by
  obtain ⟨xs, hx, hp, hz⟩ := hl
  have e1 := paired_len hp
  refine lc_over (xs := xs) (.of hx) hD (fun k => (ds.take k).map f) rfl (fun k hk => ?_) (fun k x H' R' S hk s _ h1 => iteT (B := R' H') ?_) fun H' s h => fin H' s ?_
  · rw [List.length_map, List.length_take]
    exact small_line (by omega)
  · obtain ⟨d, hd, r⟩ := paired_get hp hk
    refine turn x d H' S (List.mem_of_getElem? hd) (mono _ _ _ _ s r) s fun H4 s4 => h1 _ _ s4 ?_
    rw [take_snoc hd, List.map_append]
    rfl
  · rw [e1, List.take_length] at h
    exact h
/-- [x for x in xs if b(x)] -/
theorem lc_filter {α : Type} {R : Hp → V → α → Prop} (mono : Mono R) {a : Addr} {ds : List α} {i : Nat} (hl : LAt R H a ds) (hi : i < σ.length) (hD : H D = none) (b : α → Bool)
    (turn : ∀ (x : V) (d : α) (H' : Hp) (S : Bool → Hp → Prop), d ∈ ds → R H' x d → Same H H' → (∀ H4, Same H' H4 → S (b d) H4) → tt (σ.set i (some x)) H' S)
    (fin : ∀ H', Same H H' → LAt R H' D (ds.filter b) → Qd H') :
    ∃ W : Nat → Nat → Hp → Prop, (∃ m, W 0 m (upd H D (.lst []))) ∧ ∀ k m H, W k m H →
      ((Itl K a).stop k H ∧ Qd H) ∨ ((Itl K a).go k H ∧ ∃ Nx : Hp → Prop, (∀ H', Nx H' → ∃ m', m' < m ∧ W (k + 1) m' H') ∧ ∀ x H', (Itl K a).yld k H x H' → gName i x (wipe σ [i]) H' fun σ2 H2 => wipe σ2 [i] = wipe σ [i] ∧ tt σ2 H2 fun b H3 =>
        if b = true then tVar i σ2 H3 fun y H4 => ∃ acc, H4 D = some (.lst acc) ∧ acc.length < sizeLine ∧ Nx (upd H4 D (.lst (acc ++ [y]))) else Nx H3) := by
  obtain ⟨xs, hx, hp, hz⟩ := hl
  have e1 := paired_len hp
  have step : ∀ {k : Nat} {x : V} {d : α}, xs[k]? = some x → ds[k]? = some d → ((xs.zip ds).take (k + 1)).filter (fun p => b p.2) = ((xs.zip ds).take k).filter (fun p => b p.2) ++ (if b d = true then [(x, d)] else []) := fun {k x d} h1 h2 => by
    have h3 : (xs.zip ds)[k]? = some (x, d) := by rw [List.getElem?_zip_eq_some]; exact ⟨h1, h2⟩
    rw [take_snoc h3, List.filter_append, List.filter_cons, List.filter_nil]
  refine lc_over (xs := xs) (.of hx) hD (fun k => (((xs.zip ds).take k).filter (fun p => b p.2)).map (·.1)) rfl (fun k hk => ?_) (fun k x H' R' S hk s h0 h1 => ?_) fun H' s h => fin H' s ?_
  · rw [List.length_map]
    refine small_line (Nat.le_trans (List.length_filter_le _ _) ?_)
    rw [List.length_take]
    omega
  · obtain ⟨d, hd, r⟩ := paired_get hp hk
    refine turn x d H' _ (List.mem_of_getElem? hd) (mono _ _ _ _ s r) s fun H4 s4 => bool_if _ (fun e => ⟨x, List.getElem?_set_self hi, h1 _ _ s4 ?_⟩) fun e => h0 _ s4 ?_
    · rw [step hk hd, if_pos e, List.map_append]
      rfl
    · rw [step hk hd, e, if_neg (by simp), List.append_nil]
  · have hlen : (xs.zip ds).length = xs.length := by rw [List.length_zip]; omega
    rw [← hlen, List.take_length] at h
    refine ⟨_, h, ?_, Nat.le_trans (List.length_filter_le _ _) hz⟩
    have all : ∀ {xs : List V} {ds : List α}, Paired (R H) xs ds → Paired (R H') (((xs.zip ds).filter (fun p => b p.2)).map (·.1)) (ds.filter b) := fun {xs ds} q => by
      induction q with
      | nil => exact .nil
      | cons r t ih =>
        rw [List.zip_cons_cons, List.filter_cons, List.filter_cons]
        split
        · exact .cons (mono _ _ _ _ s r) ih
        · exact ih
    exact all hp
/-- [f(k) for k in range(n)] -/
theorem lc_mapN {n : Nat} {i : Nat} (hn : n ≤ 1000) (hD : H D = none) (f : Nat → V)
    (turn : ∀ (k : Nat) (H' : Hp) (S : VK), k < n → Same H H' → (∀ H4, Same H' H4 → S (f k) H4) → te (σ.set i (some (.int k))) H' S)
    (fin : ∀ H', Same H H' → H' D = some (.lst ((List.range n).map f)) → Qd H') :
    ∃ W : Nat → Nat → Hp → Prop, (∃ m, W 0 m (upd H D (.lst []))) ∧ ∀ k m H, W k m H →
      ((Itr 0 n).stop k H ∧ Qd H) ∨ ((Itr 0 n).go k H ∧ ∃ Nx : Hp → Prop, (∀ H', Nx H' → ∃ m', m' < m ∧ W (k + 1) m' H') ∧ ∀ x H', (Itr 0 n).yld k H x H' → gName i x (wipe σ [i]) H' fun σ2 H2 => wipe σ2 [i] = wipe σ [i] ∧ tYes σ2 H2 fun b H3 =>
        if b = true then te σ2 H3 fun y H4 => ∃ acc, H4 D = some (.lst acc) ∧ acc.length < sizeLine ∧ Nx (upd H4 D (.lst (acc ++ [y]))) else Nx H3) := by
  refine lc_upto hD (fun k => (List.range k).map f) rfl (fun k hk => ?_) (fun k H' R' S hk s _ h1 => iteT (B := R' H') ?_) fin
  · rw [List.length_map, List.length_range]
    exact small_line (by omega)
  · refine turn k H' S hk s fun H4 s4 => h1 _ _ s4 ?_
    rw [List.range_succ, List.map_append]
    rfl
/-- [k for k in range(n) if b(k)] -/
theorem lc_filterN {n : Nat} {i : Nat} (hn : n ≤ 1000) (hi : i < σ.length) (hD : H D = none) (b : Nat → Bool)
    (turn : ∀ (k : Nat) (H' : Hp) (S : Bool → Hp → Prop), k < n → Same H H' → (∀ H4, Same H' H4 → S (b k) H4) → tt (σ.set i (some (.int k))) H' S)
    (fin : ∀ H', Same H H' → LAt RI H' D ((List.range n).filter b) → Qd H') :
    ∃ W : Nat → Nat → Hp → Prop, (∃ m, W 0 m (upd H D (.lst []))) ∧ ∀ k m H, W k m H →
      ((Itr 0 n).stop k H ∧ Qd H) ∨ ((Itr 0 n).go k H ∧ ∃ Nx : Hp → Prop, (∀ H', Nx H' → ∃ m', m' < m ∧ W (k + 1) m' H') ∧ ∀ x H', (Itr 0 n).yld k H x H' → gName i x (wipe σ [i]) H' fun σ2 H2 => wipe σ2 [i] = wipe σ [i] ∧ tt σ2 H2 fun b H3 =>
        if b = true then tVar i σ2 H3 fun y H4 => ∃ acc, H4 D = some (.lst acc) ∧ acc.length < sizeLine ∧ Nx (upd H4 D (.lst (acc ++ [y]))) else Nx H3) := by
  refine lc_upto hD (fun k => ((List.range k).filter b).map fun n : Nat => V.int (n : Int)) rfl (fun k hk => ?_) (fun k H' R' S hk s h0 h1 => ?_) fun H' s h => fin H' s ⟨_, h, ri_all _, Nat.le_trans (List.length_filter_le _ _) (by rw [List.length_range]; exact hn)⟩
  · rw [List.length_map]
    refine small_line (Nat.le_trans (List.length_filter_le _ _) ?_)
    rw [List.length_range]
    omega
  · refine turn k H' _ hk s fun H4 s4 => bool_if _ (fun e => ⟨.int k, List.getElem?_set_self hi, h1 _ _ s4 ?_⟩) fun e => h0 _ s4 ?_
    · rw [List.range_succ, List.filter_append, List.map_append, List.filter_cons, if_pos e]
      rfl
    · rw [List.range_succ, List.filter_append, List.filter_cons, e, if_neg (by simp), List.filter_nil, List.append_nil]
end
/-! ### what of the text is used -/
def consts : List (Str × Int) := (("MOST_ACTS" : Str), (8 : Int)) :: (("LEAST_STATES" : Str), (2 : Int)) :: (("MOST_STATES" : Str), (6 : Int)) :: (("MOST_DUTIES" : Str), (16 : Int)) :: (("MOST_LINKS" : Str), (12 : Int)) :: (("MOST_WEIGHT" : Str), (50 : Int)) :: (("LAST_DAY" : Str), (10000 : Int)) :: (("MOST_BACK" : Str), (20 : Int)) :: (("NONE_THERE" : Str), (-2 : Int)) :: (("NO_SUCH" : Str), (-6 : Int)) :: (("THERE_ALREADY" : Str), (-17 : Int)) :: (("NOT_ALLOWED" : Str), (-22 : Int)) :: (("FULL" : Str), (-28 : Int)) :: (("OUT_OF_REACH" : Str), (-33 : Int)) :: (("START" : Str), (0 : Int)) :: (("DUTY" : Str), (1 : Int)) :: (("DROP" : Str), (2 : Int)) :: (("TOLD" : Str), (3 : Int)) :: (("NEEDS" : Str), (4 : Int)) :: (("FREE" : Str), (5 : Int)) :: (("MAY" : Str), (6 : Int)) :: (("BREAKS" : Str), (7 : Int)) :: (("BEST" : Str), (8 : Int)) :: (("MOST" : Str), (9 : Int)) :: (("WAYS" : Str), (10 : Int)) :: (("NTH" : Str), (11 : Int)) :: (("SURE" : Str), (12 : Int)) :: (("WHO" : Str), (13 : Int)) :: (("CAN" : Str), (14 : Int)) :: (("COST" : Str), (15 : Int)) :: (("CLASH" : Str), (16 : Int)) :: (("CLASHES" : Str), (17 : Int)) :: (("WAIVE" : Str), (18 : Int)) :: (("RELIEF" : Str), (19 : Int)) :: (("BACK" : Str), (20 : Int)) :: (("AGAIN" : Str), (21 : Int)) :: []
structure Txt (K : PySem.W.Frag) (mg : Str → Option Value) (CD CB : Addr) : Prop where
  clD : Cls K CD
  nD : ∀ f ∈ (["debtor", "creditor", "act", "owed", "weight", "day"] : List Str), NoAttr K CD f
  clB : Cls K CB
  nB : ∀ f ∈ (["acts", "states", "duties", "links", "pages_before", "pages_behind"] : List Str), NoAttr K CB f
  bn : ∀ x ∈ (["len", "any", "sum", "min", "max", "range", "enumerate"] : List Str), mg x = none
  cs : ∀ p ∈ consts, ∃ t, mg p.1 = some (.int p.2 t)
  tk : ∃ aT, mg "TAKES" = some (.ref aT) ∧ ∀ H : Hp, SqT K H aT (takesN.map fun n : Nat => V.int (n : Int))
theorem pk {X : Cx} {x : Str} {n : Int} {pos : Pos} (h : ∃ t, X.mg x = some (.int n t)) (hg : Gl X x := by rfl) (hd : (x == ("__debug__" : Str)) = false := by decide) : PE X (.Name x pos) (tC (.int n)) := by
  obtain ⟨t, e⟩ := h
  exact pe_glob hg e ⟨t, rfl⟩ hd
end My
namespace My
open PySem PySem.Spec PyProof.Rows L2
open PySem.W (Codec)
/-! ### what a list's growing, or a book's change, leaves alone -/
def Flat (o : HO) : Prop := (∃ xs, o = .tup xs) ∨ ∃ C dx d, o = .ins C dx (dF d)
def FSame (H H' : Hp) : Prop := ∀ b o, Flat o → H b = some o → H' b = some o
def FMono {α : Type} (R : Hp → V → α → Prop) : Prop := ∀ (H H' : Hp) (v : V) (d : α), FSame H H' → R H v d → R H' v d
theorem FMono.mono {α : Type} {R : Hp → V → α → Prop} (h : FMono R) : Mono R := fun H H' v d s r => h H H' v d (fun b o _ e => s b o e) r
/-- v is the int z, the bool b, the pair of c and f c -/
def RZ (_ : Hp) (v : V) (z : Int) : Prop := v = .int z
def RB (_ : Hp) (v : V) (b : Bool) : Prop := v = .bl b
def RW (f : Nat → Nat) (H : Hp) (v : V) (c : Nat) : Prop := ∃ t, v = .ref t ∧ H t = some (.tup [.int (c : Int), .int (f c : Int)])
def RPr (H : Hp) (v : V) (p : Nat × Nat) : Prop := ∃ t, v = .ref t ∧ H t = some (.tup [.int p.1, .int p.2])
theorem fmono_RD {C : Addr} : FMono (RD C) := fun _ _ _ _ s ⟨a, dx, e, h⟩ => ⟨a, dx, e, s _ _ (.inr ⟨_, _, _, rfl⟩) h⟩
theorem fmono_RL : FMono RL := fun _ _ _ _ s ⟨a, e, h⟩ => ⟨a, e, s _ _ (.inl ⟨_, rfl⟩) h⟩
theorem fmono_RI : FMono RI := fun _ _ _ _ _ h => h
theorem fmono_RZ : FMono RZ := fun _ _ _ _ _ h => h
theorem fmono_RB : FMono RB := fun _ _ _ _ _ h => h
theorem fmono_RW {f : Nat → Nat} : FMono (RW f) := fun _ _ _ _ s ⟨a, e, h⟩ => ⟨a, e, s _ _ (.inl ⟨_, rfl⟩) h⟩
theorem fmono_RPr : FMono RPr := fun _ _ _ _ s ⟨a, e, h⟩ => ⟨a, e, s _ _ (.inl ⟨_, rfl⟩) h⟩
theorem fsame_lst {H : Hp} {D : Addr} {xs : List V} {o : HO} (h : H D = some (.lst xs)) : FSame H (upd H D o) := fun b u fl e => by
  rw [upd_ne (ne_of e h (by rintro rfl; rcases fl with ⟨_, z⟩ | ⟨_, _, _, z⟩ <;> cases z))]
  exact e
theorem all_rz {H : Hp} : ∀ {xs : List V} {ns : List Int}, Paired (RZ H) xs ns → xs = ns.map V.int
  | _, _, .nil => rfl
  | _, _, .cons r t => by rw [show _ = _ from r, all_rz t]; rfl
theorem rz_all {H : Hp} : ∀ ns : List Int, Paired (RZ H) (ns.map V.int) ns
  | [] => .nil
  | _ :: r => .cons rfl (rz_all r)
theorem LAt.ints {K : PySem.W.Frag} {H : Hp} {p : Addr} {ns : List Int} (h : LAt RZ H p ns) : SqL K H p (ns.map V.int) := by
  obtain ⟨xs, e, q, _⟩ := h
  rw [all_rz q] at e
  exact .of e
theorem LAt.nats {H : Hp} {p : Addr} {ns : List Nat} (h : LAt RI H p ns) : H p = some (.lst (ns.map fun n : Nat => V.int (n : Int))) := by
  obtain ⟨xs, e, q, _⟩ := h
  rw [all_ri q] at e
  exact e
theorem LAt.len {α : Type} {R : Hp → V → α → Prop} {H : Hp} {p : Addr} {ds : List α} (h : LAt R H p ds) : ∃ xs, H p = some (.lst xs) ∧ xs.length = ds.length :=
  let ⟨xs, e, q, _⟩ := h; ⟨xs, e, paired_len q⟩
theorem LAt.sq {K : PySem.W.Frag} {α : Type} {R : Hp → V → α → Prop} {H : Hp} {p : Addr} {ds : List α} (h : LAt R H p ds) : ∃ xs, SqL K H p xs :=
  let ⟨xs, e, _, _⟩ := h; ⟨xs, .of e⟩
theorem LAt.at_ {α : Type} {R : Hp → V → α → Prop} {H : Hp} {p : Addr} {ds : List α} {k : Nat} {d : α} (h : LAt R H p ds) (hd : ds[k]? = some d) : ∃ xs x, H p = some (.lst xs) ∧ atI xs (k : Int) = some x ∧ R H x d := by
  obtain ⟨xs, e, q, _⟩ := h
  obtain ⟨x, hx, r⟩ := paired_get2 q hd
  exact ⟨xs, x, e, atI_nat hx, r⟩
/-! ### one comprehension for all -/
section
variable {K : PySem.W.Frag} {tt : TT} {te : TE} {σ : L2.St} {H : Hp} {D : Addr} {Qd : Hp → Prop} {g : TG} {vs : List Nat}
theorem snoc_step {α β : Type} {ds : List α} {k : Nat} {d : α} (b : α → Bool) (f : α → β) (hd : ds[k]? = some d) : ((ds.take (k + 1)).filter b).map f = ((ds.take k).filter b).map f ++ (if b d = true then [f d] else []) := by
  rw [take_snoc hd, List.filter_append, List.map_append, List.filter_cons, List.filter_nil]
  split <;> rfl
/-- [e for target in xs if test]: b tells which items stay, f what each becomes -/
theorem lc_gen {α β : Type} {R : Hp → V → α → Prop} {S : Hp → V → β → Prop} (mR : Mono R) (mS : FMono S) {a : Addr} {ds : List α} (hl : LAt R H a ds) (hD : H D = none) (b : α → Bool) (f : α → β)
    (turn : ∀ (x : V) (d : α) (H' : Hp) (N : Hp → Prop) (Y : VK), d ∈ ds → R H' x d → Same H H' → (∀ H3, Same H' H3 → b d = false → N H3) → (∀ y H4, Same H' H4 → b d = true → S H4 y (f d) → Y y H4) →
      g x (wipe σ vs) H' fun σ2 H2 => wipe σ2 vs = wipe σ vs ∧ tt σ2 H2 fun c H3 => if c = true then te σ2 H3 Y else N H3)
    (fin : ∀ H', Same H H' → LAt S H' D ((ds.filter b).map f) → Qd H') :
    ∃ W : Nat → Nat → Hp → Prop, (∃ m, W 0 m (upd H D (.lst []))) ∧ ∀ k m H, W k m H →
      ((Itl K a).stop k H ∧ Qd H) ∨ ((Itl K a).go k H ∧ ∃ Nx : Hp → Prop, (∀ H', Nx H' → ∃ m', m' < m ∧ W (k + 1) m' H') ∧ ∀ x H', (Itl K a).yld k H x H' → g x (wipe σ vs) H' fun σ2 H2 => wipe σ2 vs = wipe σ vs ∧ tt σ2 H2 fun b H3 =>
        if b = true then te σ2 H3 fun y H4 => ∃ acc, H4 D = some (.lst acc) ∧ acc.length < sizeLine ∧ Nx (upd H4 D (.lst (acc ++ [y]))) else Nx H3) := by
  obtain ⟨xs, hx, hp, hz⟩ := hl
  have e1 := paired_len hp
  refine lc_list (xs := xs) (fun k H' => Same H H' ∧ ∃ acc, H' D = some (.lst acc) ∧ Paired (S H') acc (((ds.take k).filter b).map f)) ⟨same_upd (Same.refl H) hD, [], upd_same, .nil⟩ (fun k H' _ p => p.1.seq (.of hx)) (fun k x H' hk p => ?_) fun H' p => fin H' p.1 ?_
  · obtain ⟨s, acc, hA, hpA⟩ := p
    obtain ⟨d, hd, r⟩ := paired_get hp hk
    have st := snoc_step b f hd
    refine turn x d H' _ _ (List.mem_of_getElem? hd) (mR _ _ _ _ s r) s (fun H3 s3 e => ⟨s.trans s3, acc, s3 _ _ hA, ?_⟩) fun y H4 s4 e r4 => ⟨acc, s4 _ _ hA, ?_, ?_, acc ++ [y], upd_same, ?_⟩
    · rw [st, e, if_neg (by simp), List.append_nil]
      exact paired_imp (fun _ _ r => mS.mono _ _ _ _ s3 r) hpA
    · have z := paired_len hpA
      rw [z, List.length_map]
      refine small_line (Nat.le_trans (List.length_filter_le _ _) ?_)
      rw [List.length_take]
      omega
    · intro b' o eb
      rw [upd_ne (ne_of_none eb hD)]
      exact s4 _ _ (s _ _ eb)
    · rw [st, if_pos e]
      exact paired_app (paired_imp (fun _ _ r => mS _ _ _ _ (fsame_lst (s4 _ _ hA)) (mS.mono _ _ _ _ s4 r)) hpA) (.cons (mS _ _ _ _ (fsame_lst (s4 _ _ hA)) r4) .nil)
  · obtain ⟨s, acc, hA, hpA⟩ := p
    rw [e1, List.take_length] at hpA
    exact ⟨acc, hA, hpA, by rw [List.length_map]; exact Nat.le_trans (List.length_filter_le _ _) hz⟩
/-- [e for target in range(n) if test] -/
theorem lcN_gen {β : Type} {S : Hp → V → β → Prop} (mS : FMono S) {n : Nat} (hn : n ≤ 1000) (hD : H D = none) (b : Nat → Bool) (f : Nat → β)
    (turn : ∀ (k : Nat) (H' : Hp) (N : Hp → Prop) (Y : VK), k < n → Same H H' → (∀ H3, Same H' H3 → b k = false → N H3) → (∀ y H4, Same H' H4 → b k = true → S H4 y (f k) → Y y H4) →
      g (.int (k : Int)) (wipe σ vs) H' fun σ2 H2 => wipe σ2 vs = wipe σ vs ∧ tt σ2 H2 fun c H3 => if c = true then te σ2 H3 Y else N H3)
    (fin : ∀ H', Same H H' → LAt S H' D (((List.range n).filter b).map f) → Qd H') :
    ∃ W : Nat → Nat → Hp → Prop, (∃ m, W 0 m (upd H D (.lst []))) ∧ ∀ k m H, W k m H →
      ((Itr 0 n).stop k H ∧ Qd H) ∨ ((Itr 0 n).go k H ∧ ∃ Nx : Hp → Prop, (∀ H', Nx H' → ∃ m', m' < m ∧ W (k + 1) m' H') ∧ ∀ x H', (Itr 0 n).yld k H x H' → g x (wipe σ vs) H' fun σ2 H2 => wipe σ2 vs = wipe σ vs ∧ tt σ2 H2 fun b H3 =>
        if b = true then te σ2 H3 fun y H4 => ∃ acc, H4 D = some (.lst acc) ∧ acc.length < sizeLine ∧ Nx (upd H4 D (.lst (acc ++ [y]))) else Nx H3) := by
  refine lc_range (fun k H' => Same H H' ∧ ∃ acc, H' D = some (.lst acc) ∧ Paired (S H') acc ((((List.range n).take k).filter b).map f)) ⟨same_upd (Same.refl H) hD, [], upd_same, .nil⟩ (fun k H' hk p => ?_) fun H' p => fin H' p.1 ?_
  · obtain ⟨s, acc, hA, hpA⟩ := p
    rw [Int.zero_add]
    have st := snoc_step b f (show (List.range n)[k]? = some k by rw [List.getElem?_range hk])
    refine turn k H' _ _ hk s (fun H3 s3 e => ⟨s.trans s3, acc, s3 _ _ hA, ?_⟩) fun y H4 s4 e r4 => ⟨acc, s4 _ _ hA, ?_, ?_, acc ++ [y], upd_same, ?_⟩
    · rw [st, e, if_neg (by simp), List.append_nil]
      exact paired_imp (fun _ _ r => mS.mono _ _ _ _ s3 r) hpA
    · have z := paired_len hpA
      rw [z, List.length_map]
      refine small_line (Nat.le_trans (List.length_filter_le _ _) ?_)
      rw [List.length_take]
      omega
    · intro b' o eb
      rw [upd_ne (ne_of_none eb hD)]
      exact s4 _ _ (s _ _ eb)
    · rw [st, if_pos e]
      exact paired_app (paired_imp (fun _ _ r => mS _ _ _ _ (fsame_lst (s4 _ _ hA)) (mS.mono _ _ _ _ s4 r)) hpA) (.cons (mS _ _ _ _ (fsame_lst (s4 _ _ hA)) r4) .nil)
  · obtain ⟨s, acc, hA, hpA⟩ := p
    rw [List.take_of_length_le (by rw [List.length_range]; exact Nat.le_refl _)] at hpA
    exact ⟨acc, hA, hpA, by rw [List.length_map]; exact Nat.le_trans (List.length_filter_le _ _) (by rw [List.length_range]; exact hn)⟩
/-- [place for place, x in enumerate(xs) if test] -/
theorem lcE_gen {α β : Type} {R : Hp → V → α → Prop} {S : Hp → V → β → Prop} (mR : Mono R) (mS : FMono S) {a : Addr} {ds : List α} (hl : LAt R H a ds) (hD : H D = none) (b : Nat → Bool) (f : Nat → β)
    (turn : ∀ (k : Nat) (x : V) (d : α) (H' : Hp) (T : Addr) (N : Hp → Prop) (Y : VK), ds[k]? = some d → R H' x d → Same H H' → H' T = some (.tup [.int (k : Int), x]) → (∀ H3, Same H' H3 → b k = false → N H3) → (∀ y H4, Same H' H4 → b k = true → S H4 y (f k) → Y y H4) →
      g (.ref T) (wipe σ vs) H' fun σ2 H2 => wipe σ2 vs = wipe σ vs ∧ tt σ2 H2 fun c H3 => if c = true then te σ2 H3 Y else N H3)
    (fin : ∀ H', Same H H' → LAt S H' D (((List.range ds.length).filter b).map f) → Qd H') :
    ∃ W : Nat → Nat → Hp → Prop, (∃ m, W 0 m (upd H D (.lst []))) ∧ ∀ k m H, W k m H →
      ((Ite K a).stop k H ∧ Qd H) ∨ ((Ite K a).go k H ∧ ∃ Nx : Hp → Prop, (∀ H', Nx H' → ∃ m', m' < m ∧ W (k + 1) m' H') ∧ ∀ x H', (Ite K a).yld k H x H' → g x (wipe σ vs) H' fun σ2 H2 => wipe σ2 vs = wipe σ vs ∧ tt σ2 H2 fun b H3 =>
        if b = true then te σ2 H3 fun y H4 => ∃ acc, H4 D = some (.lst acc) ∧ acc.length < sizeLine ∧ Nx (upd H4 D (.lst (acc ++ [y]))) else Nx H3) := by
  obtain ⟨xs, hx, hp, hz⟩ := hl
  have e1 := paired_len hp
  refine ⟨fun k m H' => m = xs.length - k ∧ k ≤ xs.length ∧ Same H H' ∧ ∃ acc, H' D = some (.lst acc) ∧ Paired (S H') acc ((((List.range ds.length).take k).filter b).map f), ⟨xs.length, by simp, Nat.zero_le _, same_upd (Same.refl H) hD, [], upd_same, .nil⟩, ?_⟩
  rintro k m H1 ⟨rfl, hk, s1, acc, hA, hpA⟩
  have hxs : SqL K H1 a xs := s1.seq (.of hx)
  by_cases hlt : k < xs.length
  · refine .inr ⟨⟨xs, xs[k], hxs, by simp [hlt]⟩, fun H' => Same H H' ∧ ∃ acc, H' D = some (.lst acc) ∧ Paired (S H') acc ((((List.range ds.length).take (k + 1)).filter b).map f), fun H' p' => ⟨xs.length - (k + 1), by omega, rfl, hlt, p'⟩, fun v H2 y => ?_⟩
    obtain ⟨T, x, rfl, hT, rfl, hxx⟩ := y
    have hk' := hxx xs hxs
    have sT : Same H1 (upd H1 T (.tup [.int (k : Nat), x])) := same_upd (Same.refl H1) hT
    obtain ⟨d, hd, r⟩ := paired_get hp hk'
    have hkd : k < ds.length := by omega
    have st := snoc_step b f (show (List.range ds.length)[k]? = some k by rw [List.getElem?_range hkd])
    have s := s1.trans sT
    have hA' := sT _ _ hA
    refine turn k x d _ T _ _ hd (mR _ _ _ _ s r) s upd_same (fun H3 s3 e => ⟨s.trans s3, acc, s3 _ _ hA', ?_⟩) fun y H4 s4 e r4 => ⟨acc, s4 _ _ hA', ?_, ?_, acc ++ [y], upd_same, ?_⟩
    · rw [st, e, if_neg (by simp), List.append_nil]
      exact paired_imp (fun _ _ r => mS.mono _ _ _ _ (sT.trans s3) r) hpA
    · have z := paired_len hpA
      rw [z, List.length_map]
      refine small_line (Nat.le_trans (List.length_filter_le _ _) ?_)
      rw [List.length_take]
      omega
    · intro b' o eb
      rw [upd_ne (ne_of_none eb hD)]
      exact s4 _ _ (s _ _ eb)
    · rw [st, if_pos e]
      exact paired_app (paired_imp (fun _ _ r => mS _ _ _ _ (fsame_lst (s4 _ _ hA')) (mS.mono _ _ _ _ (sT.trans s4) r)) hpA) (.cons (mS _ _ _ _ (fsame_lst (s4 _ _ hA')) r4) .nil)
  · have e : k = xs.length := by omega
    subst e
    refine .inl ⟨⟨xs, hxs, Nat.le_refl _⟩, fin H1 s1 ⟨acc, hA, ?_, ?_⟩⟩
    · rw [List.take_of_length_le (by rw [List.length_range]; omega)] at hpA
      exact hpA
    · rw [List.length_map]
      exact Nat.le_trans (List.length_filter_le _ _) (by rw [List.length_range]; exact hz)
end
/-! ### rules with the written part named; a pair as a target; a pair in a list -/
section
variable {X : Cx} {pos : Pos}
theorem pgT (K : PySem.W.Frag) {es : List Expr} {k : Nat} {t : TGs} {n : Nat} (hc : X.calm = true) (h : PGs X es t) (hK : X.K = K := by rfl)
    (hn : (assignEach es X.env).length = n := by rfl) (hst : (assignEach es X.env).findIdx? (·.1) = none := by rfl) : PG X (.Tuple es k pos) (gTup K n t) := by
  subst hK
  exact pg_tup hc h hn hst
def rInD (K : PySem.W.Frag) (neg : Bool) : R2 := fun x y H Q => ∃ d ds, Dp K H x d ∧ Dp K H y (.list ds) ∧ PyData.canLayAll0 ds = true ∧ d.canLay0 = true ∧ d.depth ≤ 8 ∧ Q (.bl (if neg then !(ds.any fun e => PyData.eqv e d) else ds.any fun e => PyData.eqv e d)) H
theorem op_inD (hu : X.A.units + 64 < cLine) : OpR X (compareOp .In) (rInD X.K false) := by
  intro pins s σ H x y v u Q I rx ry h
  obtain ⟨d, ds, hd, hds, c1, c2, z, q⟩ := h
  obtain ⟨as, r1⟩ := Dp.reads I d x v hd rx
  obtain ⟨bs, r2⟩ := Dp.reads I _ y u hds ry
  refine SeqAt.in_list_reads r2 r1 c1 c2 ?_ ⟨.bl _, H, I, rfl, q⟩
  have : min (PyData.depthAll ds) d.depth ≤ d.depth := Nat.min_le_right _ _
  omega
theorem op_notInD (hu : X.A.units + 64 < cLine) : OpR X (compareOp .NotIn) (rInD X.K true) := by
  intro pins s σ H x y v u Q I rx ry h
  obtain ⟨d, ds, hd, hds, c1, c2, z, q⟩ := h
  obtain ⟨as, r1⟩ := Dp.reads I d x v hd rx
  obtain ⟨bs, r2⟩ := Dp.reads I _ y u hds ry
  refine SeqAt.notIn_list_reads r2 r1 c1 c2 ?_ ⟨.bl _, H, I, rfl, q⟩
  have : min (PyData.depthAll ds) d.depth ≤ d.depth := Nat.min_le_right _ _
  omega
end
section
variable {X : Cx} {x : Str} {pos apos : Pos} {o : Expr} {to : TE} {k j : Nat} {ps : List Str} {sp : Sp} {C : Addr}
theorem pe_m0 {pl : Sem Bool} (D : DoesM X.prog X.w X.K X.mg X.base C j x ps sp) (c : Cls X.K C) (hr : Room k X.A) (ho : PE X o to) (hjk : j ≤ k := by decide)
    (ht : eval (.Call (.Attribute o x apos) [] [] pos) X.env = (do
      let ov ← eval o X.env
      standAt apos.atName
      let (f, first) ← holding [ov] (getMethod ov x pl)
      callWith pos f first (backTo pos (starEach [] X.env)) (backToKw pos (keywordEach [] X.env))) := by rfl) :
    PE X (.Call (.Attribute o x apos) [] [] pos) (tMeth C x sp [] E0 to tNil) := by
  obtain ⟨f, fd, hm, hb, G⟩ := D
  exact pe_meth0 ho c hm G (hr.mono hjk) hb .nil pass0 ht
end
/-! ### statements by what their parts give -/
section
variable {c : TT} {t u rest : TS} {D : Ends} {σ : L2.St} {H : Hp} {b : Bool} {te : TE} {ta : TA} {v : V} {vs : List V} {i : Nat}
theorem go_if (h : EvT c σ H b) (h1 : b = true → t { D with nx := rest D } σ H) (h0 : b = false → u { D with nx := rest D } σ H) : tSeq (tIfS c t u) rest D σ H := h _ (bool_if b h1 h0)
theorem go_set (h : Ev te σ H v) (k : rest D (σ.set i (some v)) H) : tSeq (tAsg te (gName i)) rest D σ H := h _ k
theorem go_retL (h : EvA ta σ H vs) (k : vs.length ≤ sizeLine ∧ ∀ p, H p = none → D.rt (.ref p) (upd H p (.lst vs))) : tRet (tLst ta) D σ H := h _ k
theorem go_call {sp : Sp} (h : EvA ta σ H vs) (k : sp vs H D.rt E0) : tRet (tCall sp [] E0 ta) D σ H := h _ (by rw [List.append_nil]; exact k)
theorem go_no {x n : Int} (hv : σ[i]? = some (some (.int x))) (h : x ≠ n) (k : u { D with nx := rest D } σ H) : tSeq (tIfS (tTest (tOp rEq (tVar i) (tC (.int n)))) t u) rest D σ H :=
  go_if (evt_test (ev_eq (ev_var hv) ev_c rfl)) (fun e => absurd (of_decide_eq_true e) fun z => h (by injection z)) fun _ => k
theorem go_yes {x n : Int} (hv : σ[i]? = some (some (.int x))) (h : x = n) (k : t { D with nx := rest D } σ H) : tSeq (tIfS (tTest (tOp rEq (tVar i) (tC (.int n)))) t u) rest D σ H :=
  go_if (evt_test (ev_eq (ev_var hv) ev_c rfl)) (fun _ => k) fun e => absurd (by rw [h]) (of_decide_eq_false e)
end
/-- links as data -/
def lD (l : Km483.Link) : PyData := .tuple [.int l.a, .int l.b]
theorem link_dp {K : PySem.W.Frag} {H : Hp} {v : V} {l : Km483.Link} (h : RL H v l) : Dp K H v (lD l) := by
  obtain ⟨a, rfl, e⟩ := h
  exact .tup (.of e) (.cons (.int _) (.cons (.int _) .nil))
theorem links_dp {K : PySem.W.Frag} {H : Hp} : ∀ {xs : List V} {ls : List Km483.Link}, Paired (RL H) xs ls → DpAll K H xs (ls.map lD)
  | _, _, .nil => .nil
  | _, _, .cons r t => .cons (link_dp r) (links_dp t)
theorem links_lay : ∀ ls : List Km483.Link, PyData.canLayAll0 (ls.map lD) = true
  | [] => rfl
  | l :: ls => by
    show (_ && _) = true
    rw [links_lay ls]
    rfl
theorem link_eqv (l m : Km483.Link) : PyData.eqv (lD l) (lD m) = decide (l = m) := by
  obtain ⟨a, b⟩ := l
  obtain ⟨c, d⟩ := m
  show ((((a : Int) == (c : Int))) && (((b : Int) == (d : Int)) && true)) = _
  by_cases h1 : a = c
  · by_cases h2 : b = d
    · subst h1 h2; simp
    · have : ¬ ((b : Int) = (d : Int)) := by omega
      simp [h1, h2, this]
  · have : ¬ ((a : Int) = (c : Int)) := by omega
    simp [h1, this]
end My
namespace My
open PySem PySem.Spec PyProof.Rows L2
section
variable {P : Program} {w : World} {K : PySem.W.Frag} {mg : Str → Option Value} {base : Heap} {CD CB : Addr}
theorem dec_nat (a b : Nat) : decide (V.int (a : Int) = V.int (b : Int)) = (a == b) := by
  by_cases h : a = b
  · subst h; simp
  · have h1 : ¬ V.int (a : Int) = V.int (b : Int) := fun e => h (by injection e with e; omega)
    rw [decide_eq_false h1]; exact (beq_eq_false_iff_ne.mpr h).symm
theorem nn {b : Bool} (h : (!b) = false) : b = true := by
  cases b with
  | true => rfl
  | false => cases h
theorem dec_int (a b : Int) : decide (V.int a = V.int b) = decide (a = b) := by
  by_cases h : a = b
  · subst h; simp
  · rw [decide_eq_false h, decide_eq_false fun e => h (by injection e)]
/-! ### overtakes, stands, standing -/
def spOvertakes (CD : Addr) : Sp := fun vs H Q _ => ∃ (x y : V) (e d : Km483.Duty), vs = [x, y] ∧ RD CD H x e ∧ RD CD H y d ∧ Q (.bl (over e d)) H
theorem ok_overtakes (T : Txt K mg CD CB) (h : Has K mg "overtakes" s_overtakes ["other", "duty"]) : Does P w K mg base 1 "overtakes" ["other", "duty"] (spOvertakes CD) := by
  refine h.does sc_overtakes (fun vs H Q E h => ?_) (fun f cdv A outer s H vs Q E hr h => ?_)
  · obtain ⟨a, b, e, d, rfl, _⟩ := h
    rfl
  · obtain ⟨_, _, e, d, rfl, ⟨a, da, rfl, ha⟩, ⟨b, db, rfl, hb⟩, k⟩ := h
    refine ⟨_, pss_one (ps_ret (pe_and (pe_cmpR op_eq (pe_fld (pv 0) rfl) (pe_fld (pv 1) rfl) (nomark _)) (pe_and (pe_cmpR op_eq (pe_fld (pv 0) rfl) (pe_fld (pv 1) rfl) (nomark _))
      (pe_and (pe_cmpR op_eq (pe_fld (pv 0) rfl) (pe_fld (pv 1) rfl) (nomark _)) (pe_one (pe_cmpR op_gt (pe_fld (pv 0) rfl) (pe_fld (pv 1) rfl) (nomark _))))))), ?_⟩
    have f0 : ∀ (x : Str) (v : V), x ∈ (["debtor", "creditor", "act", "owed", "weight", "day"] : List Str) → (dF e).lookup x = some v → Ev (tFld K (tVar 0) x) (L2.start ["other", "duty"] [V.ref a, V.ref b]) H v := fun x v hx hv => ev_fld (ev_var rfl) ha T.clD (T.nD _ hx) hv
    have f1 : ∀ (x : Str) (v : V), x ∈ (["debtor", "creditor", "act", "owed", "weight", "day"] : List Str) → (dF d).lookup x = some v → Ev (tFld K (tVar 1) x) (L2.start ["other", "duty"] [V.ref a, V.ref b]) H v := fun x v hx hv => ev_fld (ev_var rfl) hb T.clD (T.nD _ hx) hv
    refine (ev_and (ev_eq (f0 _ _ (by decide +kernel) rfl) (f1 _ _ (by decide +kernel) rfl) rfl) fun _ => ev_and (ev_eq (f0 _ _ (by decide +kernel) rfl) (f1 _ _ (by decide +kernel) rfl) rfl) fun _ =>
      ev_and (ev_eq (f0 _ _ (by decide +kernel) rfl) (f1 _ _ (by decide +kernel) rfl) rfl) fun _ => ev_i0 (f0 _ _ (by decide +kernel) rfl) (f1 _ _ (by decide +kernel) rfl)) _ ?_
    have e1 : (decide (V.int (e.i : Int) = V.int (d.i : Int)) && (decide (V.int (e.j : Int) = V.int (d.j : Int)) && (decide (V.int (e.a : Int) = V.int (d.a : Int)) && decide ((d.day : Int) < (e.day : Int))))) = over e d := by
      rw [dec_nat, dec_nat, dec_nat]
      unfold over
      have e2 : decide ((d.day : Int) < (e.day : Int)) = decide (d.day < e.day) := by simp
      rw [e2, Bool.and_assoc, Bool.and_assoc]
    rw [e1]
    exact k
def spStands (CD : Addr) : Sp := fun vs H Q _ => ∃ (x : V) (l : Addr) (d : Km483.Duty) (ds : List Km483.Duty), vs = [x, .ref l] ∧ RD CD H x d ∧ LAt (RD CD) H l ds ∧ ∀ H', Same H H' → Q (.bl (standB ds d)) H'
theorem ok_stands (T : Txt K mg CD CB) (h : Has K mg "stands" s_stands ["duty", "duties"]) (G : Does P w K mg base 1 "overtakes" ["other", "duty"] (spOvertakes CD)) : Does P w K mg base 2 "stands" ["duty", "duties"] (spStands CD) := by
  refine h.does sc_stands (fun vs H Q E h => ?_) (fun f cdv A outer s H vs Q E hr h => ?_)
  · obtain ⟨a, b, e, d, rfl, _⟩ := h
    rfl
  · obtain ⟨x, l, d, ds, rfl, hx, hl, k⟩ := h
    refine ⟨_, pss_one (ps_ret (pe_not (pe_callB (cr_any rfl) (by rfl) (T.bn _ (by decide +kernel)) boot_any (pa_cons (pe_lc (own := [("other", 2)]) rfl sc_stands.nd (pi_list (pv 1)) (blkOk_by (by rfl))
      (fun _ _ _ _ _ => pg_name (i := 2) sc_stands.nd rfl (Or.inl rfl)) (fun _ _ _ _ _ => pts_nil) (fun _ _ _ _ _ => pe_f G hr (ha := pa_cons (pv 2) (pa_cons (pv 0) pa_nil)))) pa_nil)))), ?_⟩
    refine ⟨_, rfl, l, rfl, let ⟨xs, e, _⟩ := hl; ⟨xs, SqL.of e⟩, fun D hD => lc_map (i := 2) mono_RD hl hD (fun e => V.bl (over e d)) (fun y e H' S he hy s h4 => ?_) fun H' s hH => ?_⟩
    · exact ⟨_, rfl, _, rfl, _, _, e, d, rfl, hy, mono_RD _ _ _ _ s hx, h4 _ (Same.refl _)⟩
    · refine ⟨D, ds.map fun e => over e d, rfl, SqL.of (hH.trans (by rw [List.map_map]; rfl)), _, rfl, ?_⟩
      have e1 : (ds.map fun e => over e d).any id = ds.any fun e => over e d := by rw [List.any_map]; rfl
      rw [e1]
      exact k _ s
def spStanding (CD : Addr) : Sp := fun vs H Q _ => ∃ (l : Addr) (ds : List Km483.Duty), vs = [.ref l] ∧ LAt (RD CD) H l ds ∧ ∀ H' p, Same H H' → H p = none → LAt (RD CD) H' p (ds.filter (standB ds)) → Q (.ref p) H'
theorem ok_standing (h : Has K mg "standing" s_standing ["duties"]) (G : Does P w K mg base 2 "stands" ["duty", "duties"] (spStands CD)) : Does P w K mg base 3 "standing" ["duties"] (spStanding CD) := by
  refine h.does sc_standing (fun vs H Q E h => ?_) (fun f cdv A outer s H vs Q E hr h => ?_)
  · obtain ⟨l, ds, rfl, _⟩ := h
    rfl
  · obtain ⟨l, ds, rfl, hl, k⟩ := h
    refine ⟨_, pss_one (ps_ret (pe_lc (own := [("duty", 1)]) rfl sc_standing.nd (pi_list (pv 0)) (blkOk_by (by rfl))
      (fun _ _ _ _ _ => pg_name (i := 1) sc_standing.nd rfl (Or.inl rfl)) (fun _ _ _ _ _ => pts_one (pt_val (pe_f G hr (ha := pa_cons (pv 1) (pa_cons (pv 0) pa_nil))))) (fun _ _ _ _ _ => pv 1))), ?_⟩
    refine ⟨_, rfl, l, rfl, let ⟨xs, e, _⟩ := hl; ⟨xs, SqL.of e⟩, fun D hD => lc_filter (i := 1) mono_RD hl (by show 1 < 2; decide) hD (standB ds) (fun y e H' S he hy s h4 => ?_) fun H' s hH => k _ _ s hD hH⟩
    exact ⟨_, rfl, _, rfl, _, _, e, ds, rfl, hy, hl.same mono_RD s, fun H4 s4 => ⟨_, rfl, h4 _ s4⟩⟩
/-! ### does, count_acts, may_be -/
theorem bit_eq (c a : Nat) : Builtin.bitAnd ((c : Int) / 2 ^ a) 1 = bitI c a := by
  have e := Bits.bit_at (x := (c : Int)) a
  have hp : (0 : Int) ≤ 2 ^ a := two_pow_nn a
  rw [Int.fdiv_eq_ediv_of_nonneg _ hp] at e
  rw [e]
  have e2 : ((c : Int) / 2 ^ a % 2) = ((c / 2 ^ a % 2 : Nat) : Int) := by
    rw [two_pow_cast, ← Int.natCast_ediv]
    omega
  rw [e2]
  unfold bitI
  rw [Nat.testBit_eq_decide_div_mod_eq]
  by_cases h : c / 2 ^ a % 2 = 1
  · simp [h]
  · have : c / 2 ^ a % 2 = 0 := by omega
    simp [this]
def spDoes : Sp := fun vs H Q _ => ∃ (c a : Nat), vs = [.int c, .int a] ∧ Q (.int (bitI c a)) H
theorem ok_does (h : Has K mg "does" s_does ["conduct", "act"]) : Does P w K mg base 1 "does" ["conduct", "act"] spDoes := by
  refine h.does sc_does (fun vs H Q E h => ?_) (fun f cdv A outer s H vs Q E hr h => ?_)
  · obtain ⟨_, _, rfl, _⟩ := h
    rfl
  · obtain ⟨c, a, rfl, k⟩ := h
    refine ⟨_, pss_one (ps_ret (pe_op op_and (pe_op op_shr (pv 0) (pv 1)) pe_int)), ?_⟩
    refine ev_i0 (ev_i (ev_var rfl) (ev_var rfl) (by show (0 : Int) ≤ (a : Int); omega)) ev_c _ ?_
    show Q (V.int (Builtin.bitAnd ((c : Int) / 2 ^ ((a : Int)).toNat) 1)) H
    rw [Int.toNat_natCast, bit_eq]
    exact k
def spCount : Sp := fun vs H Q _ => ∃ (c : Nat), vs = [.int c] ∧ ∀ H', Same H H' → Q (.int (countI c)) H'
theorem ok_count (T : Txt K mg CD CB) (h : Has K mg "count_acts" s_count_acts ["conduct"]) (G : Does P w K mg base 1 "does" ["conduct", "act"] spDoes) : Does P w K mg base 2 "count_acts" ["conduct"] spCount := by
  refine h.does sc_count_acts (fun vs H Q E h => ?_) (fun f cdv A outer s H vs Q E hr h => ?_)
  · obtain ⟨_, rfl, _⟩ := h
    rfl
  · obtain ⟨c, rfl, k⟩ := h
    refine ⟨_, pss_one (ps_ret (pe_callB (cr_sum rfl) (by rfl) (T.bn _ (by decide +kernel)) boot_sum (pa_cons (pe_lc (own := [("act", 1)]) rfl sc_count_acts.nd
      (pi_range1 (by rfl) (T.bn _ (by decide +kernel)) (pa_cons (pk (T.cs ("MOST_ACTS", 8) (by decide +kernel))) pa_nil)) (blkOk_by (by rfl))
      (fun _ _ _ _ _ => pg_name (i := 1) sc_count_acts.nd rfl (Or.inl rfl)) (fun _ _ _ _ _ => pts_nil) (fun _ _ _ _ _ => pe_f G hr (ha := pa_cons (pv 0) (pa_cons (pv 1) pa_nil)))) pa_nil))), ?_⟩
    refine ⟨8, rfl, by decide, by decide, fun D hD => lc_mapN (n := 8) (i := 1) (by decide) hD (fun j => V.int (bitI c j)) (fun j H' S hj s h4 => ?_) fun H' s hH => ?_⟩
    · exact ⟨_, rfl, _, rfl, c, j, rfl, h4 _ (Same.refl _)⟩
    · exact ⟨D, (List.range 8).map (bitI c), rfl, SqL.of (hH.trans (by rw [List.map_map]; rfl)), k _ s⟩
theorem bitI_gt (c a b : Nat) : decide (bitI c b < bitI c a) = !(!c.testBit a || c.testBit b) := by
  unfold bitI
  cases c.testBit a <;> cases c.testBit b <;> rfl
def spMay : Sp := fun vs H Q _ => ∃ (c : Nat) (l : Addr) (ls : List Km483.Link), vs = [.int c, .ref l] ∧ LAt RL H l ls ∧ Q (.bl (mayB ls c)) H
theorem ok_may (h : Has K mg "may_be" s_may_be ["conduct", "links"]) (G : Does P w K mg base 1 "does" ["conduct", "act"] spDoes) : Does P w K mg base 2 "may_be" ["conduct", "links"] spMay := by
  refine h.does sc_may_be (fun vs H Q E h => ?_) (fun f cdv A outer s H vs Q E hr h => ?_)
  · obtain ⟨_, _, _, rfl, _⟩ := h
    rfl
  · obtain ⟨c, l, ls, rfl, ⟨xs, hx, hp, hz⟩, k⟩ := h
    refine ⟨_, pss_cons (ps_for PassesOwn.never rfl (pi_list (pv 1)) (pg_name (i := 2) sc_may_be.nd rfl (Or.inl rfl))
      (pss_one (ps_if (pt_cmpR op_gt (pe_f G hr (ha := pa_cons (pv 0) (pa_cons (pe_ix ix_tup (pv 2) pe_int (fun _ _ => rfl)) pa_nil))) (pe_f G hr (ha := pa_cons (pv 0) (pa_cons (pe_ix ix_tup (pv 2) pe_int (fun _ _ => rfl)) pa_nil))) (nomark _))
        (pss_one (ps_ret pe_bl)) pss_nil))) (pss_one (ps_ret pe_bl)), ?_⟩
    have e1 := paired_len hp
    refine ⟨_, rfl, l, rfl, ⟨xs, SqL.of hx⟩, for_list (K := K) (a := l) (xs := xs) (fun i σ H' => H' = H ∧ (∃ v, σ = [some (.int c), some (.ref l), v]) ∧ mayB (ls.take i) c = true) ⟨rfl, ⟨none, rfl⟩, rfl⟩ (fun i σ H' _ p => p.1 ▸ SqL.of hx) ?_ ?_⟩
    · rintro i x σ _ hi ⟨rfl, ⟨v, rfl⟩, hm⟩
      obtain ⟨d, hd, a, rfl, ha⟩ := paired_get hp hi
      have st : mayB (ls.take (i + 1)) c = (!c.testBit d.a || c.testBit d.b) := by
        unfold mayB at hm ⊢
        rw [take_snoc hd, List.all_append, hm, Bool.true_and, List.all_cons, List.all_nil, Bool.and_true]
      refine ⟨_, rfl, _, rfl, a, _, 0, _, rfl, rfl, SqT.of ha, rfl, c, d.a, rfl, _, rfl, _, rfl, a, _, 1, _, rfl, rfl, SqT.of ha, rfl, c, d.b, rfl, _, _, rfl, rfl, _, rfl, ?_⟩
      refine bool_if _ (fun e => ?_) fun e => ?_
      · rw [bitI_gt] at e
        have e3 : mayB ls c = false := by
          unfold mayB
          rw [List.all_eq_false]
          refine ⟨d, List.mem_of_getElem? hd, ?_⟩
          intro z
          rw [z] at e
          cases e
        rw [e3] at k
        exact k
      · rw [bitI_gt] at e
        exact ⟨rfl, ⟨_, rfl⟩, by rw [st]; exact nn e⟩
    · rintro σ _ ⟨rfl, ⟨v, rfl⟩, hm⟩
      rw [e1, List.take_length] at hm
      rw [hm] at k
      exact k
/-! ### keeps, broken_by, weight_of -/
def spKeeps (CD : Addr) : Sp := fun vs H Q _ => ∃ (c : Nat) (x : V) (d : Km483.Duty), vs = [.int c, x] ∧ RD CD H x d ∧ Q (.bl (keepB c d)) H
theorem ok_keeps (T : Txt K mg CD CB) (h : Has K mg "keeps" s_keeps ["conduct", "duty"]) (G : Does P w K mg base 1 "does" ["conduct", "act"] spDoes) : Does P w K mg base 2 "keeps" ["conduct", "duty"] (spKeeps CD) := by
  refine h.does sc_keeps (fun vs H Q E h => ?_) (fun f cdv A outer s H vs Q E hr h => ?_)
  · obtain ⟨_, _, _, rfl, _⟩ := h
    rfl
  · obtain ⟨c, _, d, rfl, ⟨a, dx, rfl, ha⟩, k⟩ := h
    refine ⟨_, pss_one (ps_ret (pe_cmpR op_eq (pe_f G hr (ha := pa_cons (pv 0) (pa_cons (pe_fld (pv 1) rfl) pa_nil))) (pe_fld (pv 1) rfl) (nomark _))), ?_⟩
    refine ⟨_, rfl, _, rfl, a, CD, dx, _, _, rfl, ha, T.clD, T.nD _ (by decide +kernel), rfl, c, d.a, rfl, _, rfl, a, CD, dx, _, _, rfl, ha, T.clD, T.nD _ (by decide +kernel), rfl, rfl, ?_⟩
    have e1 : decide (V.int (bitI c d.a) = V.int (d.done : Int)) = keepB c d := by
      unfold keepB
      rw [dec_int]
    rw [e1]
    exact k
def spBroken (CD : Addr) : Sp := fun vs H Q _ => ∃ (c : Nat) (l : Addr) (ds : List Km483.Duty), vs = [.int c, .ref l] ∧ LAt (RD CD) H l ds ∧ ∀ H' p, Same H H' → H p = none → LAt (RD CD) H' p (ds.filter fun d => !keepB c d) → Q (.ref p) H'
theorem ok_broken (h : Has K mg "broken_by" s_broken_by ["conduct", "duties"]) (G : Does P w K mg base 2 "keeps" ["conduct", "duty"] (spKeeps CD)) : Does P w K mg base 3 "broken_by" ["conduct", "duties"] (spBroken CD) := by
  refine h.does sc_broken_by (fun vs H Q E h => ?_) (fun f cdv A outer s H vs Q E hr h => ?_)
  · obtain ⟨_, _, _, rfl, _⟩ := h
    rfl
  · obtain ⟨c, l, ds, rfl, hl, k⟩ := h
    refine ⟨_, pss_one (ps_ret (pe_lc (own := [("duty", 2)]) rfl sc_broken_by.nd (pi_list (pv 1)) (blkOk_by (by rfl))
      (fun _ _ _ _ _ => pg_name (i := 2) sc_broken_by.nd rfl (Or.inl rfl)) (fun _ _ _ _ _ => pts_one (pt_not (pt_val (pe_f G hr (ha := pa_cons (pv 0) (pa_cons (pv 2) pa_nil)))))) (fun _ _ _ _ _ => pv 2))), ?_⟩
    refine ⟨_, rfl, l, rfl, let ⟨xs, e, _⟩ := hl; ⟨xs, SqL.of e⟩, fun D hD => lc_filter (i := 2) mono_RD hl (by show 2 < 3; decide) hD (fun d => !keepB c d) (fun y e H' S he hy s h4 => ?_) fun H' s hH => k _ _ s hD hH⟩
    exact ⟨_, rfl, _, rfl, c, y, e, rfl, hy, _, rfl, h4 _ (Same.refl _)⟩
def spWeight (CD : Addr) : Sp := fun vs H Q _ => ∃ (l : Addr) (ds : List Km483.Duty), vs = [.ref l] ∧ LAt (RD CD) H l ds ∧ ∀ H', Same H H' → Q (.int (weightI ds)) H'
theorem ok_weight (T : Txt K mg CD CB) (h : Has K mg "weight_of" s_weight_of ["duties"]) : Does P w K mg base 1 "weight_of" ["duties"] (spWeight CD) := by
  refine h.does sc_weight_of (fun vs H Q E h => ?_) (fun f cdv A outer s H vs Q E hr h => ?_)
  · obtain ⟨_, _, rfl, _⟩ := h
    rfl
  · obtain ⟨l, ds, rfl, hl, k⟩ := h
    refine ⟨_, pss_one (ps_ret (pe_callB (cr_sum rfl) (by rfl) (T.bn _ (by decide +kernel)) boot_sum (pa_cons (pe_lc (own := [("duty", 1)]) rfl sc_weight_of.nd
      (pi_list (pv 0)) (blkOk_by (by rfl)) (fun _ _ _ _ _ => pg_name (i := 1) sc_weight_of.nd rfl (Or.inl rfl)) (fun _ _ _ _ _ => pts_nil) (fun _ _ _ _ _ => pf K (pv 1))) pa_nil))), ?_⟩
    refine ⟨_, rfl, l, rfl, let ⟨xs, e, _⟩ := hl; ⟨xs, SqL.of e⟩, fun D hD => lc_map (i := 1) mono_RD hl hD (fun d => V.int (d.weight : Int)) (fun y e H' S he hy s h4 => ?_) fun H' s hH => ?_⟩
    · obtain ⟨a, dx, rfl, ha⟩ := hy
      exact ⟨_, rfl, a, CD, dx, _, _, rfl, ha, T.clD, T.nD _ (by decide +kernel), rfl, h4 _ (Same.refl _)⟩
    · exact ⟨D, ds.map fun d : Km483.Duty => (d.weight : Int), rfl, SqL.of (hH.trans (by rw [List.map_map]; rfl)), k _ s⟩
end
end My
namespace My
open PySem PySem.Spec PyProof.Rows L2
open Km483 (Desk Duty Link Book)
/-! ### a class and its __init__ -/
def DoesC (P : Program) (w : World) (K : PySem.W.Frag) (mg : Str → Option Value) (base : Heap) (C : Addr) (k : Nat) (x : Str) (ps : List Str) (sp : Sp) : Prop :=
  ∃ (f : Addr) (fd : FuncData), Mk K C f ∧ mg x = some (.ref C) ∧ Binds K fd ps [] ∧ FnOk P w K mg base CX0 k f fd ps sp
def HasC (K : PySem.W.Frag) (mg : Str → Option Value) (C : Addr) (x qual : Str) (st : Stmt) (ps : List Str) : Prop :=
  ∃ (f : Addr) (fd : FuncData), Mk K C f ∧ mg x = some (.ref C) ∧ Fun K "__init__" qual st f fd ∧ Binds K fd ps []
section
variable {P : Program} {w : World} {K : PySem.W.Frag} {mg : Str → Option Value} {base : Heap} {C : Addr}
theorem HasC.does {x qual : Str} {st : Stmt} {N ps : List Str} {k : Nat} {sp : Sp} (h : HasC K mg C x qual st ps) (S : FnScope N ps (defScope st)) (len : ∀ vs H Q E, sp vs H Q E → vs.length = ps.length)
    (hbody : ∀ (f : Addr) (cdv : Value) (A : Around) (outer : List Env) (s : Shared) (H : Hp) (vs : List V) (Q : VK) (E : XK), Room k (A.deeper (envOfC qual (defScope st) s.heap.objs.size f cdv)) → sp vs H Q E →
      ∃ t, PSs (cxOf CX0 P w K mg base N qual (defScope st) f cdv A outer s H E).nox (defBody st) t ∧ t { nx := fun _ H' => Q .non H', rt := Q } (start N vs) H) : DoesC P w K mg base C (k + 1) x ps sp := by
  obtain ⟨f, fd, hm, hg, F, b⟩ := h
  exact ⟨f, fd, hm, hg, b, F.ok S len (hbody f)⟩
end
section
variable {X : Cx} {x : Str} {p pos : Pos} {e : Expr} {es : List Expr} {t : TA} {k j : Nat} {ps : List Str} {sp : Sp} {C : Addr}
theorem pe_c (D : DoesC X.prog X.w X.K X.mg X.base C j x ps sp) (hr : Room k X.A) (hjk : j + 1 ≤ k := by decide) (hg : Gl X x := by rfl) (ha : PA X (e :: es) t) (hdb : (x == ("__debug__" : Str)) = false := by decide)
    (he : starEach (e :: es) X.env = (false, eval e X.env) :: starEach es X.env := by rfl) (hpl : (backTo pos (starEach es X.env)).any (·.1) = false := by rfl) : PE X (.Call (.Name x p) (e :: es) [] pos) (tMake C sp [] E0 t) := by
  obtain ⟨f, fd, M, hm, hb, G⟩ := D
  exact pe_make M G (hr.mono hjk) hg hm hb .nil pass0 ha hdb he hpl
theorem pe_c0 (D : DoesC X.prog X.w X.K X.mg X.base C j x ps sp) (hr : Room k X.A) (hjk : j + 1 ≤ k := by decide) (hg : Gl X x := by rfl) (hdb : (x == ("__debug__" : Str)) = false := by decide) : PE X (.Call (.Name x p) [] [] pos) (tMake C sp [] E0 tNil) := by
  obtain ⟨f, fd, M, hm, hb, G⟩ := D
  exact pe_make0 M G (hr.mono hjk) hg hm hb .nil pass0 hdb
end
/-! ### a book on the heap -/
def SameBut (B : Addr) (H H' : Hp) : Prop := ∀ b o, b ≠ B → H b = some o → H' b = some o
theorem SameBut.refl {B : Addr} {H : Hp} : SameBut B H H := fun _ _ _ e => e
theorem SameBut.trans {B : Addr} {H H1 H2 : Hp} (a : SameBut B H H1) (b : SameBut B H1 H2) : SameBut B H H2 := fun c o n e => b c o n (a c o n e)
theorem but_same {B : Addr} {H H' : Hp} (s : Same H H') : SameBut B H H' := fun b o _ e => s b o e
theorem but_upd {B : Addr} {H : Hp} {o : HO} : SameBut B H (upd H B o) := fun b u n e => by rw [upd_ne n]; exact e
theorem same_new {H : Hp} {p : Addr} {o : HO} (h : H p = none) : Same H (upd H p o) := same_upd (Same.refl H) h
def bF (n m : Nat) (d l p q : Addr) : List (Str × V) :=
  [("acts", .int n), ("states", .int m), ("duties", .ref d), ("links", .ref l), ("pages_before", .ref p), ("pages_behind", .ref q)]
theorem flat_book {o : HO} (fl : Flat o) {CB dx : Addr} {n m : Nat} {d l p q : Addr} : o ≠ .ins CB dx (bF n m d l p q) := by
  rintro rfl
  rcases fl with ⟨_, z⟩ | ⟨_, _, d', z⟩
  · cases z
  · have h1 : bF n m d l p q = dF d' := (HO.ins.inj z).2.2
    have h : (some ("acts" : Str)) = some ("debtor" : Str) := congrArg (fun l => (l.head?).map Prod.fst) h1
    exact absurd h (by decide +kernel)
section
variable {CD CB B : Addr} {H H' : Hp} {dx : Addr} {n m : Nat} {d l p q : Addr}
theorem fsame_but (hB : H B = some (.ins CB dx (bF n m d l p q))) (s : SameBut B H H') : FSame H H' := fun b o fl e => s b o (ne_of e hB (flat_book fl)) e
theorem lst_but (hB : H B = some (.ins CB dx (bF n m d l p q))) (s : SameBut B H H') {a : Addr} {xs : List V} (h : H a = some (.lst xs)) : H' a = some (.lst xs) := s _ _ (ne_of h hB (by intro z; cases z)) h
theorem tup_but (hB : H B = some (.ins CB dx (bF n m d l p q))) (s : SameBut B H H') {a : Addr} {xs : List V} (h : H a = some (.tup xs)) : H' a = some (.tup xs) := s _ _ (ne_of h hB (by intro z; cases z)) h
theorem LAt.but {α : Type} {R : Hp → V → α → Prop} (mR : FMono R) (hB : H B = some (.ins CB dx (bF n m d l p q))) (s : SameBut B H H') {a : Addr} {ds : List α} (h : LAt R H a ds) : LAt R H' a ds :=
  let ⟨xs, e, r, z⟩ := h; ⟨xs, lst_but hB s e, paired_imp (fun _ _ r => mR _ _ _ _ (fsame_but hB s) r) r, z⟩
def RP (CD : Addr) (H : Hp) (v : V) (bk : Book) : Prop := ∃ t pd pl, v = .ref t ∧ H t = some (.tup [.ref pd, .ref pl]) ∧ LAt (RD CD) H pd bk.duties ∧ LAt RL H pl bk.links
theorem mono_RP : Mono (RP CD) := fun _ _ _ _ s ⟨t, pd, pl, e, h, a, b⟩ => ⟨t, pd, pl, e, s _ _ h, a.same mono_RD s, b.same mono_RL s⟩
theorem LAt.butP (hB : H B = some (.ins CB dx (bF n m d l p q))) (s : SameBut B H H') {a : Addr} {ds : List Book} (h : LAt (RP CD) H a ds) : LAt (RP CD) H' a ds :=
  let ⟨xs, e, r, z⟩ := h; ⟨xs, lst_but hB s e, paired_imp (fun _ _ ⟨t, pd, pl, e, h, a, b⟩ => ⟨t, pd, pl, e, tup_but hB s h, a.but fmono_RD hB s, b.but fmono_RL hB s⟩) r, z⟩
end
/-- all but the object at R -/
def hid (R : Addr) (H : Hp) : Hp := fun b => if b = R then none else H b
theorem hid_ne {R b : Addr} {H : Hp} (h : b ≠ R) : hid R H b = H b := if_neg h
theorem hid_le {R : Addr} {H : Hp} : Same (hid R H) H := fun b o e => by
  unfold hid at e
  split at e
  · cases e
  · exact e
theorem hid_same {R : Addr} {H H' : Hp} (s : Same H H') : Same (hid R H) (hid R H') := fun b o e => by
  unfold hid at e ⊢
  split at e
  · cases e
  · rename_i h
    rw [if_neg h]
    exact s _ _ e
def BookAt (CD CB : Addr) (H : Hp) (B : Addr) (D : Desk) : Prop := ∃ dx pd pl pb pf, H B = some (.ins CB dx (bF D.now.n D.now.m pd pl pb pf)) ∧
  LAt (RD CD) H pd D.now.duties ∧ LAt RL H pl D.now.links ∧ LAt (RP CD) H pb D.past.reverse ∧ LAt (RP CD) H pf D.future.reverse
theorem BookAt.same {CD CB B : Addr} {H H' : Hp} {D : Desk} (h : BookAt CD CB H B D) (s : Same H H') : BookAt CD CB H' B D :=
  let ⟨dx, pd, pl, pb, pf, e, a, b, c, d⟩ := h; ⟨dx, pd, pl, pb, pf, s _ _ e, a.same mono_RD s, b.same mono_RL s, c.same mono_RP s, d.same mono_RP s⟩
theorem lat_nil {α : Type} {R : Hp → V → α → Prop} {H : Hp} {p : Addr} (h : H p = some (.lst [])) : LAt R H p [] := ⟨[], h, .nil, by simp⟩
section
variable {P : Program} {w : World} {K : PySem.W.Frag} {mg : Str → Option Value} {base : Heap} {CD CB : Addr}
/-! ### has_act, has_state, has_duty, is_set -/
theorem dec_lt (a b : Nat) : decide ((a : Int) < (b : Int)) = decide (a < b) := by
  by_cases h : a < b
  · rw [decide_eq_true h, decide_eq_true (by omega)]
  · rw [decide_eq_false h, decide_eq_false (by omega)]
def spHasAct (CB : Addr) : Sp := fun vs H Q _ => ∃ (B : Addr) (a : Nat) (dx : Addr) (n m : Nat) (d l p q : Addr), vs = [.ref B, .int a] ∧ H B = some (.ins CB dx (bF n m d l p q)) ∧ Q (.bl (decide (a < n))) H
theorem ok_has_act (T : Txt K mg CD CB) (h : HasM K CB "has_act" "Book.has_act" s_Book_has_act ["self", "act"]) : DoesM P w K mg base CB 1 "has_act" ["self", "act"] (spHasAct CB) := by
  refine h.does sc_Book_has_act (fun vs H Q E h => ?_) (fun f cdv A outer s H vs Q E hr h => ?_)
  · obtain ⟨_, _, _, _, _, _, _, _, _, rfl, _⟩ := h
    rfl
  · obtain ⟨B, a, dx, n, m, d, l, p, q, rfl, hB, k⟩ := h
    refine ⟨_, pss_one (ps_ret (pe_cmpR op_lt (pv 1) (pe_fld (pv 0) rfl) (nomark _))), ?_⟩
    refine ⟨_, rfl, _, rfl, B, CB, dx, _, _, rfl, hB, T.clB, T.nB _ (by decide +kernel), rfl, _, _, rfl, rfl, ?_⟩
    dsimp only
    rw [dec_lt]
    exact k
def spHasState (CB : Addr) : Sp := fun vs H Q _ => ∃ (B : Addr) (a : Nat) (dx : Addr) (n m : Nat) (d l p q : Addr), vs = [.ref B, .int a] ∧ H B = some (.ins CB dx (bF n m d l p q)) ∧ Q (.bl (decide (a < m))) H
theorem ok_has_state (T : Txt K mg CD CB) (h : HasM K CB "has_state" "Book.has_state" s_Book_has_state ["self", "state"]) : DoesM P w K mg base CB 1 "has_state" ["self", "state"] (spHasState CB) := by
  refine h.does sc_Book_has_state (fun vs H Q E h => ?_) (fun f cdv A outer s H vs Q E hr h => ?_)
  · obtain ⟨_, _, _, _, _, _, _, _, _, rfl, _⟩ := h
    rfl
  · obtain ⟨B, a, dx, n, m, d, l, p, q, rfl, hB, k⟩ := h
    refine ⟨_, pss_one (ps_ret (pe_cmpR op_lt (pv 1) (pe_fld (pv 0) rfl) (nomark _))), ?_⟩
    refine ⟨_, rfl, _, rfl, B, CB, dx, _, _, rfl, hB, T.clB, T.nB _ (by decide +kernel), rfl, _, _, rfl, rfl, ?_⟩
    dsimp only
    rw [dec_lt]
    exact k
def spHasDuty (CB : Addr) : Sp := fun vs H Q _ => ∃ (B : Addr) (a : Nat) (dx : Addr) (n m : Nat) (d l p q : Addr) (xs : List V), vs = [.ref B, .int a] ∧ H B = some (.ins CB dx (bF n m d l p q)) ∧ H d = some (.lst xs) ∧ Q (.bl (decide (a < xs.length))) H
theorem ok_has_duty (T : Txt K mg CD CB) (h : HasM K CB "has_duty" "Book.has_duty" s_Book_has_duty ["self", "place"]) : DoesM P w K mg base CB 1 "has_duty" ["self", "place"] (spHasDuty CB) := by
  refine h.does sc_Book_has_duty (fun vs H Q E h => ?_) (fun f cdv A outer s H vs Q E hr h => ?_)
  · obtain ⟨_, _, _, _, _, _, _, _, _, _, rfl, _⟩ := h
    rfl
  · obtain ⟨B, a, dx, n, m, d, l, p, q, xs, rfl, hB, hd, k⟩ := h
    refine ⟨_, pss_one (ps_ret (pe_cmpR op_lt (pv 1) (pe_callB call_len_seq (by rfl) (T.bn _ (by decide +kernel)) PySem.boot_len (pa_cons (pe_fld (pv 0) rfl) pa_nil)) (nomark _))), ?_⟩
    refine ⟨_, rfl, _, rfl, B, CB, dx, _, _, rfl, hB, T.clB, T.nB _ (by decide +kernel), rfl, d, xs, rfl, .inl (.of hd), _, _, rfl, rfl, ?_⟩
    dsimp only
    rw [dec_lt]
    exact k
def spIsSet (CB : Addr) : Sp := fun vs H Q _ => ∃ (B : Addr) (a : Nat) (dx : Addr) (n m : Nat) (d l p q : Addr), vs = [.ref B, .int a] ∧ H B = some (.ins CB dx (bF n m d l p q)) ∧ Q (.bl (decide (a < 2 ^ n))) H
theorem ok_is_set (T : Txt K mg CD CB) (h : HasM K CB "is_set" "Book.is_set" s_Book_is_set ["self", "conduct"]) : DoesM P w K mg base CB 1 "is_set" ["self", "conduct"] (spIsSet CB) := by
  refine h.does sc_Book_is_set (fun vs H Q E h => ?_) (fun f cdv A outer s H vs Q E hr h => ?_)
  · obtain ⟨_, _, _, _, _, _, _, _, _, rfl, _⟩ := h
    rfl
  · obtain ⟨B, a, dx, n, m, d, l, p, q, rfl, hB, k⟩ := h
    refine ⟨_, pss_one (ps_ret (pe_cmpR op_eq (pe_op op_shr (pv 1) (pe_fld (pv 0) rfl)) pe_int (nomark _))), ?_⟩
    refine ⟨_, rfl, _, rfl, B, CB, dx, _, _, rfl, hB, T.clB, T.nB _ (by decide +kernel), rfl, _, _, rfl, rfl, (by show (0 : Int) ≤ (n : Int); omega), rfl, ?_⟩
    have e1 : decide (V.int ((a : Int) / 2 ^ ((n : Int)).toNat) = V.int 0) = decide (a < 2 ^ n) := by
      rw [Int.toNat_natCast, My.dec_int]
      have hp : 0 < 2 ^ n := Nat.pow_pos (by decide)
      have e2 : ((a : Int) / 2 ^ n) = ((a / 2 ^ n : Nat) : Int) := by rw [two_pow_cast, ← Int.natCast_ediv]
      rw [e2]
      by_cases z : a < 2 ^ n
      · rw [decide_eq_true z, Nat.div_eq_of_lt z]; rfl
      · rw [decide_eq_false z]
        have : 0 < a / 2 ^ n := Nat.div_pos (by omega) hp
        exact decide_eq_false (by omega)
    rw [e1]
    exact k
/-! ### page, turn_to -/
def spPage (CB : Addr) : Sp := fun vs H Q _ => ∃ (B dx : Addr) (n m : Nat) (d l p q : Addr), vs = [.ref B] ∧ H B = some (.ins CB dx (bF n m d l p q)) ∧ ∀ t, H t = none → Q (.ref t) (upd H t (.tup [.ref d, .ref l]))
theorem ok_page (T : Txt K mg CD CB) (h : HasM K CB "page" "Book.page" s_Book_page ["self"]) : DoesM P w K mg base CB 1 "page" ["self"] (spPage CB) := by
  refine h.does sc_Book_page (fun vs H Q E h => ?_) (fun f cdv A outer s H vs Q E hr h => ?_)
  · obtain ⟨_, _, _, _, _, _, _, _, rfl, _⟩ := h
    rfl
  · obtain ⟨B, dx, n, m, d, l, p, q, rfl, hB, k⟩ := h
    refine ⟨_, pss_one (ps_ret (pe_tup (pa_cons (pe_fld (pv 0) rfl) (pa_cons (pe_fld (pv 0) rfl) pa_nil)))), ?_⟩
    exact ⟨_, rfl, B, CB, dx, _, _, rfl, hB, T.clB, T.nB _ (by decide +kernel), rfl, _, rfl, B, CB, dx, _, _, rfl, hB, T.clB, T.nB _ (by decide +kernel), rfl, (by show 2 ≤ sizeLine; decide), k⟩
def spTurn (CB : Addr) : Sp := fun vs H Q _ => ∃ (B t dx : Addr) (n m : Nat) (d l p q d' l' : Addr), vs = [.ref B, .ref t] ∧ H B = some (.ins CB dx (bF n m d l p q)) ∧ H t = some (.tup [.ref d', .ref l']) ∧ Q .non (upd H B (.ins CB dx (bF n m d' l' p q)))
theorem ok_turn (T : Txt K mg CD CB) (h : HasM K CB "turn_to" "Book.turn_to" s_Book_turn_to ["self", "page"]) : DoesM P w K mg base CB 1 "turn_to" ["self", "page"] (spTurn CB) := by
  refine h.does sc_Book_turn_to (fun vs H Q E h => ?_) (fun f cdv A outer s H vs Q E hr h => ?_)
  · obtain ⟨_, _, _, _, _, _, _, _, _, _, _, rfl, _⟩ := h
    rfl
  · obtain ⟨B, t, dx, n, m, d, l, p, q, d', l', rfl, hB, ht, k⟩ := h
    refine ⟨_, pss_cons (ps_fld (pv 0) (pe_ix ix_tup (pv 1) pe_int (fun _ _ => rfl)) rfl) (pss_one (ps_fld (pv 0) (pe_ix ix_tup (pv 1) pe_int (fun _ _ => rfl)) rfl)), ?_⟩
    have nt : t ≠ B := ne_of ht hB (by intro z; cases z)
    refine ⟨_, rfl, t, _, 0, _, rfl, rfl, SqT.of ht, rfl, _, rfl, B, CB, dx, _, rfl, hB, T.clB, T.nB _ (by decide +kernel), (by show 6 < 1000; decide), ?_⟩
    refine ⟨_, rfl, t, _, 1, _, rfl, rfl, SqT.of ((upd_ne nt).trans ht), rfl, _, rfl, B, CB, dx, _, rfl, upd_same, T.clB, T.nB _ (by decide +kernel), (by show 6 < 1000; decide), ?_⟩
    show Q V.non (upd (upd H B _) B _)
    rw [upd_upd]
    exact k
/-! ### begin, __init__ -/
def spBegin (CD CB : Addr) : Sp := fun vs H Q _ => ∃ (B dx : Addr) (fs : List (Str × V)) (n m : Nat), vs = [.ref B, .int n, .int m] ∧ H B = some (.ins CB dx fs) ∧ (fs = [] ∨ ∃ n m d l p q, fs = bF n m d l p q) ∧
  ∀ H', SameBut B H H' → BookAt CD CB H' B ⟨⟨n, m, [], []⟩, [], []⟩ → (∀ R xs, H R = some (.lst xs) → BookAt CD CB (hid R H') B ⟨⟨n, m, [], []⟩, [], []⟩) → Q .non H'
theorem ok_begin (T : Txt K mg CD CB) (h : HasM K CB "begin" "Book.begin" s_Book_begin ["self", "acts", "states"]) : DoesM P w K mg base CB 1 "begin" ["self", "acts", "states"] (spBegin CD CB) := by
  refine h.does sc_Book_begin (fun vs H Q E h => ?_) (fun f cdv A outer s H vs Q E hr h => ?_)
  · obtain ⟨_, _, _, _, _, rfl, _⟩ := h
    rfl
  · obtain ⟨B, dx, fs, n, m, rfl, hB, hfs, k⟩ := h
    refine ⟨_, pss_cons (ps_fld (pv 0) (pv 1) rfl) (pss_cons (ps_fld (pv 0) (pv 2) rfl) (pss_cons (ps_fld (pv 0) (pe_lst pa_nil) rfl) (pss_cons (ps_fld (pv 0) (pe_lst pa_nil) rfl)
      (pss_cons (ps_fld (pv 0) (pe_lst pa_nil) rfl) (pss_one (ps_fld (pv 0) (pe_lst pa_nil) rfl)))))), ?_⟩
    have hl : fs.length ≤ 6 := by
      rcases hfs with rfl | ⟨_, _, _, _, _, _, rfl⟩
      · decide
      · exact Nat.le_refl _
    have L1 := length_putF "acts" (.int n) fs
    have L2 := length_putF "states" (.int m) (putF "acts" (.int n) fs)
    refine ⟨_, rfl, _, rfl, B, CB, dx, _, rfl, hB, T.clB, T.nB _ (by decide +kernel), (by omega), ?_⟩
    refine ⟨_, rfl, _, rfl, B, CB, dx, _, rfl, upd_same, T.clB, T.nB _ (by decide +kernel), (by omega), ?_⟩
    rw [upd_upd]
    generalize hG : upd H B (.ins CB dx (putF "states" (.int m) (putF "acts" (.int n) fs))) = G2
    have gB : G2 B = some (.ins CB dx (putF "states" (.int m) (putF "acts" (.int n) fs))) := by rw [← hG]; exact upd_same
    have s2 : SameBut B H G2 := by rw [← hG]; exact but_upd
    have st : ∀ (G : Hp) (fs : List (Str × V)), G B = some (.ins CB dx fs) → SameBut B H G → ∀ (x : Str) (v : Addr), G v = none →
        ((upd G v (.lst [])) B = some (.ins CB dx fs)) ∧ SameBut B H (upd (upd G v (.lst [])) B (.ins CB dx (putF x (.ref v) fs))) ∧ (upd (upd G v (.lst [])) B (.ins CB dx (putF x (.ref v) fs))) v = some (.lst [])
          ∧ ∀ u, G u = some (.lst []) → (upd (upd G v (.lst [])) B (.ins CB dx (putF x (.ref v) fs))) u = some (.lst []) := fun G fs gB s x v hv => by
      have n1 : v ≠ B := fun z => by rw [z, gB] at hv; cases hv
      refine ⟨by rw [upd_ne (fun z => n1 z.symm)]; exact gB, (s.trans (but_same (same_new hv))).trans but_upd, by rw [upd_ne n1]; exact upd_same, fun u hu => ?_⟩
      have n2 : u ≠ B := ne_of hu gB (by intro z; cases z)
      rw [upd_ne n2, upd_ne (ne_of_none hu hv)]
      exact hu
    have Lf : ∀ (x : Str) (v : V) (fs : List (Str × V)), (putF x v fs).length ≤ fs.length + 1 := length_putF
    refine ⟨(by show 0 ≤ sizeLine; decide), fun d hd => ?_⟩
    obtain ⟨b3, s3, d3, _⟩ := st G2 _ gB s2 "duties" d hd
    refine ⟨_, rfl, B, CB, dx, _, rfl, b3, T.clB, T.nB _ (by decide +kernel), (by omega), ?_⟩
    have L3 := Lf "duties" (.ref d) (putF "states" (.int m) (putF "acts" (.int n) fs))
    refine ⟨(by show 0 ≤ sizeLine; decide), fun l hl' => ?_⟩
    obtain ⟨b4, s4, l4, k4⟩ := st _ _ upd_same s3 "links" l hl'
    refine ⟨_, rfl, B, CB, dx, _, rfl, b4, T.clB, T.nB _ (by decide +kernel), (by omega), ?_⟩
    have L4 := Lf "links" (.ref l) (putF "duties" (.ref d) (putF "states" (.int m) (putF "acts" (.int n) fs)))
    refine ⟨(by show 0 ≤ sizeLine; decide), fun p hp => ?_⟩
    obtain ⟨b5, s5, p5, k5⟩ := st _ _ upd_same s4 "pages_before" p hp
    refine ⟨_, rfl, B, CB, dx, _, rfl, b5, T.clB, T.nB _ (by decide +kernel), (by omega), ?_⟩
    have L5 := Lf "pages_before" (.ref p) (putF "links" (.ref l) (putF "duties" (.ref d) (putF "states" (.int m) (putF "acts" (.int n) fs))))
    refine ⟨(by show 0 ≤ sizeLine; decide), fun q hq => ?_⟩
    obtain ⟨b6, s6, q6, k6⟩ := st _ _ upd_same s5 "pages_behind" q hq
    refine ⟨_, rfl, B, CB, dx, _, rfl, b6, T.clB, T.nB _ (by decide +kernel), (by omega), ?_⟩
    have ef : putF "pages_behind" (.ref q) (putF "pages_before" (.ref p) (putF "links" (.ref l) (putF "duties" (.ref d) (putF "states" (.int m) (putF "acts" (.int n) fs))))) = bF n m d l p q := by
      rcases hfs with rfl | ⟨_, _, _, _, _, _, rfl⟩ <;> rfl
    have b7 : ∀ G : Hp, (upd G B (.ins CB dx (putF "pages_behind" (.ref q) (putF "pages_before" (.ref p) (putF "links" (.ref l) (putF "duties" (.ref d) (putF "states" (.int m) (putF "acts" (.int n) fs)))))))) B = some (.ins CB dx (bF n m d l p q)) := fun G => upd_same.trans (congrArg (fun z => some (HO.ins CB dx z)) ef)
    refine k _ s6 ⟨dx, d, l, p, q, b7 _, lat_nil (k6 _ (k5 _ (k4 _ d3))), lat_nil (k6 _ (k5 _ l4)), lat_nil (k6 _ p5), lat_nil q6⟩ fun R xs hR => ?_
    have nB : R ≠ B := ne_of hR hB (by intro z; cases z)
    have h2 := s2 _ _ nB hR
    have h3 := s3 _ _ nB hR
    have h4 := s4 _ _ nB hR
    have h5 := s5 _ _ nB hR
    have nd := (ne_of_none h2 hd).symm
    have nl := (ne_of_none h3 hl').symm
    have np := (ne_of_none h4 hp).symm
    have nq := (ne_of_none h5 hq).symm
    exact ⟨dx, d, l, p, q, (hid_ne nB.symm).trans (b7 _), lat_nil ((hid_ne nd).trans (k6 _ (k5 _ (k4 _ d3)))), lat_nil ((hid_ne nl).trans (k6 _ (k5 _ l4))), lat_nil ((hid_ne np).trans (k6 _ p5)), lat_nil ((hid_ne nq).trans q6)⟩
def spInit (CD CB : Addr) : Sp := fun vs H Q _ => ∃ (B dx : Addr), vs = [.ref B] ∧ H B = some (.ins CB dx []) ∧ ∀ H', SameBut B H H' → BookAt CD CB H' B void → Q .non H'
theorem ok_init (T : Txt K mg CD CB) (h : HasC K mg CB "Book" "Book.__init__" s_Book_init ["self"]) (G : DoesM P w K mg base CB 1 "begin" ["self", "acts", "states"] (spBegin CD CB)) : DoesC P w K mg base CB 2 "Book" ["self"] (spInit CD CB) := by
  refine h.does sc_Book_init (fun vs H Q E h => ?_) (fun f cdv A outer s H vs Q E hr h => ?_)
  · obtain ⟨_, _, rfl, _⟩ := h
    rfl
  · obtain ⟨B, dx, rfl, hB, k⟩ := h
    refine ⟨_, pss_one (ps_expr (pe_m G T.clB hr (pv 0) (pa_cons pe_int (pa_cons pe_int pa_nil)))), ?_⟩
    exact ⟨_, rfl, B, dx, _, rfl, hB, rfl, B, dx, _, 0, 0, rfl, hB, .inl rfl, fun H' s' b' _ => k H' s' b'⟩
/-! ### Duty -/
def spDuty (CD : Addr) : Sp := fun vs H Q _ => ∃ (x dx : Addr) (d : Duty), vs = [.ref x, .int d.i, .int d.j, .int d.a, .int d.done, .int d.weight, .int d.day] ∧ H x = some (.ins CD dx []) ∧ Q .non (upd H x (.ins CD dx (dF d)))
theorem ok_duty_init (T : Txt K mg CD CB) (h : HasC K mg CD "Duty" "Duty.__init__" s_Duty_init ["self", "debtor", "creditor", "act", "owed", "weight", "day"]) : DoesC P w K mg base CD 1 "Duty" ["self", "debtor", "creditor", "act", "owed", "weight", "day"] (spDuty CD) := by
  refine h.does sc_Duty_init (fun vs H Q E h => ?_) (fun f cdv A outer s H vs Q E hr h => ?_)
  · obtain ⟨_, _, _, rfl, _⟩ := h
    rfl
  · obtain ⟨x, dx, d, rfl, hx, k⟩ := h
    refine ⟨_, pss_cons (ps_fld (pv 0) (pv 1) rfl) (pss_cons (ps_fld (pv 0) (pv 2) rfl) (pss_cons (ps_fld (pv 0) (pv 3) rfl) (pss_cons (ps_fld (pv 0) (pv 4) rfl)
      (pss_cons (ps_fld (pv 0) (pv 5) rfl) (pss_one (ps_fld (pv 0) (pv 6) rfl)))))), ?_⟩
    refine ⟨_, rfl, _, rfl, x, CD, dx, _, rfl, hx, T.clD, T.nD _ (by decide +kernel), (by show 0 < 1000; decide), ?_⟩
    refine ⟨_, rfl, _, rfl, x, CD, dx, _, rfl, upd_same, T.clD, T.nD _ (by decide +kernel), (by show 1 < 1000; decide), ?_⟩
    refine ⟨_, rfl, _, rfl, x, CD, dx, _, rfl, upd_same, T.clD, T.nD _ (by decide +kernel), (by show 2 < 1000; decide), ?_⟩
    refine ⟨_, rfl, _, rfl, x, CD, dx, _, rfl, upd_same, T.clD, T.nD _ (by decide +kernel), (by show 3 < 1000; decide), ?_⟩
    refine ⟨_, rfl, _, rfl, x, CD, dx, _, rfl, upd_same, T.clD, T.nD _ (by decide +kernel), (by show 4 < 1000; decide), ?_⟩
    refine ⟨_, rfl, _, rfl, x, CD, dx, _, rfl, upd_same, T.clD, T.nD _ (by decide +kernel), (by show 5 < 1000; decide), ?_⟩
    rw [upd_upd, upd_upd, upd_upd, upd_upd, upd_upd]
    exact k
end
end My
namespace My
open PySem PySem.Spec PyProof.Rows L2
open Km483 (Desk Duty Link Book)
theorem paired_drop {α β : Type} {R : α → β → Prop} : ∀ (k : Nat) {xs : List α} {ys : List β}, Paired R xs ys → Paired R (xs.drop k) (ys.drop k)
  | 0, _, _, h => h
  | _ + 1, _, _, .nil => .nil
  | k + 1, _, _, .cons _ t => paired_drop k t
theorem paired_take {α β : Type} {R : α → β → Prop} : ∀ (k : Nat) {xs : List α} {ys : List β}, Paired R xs ys → Paired R (xs.take k) (ys.take k)
  | 0, _, _, _ => .nil
  | _ + 1, _, _, .nil => .nil
  | k + 1, _, _, .cons r t => .cons r (paired_take k t)
theorem paired_last {α β : Type} {R : α → β → Prop} : ∀ {xs : List α} {ys : List β} {y : β}, Paired R xs (ys ++ [y]) → ∃ zs z, xs = zs ++ [z] ∧ Paired R zs ys ∧ R z y
  | _, [], _, .cons r .nil => ⟨[], _, rfl, .nil, r⟩
  | _, _ :: _, _, .cons r t => by
    obtain ⟨zs, z, rfl, a, b⟩ := paired_last t
    exact ⟨_ :: zs, z, rfl, .cons r a, b⟩
theorem cut_last (xs : List V) (n : Nat) : cutV xs (some (-(n : Int))) none = xs.drop (xs.length - n) ∨ n = 0 := by
  cases n with
  | zero => exact .inr rfl
  | succ n =>
    refine .inl ?_
    unfold cutV
    have e : HT.sIx xs.length 0 (some (-((n + 1 : Nat) : Int))) = xs.length - (n + 1) := by
      show (if -((n + 1 : Nat) : Int) < 0 then (-((n + 1 : Nat) : Int) + (xs.length : Int)).toNat else _) = _
      rw [if_pos (by omega)]
      omega
    rw [e, HT.sIx_none]
    refine List.take_of_length_le ?_
    rw [List.length_drop]
    exact Nat.le_refl _
theorem cut_init (xs : List V) (v : V) : cutV (xs ++ [v]) none (some (-1)) = xs := by
  unfold cutV
  have e : HT.sIx (xs ++ [v]).length (xs ++ [v]).length (some (-1)) = xs.length := by
    show (if (-1 : Int) < 0 then (-1 + ((xs ++ [v]).length : Int)).toNat else min (-1 : Int).toNat (xs ++ [v]).length) = xs.length
    rw [if_pos (by omega), List.length_append, List.length_singleton]
    omega
  rw [e, HT.sIx_none, Nat.sub_zero, List.drop_zero]
  exact List.take_left' rfl
section
variable {P : Program} {w : World} {K : PySem.W.Frag} {mg : Str → Option Value} {base : Heap} {CD CB : Addr}
/-! ### change -/
def spChange (CD CB : Addr) : Sp := fun vs H Q _ => ∃ (B d' l' : Addr) (D : Desk) (ds : List Duty) (ls : List Link), vs = [.ref B, .ref d', .ref l'] ∧ BookAt CD CB H B D ∧ D.past.length ≤ 20 ∧ LAt (RD CD) H d' ds ∧ LAt RL H l' ls ∧
  ∀ H', SameBut B H H' → BookAt CD CB H' B (D.become ⟨D.now.n, D.now.m, ds, ls⟩) → Q .non H'
theorem ok_change (T : Txt K mg CD CB) (h : HasM K CB "change" "Book.change" s_Book_change ["self", "duties", "links"]) (GP : DoesM P w K mg base CB 1 "page" ["self"] (spPage CB)) (GT : DoesM P w K mg base CB 1 "turn_to" ["self", "page"] (spTurn CB)) :
    DoesM P w K mg base CB 2 "change" ["self", "duties", "links"] (spChange CD CB) := by
  refine h.does sc_Book_change (fun vs H Q E h => ?_) (fun f cdv A outer s H vs Q E hr h => ?_)
  · obtain ⟨_, _, _, _, _, _, rfl, _⟩ := h
    rfl
  · obtain ⟨B, d', l', D, ds, ls, rfl, ⟨dx, pd, pl, pb, pf, hB, a1, a2, a3, a4⟩, hlen, hd', hl', k⟩ := h
    refine ⟨_, pss_cons (ps_set (i := 3) sc_Book_change.nd rfl (Or.inl rfl) (pe_op op_cat (pe_fld (pv 0) rfl) (pe_lst (pa_cons (pe_m0 GP T.clB hr (pv 0)) pa_nil))))
      (pss_cons (ps_fld (pv 0) (pe_slice sl_list (pv 3) (po_some (pe_un un_neg (pk (T.cs ("MOST_BACK", 20) (by decide +kernel))))) po_none) rfl)
      (pss_cons (ps_fld (pv 0) (pe_lst pa_nil) rfl)
      (pss_one (ps_expr (pe_m GT T.clB hr (pv 0) (pa_cons (pe_tup (pa_cons (pv 1) (pa_cons (pv 2) pa_nil))) pa_nil)))))), ?_⟩
    obtain ⟨xs, hx, px, hz⟩ := a3
    have lx := paired_len px
    rw [List.length_reverse] at lx
    refine ⟨_, rfl, B, CB, dx, _, _, rfl, hB, T.clB, T.nB _ (by decide +kernel), rfl, ?_⟩
    refine ⟨_, rfl, B, dx, _, rfl, hB, rfl, B, dx, _, _, _, _, _, _, rfl, hB, fun t ht => ?_⟩
    have s1 : Same H (upd H t (.tup [.ref pd, .ref pl])) := same_new ht
    refine ⟨(by show 1 ≤ sizeLine; decide), fun c hc => ?_⟩
    have s2 := s1.trans (same_new (o := .lst [.ref t]) hc)
    have t2 : (upd (upd H t (.tup [.ref pd, .ref pl])) c (.lst [.ref t])) t = some (.tup [.ref pd, .ref pl]) := same_new hc _ _ upd_same
    have c2 : (upd (upd H t (.tup [.ref pd, .ref pl])) c (.lst [.ref t])) c = some (.lst [.ref t]) := upd_same
    generalize upd (upd H t (.tup [.ref pd, .ref pl])) c (.lst [.ref t]) = H2 at s2 t2 c2 ⊢
    refine ⟨pb, c, xs, [.ref t], rfl, rfl, s2 _ _ hx, c2, (by rw [sizeLine_eq]; show xs.length + 1 ≤ _; omega), fun r hr' => ?_⟩
    have s3 := s2.trans (same_new (o := .lst (xs ++ [.ref t])) hr')
    have t3 := same_new (o := .lst (xs ++ [.ref t])) hr' _ _ t2
    have r3 : (upd H2 r (.lst (xs ++ [.ref t]))) r = some (.lst (xs ++ [.ref t])) := upd_same
    generalize upd H2 r (.lst (xs ++ [.ref t])) = H3 at s3 t3 r3 ⊢
    refine ⟨_, rfl, _, rfl, _, rfl, r, _, rfl, SqL.of r3, fun p' hp' => ?_⟩
    have s4 := s3.trans (same_new (o := .lst (cutV (xs ++ [.ref t]) (some (-20)) none)) hp')
    have t4 := same_new (o := .lst (cutV (xs ++ [.ref t]) (some (-20)) none)) hp' _ _ t3
    have p4 : (upd H3 p' (.lst (cutV (xs ++ [.ref t]) (some (-20)) none))) p' = some (.lst (cutV (xs ++ [.ref t]) (some (-20)) none)) := upd_same
    show _
    generalize upd H3 p' (.lst (cutV (xs ++ [.ref t]) (some (-20)) none)) = H4 at s4 t4 p4 ⊢
    have B4 := s4 _ _ hB
    refine ⟨_, rfl, B, CB, dx, _, rfl, B4, T.clB, T.nB _ (by decide +kernel), (by show 6 < 1000; decide), ?_⟩
    refine ⟨(by show 0 ≤ sizeLine; decide), fun q' hq' => ?_⟩
    have nq : B ≠ q' := fun z => by rw [← z, upd_same] at hq'; cases hq'
    refine ⟨_, rfl, B, CB, dx, _, rfl, (upd_ne nq).trans upd_same, T.clB, T.nB _ (by decide +kernel), (by show 6 < 1000; decide), ?_⟩
    refine ⟨_, rfl, B, dx, _, rfl, upd_same, rfl, ?_⟩
    refine ⟨_, rfl, _, rfl, (by show 2 ≤ sizeLine; decide), fun t' ht' => ?_⟩
    have nt : B ≠ t' := fun z => by rw [← z, upd_same] at ht'; cases ht'
    refine ⟨B, t', dx, D.now.n, D.now.m, pd, pl, p', q', d', l', rfl, (upd_ne nt).trans upd_same, upd_same, ?_⟩
    have s7 : SameBut B H4 (upd (upd (upd (upd (upd H4 B (.ins CB dx (bF D.now.n D.now.m pd pl p' pf))) q' (.lst [])) B (.ins CB dx (bF D.now.n D.now.m pd pl p' q'))) t' (.tup [.ref d', .ref l'])) B (.ins CB dx (bF D.now.n D.now.m d' l' p' q'))) :=
      (((but_upd.trans (but_same (same_new hq'))).trans but_upd).trans (but_same (same_new ht'))).trans but_upd
    have q7 : (upd (upd (upd (upd (upd H4 B (.ins CB dx (bF D.now.n D.now.m pd pl p' pf))) q' (.lst [])) B (.ins CB dx (bF D.now.n D.now.m pd pl p' q'))) t' (.tup [.ref d', .ref l'])) B (.ins CB dx (bF D.now.n D.now.m d' l' p' q'))) q' = some (.lst []) := by
      have e1 : (upd (upd (upd H4 B (.ins CB dx (bF D.now.n D.now.m pd pl p' pf))) q' (.lst [])) B (.ins CB dx (bF D.now.n D.now.m pd pl p' q'))) q' = some (.lst []) := by rw [upd_ne nq.symm]; exact upd_same
      rw [upd_ne nq.symm]
      exact same_new ht' _ _ e1
    have b7 : (upd (upd (upd (upd (upd H4 B (.ins CB dx (bF D.now.n D.now.m pd pl p' pf))) q' (.lst [])) B (.ins CB dx (bF D.now.n D.now.m pd pl p' q'))) t' (.tup [.ref d', .ref l'])) B (.ins CB dx (bF D.now.n D.now.m d' l' p' q'))) B = some (.ins CB dx (bF D.now.n D.now.m d' l' p' q')) := upd_same
    show Q V.non (upd (upd (upd (upd (upd H4 B (.ins CB dx (bF D.now.n D.now.m pd pl p' pf))) q' (.lst [])) B (.ins CB dx (bF D.now.n D.now.m pd pl p' q'))) t' (.tup [.ref d', .ref l'])) B (.ins CB dx (bF D.now.n D.now.m d' l' p' q')))
    generalize upd (upd (upd (upd (upd H4 B (.ins CB dx (bF D.now.n D.now.m pd pl p' pf))) q' (.lst [])) B (.ins CB dx (bF D.now.n D.now.m pd pl p' q'))) t' (.tup [.ref d', .ref l'])) B (.ins CB dx (bF D.now.n D.now.m d' l' p' q')) = H7 at s7 q7 b7 ⊢
    have sH : SameBut B H H7 := (but_same s4).trans s7
    refine k _ sH ⟨dx, d', l', p', q', b7, hd'.but fmono_RD hB sH, hl'.but fmono_RL hB sH, LAt.butP B4 s7 ⟨_, p4, ?_, ?_⟩, lat_nil q7⟩
    · have e1 : cutV (xs ++ [V.ref t]) (some (-20)) none = (xs ++ [V.ref t]).drop ((xs ++ [V.ref t]).length - 20) := by
        rcases cut_last (xs ++ [.ref t]) 20 with h | h
        · exact h
        · cases h
      have e2 : ((D.now :: D.past).take 20).reverse = (D.past.reverse ++ [D.now]).drop ((xs ++ [V.ref t]).length - 20) := by
        rw [List.reverse_take, List.reverse_cons, List.length_append, List.length_cons, List.length_singleton, lx]
      rw [e1]
      show Paired (RP CD H4) _ ((D.now :: D.past).take 20).reverse
      rw [e2]
      refine paired_drop _ (paired_app (paired_imp (fun _ _ r => mono_RP _ _ _ _ s4 r) px) (.cons ?_ .nil))
      exact ⟨t, pd, pl, rfl, t4, a1.same mono_RD s4, a2.same mono_RL s4⟩
    · show ((D.now :: D.past).take 20).reverse.length ≤ 1000
      rw [List.length_reverse, List.length_take]
      omega
/-! ### take_back, do_again -/
def spTake (CD CB : Addr) : Sp := fun vs H Q _ => ∃ (B : Addr) (D : Desk) (k : Book) (r : List Book), vs = [.ref B] ∧ BookAt CD CB H B D ∧ D.past = k :: r ∧ D.future.length ≤ 20 ∧ k.n = D.now.n ∧ k.m = D.now.m ∧
  ∀ H', SameBut B H H' → BookAt CD CB H' B ⟨k, r, D.now :: D.future⟩ → Q .non H'
theorem ok_take (T : Txt K mg CD CB) (h : HasM K CB "take_back" "Book.take_back" s_Book_take_back ["self"]) (GP : DoesM P w K mg base CB 1 "page" ["self"] (spPage CB)) (GT : DoesM P w K mg base CB 1 "turn_to" ["self", "page"] (spTurn CB)) :
    DoesM P w K mg base CB 2 "take_back" ["self"] (spTake CD CB) := by
  refine h.does sc_Book_take_back (fun vs H Q E h => ?_) (fun f cdv A outer s H vs Q E hr h => ?_)
  · obtain ⟨_, _, _, _, rfl, _⟩ := h
    rfl
  · obtain ⟨B, D, bk, r, rfl, ⟨dx, pd, pl, pb, pf, hB, a1, a2, a3, a4⟩, hpast, hlen, en, em, k⟩ := h
    refine ⟨_, pss_cons (ps_fld (pv 0) (pe_op op_cat (pe_fld (pv 0) rfl) (pe_lst (pa_cons (pe_m0 GP T.clB hr (pv 0)) pa_nil))) rfl)
      (pss_cons (ps_expr (pe_m GT T.clB hr (pv 0) (pa_cons (pe_ix ix_list (pe_fld (pv 0) rfl) (pe_un un_neg pe_int) (fun _ _ => rfl)) pa_nil)))
      (pss_one (ps_fld (pv 0) (pe_slice sl_list (pe_fld (pv 0) rfl) po_none (po_some (pe_un un_neg pe_int))) rfl))), ?_⟩
    rw [hpast, List.reverse_cons] at a3
    obtain ⟨xs0, hx, px0, hz⟩ := a3
    obtain ⟨xs, v, rfl, px, t0, d0, l0, rfl, h0, b1, b2⟩ := paired_last px0
    obtain ⟨ys, hy, py, hzy⟩ := a4
    have ly := paired_len py
    rw [List.length_reverse] at ly
    refine ⟨_, rfl, B, CB, dx, _, _, rfl, hB, T.clB, T.nB _ (by decide +kernel), rfl, ?_⟩
    refine ⟨_, rfl, B, dx, _, rfl, hB, rfl, B, dx, _, _, _, _, _, _, rfl, hB, fun t ht => ?_⟩
    have s1 : Same H (upd H t (.tup [.ref pd, .ref pl])) := same_new ht
    refine ⟨(by show 1 ≤ sizeLine; decide), fun c hc => ?_⟩
    have s2 := s1.trans (same_new (o := .lst [.ref t]) hc)
    have t2 : (upd (upd H t (.tup [.ref pd, .ref pl])) c (.lst [.ref t])) t = some (.tup [.ref pd, .ref pl]) := same_new hc _ _ upd_same
    have c2 : (upd (upd H t (.tup [.ref pd, .ref pl])) c (.lst [.ref t])) c = some (.lst [.ref t]) := upd_same
    generalize upd (upd H t (.tup [.ref pd, .ref pl])) c (.lst [.ref t]) = H2 at s2 t2 c2 ⊢
    refine ⟨pf, c, ys, [.ref t], rfl, rfl, s2 _ _ hy, c2, (by rw [sizeLine_eq]; show ys.length + 1 ≤ _; omega), fun q' hq' => ?_⟩
    have s3 := s2.trans (same_new (o := .lst (ys ++ [.ref t])) hq')
    have t3 := same_new (o := .lst (ys ++ [.ref t])) hq' _ _ t2
    have q3 : (upd H2 q' (.lst (ys ++ [.ref t]))) q' = some (.lst (ys ++ [.ref t])) := upd_same
    generalize upd H2 q' (.lst (ys ++ [.ref t])) = H3 at s3 t3 q3 ⊢
    have B3 := s3 _ _ hB
    refine ⟨_, rfl, B, CB, dx, _, rfl, B3, T.clB, T.nB _ (by decide +kernel), (by show 6 < 1000; decide), ?_⟩
    -- self.turn_to(self.pages_before[-1])
    have n1 : pb ≠ B := ne_of hx hB (by intro z; cases z)
    have n2 : t0 ≠ B := ne_of h0 hB (by intro z; cases z)
    refine ⟨_, rfl, B, dx, _, rfl, upd_same, rfl, ?_⟩
    refine ⟨_, rfl, B, CB, dx, _, _, rfl, upd_same, T.clB, T.nB _ (by decide +kernel), rfl, _, rfl, pb, _, (-1), _, rfl, rfl, SqL.of ((upd_ne n1).trans (s3 _ _ hx)), atI_last _ _, ?_⟩
    refine ⟨B, t0, dx, D.now.n, D.now.m, pd, pl, pb, q', d0, l0, rfl, upd_same, (upd_ne n2).trans (s3 _ _ h0), ?_⟩
    show _
    rw [upd_upd]
    -- self.pages_before = self.pages_before[:-1]
    refine ⟨_, rfl, B, CB, dx, _, _, rfl, upd_same, T.clB, T.nB _ (by decide +kernel), rfl, _, rfl, _, rfl, pb, _, rfl, SqL.of ((upd_ne n1).trans (s3 _ _ hx)), fun p' hp' => ?_⟩
    have np : B ≠ p' := fun z => by rw [← z, upd_same] at hp'; cases hp'
    refine ⟨_, rfl, B, CB, dx, _, rfl, (upd_ne np).trans upd_same, T.clB, T.nB _ (by decide +kernel), (by show 6 < 1000; decide), ?_⟩
    have s7 : SameBut B H3 (upd (upd (upd H3 B (.ins CB dx (bF D.now.n D.now.m d0 l0 pb q'))) p' (.lst (cutV (xs ++ [.ref t0]) none (some (-1))))) B (.ins CB dx (bF D.now.n D.now.m d0 l0 p' q'))) :=
      (but_upd.trans (but_same (same_new hp'))).trans but_upd
    have p7 : (upd (upd (upd H3 B (.ins CB dx (bF D.now.n D.now.m d0 l0 pb q'))) p' (.lst (cutV (xs ++ [.ref t0]) none (some (-1))))) B (.ins CB dx (bF D.now.n D.now.m d0 l0 p' q'))) p' = some (.lst (cutV (xs ++ [.ref t0]) none (some (-1)))) := by
      rw [upd_ne np.symm]; exact upd_same
    have b7 : (upd (upd (upd H3 B (.ins CB dx (bF D.now.n D.now.m d0 l0 pb q'))) p' (.lst (cutV (xs ++ [.ref t0]) none (some (-1))))) B (.ins CB dx (bF D.now.n D.now.m d0 l0 p' q'))) B = some (.ins CB dx (bF D.now.n D.now.m d0 l0 p' q')) := upd_same
    show Q V.non (upd (upd (upd H3 B (.ins CB dx (bF D.now.n D.now.m d0 l0 pb q'))) p' (.lst (cutV (xs ++ [.ref t0]) none (some (-1))))) B (.ins CB dx (bF D.now.n D.now.m d0 l0 p' q')))
    generalize upd (upd (upd H3 B (.ins CB dx (bF D.now.n D.now.m d0 l0 pb q'))) p' (.lst (cutV (xs ++ [.ref t0]) none (some (-1))))) B (.ins CB dx (bF D.now.n D.now.m d0 l0 p' q')) = H7 at s7 p7 b7 ⊢
    have sH : SameBut B H H7 := (but_same s3).trans s7
    rw [cut_init] at p7
    rw [List.length_append, List.length_singleton] at hz
    refine k _ sH ⟨dx, d0, l0, p', q', ?_, b1.but fmono_RD hB sH, b2.but fmono_RL hB sH, ⟨xs, p7, ?_, (by show r.reverse.length ≤ 1000; omega)⟩, ?_⟩
    · rw [b7, ← en, ← em]
    · have : LAt (RP CD) H pb (r.reverse ++ [bk]) := ⟨_, hx, px0, by rw [List.length_append, List.length_singleton]; exact hz⟩
      obtain ⟨ws, hw, pw, _⟩ := LAt.butP hB sH this
      have ew : ws = xs ++ [.ref t0] := by
        have h1 := lst_but hB sH hx
        rw [hw] at h1
        exact (HO.lst.inj (Option.some.inj h1))
      subst ew
      obtain ⟨zs, z, e, pz, _⟩ := paired_last pw
      have := List.append_inj' e rfl
      rw [this.1]
      exact pz
    · refine LAt.butP B3 s7 ⟨_, q3, ?_, ?_⟩
      · show Paired (RP CD H3) _ (D.now :: D.future).reverse
        rw [List.reverse_cons]
        exact paired_app (paired_imp (fun _ _ r => mono_RP _ _ _ _ s3 r) py) (.cons ⟨t, pd, pl, rfl, t3, a1.same mono_RD s3, a2.same mono_RL s3⟩ .nil)
      · show (D.now :: D.future).reverse.length ≤ 1000
        rw [List.length_reverse, List.length_cons]
        omega
def spAgain (CD CB : Addr) : Sp := fun vs H Q _ => ∃ (B : Addr) (D : Desk) (k : Book) (r : List Book), vs = [.ref B] ∧ BookAt CD CB H B D ∧ D.future = k :: r ∧ D.past.length ≤ 20 ∧ k.n = D.now.n ∧ k.m = D.now.m ∧
  ∀ H', SameBut B H H' → BookAt CD CB H' B ⟨k, D.now :: D.past, r⟩ → Q .non H'
theorem ok_again (T : Txt K mg CD CB) (h : HasM K CB "do_again" "Book.do_again" s_Book_do_again ["self"]) (GP : DoesM P w K mg base CB 1 "page" ["self"] (spPage CB)) (GT : DoesM P w K mg base CB 1 "turn_to" ["self", "page"] (spTurn CB)) :
    DoesM P w K mg base CB 2 "do_again" ["self"] (spAgain CD CB) := by
  refine h.does sc_Book_do_again (fun vs H Q E h => ?_) (fun f cdv A outer s H vs Q E hr h => ?_)
  · obtain ⟨_, _, _, _, rfl, _⟩ := h
    rfl
  · obtain ⟨B, D, bk, r, rfl, ⟨dx, pd, pl, pf, pb, hB, a1, a2, a4, a3⟩, hpast, hlen, en, em, k⟩ := h
    refine ⟨_, pss_cons (ps_fld (pv 0) (pe_op op_cat (pe_fld (pv 0) rfl) (pe_lst (pa_cons (pe_m0 GP T.clB hr (pv 0)) pa_nil))) rfl)
      (pss_cons (ps_expr (pe_m GT T.clB hr (pv 0) (pa_cons (pe_ix ix_list (pe_fld (pv 0) rfl) (pe_un un_neg pe_int) (fun _ _ => rfl)) pa_nil)))
      (pss_one (ps_fld (pv 0) (pe_slice sl_list (pe_fld (pv 0) rfl) po_none (po_some (pe_un un_neg pe_int))) rfl))), ?_⟩
    rw [hpast, List.reverse_cons] at a3
    obtain ⟨xs0, hx, px0, hz⟩ := a3
    obtain ⟨xs, v, rfl, px, t0, d0, l0, rfl, h0, b1, b2⟩ := paired_last px0
    obtain ⟨ys, hy, py, hzy⟩ := a4
    have ly := paired_len py
    rw [List.length_reverse] at ly
    refine ⟨_, rfl, B, CB, dx, _, _, rfl, hB, T.clB, T.nB _ (by decide +kernel), rfl, ?_⟩
    refine ⟨_, rfl, B, dx, _, rfl, hB, rfl, B, dx, _, _, _, _, _, _, rfl, hB, fun t ht => ?_⟩
    have s1 : Same H (upd H t (.tup [.ref pd, .ref pl])) := same_new ht
    refine ⟨(by show 1 ≤ sizeLine; decide), fun c hc => ?_⟩
    have s2 := s1.trans (same_new (o := .lst [.ref t]) hc)
    have t2 : (upd (upd H t (.tup [.ref pd, .ref pl])) c (.lst [.ref t])) t = some (.tup [.ref pd, .ref pl]) := same_new hc _ _ upd_same
    have c2 : (upd (upd H t (.tup [.ref pd, .ref pl])) c (.lst [.ref t])) c = some (.lst [.ref t]) := upd_same
    generalize upd (upd H t (.tup [.ref pd, .ref pl])) c (.lst [.ref t]) = H2 at s2 t2 c2 ⊢
    refine ⟨pf, c, ys, [.ref t], rfl, rfl, s2 _ _ hy, c2, (by rw [sizeLine_eq]; show ys.length + 1 ≤ _; omega), fun q' hq' => ?_⟩
    have s3 := s2.trans (same_new (o := .lst (ys ++ [.ref t])) hq')
    have t3 := same_new (o := .lst (ys ++ [.ref t])) hq' _ _ t2
    have q3 : (upd H2 q' (.lst (ys ++ [.ref t]))) q' = some (.lst (ys ++ [.ref t])) := upd_same
    generalize upd H2 q' (.lst (ys ++ [.ref t])) = H3 at s3 t3 q3 ⊢
    have B3 := s3 _ _ hB
    refine ⟨_, rfl, B, CB, dx, _, rfl, B3, T.clB, T.nB _ (by decide +kernel), (by show 6 < 1000; decide), ?_⟩
    have n1 : pb ≠ B := ne_of hx hB (by intro z; cases z)
    have n2 : t0 ≠ B := ne_of h0 hB (by intro z; cases z)
    refine ⟨_, rfl, B, dx, _, rfl, upd_same, rfl, ?_⟩
    refine ⟨_, rfl, B, CB, dx, _, _, rfl, upd_same, T.clB, T.nB _ (by decide +kernel), rfl, _, rfl, pb, _, (-1), _, rfl, rfl, SqL.of ((upd_ne n1).trans (s3 _ _ hx)), atI_last _ _, ?_⟩
    refine ⟨B, t0, dx, D.now.n, D.now.m, pd, pl, q', pb, d0, l0, rfl, upd_same, (upd_ne n2).trans (s3 _ _ h0), ?_⟩
    show _
    rw [upd_upd]
    refine ⟨_, rfl, B, CB, dx, _, _, rfl, upd_same, T.clB, T.nB _ (by decide +kernel), rfl, _, rfl, _, rfl, pb, _, rfl, SqL.of ((upd_ne n1).trans (s3 _ _ hx)), fun p' hp' => ?_⟩
    have np : B ≠ p' := fun z => by rw [← z, upd_same] at hp'; cases hp'
    refine ⟨_, rfl, B, CB, dx, _, rfl, (upd_ne np).trans upd_same, T.clB, T.nB _ (by decide +kernel), (by show 6 < 1000; decide), ?_⟩
    have s7 : SameBut B H3 (upd (upd (upd H3 B (.ins CB dx (bF D.now.n D.now.m d0 l0 q' pb))) p' (.lst (cutV (xs ++ [.ref t0]) none (some (-1))))) B (.ins CB dx (bF D.now.n D.now.m d0 l0 q' p'))) :=
      (but_upd.trans (but_same (same_new hp'))).trans but_upd
    have p7 : (upd (upd (upd H3 B (.ins CB dx (bF D.now.n D.now.m d0 l0 q' pb))) p' (.lst (cutV (xs ++ [.ref t0]) none (some (-1))))) B (.ins CB dx (bF D.now.n D.now.m d0 l0 q' p'))) p' = some (.lst (cutV (xs ++ [.ref t0]) none (some (-1)))) := by
      rw [upd_ne np.symm]; exact upd_same
    have b7 : (upd (upd (upd H3 B (.ins CB dx (bF D.now.n D.now.m d0 l0 q' pb))) p' (.lst (cutV (xs ++ [.ref t0]) none (some (-1))))) B (.ins CB dx (bF D.now.n D.now.m d0 l0 q' p'))) B = some (.ins CB dx (bF D.now.n D.now.m d0 l0 q' p')) := upd_same
    show Q V.non (upd (upd (upd H3 B (.ins CB dx (bF D.now.n D.now.m d0 l0 q' pb))) p' (.lst (cutV (xs ++ [.ref t0]) none (some (-1))))) B (.ins CB dx (bF D.now.n D.now.m d0 l0 q' p')))
    generalize upd (upd (upd H3 B (.ins CB dx (bF D.now.n D.now.m d0 l0 q' pb))) p' (.lst (cutV (xs ++ [.ref t0]) none (some (-1))))) B (.ins CB dx (bF D.now.n D.now.m d0 l0 q' p')) = H7 at s7 p7 b7 ⊢
    have sH : SameBut B H H7 := (but_same s3).trans s7
    rw [cut_init] at p7
    rw [List.length_append, List.length_singleton] at hz
    refine k _ sH ⟨dx, d0, l0, q', p', ?_, b1.but fmono_RD hB sH, b2.but fmono_RL hB sH, ?_, ⟨xs, p7, ?_, (by show r.reverse.length ≤ 1000; omega)⟩⟩
    · rw [b7, ← en, ← em]
    · refine LAt.butP B3 s7 ⟨_, q3, ?_, ?_⟩
      · show Paired (RP CD H3) _ (D.now :: D.past).reverse
        rw [List.reverse_cons]
        exact paired_app (paired_imp (fun _ _ r => mono_RP _ _ _ _ s3 r) py) (.cons ⟨t, pd, pl, rfl, t3, a1.same mono_RD s3, a2.same mono_RL s3⟩ .nil)
      · show (D.now :: D.past).reverse.length ≤ 1000
        rw [List.length_reverse, List.length_cons]
        omega
    · have : LAt (RP CD) H pb (r.reverse ++ [bk]) := ⟨_, hx, px0, by rw [List.length_append, List.length_singleton]; exact hz⟩
      obtain ⟨ws, hw, pw, _⟩ := LAt.butP hB sH this
      have ew : ws = xs ++ [.ref t0] := by
        have h1 := lst_but hB sH hx
        rw [hw] at h1
        exact (HO.lst.inj (Option.some.inj h1))
      subst ew
      obtain ⟨zs, z, e, pz, _⟩ := paired_last pw
      have := List.append_inj' e rfl
      rw [this.1]
      exact pz
end
end My
namespace My
open PySem PySem.Spec PyProof.Rows L2
open Km483 (Desk Duty Link Book least)
theorem filter_yes {α : Type} (l : List α) : (l.filter fun _ => true) = l := List.filter_eq_self.mpr fun _ _ => rfl
section
variable {P : Program} {w : World} {K : PySem.W.Frag} {mg : Str → Option Value} {base : Heap} {CD CB : Addr}
/-! ### standing_places -/
def standAt (ds : List Duty) (k : Nat) : Bool := match ds[k]? with
  | some d => standB ds d
  | none => false
theorem places_eq (b : Book) : (List.range b.duties.length).filter (standAt b.duties) = places b := by
  unfold places
  refine List.filter_congr fun k hk => ?_
  have hk := List.mem_range.mp hk
  unfold standAt
  rw [duty_at hk, stands_eq hk]
def spPlaces (CD : Addr) : Sp := fun vs H Q _ => ∃ (l : Addr) (ds : List Duty), vs = [.ref l] ∧ LAt (RD CD) H l ds ∧ ∀ H' r, Same H H' → H r = none → LAt RI H' r ((List.range ds.length).filter (standAt ds)) → Q (.ref r) H'
theorem ok_places (T : Txt K mg CD CB) (h : Has K mg "standing_places" s_standing_places ["duties"]) (G : Does P w K mg base 2 "stands" ["duty", "duties"] (spStands CD)) : Does P w K mg base 3 "standing_places" ["duties"] (spPlaces CD) := by
  refine h.does sc_standing_places (fun vs H Q E h => ?_) (fun f cdv A outer s H vs Q E hr h => ?_)
  · obtain ⟨_, _, rfl, _⟩ := h
    rfl
  · obtain ⟨l, ds, rfl, hl, k⟩ := h
    refine ⟨_, pss_one (ps_ret (pe_lc (own := [("place", 1), ("duty", 2)]) rfl sc_standing_places.nd (pi_enum (by rfl) (T.bn _ (by decide +kernel)) (pa_cons (pv 0) pa_nil)) (blkOk_by (by rfl))
      (fun _ _ _ _ _ => pgT K (n := 2) rfl (pgs_cons (pg_name (i := 1) sc_standing_places.nd rfl (Or.inl rfl)) (pgs_cons (pg_name (i := 2) sc_standing_places.nd rfl (Or.inl rfl)) pgs_nil)))
      (fun _ _ _ _ _ => pts_one (pt_val (pe_f G hr (ha := pa_cons (pv 2) (pa_cons (pv 0) pa_nil))))) (fun _ _ _ _ _ => pv 1))), ?_⟩
    obtain ⟨xs0, hx0, _⟩ := id hl
    refine ⟨_, rfl, l, xs0, rfl, SqL.of hx0, fun D hD => lcE_gen (S := RI) (vs := [1, 2]) mono_RD fmono_RI hl hD (standAt ds) (fun k => k) (fun k x d H' T N Y hd hx s hT hN hY => ?_) fun H' s hH => k _ _ s hD ?_⟩
    · refine ⟨T, _, rfl, SqT.of hT, rfl, _, _, rfl, _, _, rfl, rfl, rfl, ?_⟩
      have e1 : standAt ds k = standB ds d := by unfold standAt; rw [hd]
      refine ⟨_, rfl, _, rfl, x, l, d, ds, rfl, hx, hl.same mono_RD s, fun H4 s4 => ⟨_, rfl, bool_if _ (fun e => ?_) fun e => ?_⟩⟩
      · exact ⟨_, rfl, hY _ _ s4 (e1.trans e) rfl⟩
      · exact hN _ s4 (e1.trans e)
    · rw [List.map_id'] at hH
      exact hH
/-! ### conducts_that_may_be -/
def spConducts (CD CB : Addr) : Sp := fun vs H Q _ => ∃ (B : Addr) (D : Desk), vs = [.ref B] ∧ BookAt CD CB H B D ∧ BookOk D.now ∧ ∀ H' r, Same H H' → H r = none → LAt RI H' r D.now.conducts → Q (.ref r) H'
theorem ok_conducts (T : Txt K mg CD CB) (h : Has K mg "conducts_that_may_be" s_conducts_that_may_be ["book"]) (G : Does P w K mg base 2 "may_be" ["conduct", "links"] spMay) : Does P w K mg base 3 "conducts_that_may_be" ["book"] (spConducts CD CB) := by
  refine h.does sc_conducts_that_may_be (fun vs H Q E h => ?_) (fun f cdv A outer s H vs Q E hr h => ?_)
  · obtain ⟨_, _, rfl, _⟩ := h
    rfl
  · obtain ⟨B, D, rfl, ⟨dx, pd, pl, pb, pq, hB, a1, a2, a3, a4⟩, ok, k⟩ := h
    refine ⟨_, pss_one (ps_ret (pe_lc (own := [("conduct", 1)]) rfl sc_conducts_that_may_be.nd (pi_range1 (by rfl) (T.bn _ (by decide +kernel)) (pa_cons (pe_op op_shl pe_int (pe_fld (pv 0) rfl)) pa_nil)) (blkOk_by (by rfl))
      (fun _ _ _ _ _ => pg_name (i := 1) sc_conducts_that_may_be.nd rfl (Or.inl rfl)) (fun _ _ _ _ _ => pts_one (pt_val (pe_f G hr (ha := pa_cons (pv 1) (pa_cons (pf K (pv 0)) pa_nil))))) (fun _ _ _ _ _ => pv 1))), ?_⟩
    have n8 := ok.n8
    have h256 : 2 ^ D.now.n ≤ 256 := by have := Nat.pow_le_pow_right (n := 2) (by decide) n8; omega
    refine ⟨_, rfl, B, CB, dx, _, _, rfl, hB, T.clB, T.nB _ (by decide +kernel), rfl, _, _, rfl, rfl, ⟨by omega, by omega, by decide⟩, ((2 ^ D.now.n : Nat) : Int), ?_, ?_⟩
    · show [V.int (1 * 2 ^ ((D.now.n : Int)).toNat)] = _
      rw [Int.toNat_natCast, Int.one_mul, two_pow_cast]
    · have hn0 : (0 : Int) ≤ ((2 ^ D.now.n : Nat) : Int) := Int.natCast_nonneg _
      have hn1 : ((2 ^ D.now.n : Nat) : Int) ≤ 256 := by exact_mod_cast h256
      refine ⟨Int.le_trans (by decide) hn0, Int.lt_of_le_of_lt hn1 (by decide), ?_⟩
      rw [Int.toNat_natCast]
      refine fun Dd hD => lc_filterN (i := 1) (by omega) (by show 1 < 2; decide) hD (mayB D.now.links) (fun c H' S hc s h4 => ?_) fun H' s hH => k _ _ s hD hH
      exact ⟨_, rfl, _, rfl, B, CB, dx, _, _, rfl, s _ _ hB, T.clB, T.nB _ (by decide +kernel), rfl, c, pl, _, rfl, a2.same mono_RL s, _, rfl, h4 _ (Same.refl _)⟩
/-! ### weighed_conducts, least_broken, best_conducts -/
def spWeighed (CD CB : Addr) : Sp := fun vs H Q _ => ∃ (B : Addr) (D : Desk), vs = [.ref B] ∧ BookAt CD CB H B D ∧ BookOk D.now ∧ ∀ H' r, Same H H' → H r = none → LAt (RW D.now.breaks) H' r D.now.conducts → Q (.ref r) H'
theorem ok_weighed (T : Txt K mg CD CB) (h : Has K mg "weighed_conducts" s_weighed_conducts ["book"]) (GS : Does P w K mg base 3 "standing" ["duties"] (spStanding CD)) (GC : Does P w K mg base 3 "conducts_that_may_be" ["book"] (spConducts CD CB))
    (GB : Does P w K mg base 3 "broken_by" ["conduct", "duties"] (spBroken CD)) (GW : Does P w K mg base 1 "weight_of" ["duties"] (spWeight CD)) : Does P w K mg base 4 "weighed_conducts" ["book"] (spWeighed CD CB) := by
  refine h.does sc_weighed_conducts (fun vs H Q E h => ?_) (fun f cdv A outer s H vs Q E hr h => ?_)
  · obtain ⟨_, _, rfl, _⟩ := h
    rfl
  · obtain ⟨B, D, rfl, hBk, ok, k⟩ := h
    obtain ⟨dx, pd, pl, pb, pq, hB, a1, a2, a3, a4⟩ := id hBk
    refine ⟨_, pss_cons (ps_set (i := 1) sc_weighed_conducts.nd rfl (Or.inr rfl) (pe_f GS hr (ha := pa_cons (pe_fld (pv 0) rfl) pa_nil))) (pss_one (ps_ret (pe_lc (own := [("conduct", 2)]) rfl sc_weighed_conducts.nd (pi_list (pe_f GC hr (ha := pa_cons (pv 0) pa_nil))) (blkOk_by (by rfl))
      (fun _ _ _ _ _ => pg_name (i := 2) sc_weighed_conducts.nd rfl (Or.inl rfl)) (fun _ _ _ _ _ => pts_nil)
      (fun _ _ _ _ _ => pe_tup (pa_cons (pv 2) (pa_cons (pe_f GW hr (ha := pa_cons (pe_f GB hr (ha := pa_cons (pv 2) (pa_cons (pv 1) pa_nil))) pa_nil)) pa_nil)))))), ?_⟩
    refine ⟨_, rfl, B, CB, dx, _, _, rfl, hB, T.clB, T.nB _ (by decide +kernel), rfl, pd, _, rfl, a1, fun H1 p1 s1 n1 hp1 => ?_⟩
    refine ⟨_, rfl, B, D, rfl, hBk.same s1, ok, fun H2 r2 s2 n2 hr2 => ?_⟩
    refine ⟨r2, rfl, hr2.sq, fun Dd hD => lc_gen (S := RW D.now.breaks) (vs := [2]) mono_RI fmono_RW hr2 hD (fun _ => true) (fun c => c) (fun x c H' N Y hc hx s hN hY => ?_) fun H' s hH => k _ _ (s1.trans (s2.trans s)) ((s1.trans s2).free hD) ?_⟩
    · obtain rfl : x = V.int c := hx
      refine ⟨rfl, iteT (B := N H') ?_⟩
      refine ⟨_, rfl, _, rfl, _, rfl, c, p1, _, rfl, hp1.same mono_RD (s2.trans s), fun H5 p5 s5 n5 hp5 => ?_⟩
      refine ⟨p5, _, rfl, hp5, fun H6 s6 => ⟨(by show 2 ≤ sizeLine; decide), fun t ht => ?_⟩⟩
      rw [breaks_eq ok]
      exact hY _ _ (s5.trans (s6.trans (same_new ht))) rfl ⟨t, rfl, upd_same⟩
    · rw [List.map_id', filter_yes] at hH
      exact hH
def spLeast : Sp := fun vs H Q _ => ∃ (r : Addr) (g : Nat → Nat) (ds : List Nat), vs = [.ref r] ∧ LAt (RW g) H r ds ∧ ds ≠ [] ∧ ∀ H', Same H H' → Q (.int (least g ds)) H'
theorem ok_least (T : Txt K mg CD CB) (h : Has K mg "least_broken" s_least_broken ["weighed"]) : Does P w K mg base 1 "least_broken" ["weighed"] spLeast := by
  refine h.does sc_least_broken (fun vs H Q E h => ?_) (fun f cdv A outer s H vs Q E hr h => ?_)
  · obtain ⟨_, _, _, rfl, _⟩ := h
    rfl
  · obtain ⟨r, g, ds, rfl, hl, ne, k⟩ := h
    refine ⟨_, pss_one (ps_ret (pe_callB (cr_min rfl) (by rfl) (T.bn _ (by decide +kernel)) boot_min (pa_cons (pe_lc (own := [("conduct", 1), ("weight", 2)]) rfl sc_least_broken.nd (pi_list (pv 0)) (blkOk_by (by rfl))
      (fun _ _ _ _ _ => pgT K (n := 2) rfl (pgs_cons (pg_name (i := 1) sc_least_broken.nd rfl (Or.inl rfl)) (pgs_cons (pg_name (i := 2) sc_least_broken.nd rfl (Or.inl rfl)) pgs_nil)))
      (fun _ _ _ _ _ => pts_nil) (fun _ _ _ _ _ => pv 2)) pa_nil))), ?_⟩
    refine ⟨_, rfl, r, rfl, hl.sq, fun Dd hD => lc_gen (S := RZ) (vs := [1, 2]) fmono_RW.mono fmono_RZ hl hD (fun _ => true) (fun c => (g c : Int)) (fun x c H' N Y hc hx s hN hY => ?_) fun H' s hH => ?_⟩
    · obtain ⟨t, rfl, ht⟩ := hx
      exact ⟨t, _, rfl, SqT.of ht, rfl, _, _, rfl, _, _, rfl, rfl, rfl, iteT (B := N H') ⟨_, rfl, hY _ _ (Same.refl _) rfl rfl⟩⟩
    · rw [filter_yes] at hH
      refine ⟨Dd, _, rfl, hH.ints, ?_, fun m hm hle => ?_⟩
      · rw [List.length_map]
        exact List.length_pos_iff.mpr ne
      · rw [least_min hm hle]
        exact k _ s
def spBest (CD CB : Addr) : Sp := fun vs H Q _ => ∃ (B : Addr) (D : Desk), vs = [.ref B] ∧ BookAt CD CB H B D ∧ BookOk D.now ∧ ∀ H' r, Same H H' → H r = none → LAt RI H' r D.now.bests → Q (.ref r) H'
theorem ok_best (T : Txt K mg CD CB) (h : Has K mg "best_conducts" s_best_conducts ["book"]) (GW : Does P w K mg base 4 "weighed_conducts" ["book"] (spWeighed CD CB)) (GL : Does P w K mg base 1 "least_broken" ["weighed"] spLeast) :
    Does P w K mg base 5 "best_conducts" ["book"] (spBest CD CB) := by
  refine h.does sc_best_conducts (fun vs H Q E h => ?_) (fun f cdv A outer s H vs Q E hr h => ?_)
  · obtain ⟨_, _, rfl, _⟩ := h
    rfl
  · obtain ⟨B, D, rfl, hBk, ok, k⟩ := h
    refine ⟨_, pss_cons (ps_set (i := 1) sc_best_conducts.nd rfl (Or.inl rfl) (pe_f GW hr (ha := pa_cons (pv 0) pa_nil))) (pss_cons (ps_set (i := 2) sc_best_conducts.nd rfl (Or.inr rfl) (pe_f GL hr (ha := pa_cons (pv 1) pa_nil)))
      (pss_one (ps_ret (pe_lc (own := [("conduct", 3), ("weight", 4)]) rfl sc_best_conducts.nd (pi_list (pv 1)) (blkOk_by (by rfl))
      (fun _ _ _ _ _ => pgT K (n := 2) rfl (pgs_cons (pg_name (i := 3) sc_best_conducts.nd rfl (Or.inl rfl)) (pgs_cons (pg_name (i := 4) sc_best_conducts.nd rfl (Or.inl rfl)) pgs_nil)))
      (fun _ _ _ _ _ => pts_one (pt_cmpR op_eq (pv 4) (pv 2) (nomark _))) (fun _ _ _ _ _ => pv 3))))), ?_⟩
    refine ⟨_, rfl, B, D, rfl, hBk, ok, fun H1 p1 s1 n1 hp1 => ?_⟩
    refine ⟨_, rfl, p1, _, _, rfl, hp1, conducts_ne _, fun H2 s2 => ?_⟩
    have hp2 := hp1.same fmono_RW.mono s2
    refine ⟨_, rfl, p1, rfl, hp2.sq, fun Dd hD => lc_gen (S := RI) (vs := [3, 4]) fmono_RW.mono fmono_RI hp2 hD (fun c => D.now.breaks c == D.now.worth) (fun c => c) (fun x c H' N Y hc hx s hN hY => ?_) fun H' s hH => k _ _ (s1.trans (s2.trans s)) ((s1.trans s2).free hD) ?_⟩
    · obtain ⟨t, rfl, ht⟩ := hx
      refine ⟨t, _, rfl, SqT.of ht, rfl, _, _, rfl, _, _, rfl, rfl, rfl, ?_⟩
      refine ⟨_, rfl, _, rfl, rfl, _, rfl, ?_⟩
      have e1 : decide (V.int (D.now.breaks c : Int) = V.int (least D.now.breaks D.now.conducts : Int)) = (D.now.breaks c == D.now.worth) := dec_nat _ _
      rw [e1]
      exact bool_if _ (fun e => ⟨_, rfl, hY _ _ (Same.refl _) e rfl⟩) fun e => hN _ (Same.refl _) e
    · rw [List.map_id'] at hH
      exact hH
end
end My
namespace My
open PySem PySem.Spec PyProof.Rows L2
open Km483 (Desk Duty Link Book least)
/-! ### what a question leaves as it was -/
theorem BookAt.duty {CD CB B : Addr} {H : Hp} {D : Desk} {k : Nat} (h : BookAt CD CB H B D) (hk : k < D.now.duties.length) :
    ∃ dx pd pl pb pf xs x, H B = some (.ins CB dx (bF D.now.n D.now.m pd pl pb pf)) ∧ H pd = some (.lst xs) ∧ atI xs (k : Int) = some x ∧ RD CD H x (D.now.duty k) ∧ LAt (RD CD) H pd D.now.duties ∧ LAt RL H pl D.now.links := by
  obtain ⟨dx, pd, pl, pb, pq, hB, a1, a2, a3, a4⟩ := h
  obtain ⟨xs, x, e, hx, r⟩ := a1.at_ (duty_at hk)
  exact ⟨dx, pd, pl, pb, pq, xs, x, hB, e, hx, r, a1, a2⟩
section
variable {P : Program} {w : World} {K : PySem.W.Frag} {mg : Str → Option Value} {base : Heap} {CD CB : Addr}
/-- book.has_duty(k) -/
theorem ev_has_duty {σ : L2.St} {H : Hp} {B : Addr} {D : Desk} {i j k : Nat} (h : BookAt CD CB H B D) (hi : σ[i]? = some (some (.ref B))) (hj : σ[j]? = some (some (.int (k : Int)))) :
    Ev (tMeth CB "has_duty" (spHasDuty CB) [] E0 (tVar i) (tCons (tVar j) tNil)) σ H (.bl (decide (k < D.now.duties.length))) := fun Q q => by
  obtain ⟨dx, pd, pl, pb, pq, hB, a1, a2, a3, a4⟩ := h
  obtain ⟨xs, e, z⟩ := a1.len
  refine ⟨_, hi, B, dx, _, rfl, hB, rfl, _, hj, B, k, dx, _, _, _, _, _, _, xs, rfl, hB, e, ?_⟩
  rw [z]
  exact q
theorem ev_has_act {σ : L2.St} {H : Hp} {B : Addr} {D : Desk} {i j k : Nat} (h : BookAt CD CB H B D) (hi : σ[i]? = some (some (.ref B))) (hj : σ[j]? = some (some (.int (k : Int)))) :
    Ev (tMeth CB "has_act" (spHasAct CB) [] E0 (tVar i) (tCons (tVar j) tNil)) σ H (.bl (decide (k < D.now.n))) := fun Q q => by
  obtain ⟨dx, pd, pl, pb, pq, hB, _⟩ := h
  exact ⟨_, hi, B, dx, _, rfl, hB, rfl, _, hj, B, k, dx, _, _, _, _, _, _, rfl, hB, q⟩
theorem ev_has_state {σ : L2.St} {H : Hp} {B : Addr} {D : Desk} {i j k : Nat} (h : BookAt CD CB H B D) (hi : σ[i]? = some (some (.ref B))) (hj : σ[j]? = some (some (.int (k : Int)))) :
    Ev (tMeth CB "has_state" (spHasState CB) [] E0 (tVar i) (tCons (tVar j) tNil)) σ H (.bl (decide (k < D.now.m))) := fun Q q => by
  obtain ⟨dx, pd, pl, pb, pq, hB, _⟩ := h
  exact ⟨_, hi, B, dx, _, rfl, hB, rfl, _, hj, B, k, dx, _, _, _, _, _, _, rfl, hB, q⟩
theorem ev_is_set {σ : L2.St} {H : Hp} {B : Addr} {D : Desk} {i j k : Nat} (h : BookAt CD CB H B D) (hi : σ[i]? = some (some (.ref B))) (hj : σ[j]? = some (some (.int (k : Int)))) :
    Ev (tMeth CB "is_set" (spIsSet CB) [] E0 (tVar i) (tCons (tVar j) tNil)) σ H (.bl (decide (k < 2 ^ D.now.n))) := fun Q q => by
  obtain ⟨dx, pd, pl, pb, pq, hB, _⟩ := h
  exact ⟨_, hi, B, dx, _, rfl, hB, rfl, _, hj, B, k, dx, _, _, _, _, _, _, rfl, hB, q⟩
/-- book.duties[k] -/
theorem ev_duty (T : Txt K mg CD CB) {σ : L2.St} {H : Hp} {B dx pd pl pb pf : Addr} {n m i j k : Nat} {xs : List V} {x : V} (hB : H B = some (.ins CB dx (bF n m pd pl pb pf))) (hd : H pd = some (.lst xs)) (hx : atI xs (k : Int) = some x)
    (hi : σ[i]? = some (some (.ref B))) (hj : σ[j]? = some (some (.int (k : Int)))) : Ev (tOp (rIxL K) (tFld K (tVar i) "duties") (tVar j)) σ H x :=
  ev_ixL (ev_fld (ev_var hi) hB T.clB (T.nB _ (by decide +kernel)) rfl) (ev_var hj) (.of hd) hx
theorem ev_duties (T : Txt K mg CD CB) {σ : L2.St} {H : Hp} {B dx pd pl pb pf : Addr} {n m i : Nat} (hB : H B = some (.ins CB dx (bF n m pd pl pb pf))) (hi : σ[i]? = some (some (.ref B))) : Ev (tFld K (tVar i) "duties") σ H (.ref pd) :=
  ev_fld (ev_var hi) hB T.clB (T.nB _ (by decide +kernel)) rfl
theorem ev_links (T : Txt K mg CD CB) {σ : L2.St} {H : Hp} {B dx pd pl pb pf : Addr} {n m i : Nat} (hB : H B = some (.ins CB dx (bF n m pd pl pb pf))) (hi : σ[i]? = some (some (.ref B))) : Ev (tFld K (tVar i) "links") σ H (.ref pl) :=
  ev_fld (ev_var hi) hB T.clB (T.nB _ (by decide +kernel)) rfl
/-! ### refusal_of -/
def refuseI (b : Book) (k : Nat) : Int := if b.duties.length ≤ k then -2 else if b.stands k = false then -6 else 0
def spRefusal (CD CB : Addr) : Sp := fun vs H Q _ => ∃ (B : Addr) (D : Desk) (k : Nat), vs = [.ref B, .int k] ∧ BookAt CD CB H B D ∧ ∀ H', Same H H' → Q (.int (refuseI D.now k)) H'
theorem ok_refusal (T : Txt K mg CD CB) (h : Has K mg "refusal_of" s_refusal_of ["book", "k"]) (GH : DoesM P w K mg base CB 1 "has_duty" ["self", "place"] (spHasDuty CB)) (GS : Does P w K mg base 2 "stands" ["duty", "duties"] (spStands CD)) :
    Does P w K mg base 3 "refusal_of" ["book", "k"] (spRefusal CD CB) := by
  refine h.does sc_refusal_of (fun vs H Q E h => ?_) (fun f cdv A outer s H vs Q E hr h => ?_)
  · obtain ⟨_, _, _, rfl, _⟩ := h
    rfl
  · obtain ⟨B, D, k, rfl, hBk, q⟩ := h
    refine ⟨_, pss_cons (ps_if (pt_not (pt_val (pe_m GH T.clB hr (pv 0) (pa_cons (pv 1) pa_nil)))) (pss_one (ps_ret (pk (T.cs ("NONE_THERE", -2) (by decide +kernel))))) pss_nil)
      (pss_cons (ps_if (pt_not (pt_val (pe_f GS hr (ha := pa_cons (pe_ix ix_list (pe_fld (pv 0) rfl) (pv 1) (fun _ _ => rfl)) (pa_cons (pe_fld (pv 0) rfl) pa_nil))))) (pss_one (ps_ret (pk (T.cs ("NO_SUCH", -6) (by decide +kernel))))) pss_nil)
      (pss_one (ps_ret pe_int))), ?_⟩
    refine go_if (evt_not (evt_b (ev_has_duty (i := 0) (j := 1) (k := k) hBk rfl rfl))) (fun e => ?_) fun e => ?_
    · have hk : D.now.duties.length ≤ k := by
        have : ¬ k < D.now.duties.length := by simpa using e
        omega
      have e1 : refuseI D.now k = -2 := if_pos hk
      have := q H (Same.refl H)
      rw [e1] at this
      exact this
    · have hk : k < D.now.duties.length := by simpa using e
      obtain ⟨dx, pd, pl, pb, pq, xs, x, hB, hd, hx, r, a1, a2⟩ := hBk.duty hk
      refine ⟨_, rfl, _, CB, _, _, _, rfl, hB, T.clB, T.nB _ (by decide +kernel), rfl, _, rfl, _, _, _, _, rfl, rfl, SqL.of hd, hx, _, rfl, _, CB, _, _, _, rfl, hB, T.clB, T.nB _ (by decide +kernel), rfl, x, pd, _, _, rfl, r, a1, fun H1 s1 => ⟨_, rfl, bool_if _ (fun e => ?_) fun e => ?_⟩⟩
      · have e1 : refuseI D.now k = -6 := by
          unfold refuseI
          rw [if_neg (by omega), stands_eq hk, if_pos (by simpa using e)]
        have := q H1 s1
        rw [e1] at this
        exact this
      · have e1 : refuseI D.now k = 0 := by
          unfold refuseI
          rw [if_neg (by omega), stands_eq hk, if_neg (by simpa using e)]
        have := q H1 s1
        rw [e1] at this
        exact this
/-! ### cost_of, relief_of -/
def spCost (CD : Addr) : Sp := fun vs H Q _ => ∃ (x : V) (r : Addr) (d : Duty) (g : Nat → Nat) (ds : List Nat), vs = [x, .ref r] ∧ RD CD H x d ∧ LAt (RW g) H r ds ∧ (ds.filter fun c => keepB c d) ≠ [] ∧
  ∀ H', Same H H' → Q (.int ((least g (ds.filter fun c => keepB c d) : Int) - (least g ds : Int))) H'
theorem ok_cost (T : Txt K mg CD CB) (h : Has K mg "cost_of" s_cost_of ["duty", "weighed"]) (GK : Does P w K mg base 2 "keeps" ["conduct", "duty"] (spKeeps CD)) (GL : Does P w K mg base 1 "least_broken" ["weighed"] spLeast) :
    Does P w K mg base 3 "cost_of" ["duty", "weighed"] (spCost CD) := by
  refine h.does sc_cost_of (fun vs H Q E h => ?_) (fun f cdv A outer s H vs Q E hr h => ?_)
  · obtain ⟨_, _, _, _, _, rfl, _⟩ := h
    rfl
  · obtain ⟨x, r, d, g, ds, rfl, hx, hl, ne, k⟩ := h
    refine ⟨_, pss_cons (ps_setLc (i := 2) (own := [("conduct", 3), ("weight", 4)]) rfl sc_cost_of.nd rfl rfl (sw_true rfl rfl rfl (by decide +kernel)) (pi_list (pv 1)) (blkOk_by (by rfl))
      (fun _ _ _ _ _ => pgT K (n := 2) rfl (pgs_cons (pg_name (i := 3) sc_cost_of.nd rfl (Or.inl rfl)) (pgs_cons (pg_name (i := 4) sc_cost_of.nd rfl (Or.inl rfl)) pgs_nil)))
      (fun _ _ _ _ _ => pts_one (pt_val (pe_f GK hr (ha := pa_cons (pv 3) (pa_cons (pv 0) pa_nil))))) (fun _ _ _ _ _ => pv 4))
      (pss_one (ps_ret (pe_op op_sub (pe_callB (cr_min rfl) (by rfl) (T.bn _ (by decide +kernel)) boot_min (pa_cons (pv 2) pa_nil)) (pe_f GL hr (ha := pa_cons (pv 1) pa_nil))))), ?_⟩
    refine ⟨_, rfl, r, rfl, hl.sq, fun Dd hD => lc_gen (S := RZ) (vs := [3, 4]) fmono_RW.mono fmono_RZ hl hD (fun c => keepB c d) (fun c => (g c : Int)) (fun y c H' N Y hc hy s hN hY => ?_) fun H' s hH => ?_⟩
    · obtain ⟨t, rfl, ht⟩ := hy
      refine ⟨t, _, rfl, SqT.of ht, rfl, _, _, rfl, _, _, rfl, rfl, rfl, ?_⟩
      refine ⟨_, rfl, _, rfl, c, x, d, rfl, mono_RD _ _ _ _ s hx, _, rfl, ?_⟩
      exact bool_if _ (fun e => ⟨_, rfl, hY _ _ (Same.refl _) e rfl⟩) fun e => hN _ (Same.refl _) e
    · refine ⟨_, rfl, Dd, _, rfl, hH.ints, ?_, fun m hm hle => ?_⟩
      · rw [List.length_map]
        exact List.length_pos_iff.mpr ne
      · refine ⟨_, rfl, r, g, ds, rfl, hl.same fmono_RW.mono s, fun z => ne (by rw [z]; rfl), fun H2 s2 => ⟨_, _, rfl, rfl, ?_⟩⟩
        rw [least_min hm hle]
        exact k _ (s.trans s2)
def waiveI (g : Nat → Nat) (d : Duty) (c : Nat) : Int := if keepB c d = true then (g c : Int) else (g c : Int) - (d.weight : Int)
def spRelief (CD : Addr) : Sp := fun vs H Q _ => ∃ (x : V) (r : Addr) (d : Duty) (g : Nat → Nat) (ds : List Nat), vs = [x, .ref r] ∧ RD CD H x d ∧ LAt (RW g) H r ds ∧ ds ≠ [] ∧
  ∀ H' m, Same H H' → m ∈ ds.map (waiveI g d) → (∀ y, y ∈ ds.map (waiveI g d) → m ≤ y) → Q (.int ((least g ds : Int) - m)) H'
theorem ok_relief (T : Txt K mg CD CB) (h : Has K mg "relief_of" s_relief_of ["duty", "weighed"]) (GK : Does P w K mg base 2 "keeps" ["conduct", "duty"] (spKeeps CD)) (GL : Does P w K mg base 1 "least_broken" ["weighed"] spLeast) :
    Does P w K mg base 3 "relief_of" ["duty", "weighed"] (spRelief CD) := by
  refine h.does sc_relief_of (fun vs H Q E h => ?_) (fun f cdv A outer s H vs Q E hr h => ?_)
  · obtain ⟨_, _, _, _, _, rfl, _⟩ := h
    rfl
  · obtain ⟨x, r, d, g, ds, rfl, hx, hl, ne, k⟩ := h
    refine ⟨_, pss_cons (ps_setLc (i := 2) (own := [("conduct", 3), ("weight", 4)]) rfl sc_relief_of.nd rfl rfl (sw_true rfl rfl rfl (by decide +kernel)) (pi_list (pv 1)) (blkOk_by (by rfl))
      (fun _ _ _ _ _ => pgT K (n := 2) rfl (pgs_cons (pg_name (i := 3) sc_relief_of.nd rfl (Or.inl rfl)) (pgs_cons (pg_name (i := 4) sc_relief_of.nd rfl (Or.inl rfl)) pgs_nil)))
      (fun _ _ _ _ _ => pts_nil) (fun _ _ _ _ _ => pe_ifExp (pt_val (pe_f GK hr (ha := pa_cons (pv 3) (pa_cons (pv 0) pa_nil)))) (pv 4) (pe_op op_sub (pv 4) (pf K (pv 0)))))
      (pss_one (ps_ret (pe_op op_sub (pe_f GL hr (ha := pa_cons (pv 1) pa_nil)) (pe_callB (cr_min rfl) (by rfl) (T.bn _ (by decide +kernel)) boot_min (pa_cons (pv 2) pa_nil))))), ?_⟩
    refine ⟨_, rfl, r, rfl, hl.sq, fun Dd hD => lc_gen (S := RZ) (vs := [3, 4]) fmono_RW.mono fmono_RZ hl hD (fun _ => true) (waiveI g d) (fun y c H' N Y hc hy s hN hY => ?_) fun H' s hH => ?_⟩
    · obtain ⟨t, rfl, ht⟩ := hy
      refine ⟨t, _, rfl, SqT.of ht, rfl, _, _, rfl, _, _, rfl, rfl, rfl, iteT (B := N H') ?_⟩
      refine ⟨_, rfl, _, rfl, c, x, d, rfl, mono_RD _ _ _ _ s hx, _, rfl, ?_⟩
      obtain ⟨a, dx, rfl, ha⟩ := hx
      refine bool_if _ (fun e => ⟨_, rfl, hY _ _ (Same.refl _) rfl ?_⟩) fun e => ?_
      · show V.int _ = V.int _
        unfold waiveI
        rw [if_pos e]
      · refine ⟨_, rfl, _, rfl, a, CD, dx, _, _, rfl, s _ _ ha, T.clD, T.nD _ (by decide +kernel), rfl, _, _, rfl, rfl, hY _ _ (Same.refl _) rfl ?_⟩
        show V.int _ = V.int _
        unfold waiveI
        rw [if_neg (by rw [e]; simp)]
    · rw [filter_yes] at hH
      refine ⟨_, rfl, r, g, ds, rfl, hl.same fmono_RW.mono s, ne, fun H2 s2 => ?_⟩
      refine ⟨_, rfl, Dd, _, rfl, (hH.same fmono_RZ.mono s2).ints, ?_, fun m hm hle => ⟨_, _, rfl, rfl, ?_⟩⟩
      · rw [List.length_map]
        exact List.length_pos_iff.mpr ne
      · exact k _ m (s.trans s2) hm hle
/-! ### least_with, clash -/
theorem bit_or (a b : Nat) : Builtin.bitOr (a : Int) (b : Int) = ((a ||| b : Nat) : Int) := by
  rw [Bits.bitOr_pp (by omega) (by omega), Int.toNat_natCast, Int.toNat_natCast]
def lwM (n : Nat) (σ : L2.St) : Nat := match σ with
  | [_, _, some (.int c), _] => 2 ^ n - c.toNat
  | _ => 0
def spLW : Sp := fun vs H Q _ => ∃ (a n : Nat) (l : Addr) (ls : List Link), vs = [.int a, .ref l] ∧ LAt RL H l ls ∧ a < n ∧ n ≤ 8 ∧ (∀ x ∈ ls, x.a < n ∧ x.b < n) ∧ ∀ c, LeastWith ls n a c → Q (.int c) H
theorem ok_lw (T : Txt K mg CD CB) (h : Has K mg "least_with" s_least_with ["act", "links"]) (GM : Does P w K mg base 2 "may_be" ["conduct", "links"] spMay) (GD : Does P w K mg base 1 "does" ["conduct", "act"] spDoes) :
    Does P w K mg base 3 "least_with" ["act", "links"] spLW := by
  refine h.does sc_least_with (fun vs H Q E h => ?_) (fun f cdv A outer s H vs Q E hr h => ?_)
  · obtain ⟨_, _, _, _, rfl, _⟩ := h
    rfl
  · obtain ⟨a, n, l, ls, rfl, hl, han, hn8, hls, k⟩ := h
    refine ⟨_, pss_cons (ps_set (i := 2) sc_least_with.nd rfl (Or.inl rfl) (pe_op op_shl pe_int (pv 0)))
      (pss_cons (ps_while PassesOwn.never (pt_not (pt_val (pe_f GM hr (ha := pa_cons (pv 2) (pa_cons (pv 1) pa_nil)))))
        (pss_one (ps_for PassesOwn.never rfl (pi_list (pv 1)) (pg_name (i := 3) sc_least_with.nd rfl (Or.inl rfl))
          (pss_one (ps_if (pt_truth (pe_f GD hr (ha := pa_cons (pv 2) (pa_cons (pe_ix ix_tup (pv 3) pe_int (fun _ _ => rfl)) pa_nil))) (fun _ => rfl))
            (pss_one (ps_set (i := 2) sc_least_with.nd rfl (Or.inl rfl) (pe_op op_or (pv 2) (pe_op op_shl pe_int (pe_ix ix_tup (pv 3) pe_int (fun _ _ => rfl)))))) pss_nil)))))
      (pss_one (ps_ret (pv 2)))), ?_⟩
    refine ⟨_, rfl, _, _, rfl, rfl, ⟨by omega, by omega, by decide⟩, ?_⟩
    refine while_by (fun σ H' => H' = H ∧ ∃ (c : Nat) (v : Option V), σ = [some (.int a), some (.ref l), some (.int c), v] ∧ LwInv ls n a c) (fun σ _ => lwM n σ) ⟨rfl, 2 ^ a, none, ?_, lw_start han⟩ ?_ ?_
    · show [_, _, some (V.int (1 * 2 ^ ((a : Int)).toNat)), _] = [_, _, some (V.int ((2 ^ a : Nat) : Int)), _]
      rw [Int.toNat_natCast, Int.one_mul, two_pow_cast]
    · rintro σ H' ⟨rfl, c, v, rfl, I⟩
      refine ⟨_, rfl, _, rfl, c, l, ls, rfl, hl, _, rfl, ?_⟩
      refine bool_if _ (fun e => ?_) fun e => ?_
      · have hm : mayB ls c = false := by simpa using e
        obtain ⟨xs, hx, hp, hz⟩ := id hl
        have e1 := paired_len hp
        refine ⟨_, rfl, l, rfl, ⟨xs, SqL.of hx⟩, for_list (K := K) (a := l) (xs := xs) (fun i σ H2 => H2 = H' ∧ ∃ (v : Option V), σ = [some (.int a), some (.ref l), some (.int ((ls.take i).foldl lwStep c : Nat)), v] ∧ LwInv ls n a ((ls.take i).foldl lwStep c)) ⟨rfl, v, rfl, I⟩ (fun i σ H2 _ p => p.1 ▸ SqL.of hx) ?_ ?_⟩
        · rintro i x σ _ hi ⟨rfl, v, rfl, I2⟩
          obtain ⟨d, hd, t, rfl, ht⟩ := paired_get hp hi
          have hmem := List.mem_of_getElem? hd
          have st : (ls.take (i + 1)).foldl lwStep c = lwStep ((ls.take i).foldl lwStep c) d := by rw [take_snoc hd, List.foldl_append]; rfl
          have I3 := lw_turn I2 hmem (hls d hmem).2
          rw [← st] at I3
          refine ⟨_, rfl, _, rfl, t, _, 0, _, rfl, rfl, SqT.of ht, rfl, _, d.a, rfl, _, rfl, ?_⟩
          refine bool_if _ (fun e => ?_) fun e => ?_
          · have eb : ((ls.take i).foldl lwStep c).testBit d.a = true := by
              unfold bitI at e
              cases z : ((ls.take i).foldl lwStep c).testBit d.a with
              | true => rfl
              | false => rw [z] at e; exact absurd e (by decide)
            have hb := (hls d hmem).2
            refine ⟨_, rfl, _, rfl, t, _, 1, _, rfl, rfl, SqT.of ht, rfl, _, _, rfl, rfl, ⟨by omega, by omega, by decide⟩, _, _, rfl, rfl, rfl, some (.ref t), ?_, I3⟩
            have e3 : lwStep ((ls.take i).foldl lwStep c) d = (ls.take i).foldl lwStep c ||| 2 ^ d.b := if_pos eb
            rw [st, e3, ← bit_or]
            show [_, _, some (V.int (Builtin.bitOr _ (1 * 2 ^ ((d.b : Int)).toNat))), _] = _
            rw [Int.toNat_natCast, Int.one_mul, two_pow_cast]
          · have eb : ¬ ((ls.take i).foldl lwStep c).testBit d.a = true := fun z => by
              unfold bitI at e
              rw [z] at e
              exact absurd e (by decide)
            refine ⟨rfl, some (.ref t), ?_, I3⟩
            have e3 : lwStep ((ls.take i).foldl lwStep c) d = (ls.take i).foldl lwStep c := if_neg eb
            rw [st, e3]
            rfl
        · rintro σ _ ⟨rfl, v2, rfl, I2⟩
          rw [e1, List.take_length] at I2 ⊢
          refine ⟨⟨rfl, _, v2, rfl, I2⟩, ?_⟩
          have h1 := lw_more hm
          have h2 := I2.lt
          show 2 ^ n - ((ls.foldl lwStep c : Nat) : Int).toNat < 2 ^ n - ((c : Nat) : Int).toNat
          rw [Int.toNat_natCast, Int.toNat_natCast]
          omega
      · have hm : mayB ls c = true := by simpa using e
        exact ⟨_, rfl, k c (lw_done I hm)⟩
    · rintro σ H' Q1 Q2 mono ⟨v1, e1, v2, e2, c, l, ls, ev, hl, b, eb, q⟩
      exact ⟨v1, e1, v2, e2, c, l, ls, ev, hl, b, eb, mono _ _ q⟩
def spClash (CD : Addr) : Sp := fun vs H Q _ => ∃ (x y : V) (l : Addr) (b : Book) (d e : Duty), vs = [x, y, .ref l] ∧ RD CD H x d ∧ RD CD H y e ∧ LAt RL H l b.links ∧ BookOk b ∧ d ∈ b.duties ∧ e ∈ b.duties ∧ Q (.bl (b.clash d e)) H
theorem ok_clash (T : Txt K mg CD CB) (h : Has K mg "clash" s_clash ["one", "other", "links"]) (GL : Does P w K mg base 3 "least_with" ["act", "links"] spLW) (GD : Does P w K mg base 1 "does" ["conduct", "act"] spDoes) :
    Does P w K mg base 4 "clash" ["one", "other", "links"] (spClash CD) := by
  refine h.does sc_clash (fun vs H Q E h => ?_) (fun f cdv A outer s H vs Q E hr h => ?_)
  · obtain ⟨_, _, _, _, _, _, rfl, _⟩ := h
    rfl
  · obtain ⟨_, _, l, b, d, e, rfl, ⟨p, dx, rfl, hp⟩, ⟨q, dy, rfl, hq⟩, hl, ok, hd, he, k⟩ := h
    refine ⟨_, pss_cons (ps_if (pt_cmpR op_eq (pe_fld (pv 0) rfl) (pe_fld (pv 1) rfl) (nomark _)) (pss_one (ps_ret pe_bl)) pss_nil)
      (pss_cons (ps_set (i := 3) sc_clash.nd rfl (Or.inl rfl) (pe_ifExp (pt_cmpR op_eq (pe_fld (pv 0) rfl) pe_int (nomark _)) (pe_fld (pv 0) rfl) (pe_fld (pv 1) rfl)))
      (pss_cons (ps_set (i := 4) sc_clash.nd rfl (Or.inl rfl) (pe_ifExp (pt_cmpR op_eq (pe_fld (pv 0) rfl) pe_int (nomark _)) (pe_fld (pv 1) rfl) (pe_fld (pv 0) rfl)))
      (pss_one (ps_ret (pe_cmpR op_eq (pe_f GD hr (ha := pa_cons (pe_f GL hr (ha := pa_cons (pv 3) (pa_cons (pv 2) pa_nil))) (pa_cons (pv 4) pa_nil))) pe_int (nomark _)))))), ?_⟩
    have f0 : ∀ (σ : L2.St), σ[0]? = some (some (.ref p)) → ∀ (x : Str) (v : V), x ∈ (["debtor", "creditor", "act", "owed", "weight", "day"] : List Str) → (dF d).lookup x = some v → Ev (tFld K (tVar 0) x) σ H v := fun σ h0 x v hx hv => ev_fld (ev_var h0) hp T.clD (T.nD _ hx) hv
    have f1 : ∀ (σ : L2.St), σ[1]? = some (some (.ref q)) → ∀ (x : Str) (v : V), x ∈ (["debtor", "creditor", "act", "owed", "weight", "day"] : List Str) → (dF e).lookup x = some v → Ev (tFld K (tVar 1) x) σ H v := fun σ h0 x v hx hv => ev_fld (ev_var h0) hq T.clD (T.nD _ hx) hv
    have h1 := (ok.dr d hd).2
    have h2 := (ok.dr e he).2
    refine go_if (evt_test (ev_eq (f0 _ rfl _ _ (by decide +kernel) rfl) (f1 _ rfl _ _ (by decide +kernel) rfl) rfl)) (fun z => ?_) fun z => ?_
    · rw [dec_nat] at z
      rw [clash_like ok hd he (eq_of_beq z)] at k
      exact k
    · rw [dec_nat] at z
      have hne : ¬ d.done = e.done := fun w => by rw [w] at z; simp at z
      have dn : decide (V.int (d.done : Int) = V.int 1) = decide (d.done = 1) := by
        rw [My.dec_int]
        by_cases w : d.done = 1
        · rw [decide_eq_true w, decide_eq_true (by omega)]
        · rw [decide_eq_false w, decide_eq_false (by omega)]
      refine go_set (ev_if (evt_test (ev_eq (f0 _ rfl _ _ (by decide +kernel) rfl) ev_c rfl)) (fun _ => f0 _ rfl _ _ (by decide +kernel) rfl) (fun _ => f1 _ rfl _ _ (by decide +kernel) rfl)) ?_
      refine go_set (ev_if (evt_test (ev_eq (f0 _ rfl _ _ (by decide +kernel) rfl) ev_c rfl)) (fun _ => f1 _ rfl _ _ (by decide +kernel) rfl) (fun _ => f0 _ rfl _ _ (by decide +kernel) rfl)) ?_
      rw [dn]
      have g1 : (if decide (d.done = 1) = true then V.int (d.a : Int) else V.int (e.a : Int)) = V.int ((if d.done = 1 then d.a else e.a : Nat) : Int) := by
        by_cases w : d.done = 1 <;> simp [w]
      have g2 : (if decide (d.done = 1) = true then V.int (e.a : Int) else V.int (d.a : Int)) = V.int ((if d.done = 1 then e.a else d.a : Nat) : Int) := by
        by_cases w : d.done = 1 <;> simp [w]
      rw [g1, g2]
      have ha : (if d.done = 1 then d.a else e.a) < b.n := by
        split
        · exact (ok.dr d hd).1
        · exact (ok.dr e he).1
      refine ⟨_, rfl, _, rfl, _, b.n, l, b.links, rfl, hl, ha, ok.n8, ok.lr, fun c L => ?_⟩
      refine ⟨_, rfl, c, _, rfl, rfl, ?_⟩
      rw [clash_eq ok hd he hne L] at k
      have e3 : decide (V.int (bitI c (if d.done = 1 then e.a else d.a)) = V.int 1) = c.testBit (if d.done = 1 then e.a else d.a) := by
        rw [My.dec_int]
        unfold bitI
        cases c.testBit (if d.done = 1 then e.a else d.a) <;> rfl
      rw [e3]
      exact k
end
end My
namespace My
open PySem PySem.Spec PyProof.Rows L2
open Km483 (Desk Duty Link Book least)
theorem flat_len {α β : Type} (F : α → List β) (c : Nat) : ∀ l : List α, (∀ x ∈ l, (F x).length ≤ c) → (l.flatMap F).length ≤ l.length * c
  | [], _ => by simp
  | a :: l, h => by
    have h1 := flat_len F c l fun x hx => h x (List.mem_cons_of_mem _ hx)
    have h2 := h a List.mem_cons_self
    rw [List.flatMap_cons, List.length_append, List.length_cons, Nat.add_mul]
    omega
def pairF (b : Book) (k : Nat) : List (Nat × Nat) := (((places b).filter fun l => decide (k < l)).filter fun l => b.clash (b.duty k) (b.duty l)).map fun l => (k, l)
theorem places_len {b : Book} (h : BookOk b) : (places b).length ≤ 16 := by
  have := h.dl
  refine Nat.le_trans (List.length_filter_le _ _) ?_
  rw [List.length_range]
  exact this
theorem pairF_len {b : Book} (h : BookOk b) (k : Nat) : (pairF b k).length ≤ 16 := by
  unfold pairF
  rw [List.length_map]
  exact Nat.le_trans (List.length_filter_le _ _) (Nat.le_trans (List.length_filter_le _ _) (places_len h))
theorem flat_take_len {b : Book} (h : BookOk b) (i : Nat) : (((places b).take i).flatMap (pairF b)).length ≤ 256 := by
  have h1 := flat_len (pairF b) 16 ((places b).take i) fun x _ => pairF_len h x
  have h2 : ((places b).take i).length ≤ 16 := by
    have := places_len h
    rw [List.length_take]
    omega
  have h3 : ((places b).take i).length * 16 ≤ 16 * 16 := Nat.mul_le_mul_right 16 h2
  omega
section
variable {P : Program} {w : World} {K : PySem.W.Frag} {mg : Str → Option Value} {base : Heap} {CD CB : Addr}
/-- a list that grows by a new pair -/
theorem lat_snoc {H1 H : Hp} {R t : Addr} {acc : List (Nat × Nat)} {xs : List V} {a b : Nat} (hR1 : H1 R = none) (s : Same H1 H) (hR : H R = some (.lst xs)) (hp : Paired (RPr H) xs acc) (ht : H t = none) (z : acc.length + 1 ≤ 1000) :
    Same H1 (upd (upd H t (.tup [.int a, .int b])) R (.lst (xs ++ [.ref t]))) ∧ LAt RPr (upd (upd H t (.tup [.int a, .int b])) R (.lst (xs ++ [.ref t]))) R (acc ++ [(a, b)])
      ∧ ∀ p ys, p ≠ R → H p = some (.lst ys) → (upd (upd H t (.tup [.int a, .int b])) R (.lst (xs ++ [.ref t]))) p = some (.lst ys) := by
  have s1 : Same H (upd H t (.tup [.int a, .int b])) := same_new ht
  have hR2 := s1 _ _ hR
  refine ⟨fun p o e => ?_, ⟨_, upd_same, ?_, by rw [List.length_append, List.length_singleton]; exact z⟩, fun p ys n e => ?_⟩
  · rw [upd_ne (ne_of_none e hR1)]
    exact s1 _ _ (s _ _ e)
  · refine paired_app (paired_imp (fun _ _ r => fmono_RPr _ _ _ _ (fsame_lst hR2) (fmono_RPr.mono _ _ _ _ s1 r)) hp) (.cons ⟨t, rfl, ?_⟩ .nil)
    exact fsame_lst hR2 _ _ (.inl ⟨_, rfl⟩) upd_same
  · rw [upd_ne n]
    exact s1 _ _ e
def spPairs (CD CB : Addr) : Sp := fun vs H Q _ => ∃ (B : Addr) (D : Desk), vs = [.ref B] ∧ BookAt CD CB H B D ∧ BookOk D.now ∧ ∀ H' r, Same H H' → H r = none → LAt RPr H' r D.now.pairs → Q (.ref r) H'
theorem ok_pairs (T : Txt K mg CD CB) (h : Has K mg "clashing_pairs" s_clashing_pairs ["book"]) (GP : Does P w K mg base 3 "standing_places" ["duties"] (spPlaces CD)) (GC : Does P w K mg base 4 "clash" ["one", "other", "links"] (spClash CD)) :
    Does P w K mg base 5 "clashing_pairs" ["book"] (spPairs CD CB) := by
  refine h.does sc_clashing_pairs (fun vs H Q E h => ?_) (fun f cdv A outer s H vs Q E hr h => ?_)
  · obtain ⟨_, _, rfl, _⟩ := h
    rfl
  · obtain ⟨B, D, rfl, hBk, ok, k⟩ := h
    obtain ⟨dx, pd, pl, pb, pq, hB, a1, a2, a3, a4⟩ := id hBk
    refine ⟨_, pss_cons (ps_set (i := 1) sc_clashing_pairs.nd rfl (Or.inl rfl) (pe_f GP hr (ha := pa_cons (pe_fld (pv 0) rfl) pa_nil)))
      (pss_cons (ps_set (i := 2) sc_clashing_pairs.nd rfl (Or.inl rfl) (pe_lst pa_nil))
      (pss_cons (ps_for PassesOwn.never rfl (pi_list (pv 1)) (pg_name (i := 3) sc_clashing_pairs.nd rfl (Or.inr rfl))
        (pss_cons (ps_setLc (i := 4) (own := [("other", 5)]) rfl sc_clashing_pairs.nd rfl rfl (sw_true rfl rfl rfl (by decide +kernel)) (pi_list (pv 1)) (blkOk_by (by rfl))
          (fun _ _ _ _ _ => pg_name (i := 5) sc_clashing_pairs.nd rfl (Or.inl rfl)) (fun _ _ _ _ _ => pts_one (pt_cmpR op_gt (pv 5) (pv 3) (nomark _))) (fun _ _ _ _ _ => pv 5))
        (pss_one (ps_for PassesOwn.never rfl (pi_list (pv 4)) (pg_name (i := 5) sc_clashing_pairs.nd rfl (Or.inl rfl))
          (pss_one (ps_if (pt_val (pe_f GC hr (ha := pa_cons (pe_ix ix_list (pe_fld (pv 0) rfl) (pv 3) (fun _ _ => rfl)) (pa_cons (pe_ix ix_list (pe_fld (pv 0) rfl) (pv 5) (fun _ _ => rfl)) (pa_cons (pe_fld (pv 0) rfl) pa_nil)))))
            (pss_one (ps_expr (pe_bm PySem.F.plainAttrs_list PySem.F.slot_list_append PySem.F.type_list_append mt_append (pv 2) (pa_cons (pe_tup (pa_cons (pv 3) (pa_cons (pv 5) pa_nil))) pa_nil)))) pss_nil))))))
      (pss_one (ps_ret (pv 2))))), ?_⟩
    refine ⟨_, rfl, _, CB, _, _, _, rfl, hB, T.clB, T.nB _ (by decide +kernel), rfl, pd, _, rfl, a1, fun H1 pP s1 nP hP => ?_⟩
    rw [places_eq] at hP
    refine ⟨(by show 0 ≤ sizeLine; decide), fun R hR => ?_⟩
    have hPx := hP.nats
    have pl16 := places_len ok
    have hPu := same_new (o := .lst []) hR _ _ hPx
    refine ⟨_, rfl, pP, rfl, ⟨_, SqL.of hPu⟩, for_list (K := K) (a := pP) (xs := (places D.now).map fun n : Nat => V.int (n : Int))
      (fun i σ H' => Same H1 H' ∧ (∃ v3 v4 v5, σ = [some (.ref B), some (.ref pP), some (.ref R), v3, v4, v5]) ∧ LAt RPr H' R (((places D.now).take i).flatMap (pairF D.now)))
      ⟨same_new hR, ⟨none, none, none, rfl⟩, lat_nil upd_same⟩ (fun i σ H' _ p => SqL.of (p.1 _ _ hPx)) ?_ ?_⟩
    · rintro i x σ H2 hi ⟨s2, ⟨v3, v4, v5, rfl⟩, hacc⟩
      obtain ⟨kk, hkk, rfl⟩ : ∃ kk, (places D.now)[i]? = some kk ∧ x = V.int (kk : Int) := by
        rw [List.getElem?_map] at hi
        cases e : (places D.now)[i]? with
        | none => rw [e] at hi; cases hi
        | some c => rw [e] at hi; exact ⟨c, rfl, (Option.some.inj hi).symm⟩
      have hk1 := stands_lt (mem_places.mp (List.mem_of_getElem? hkk))
      have hP2 := hP.same mono_RI s2
      -- behind
      refine ⟨_, rfl, pP, rfl, hP2.sq, fun Dd hD => lc_gen (S := RI) (vs := [5]) mono_RI fmono_RI hP2 hD (fun o => decide (kk < o)) (fun o => o) (fun y o H' N Y ho hy s hN hY => ?_) fun H3 s3 hH => ?_⟩
      · obtain rfl : y = V.int o := hy
        refine ⟨rfl, _, rfl, _, rfl, _, _, rfl, rfl, _, rfl, ?_⟩
        rw [dec_lt]
        exact bool_if _ (fun e => ⟨_, rfl, hY _ _ (Same.refl _) e rfl⟩) fun e => hN _ (Same.refl _) e
      · rw [List.map_id'] at hH
        obtain ⟨xs0, hR0, hp0, hz0⟩ := hacc
        have nDR : Dd ≠ R := fun z => by rw [z, hR0] at hD; cases hD
        have hDx := hH.nats
        have hR3 := s3 _ _ hR0
        have fl := flat_take_len ok i
        refine ⟨_, rfl, Dd, rfl, ⟨_, SqL.of hDx⟩, for_list (K := K) (a := Dd) (xs := ((places D.now).filter fun o => decide (kk < o)).map fun n : Nat => V.int (n : Int))
          (fun j σ H' => Same H1 H' ∧ (∃ v5, σ = [some (.ref B), some (.ref pP), some (.ref R), some (.int kk), some (.ref Dd), v5]) ∧ H' Dd = some (.lst (((places D.now).filter fun o => decide (kk < o)).map fun n : Nat => V.int (n : Int))) ∧
            LAt RPr H' R (((places D.now).take i).flatMap (pairF D.now) ++ ((((places D.now).filter fun o => decide (kk < o)).take j).filter fun o => D.now.clash (D.now.duty kk) (D.now.duty o)).map fun o => (kk, o)))
          ⟨s2.trans s3, ⟨_, rfl⟩, hDx, ?_⟩ (fun j σ H' _ p => SqL.of p.2.2.1) ?_ ?_⟩
        · rw [List.take_zero, List.filter_nil, List.map_nil, List.append_nil]
          exact ⟨xs0, hR3, paired_imp (fun _ _ r => fmono_RPr.mono _ _ _ _ s3 r) hp0, hz0⟩
        · rintro j x σ H4 hj ⟨s4, ⟨v5, rfl⟩, hD4, hacc4⟩
          obtain ⟨o, ho, rfl⟩ : ∃ o, ((places D.now).filter fun o => decide (kk < o))[j]? = some o ∧ x = V.int (o : Int) := by
            rw [List.getElem?_map] at hj
            cases e : ((places D.now).filter fun o => decide (kk < o))[j]? with
            | none => rw [e] at hj; cases hj
            | some c => rw [e] at hj; exact ⟨c, rfl, (Option.some.inj hj).symm⟩
          have ho1 := stands_lt (mem_places.mp (List.mem_filter.mp (List.mem_of_getElem? ho)).1)
          have hB4 := hBk.same (s1.trans s4)
          obtain ⟨dx1, pd1, pl1, pb1, pf1, xs1, x1, b1, b2, b3, b4, b5, b6⟩ := hB4.duty hk1
          obtain ⟨x2, c3, c4⟩ : ∃ x2, atI xs1 (o : Int) = some x2 ∧ RD CD H4 x2 (D.now.duty o) := by
            obtain ⟨ys, y, e1, e2, e3⟩ := b5.at_ (duty_at ho1)
            rw [b2] at e1
            cases e1
            exact ⟨y, e2, e3⟩
          refine ⟨_, rfl, _, CB, _, _, _, rfl, b1, T.clB, T.nB _ (by decide +kernel), rfl, _, rfl, _, _, _, _, rfl, rfl, SqL.of b2, b3, _, rfl, _, CB, _, _, _, rfl, b1, T.clB, T.nB _ (by decide +kernel), rfl, _, rfl, _, _, _, _, rfl, rfl, SqL.of b2, c3, _, rfl, _, CB, _, _, _, rfl, b1, T.clB, T.nB _ (by decide +kernel), rfl, x1, x2, pl1, D.now, _, _, rfl, b4, c4, b6, ok, duty_mem hk1, duty_mem ho1, _, rfl, ?_⟩
          have st := snoc_step (fun o => D.now.clash (D.now.duty kk) (D.now.duty o)) (fun o => (kk, o)) ho
          refine bool_if _ (fun e => ?_) fun e => ?_
          · obtain ⟨xs4, hR4, hp4, hz4⟩ := hacc4
            refine ⟨_, rfl, .inl ⟨rfl, _, SqL.of hR4⟩, _, rfl, _, rfl, (by show 2 ≤ sizeLine; decide), fun t ht => ?_⟩
            have len4 : (((places D.now).take i).flatMap (pairF D.now) ++ ((((places D.now).filter fun o => decide (kk < o)).take j).filter fun o => D.now.clash (D.now.duty kk) (D.now.duty o)).map fun o => (kk, o)).length ≤ 272 := by
              rw [List.length_append, List.length_map]
              have h1 := List.length_filter_le (fun o => D.now.clash (D.now.duty kk) (D.now.duty o)) (((places D.now).filter fun o => decide (kk < o)).take j)
              have h2 := List.length_filter_le (fun o => decide (kk < o)) (places D.now)
              rw [List.length_take] at h1
              omega
            have lx := paired_len hp4
            obtain ⟨t1, t2, t3⟩ := lat_snoc (a := kk) (b := o) hR s4 hR4 hp4 ht (by omega)
            refine ⟨R, xs4, _, rfl, rfl, same_new ht _ _ hR4, small_line (by omega), t1, ⟨_, rfl⟩, t3 _ _ nDR hD4, ?_⟩
            rw [st, if_pos e, ← List.append_assoc]
            exact t2
          · refine ⟨s4, ⟨_, rfl⟩, hD4, ?_⟩
            rw [st, e, if_neg (by simp), List.append_nil]
            exact hacc4
        · rintro σ H4 ⟨s4, ⟨v5, rfl⟩, hD4, hacc4⟩
          refine ⟨s4, ⟨_, _, _, rfl⟩, ?_⟩
          rw [List.length_map, List.take_length] at hacc4
          rw [take_snoc hkk, List.flatMap_append, List.flatMap_cons, List.flatMap_nil, List.append_nil]
          exact hacc4
    · rintro σ H2 ⟨s2, ⟨v3, v4, v5, rfl⟩, hacc⟩
      rw [List.length_map, List.take_length] at hacc
      refine ⟨_, rfl, k H2 R (s1.trans s2) (s1.free hR) ?_⟩
      rw [pairs_eq]
      exact hacc
end
end My
namespace My
open PySem PySem.Spec PyProof.Rows L2
open Km483 (Desk Duty Link Book least act only)
open Km483Neutral (told)
/-! ### what a call promises -/
def Fin' (CD CB : Addr) (H : Hp) (B : Addr) (y : Desk × Km483.Ans) (Q : VK) : Prop :=
  ∀ H' r, SameBut B H H' → BookAt CD CB H' B y.1 → H r = none → H' r = some (.lst ((told y.2).map V.int)) → Q (.ref r) H'
def sp0 (CD CB : Addr) (c : Km483.Call) : Sp := fun vs H Q _ => ∃ (B : Addr) (D : Desk), vs = [.ref B] ∧ BookAt CD CB H B D ∧ DeskOk D ∧ Fin' CD CB H B (act D c) Q
def sp1 (CD CB : Addr) (c : Nat → Km483.Call) : Sp := fun vs H Q _ => ∃ (B : Addr) (D : Desk) (x : Nat), vs = [.ref B, .int x] ∧ BookAt CD CB H B D ∧ DeskOk D ∧ Fin' CD CB H B (act D (c x)) Q
def sp2 (CD CB : Addr) (c : Nat → Nat → Km483.Call) : Sp := fun vs H Q _ => ∃ (B : Addr) (D : Desk) (x y : Nat), vs = [.ref B, .int x, .int y] ∧ BookAt CD CB H B D ∧ DeskOk D ∧ Fin' CD CB H B (act D (c x y)) Q
theorem Fin'.q {CD CB : Addr} {H H1 : Hp} {B : Addr} {y : Desk × Km483.Ans} {Q : VK} {D : Desk} {a : Km483.Ans} (k : Fin' CD CB H B y Q) (e : y = (D, a)) (hb : BookAt CD CB H B D) (s : Same H H1) {r : Addr} (hr : H1 r = none) {xs : List V} (ex : xs = (told a).map V.int) :
    Q (.ref r) (upd H1 r (.lst xs)) := by
  subst e ex
  have s2 := s.trans (same_new (o := .lst ((told a).map V.int)) hr)
  exact k _ r (but_same s2) (hb.same s2) (s.free hr) upd_same
theorem but_free {H H' : Hp} {B r : Addr} {o : HO} (s : SameBut B H H') (hB : H' B = some o) (h : H' r = none) : H r = none := by
  cases e : H r with
  | none => rfl
  | some u =>
    have n : r ≠ B := fun z => by rw [z, hB] at h; cases h
    rw [s r u n e] at h
    cases h
/-- behind a change -/
theorem Fin'.c {CD CB : Addr} {H H1 : Hp} {B : Addr} {y : Desk × Km483.Ans} {Q : VK} {D : Desk} {a : Km483.Ans} (k : Fin' CD CB H B y Q) (e : y = (D, a)) (hb : BookAt CD CB H1 B D) (s : SameBut B H H1) {r : Addr} (hr : H1 r = none) {xs : List V} (ex : xs = (told a).map V.int) :
    Q (.ref r) (upd H1 r (.lst xs)) := by
  subst e ex
  have s2 := same_new (o := .lst ((told a).map V.int)) hr
  obtain ⟨dx, pd, pl, pb, pq, hB, _⟩ := id hb
  exact k _ r (s.trans (but_same s2)) (hb.same s2) (but_free s hB hr) upd_same
section
variable {P : Program} {w : World} {K : PySem.W.Frag} {mg : Str → Option Value} {base : Heap} {CD CB : Addr}
/-- return [N], a refusal -/
theorem told_only (v : Int) : [V.int v] = (told (only v)).map V.int := rfl
theorem one_line : 1 ≤ sizeLine := by rw [sizeLine_eq]; decide
theorem two_line : 2 ≤ sizeLine := by rw [sizeLine_eq]; decide
theorem dec_le (a b : Nat) : decide ((a : Int) ≤ (b : Int)) = decide (a ≤ b) := by
  by_cases h : a ≤ b
  · rw [decide_eq_true h, decide_eq_true (by omega)]
  · rw [decide_eq_false h, decide_eq_false (by omega)]
/-! ### ck_told, ck_may, ck_breaks -/
theorem ok_ck_told (T : Txt K mg CD CB) (h : Has K mg "ck_told" s_ck_told ["book", "k"]) (GH : DoesM P w K mg base CB 1 "has_duty" ["self", "place"] (spHasDuty CB)) (GS : Does P w K mg base 2 "stands" ["duty", "duties"] (spStands CD)) :
    Does P w K mg base 3 "ck_told" ["book", "k"] (sp1 CD CB .told) := by
  refine h.does sc_ck_told (fun vs H Q E h => ?_) (fun f cdv A outer s H vs Q E hr h => ?_)
  · obtain ⟨_, _, _, rfl, _⟩ := h
    rfl
  · obtain ⟨B, D, k, rfl, hBk, dk, q⟩ := h
    refine ⟨_, pss_cons (ps_if (pt_not (pt_val (pe_m GH T.clB hr (pv 0) (pa_cons (pv 1) pa_nil)))) (pss_one (ps_ret (pe_lst (pa_cons (pk (T.cs ("NONE_THERE", -2) (by decide +kernel))) pa_nil)))) pss_nil)
      (pss_cons (ps_set (i := 2) sc_ck_told.nd rfl (Or.inl rfl) (pe_ix ix_list (pe_fld (pv 0) rfl) (pv 1) (fun _ _ => rfl)))
      (pss_cons (ps_set (i := 3) sc_ck_told.nd rfl (Or.inl rfl) (pe_ifExp (pt_val (pe_f GS hr (ha := pa_cons (pv 2) (pa_cons (pe_fld (pv 0) rfl) pa_nil)))) pe_int pe_int))
      (pss_one (ps_ret (pe_lst (pa_cons (pv 3) (pa_cons (pe_fld (pv 2) rfl) (pa_cons (pe_fld (pv 2) rfl) (pa_cons (pe_fld (pv 2) rfl) (pa_cons (pe_fld (pv 2) rfl) (pa_cons (pe_fld (pv 2) rfl) (pa_cons (pe_fld (pv 2) rfl) pa_nil)))))))))))), ?_⟩
    refine go_if (evt_not (evt_b (ev_has_duty (i := 0) (j := 1) (k := k) hBk rfl rfl))) (fun e => ?_) fun e => ?_
    · have hk : D.now.duties.length ≤ k := by
        have : ¬ k < D.now.duties.length := by simpa using e
        omega
      have ea : act D (.told k) = (D, only (-2)) := by unfold act; dsimp only; rw [if_pos hk]
      exact ⟨one_line, fun r hr => q.q ea hBk (Same.refl _) hr (told_only _)⟩
    · have hk : k < D.now.duties.length := by simpa using e
      obtain ⟨dx, pd, pl, pb, pq, xs, x, hB, hd, hx, r, a1, a2⟩ := hBk.duty hk
      refine ⟨_, rfl, _, CB, _, _, _, rfl, hB, T.clB, T.nB _ (by decide +kernel), rfl, _, rfl, _, _, _, _, rfl, rfl, SqL.of hd, hx, ?_⟩
      refine ⟨_, rfl, _, rfl, _, CB, _, _, _, rfl, hB, T.clB, T.nB _ (by decide +kernel), rfl, x, pd, _, _, rfl, r, a1, fun H1 s1 => ⟨_, rfl, ?_⟩⟩
      have fin : ∀ (z : Int), z = (if D.now.stands k = true then 1 else 0) → (tRet (tLst (tCons (tVar 3) (tCons (tFld K (tVar 2) "debtor") (tCons (tFld K (tVar 2) "creditor") (tCons (tFld K (tVar 2) "act") (tCons (tFld K (tVar 2) "owed") (tCons (tFld K (tVar 2) "weight") (tCons (tFld K (tVar 2) "day") tNil))))))))) { nx := fun _ H' => Q .non H', rt := Q } [some (.ref B), some (.int k), some x, some (.int z)] H1 := fun z ez => by
        obtain ⟨p, dy, rfl, hp⟩ := mono_RD _ _ _ _ s1 r
        have f2 : ∀ (y : Str) (v : V), y ∈ (["debtor", "creditor", "act", "owed", "weight", "day"] : List Str) → (dF (D.now.duty k)).lookup y = some v → Ev (tFld K (tVar 2) y) [some (.ref B), some (.int k), some (.ref p), some (.int z)] H1 v := fun y v hy hv => ev_fld (ev_var rfl) hp T.clD (T.nD _ hy) hv
        refine go_retL (eva_cons (ev_var rfl) (eva_cons (f2 _ _ (by decide +kernel) rfl) (eva_cons (f2 _ _ (by decide +kernel) rfl) (eva_cons (f2 _ _ (by decide +kernel) rfl) (eva_cons (f2 _ _ (by decide +kernel) rfl) (eva_cons (f2 _ _ (by decide +kernel) rfl) (eva_cons (f2 _ _ (by decide +kernel) rfl) eva_nil))))))) ⟨(by rw [sizeLine_eq]; show 7 ≤ 16777216; decide), fun r hr => ?_⟩
        have ea : act D (.told k) = (D, ⟨if D.now.stands k = true then 1 else 0, [(D.now.duty k).i, (D.now.duty k).j, (D.now.duty k).a, (D.now.duty k).done, (D.now.duty k).weight, (D.now.duty k).day]⟩) := by
          unfold act; dsimp only; rw [if_neg (by omega)]
        refine q.q ea hBk s1 hr ?_
        rw [ez]
        rfl
      refine bool_if _ (fun e => ?_) fun e => ?_
      · exact fin 1 (by rw [stands_eq hk, if_pos e])
      · exact fin 0 (by rw [stands_eq hk, if_neg (by rw [e]; simp)])
theorem noset {b : Book} {s : Nat} : b.noSet s = !decide (s < 2 ^ b.n) := by
  unfold Book.noSet
  by_cases h : s < 2 ^ b.n
  · rw [decide_eq_true h, decide_eq_false (by omega)]; rfl
  · rw [decide_eq_false h, decide_eq_true (by omega)]; rfl
theorem ok_ck_may (T : Txt K mg CD CB) (h : Has K mg "ck_may" s_ck_may ["book", "s"]) (GI : DoesM P w K mg base CB 1 "is_set" ["self", "conduct"] (spIsSet CB)) (GM : Does P w K mg base 2 "may_be" ["conduct", "links"] spMay) :
    Does P w K mg base 3 "ck_may" ["book", "s"] (sp1 CD CB .may) := by
  refine h.does sc_ck_may (fun vs H Q E h => ?_) (fun f cdv A outer s H vs Q E hr h => ?_)
  · obtain ⟨_, _, _, rfl, _⟩ := h
    rfl
  · obtain ⟨B, D, c, rfl, hBk, dk, q⟩ := h
    refine ⟨_, pss_cons (ps_if (pt_not (pt_val (pe_m GI T.clB hr (pv 0) (pa_cons (pv 1) pa_nil)))) (pss_one (ps_ret (pe_lst (pa_cons (pk (T.cs ("NOT_ALLOWED", -22) (by decide +kernel))) pa_nil)))) pss_nil)
      (pss_one (ps_ret (pe_lst (pa_cons (pe_ifExp (pt_val (pe_f GM hr (ha := pa_cons (pv 1) (pa_cons (pe_fld (pv 0) rfl) pa_nil)))) pe_int pe_int) pa_nil)))), ?_⟩
    refine go_if (evt_not (evt_b (ev_is_set (i := 0) (j := 1) (k := c) hBk rfl rfl))) (fun e => ?_) fun e => ?_
    · have ea : act D (.may c) = (D, only (-22)) := by unfold act; dsimp only; rw [noset, if_pos e]
      exact ⟨one_line, fun r hr => q.q ea hBk (Same.refl _) hr (told_only _)⟩
    · obtain ⟨dx, pd, pl, pb, pq, hB, a1, a2, a3, a4⟩ := id hBk
      have ea : act D (.may c) = (D, only (if D.now.may c = true then 1 else 0)) := by unfold act; dsimp only; rw [noset, if_neg (by rw [e]; simp)]
      refine ⟨_, rfl, _, rfl, _, CB, _, _, _, rfl, hB, T.clB, T.nB _ (by decide +kernel), rfl, c, pl, _, rfl, a2, _, rfl, bool_if _ (fun e => ?_) fun e => ?_⟩
      · refine ⟨one_line, fun r hr => q.q ea hBk (Same.refl _) hr ?_⟩
        rw [if_pos (show D.now.may c = true from e)]
        rfl
      · refine ⟨one_line, fun r hr => q.q ea hBk (Same.refl _) hr ?_⟩
        rw [if_neg (show ¬ D.now.may c = true by rw [show D.now.may c = false from e]; simp)]
        rfl
theorem ok_ck_breaks (T : Txt K mg CD CB) (h : Has K mg "ck_breaks" s_ck_breaks ["book", "s"]) (GI : DoesM P w K mg base CB 1 "is_set" ["self", "conduct"] (spIsSet CB)) (GM : Does P w K mg base 2 "may_be" ["conduct", "links"] spMay)
    (GS : Does P w K mg base 3 "standing" ["duties"] (spStanding CD)) (GB : Does P w K mg base 3 "broken_by" ["conduct", "duties"] (spBroken CD)) (GW : Does P w K mg base 1 "weight_of" ["duties"] (spWeight CD)) :
    Does P w K mg base 4 "ck_breaks" ["book", "s"] (sp1 CD CB .breaks) := by
  refine h.does sc_ck_breaks (fun vs H Q E h => ?_) (fun f cdv A outer s H vs Q E hr h => ?_)
  · obtain ⟨_, _, _, rfl, _⟩ := h
    rfl
  · obtain ⟨B, D, c, rfl, hBk, dk, q⟩ := h
    refine ⟨_, pss_cons (ps_if (pt_not (pt_val (pe_m GI T.clB hr (pv 0) (pa_cons (pv 1) pa_nil)))) (pss_one (ps_ret (pe_lst (pa_cons (pk (T.cs ("NOT_ALLOWED", -22) (by decide +kernel))) pa_nil)))) pss_nil)
      (pss_cons (ps_if (pt_not (pt_val (pe_f GM hr (ha := pa_cons (pv 1) (pa_cons (pe_fld (pv 0) rfl) pa_nil))))) (pss_one (ps_ret (pe_lst (pa_cons (pk (T.cs ("OUT_OF_REACH", -33) (by decide +kernel))) pa_nil)))) pss_nil)
      (pss_cons (ps_set (i := 2) sc_ck_breaks.nd rfl (Or.inl rfl) (pe_f GB hr (ha := pa_cons (pv 1) (pa_cons (pe_f GS hr (ha := pa_cons (pe_fld (pv 0) rfl) pa_nil)) pa_nil))))
      (pss_one (ps_ret (pe_lst (pa_cons (pe_f GW hr (ha := pa_cons (pv 2) pa_nil)) (pa_cons (pe_callB call_len_seq (by rfl) (T.bn _ (by decide +kernel)) PySem.boot_len (pa_cons (pv 2) pa_nil)) pa_nil))))))), ?_⟩
    obtain ⟨dx, pd, pl, pb, pq, hB, a1, a2, a3, a4⟩ := id hBk
    refine go_if (evt_not (evt_b (ev_is_set (i := 0) (j := 1) (k := c) hBk rfl rfl))) (fun e => ?_) fun e => ?_
    · have ea : act D (.breaks c) = (D, only (-22)) := by unfold act; dsimp only; rw [noset, if_pos e]
      exact ⟨one_line, fun r hr => q.q ea hBk (Same.refl _) hr (told_only _)⟩
    · refine ⟨_, rfl, _, rfl, _, CB, _, _, _, rfl, hB, T.clB, T.nB _ (by decide +kernel), rfl, c, pl, _, rfl, a2, _, rfl, bool_if _ (fun e2 => ?_) fun e2 => ?_⟩
      · have ea : act D (.breaks c) = (D, only (-33)) := by
          unfold act; dsimp only; rw [noset, if_neg (by rw [e]; simp), if_pos (show D.now.may c = false from (by simpa using e2 : mayB D.now.links c = false))]
        exact ⟨one_line, fun r hr => q.q ea hBk (Same.refl _) hr (told_only _)⟩
      · have hm : D.now.may c = true := nn e2
        have ea : act D (.breaks c) = (D, ⟨Km483.n2i (D.now.breaks c), [(D.now.broken c).length]⟩) := by
          unfold act; dsimp only; rw [noset, if_neg (by rw [e]; simp), if_neg (by rw [hm]; simp)]
        refine ⟨_, rfl, _, rfl, _, CB, _, _, _, rfl, hB, T.clB, T.nB _ (by decide +kernel), rfl, pd, _, rfl, a1, fun H1 p1 s1 n1 hp1 => ?_⟩
        refine ⟨c, p1, _, rfl, hp1, fun H2 p2 s2 n2 hp2 => ?_⟩
        rw [broken_eq dk.now] at hp2
        refine ⟨_, rfl, p2, _, rfl, hp2, fun H3 s3 => ?_⟩
        obtain ⟨ys, hy, ly⟩ := (hp2.same mono_RD s3).len
        refine ⟨_, rfl, p2, ys, rfl, .inl (.of hy), two_line, fun r hr => q.q ea hBk (s1.trans (s2.trans s3)) hr ?_⟩
        rw [weightI_eq, ly]
        rfl
/-! ### ck_best, ck_most, ck_ways, ck_nth -/
theorem ok_ck_best (T : Txt K mg CD CB) (h : Has K mg "ck_best" s_ck_best ["book"]) (GT : Does P w K mg base 5 "best_conducts" ["book"] (spBest CD CB))
    (GS : Does P w K mg base 3 "standing" ["duties"] (spStanding CD)) (GB : Does P w K mg base 3 "broken_by" ["conduct", "duties"] (spBroken CD)) (GW : Does P w K mg base 1 "weight_of" ["duties"] (spWeight CD)) :
    Does P w K mg base 6 "ck_best" ["book"] (sp0 CD CB .best) := by
  refine h.does sc_ck_best (fun vs H Q E h => ?_) (fun f cdv A outer s H vs Q E hr h => ?_)
  · obtain ⟨_, _, rfl, _⟩ := h
    rfl
  · obtain ⟨B, D, rfl, hBk, dk, q⟩ := h
    refine ⟨_, pss_cons (ps_set (i := 1) sc_ck_best.nd rfl (Or.inl rfl) (pe_ix ix_list (pe_f GT hr (ha := pa_cons (pv 0) pa_nil)) pe_int (fun _ _ => rfl)))
      (pss_one (ps_ret (pe_lst (pa_cons (pe_f GW hr (ha := pa_cons (pe_f GB hr (ha := pa_cons (pv 1) (pa_cons (pe_f GS hr (ha := pa_cons (pe_fld (pv 0) rfl) pa_nil)) pa_nil))) pa_nil)) (pa_cons (pv 1) pa_nil))))), ?_⟩
    refine ⟨_, rfl, B, D, rfl, hBk, dk.now, fun H1 p1 s1 n1 hp1 => ?_⟩
    obtain ⟨rr, er⟩ := best_head D.now
    have hb0 := hp1.nats
    rw [er, List.map_cons] at hb0
    refine ⟨p1, _, 0, _, rfl, rfl, SqL.of hb0, atI_nat (j := 0) rfl, ?_⟩
    obtain ⟨dx, pd, pl, pb, pq, hB, a1, a2, a3, a4⟩ := hBk.same s1
    refine ⟨_, rfl, _, rfl, _, CB, _, _, _, rfl, hB, T.clB, T.nB _ (by decide +kernel), rfl, pd, _, rfl, a1, fun H2 p2 s2 n2 hp2 => ?_⟩
    refine ⟨D.now.best, p2, _, rfl, hp2, fun H3 p3 s3 n3 hp3 => ?_⟩
    rw [broken_eq dk.now] at hp3
    refine ⟨p3, _, rfl, hp3, fun H4 s4 => ?_⟩
    refine ⟨_, rfl, two_line, fun r hr => q.q (show act D .best = (D, ⟨Km483.n2i D.now.worth, [D.now.best]⟩) from rfl) hBk (s1.trans (s2.trans (s3.trans s4))) hr ?_⟩
    rw [weightI_eq]
    have e1 : Km483.weight (D.now.broken D.now.best) = D.now.worth := (mem_bests.mp (best_mem D.now)).2
    rw [e1]
    rfl
theorem ok_ck_most (T : Txt K mg CD CB) (h : Has K mg "ck_most" s_ck_most ["book"]) (GT : Does P w K mg base 5 "best_conducts" ["book"] (spBest CD CB)) (GC : Does P w K mg base 2 "count_acts" ["conduct"] spCount) :
    Does P w K mg base 6 "ck_most" ["book"] (sp0 CD CB .most) := by
  refine h.does sc_ck_most (fun vs H Q E h => ?_) (fun f cdv A outer s H vs Q E hr h => ?_)
  · obtain ⟨_, _, rfl, _⟩ := h
    rfl
  · obtain ⟨B, D, rfl, hBk, dk, q⟩ := h
    refine ⟨_, pss_cons (ps_set (i := 1) sc_ck_most.nd rfl (Or.inl rfl) pe_int)
      (pss_cons (ps_for PassesOwn.never rfl (pi_list (pe_f GT hr (ha := pa_cons (pv 0) pa_nil))) (pg_name (i := 2) sc_ck_most.nd rfl (Or.inl rfl))
        (pss_one (ps_set (i := 1) sc_ck_most.nd rfl (Or.inl rfl) (pe_op op_or (pv 1) (pv 2)))))
      (pss_one (ps_ret (pe_lst (pa_cons (pe_f GC hr (ha := pa_cons (pv 1) pa_nil)) (pa_cons (pv 1) pa_nil)))))), ?_⟩
    refine ⟨_, rfl, B, D, rfl, hBk, dk.now, fun H1 p1 s1 n1 hp1 => ?_⟩
    have hx := hp1.nats
    refine ⟨p1, rfl, ⟨_, SqL.of hx⟩, for_list (K := K) (a := p1) (xs := D.now.bests.map fun n : Nat => V.int (n : Int)) (fun i σ H' => H' = H1 ∧ ∃ v, σ = [some (.ref B), some (.int ((D.now.bests.take i).foldl (· ||| ·) 0 : Nat)), v]) ⟨rfl, none, rfl⟩ (fun i σ H' _ p => p.1 ▸ SqL.of hx) ?_ ?_⟩
    · rintro i x σ _ hi ⟨rfl, v, rfl⟩
      obtain ⟨c, hc, rfl⟩ : ∃ c, D.now.bests[i]? = some c ∧ x = V.int (c : Int) := by
        rw [List.getElem?_map] at hi
        cases e : D.now.bests[i]? with
        | none => rw [e] at hi; cases hi
        | some c => rw [e] at hi; exact ⟨c, rfl, (Option.some.inj hi).symm⟩
      refine ⟨_, rfl, _, rfl, _, _, rfl, rfl, rfl, some (.int (c : Int)), ?_⟩
      show [_, some (V.int (Builtin.bitOr _ _)), _] = _
      rw [bit_or, take_snoc hc, List.foldl_append]
      rfl
    · rintro σ _ ⟨rfl, v, rfl⟩
      rw [List.length_map, List.take_length]
      refine ⟨_, rfl, D.now.most, rfl, fun H2 s2 => ?_⟩
      refine ⟨_, rfl, two_line, fun r hr => q.q (show act D .most = (D, ⟨Km483.n2i (Km483.count D.now.most), [D.now.most]⟩) from rfl) hBk (s1.trans s2) hr ?_⟩
      rw [countI_eq]
      rfl
theorem ok_ck_ways (T : Txt K mg CD CB) (h : Has K mg "ck_ways" s_ck_ways ["book"]) (GT : Does P w K mg base 5 "best_conducts" ["book"] (spBest CD CB)) (GC : Does P w K mg base 3 "conducts_that_may_be" ["book"] (spConducts CD CB)) :
    Does P w K mg base 6 "ck_ways" ["book"] (sp0 CD CB .ways) := by
  refine h.does sc_ck_ways (fun vs H Q E h => ?_) (fun f cdv A outer s H vs Q E hr h => ?_)
  · obtain ⟨_, _, rfl, _⟩ := h
    rfl
  · obtain ⟨B, D, rfl, hBk, dk, q⟩ := h
    refine ⟨_, pss_one (ps_ret (pe_lst (pa_cons (pe_callB call_len_seq (by rfl) (T.bn _ (by decide +kernel)) PySem.boot_len (pa_cons (pe_f GT hr (ha := pa_cons (pv 0) pa_nil)) pa_nil))
      (pa_cons (pe_callB call_len_seq (by rfl) (T.bn _ (by decide +kernel)) PySem.boot_len (pa_cons (pe_f GC hr (ha := pa_cons (pv 0) pa_nil)) pa_nil)) pa_nil)))), ?_⟩
    refine ⟨_, rfl, B, D, rfl, hBk, dk.now, fun H1 p1 s1 n1 hp1 => ?_⟩
    obtain ⟨ys, hy, ly⟩ := hp1.len
    refine ⟨p1, ys, rfl, .inl (.of hy), ?_⟩
    refine ⟨_, rfl, B, D, rfl, hBk.same s1, dk.now, fun H2 p2 s2 n2 hp2 => ?_⟩
    obtain ⟨zs, hz, lz⟩ := hp2.len
    refine ⟨p2, zs, rfl, .inl (.of hz), two_line, fun r hr => q.q (show act D .ways = (D, ⟨Km483.n2i D.now.bests.length, [D.now.conducts.length]⟩) from rfl) hBk (s1.trans s2) hr ?_⟩
    rw [ly, lz]
    rfl
theorem ok_ck_nth (T : Txt K mg CD CB) (h : Has K mg "ck_nth" s_ck_nth ["book", "k"]) (GT : Does P w K mg base 5 "best_conducts" ["book"] (spBest CD CB)) (GC : Does P w K mg base 2 "count_acts" ["conduct"] spCount) :
    Does P w K mg base 6 "ck_nth" ["book", "k"] (sp1 CD CB .nth) := by
  refine h.does sc_ck_nth (fun vs H Q E h => ?_) (fun f cdv A outer s H vs Q E hr h => ?_)
  · obtain ⟨_, _, _, rfl, _⟩ := h
    rfl
  · obtain ⟨B, D, k, rfl, hBk, dk, q⟩ := h
    refine ⟨_, pss_cons (ps_set (i := 2) sc_ck_nth.nd rfl (Or.inl rfl) (pe_f GT hr (ha := pa_cons (pv 0) pa_nil)))
      (pss_cons (ps_if (pt_cmpR op_ge (pv 1) (pe_callB call_len_seq (by rfl) (T.bn _ (by decide +kernel)) PySem.boot_len (pa_cons (pv 2) pa_nil)) (nomark _)) (pss_one (ps_ret (pe_lst (pa_cons (pk (T.cs ("OUT_OF_REACH", -33) (by decide +kernel))) pa_nil)))) pss_nil)
      (pss_one (ps_ret (pe_lst (pa_cons (pe_f GC hr (ha := pa_cons (pe_ix ix_list (pv 2) (pv 1) (fun _ _ => rfl)) pa_nil)) (pa_cons (pe_ix ix_list (pv 2) (pv 1) (fun _ _ => rfl)) pa_nil)))))), ?_⟩
    refine ⟨_, rfl, B, D, rfl, hBk, dk.now, fun H1 p1 s1 n1 hp1 => ?_⟩
    have hx := hp1.nats
    refine ⟨_, rfl, _, rfl, p1, _, rfl, .inl (.of hx), _, _, rfl, rfl, _, rfl, ?_⟩
    rw [List.length_map, dec_le]
    refine bool_if _ (fun e => ?_) fun e => ?_
    · have hk : D.now.bests.length ≤ k := by simpa using e
      have ea : act D (.nth k) = (D, only (-33)) := by
        unfold act; dsimp only; rw [List.getElem?_eq_none hk]
      exact ⟨one_line, fun r hr => q.q ea hBk s1 hr (told_only _)⟩
    · have hk : k < D.now.bests.length := by
        have : ¬ D.now.bests.length ≤ k := by simpa using e
        omega
      have hc := List.getElem?_eq_getElem hk
      have ea : act D (.nth k) = (D, ⟨Km483.n2i (Km483.count D.now.bests[k]), [D.now.bests[k]]⟩) := by
        unfold act; dsimp only; rw [hc]
      have hat : atI (D.now.bests.map fun n : Nat => V.int (n : Int)) (k : Int) = some (V.int (D.now.bests[k] : Nat)) := atI_nat (by rw [List.getElem?_map, hc]; rfl)
      refine ⟨_, rfl, _, rfl, p1, _, _, _, rfl, rfl, SqL.of hx, hat, _, rfl, fun H2 s2 => ?_⟩
      refine ⟨_, rfl, _, rfl, p1, _, _, _, rfl, rfl, SqL.of (s2 _ _ hx), hat, two_line, fun r hr => q.q ea hBk (s1.trans s2) hr ?_⟩
      rw [countI_eq]
      rfl
/-! ### ck_sure, ck_who, ck_state -/
theorem ok_ck_sure (T : Txt K mg CD CB) (h : Has K mg "ck_sure" s_ck_sure ["book", "a"]) (GA : DoesM P w K mg base CB 1 "has_act" ["self", "act"] (spHasAct CB)) (GT : Does P w K mg base 5 "best_conducts" ["book"] (spBest CD CB)) (GD : Does P w K mg base 1 "does" ["conduct", "act"] spDoes) :
    Does P w K mg base 6 "ck_sure" ["book", "a"] (sp1 CD CB .sure) := by
  refine h.does sc_ck_sure (fun vs H Q E h => ?_) (fun f cdv A outer s H vs Q E hr h => ?_)
  · obtain ⟨_, _, _, rfl, _⟩ := h
    rfl
  · obtain ⟨B, D, a, rfl, hBk, dk, q⟩ := h
    refine ⟨_, pss_cons (ps_if (pt_not (pt_val (pe_m GA T.clB hr (pv 0) (pa_cons (pv 1) pa_nil)))) (pss_one (ps_ret (pe_lst (pa_cons (pk (T.cs ("NONE_THERE", -2) (by decide +kernel))) pa_nil)))) pss_nil)
      (pss_cons (ps_setLc (i := 2) (own := [("conduct", 3)]) rfl sc_ck_sure.nd rfl rfl (sw_true rfl rfl rfl (by decide +kernel)) (pi_list (pe_f GT hr (ha := pa_cons (pv 0) pa_nil))) (blkOk_by (by rfl))
        (fun _ _ _ _ _ => pg_name (i := 3) sc_ck_sure.nd rfl (Or.inl rfl)) (fun _ _ _ _ _ => pts_nil) (fun _ _ _ _ _ => pe_f GD hr (ha := pa_cons (pv 3) (pa_cons (pv 1) pa_nil))))
      (pss_one (ps_ret (pe_lst (pa_cons (pe_op op_add (pe_callB (cr_min rfl) (by rfl) (T.bn _ (by decide +kernel)) boot_min (pa_cons (pv 2) pa_nil)) (pe_callB (cr_max rfl) (by rfl) (T.bn _ (by decide +kernel)) boot_max (pa_cons (pv 2) pa_nil))) pa_nil))))), ?_⟩
    refine go_if (evt_not (evt_b (ev_has_act (i := 0) (j := 1) (k := a) hBk rfl rfl))) (fun e => ?_) fun e => ?_
    · have hk : D.now.n ≤ a := by
        have : ¬ a < D.now.n := by simpa using e
        omega
      have ea : act D (.sure a) = (D, only (-2)) := by unfold act; dsimp only; rw [if_pos hk]
      exact ⟨one_line, fun r hr => q.q ea hBk (Same.refl _) hr (told_only _)⟩
    · have hk : a < D.now.n := by simpa using e
      have ea : act D (.sure a) = (D, only (if D.now.best.testBit a = true then 2 else if D.now.most.testBit a = true then 1 else 0)) := by unfold act; dsimp only; rw [if_neg (by omega)]
      refine ⟨_, rfl, B, D, rfl, hBk, dk.now, fun H1 p1 s1 n1 hp1 => ?_⟩
      refine ⟨p1, rfl, hp1.sq, fun Dd hD => lc_gen (S := RZ) (vs := [3]) mono_RI fmono_RZ hp1 hD (fun _ => true) (fun c => bitI c a) (fun x c H' N Y hc hx s hN hY => ?_) fun H2 s2 hH => ?_⟩
      · obtain rfl : x = V.int c := hx
        exact ⟨rfl, iteT (B := N H') ⟨_, rfl, _, rfl, c, a, rfl, hY _ _ (Same.refl _) rfl rfl⟩⟩
      · rw [filter_yes] at hH
        have hpos : 0 < (D.now.bests.map fun c => bitI c a).length := by
          rw [List.length_map]
          exact List.length_pos_iff.mpr (bests_ne _)
        refine ⟨_, rfl, Dd, _, rfl, hH.ints, hpos, fun lo l1 l2 => ?_⟩
        refine ⟨_, rfl, Dd, _, rfl, hH.ints, hpos, fun hi h1 h2 => ?_⟩
        refine ⟨_, _, rfl, rfl, one_line, fun r hr => q.q ea hBk (s1.trans s2) hr ?_⟩
        rw [← sure_eq l1 l2 h1 h2]
        rfl
theorem ok_ck_who (T : Txt K mg CD CB) (h : Has K mg "ck_who" s_ck_who ["book", "i"]) (GA : DoesM P w K mg base CB 1 "has_state" ["self", "state"] (spHasState CB)) (GT : Does P w K mg base 5 "best_conducts" ["book"] (spBest CD CB))
    (GS : Does P w K mg base 3 "standing" ["duties"] (spStanding CD)) (GB : Does P w K mg base 3 "broken_by" ["conduct", "duties"] (spBroken CD)) (GW : Does P w K mg base 1 "weight_of" ["duties"] (spWeight CD)) :
    Does P w K mg base 6 "ck_who" ["book", "i"] (sp1 CD CB .who) := by
  refine h.does sc_ck_who (fun vs H Q E h => ?_) (fun f cdv A outer s H vs Q E hr h => ?_)
  · obtain ⟨_, _, _, rfl, _⟩ := h
    rfl
  · obtain ⟨B, D, i, rfl, hBk, dk, q⟩ := h
    refine ⟨_, pss_cons (ps_if (pt_not (pt_val (pe_m GA T.clB hr (pv 0) (pa_cons (pv 1) pa_nil)))) (pss_one (ps_ret (pe_lst (pa_cons (pk (T.cs ("NONE_THERE", -2) (by decide +kernel))) pa_nil)))) pss_nil)
      (pss_cons (ps_setLc (i := 2) (own := [("duty", 4)]) rfl sc_ck_who.nd rfl rfl (sw_true rfl rfl rfl (by decide +kernel)) (pi_list (pe_f GS hr (ha := pa_cons (pe_fld (pv 0) rfl) pa_nil))) (blkOk_by (by rfl))
        (fun _ _ _ _ _ => pg_name (i := 4) sc_ck_who.nd rfl (Or.inl rfl)) (fun _ _ _ _ _ => pts_one (pt_cmpR op_eq (pf K (pv 4)) (pv 1) (nomark _))) (fun _ _ _ _ _ => pv 4))
      (pss_cons (ps_set (i := 3) sc_ck_who.nd rfl (Or.inl rfl) (pe_f GB hr (ha := pa_cons (pe_ix ix_list (pe_f GT hr (ha := pa_cons (pv 0) pa_nil)) pe_int (fun _ _ => rfl)) (pa_cons (pv 2) pa_nil))))
      (pss_one (ps_ret (pe_lst (pa_cons (pe_f GW hr (ha := pa_cons (pv 3) pa_nil)) (pa_cons (pe_callB call_len_seq (by rfl) (T.bn _ (by decide +kernel)) PySem.boot_len (pa_cons (pv 3) pa_nil)) pa_nil))))))), ?_⟩
    refine go_if (evt_not (evt_b (ev_has_state (i := 0) (j := 1) (k := i) hBk rfl rfl))) (fun e => ?_) fun e => ?_
    · have hk : D.now.m ≤ i := by
        have : ¬ i < D.now.m := by simpa using e
        omega
      have ea : act D (.who i) = (D, only (-2)) := by unfold act; dsimp only; rw [if_pos hk]
      exact ⟨one_line, fun r hr => q.q ea hBk (Same.refl _) hr (told_only _)⟩
    · have hk : i < D.now.m := by simpa using e
      have ea : act D (.who i) = (D, ⟨Km483.n2i (Km483.weight ((D.now.broken D.now.best).filter fun x => x.i == i)), [((D.now.broken D.now.best).filter fun x => x.i == i).length]⟩) := by unfold act; dsimp only; rw [if_neg (by omega)]
      obtain ⟨dx, pd, pl, pb, pq, hB, a1, a2, a3, a4⟩ := id hBk
      refine ⟨_, rfl, _, CB, _, _, _, rfl, hB, T.clB, T.nB _ (by decide +kernel), rfl, pd, _, rfl, a1, fun H1 p1 s1 n1 hp1 => ?_⟩
      refine ⟨p1, rfl, hp1.sq, fun Dd hD => lc_gen (S := RD CD) (vs := [4]) mono_RD fmono_RD hp1 hD (fun d => d.i == i) (fun d => d) (fun x d H' N Y hd hx s hN hY => ?_) fun H2 s2 hH => ?_⟩
      · obtain ⟨p, dy, rfl, hp⟩ := hx
        refine ⟨rfl, _, rfl, p, CD, dy, _, _, rfl, hp, T.clD, T.nD _ (by decide +kernel), rfl, _, rfl, rfl, _, rfl, ?_⟩
        rw [dec_nat]
        exact bool_if _ (fun e => ⟨_, rfl, hY _ _ (Same.refl _) e ⟨p, dy, rfl, hp⟩⟩) fun e => hN _ (Same.refl _) e
      · rw [List.map_id'] at hH
        refine ⟨_, rfl, B, D, rfl, hBk.same (s1.trans s2), dk.now, fun H3 p3 s3 n3 hp3 => ?_⟩
        obtain ⟨rr, er⟩ := best_head D.now
        have hb0 := hp3.nats
        rw [er, List.map_cons] at hb0
        refine ⟨p3, _, 0, _, rfl, rfl, SqL.of hb0, atI_nat (j := 0) rfl, ?_⟩
        refine ⟨_, rfl, D.now.best, Dd, _, rfl, hH.same mono_RD s3, fun H4 p4 s4 n4 hp4 => ?_⟩
        have e4 : (((D.now.duties.filter (standB D.now.duties)).filter fun d => d.i == i).filter fun d => !keepB D.now.best d) = (D.now.broken D.now.best).filter fun x => x.i == i := by
          rw [← broken_eq dk.now, List.filter_filter, List.filter_filter, List.filter_filter, List.filter_filter]
          refine List.filter_congr fun d _ => ?_
          cases (d.i == i) <;> cases keepB D.now.best d <;> cases standB D.now.duties d <;> rfl
        rw [e4] at hp4
        refine ⟨_, rfl, p4, _, rfl, hp4, fun H5 s5 => ?_⟩
        obtain ⟨ys, hy, ly⟩ := (hp4.same mono_RD s5).len
        refine ⟨_, rfl, p4, ys, rfl, .inl (.of hy), two_line, fun r hr => q.q ea hBk (s1.trans (s2.trans (s3.trans (s4.trans s5)))) hr ?_⟩
        rw [weightI_eq, ly]
        rfl
theorem ok_ck_state (T : Txt K mg CD CB) (h : Has K mg "ck_state" s_ck_state ["book"]) : Does P w K mg base 1 "ck_state" ["book"] (sp0 CD CB .state) := by
  refine h.does sc_ck_state (fun vs H Q E h => ?_) (fun f cdv A outer s H vs Q E hr h => ?_)
  · obtain ⟨_, _, rfl, _⟩ := h
    rfl
  · obtain ⟨B, D, rfl, hBk, dk, q⟩ := h
    refine ⟨_, pss_cons (ps_set (i := 1) sc_ck_state.nd rfl (Or.inl rfl) (pe_callB call_len_seq (by rfl) (T.bn _ (by decide +kernel)) PySem.boot_len (pa_cons (pe_fld (pv 0) rfl) pa_nil)))
      (pss_cons (ps_set (i := 2) sc_ck_state.nd rfl (Or.inl rfl) (pe_callB call_len_seq (by rfl) (T.bn _ (by decide +kernel)) PySem.boot_len (pa_cons (pe_fld (pv 0) rfl) pa_nil)))
      (pss_one (ps_ret (pe_lst (pa_cons (pe_callB call_len_seq (by rfl) (T.bn _ (by decide +kernel)) PySem.boot_len (pa_cons (pe_fld (pv 0) rfl) pa_nil)) (pa_cons (pe_fld (pv 0) rfl) (pa_cons (pe_fld (pv 0) rfl)
        (pa_cons (pe_callB call_len_seq (by rfl) (T.bn _ (by decide +kernel)) PySem.boot_len (pa_cons (pe_fld (pv 0) rfl) pa_nil)) (pa_cons (pv 1) (pa_cons (pv 2) pa_nil)))))))))), ?_⟩
    obtain ⟨dx, pd, pl, pb, pq, hB, a1, a2, a3, a4⟩ := id hBk
    obtain ⟨x1, h1, l1⟩ := a1.len
    obtain ⟨x2, h2, l2⟩ := a2.len
    obtain ⟨x3, h3, l3⟩ := a3.len
    obtain ⟨x4, h4, l4⟩ := a4.len
    rw [List.length_reverse] at l3 l4
    refine ⟨_, rfl, B, CB, dx, _, _, rfl, hB, T.clB, T.nB _ (by decide +kernel), rfl, pb, x3, rfl, .inl (.of h3), ?_⟩
    refine ⟨_, rfl, B, CB, dx, _, _, rfl, hB, T.clB, T.nB _ (by decide +kernel), rfl, pq, x4, rfl, .inl (.of h4), ?_⟩
    refine ⟨_, rfl, B, CB, dx, _, _, rfl, hB, T.clB, T.nB _ (by decide +kernel), rfl, pd, x1, rfl, .inl (.of h1), ?_⟩
    refine ⟨_, rfl, B, CB, dx, _, _, rfl, hB, T.clB, T.nB _ (by decide +kernel), rfl, ?_⟩
    refine ⟨_, rfl, B, CB, dx, _, _, rfl, hB, T.clB, T.nB _ (by decide +kernel), rfl, ?_⟩
    refine ⟨_, rfl, B, CB, dx, _, _, rfl, hB, T.clB, T.nB _ (by decide +kernel), rfl, pl, x2, rfl, .inl (.of h2), ?_⟩
    refine ⟨_, rfl, _, rfl, (by rw [sizeLine_eq]; show 6 ≤ 16777216; decide), fun r hr => q.q (show act D .state = (D, ⟨Km483.n2i D.now.duties.length, [D.now.n, D.now.m, D.now.links.length, D.past.length, D.future.length]⟩) from rfl) hBk (Same.refl _) hr ?_⟩
    rw [l1, l2, l3, l4]
    rfl
end
end My
namespace My
open PySem PySem.Spec PyProof.Rows L2
open Km483 (Desk Duty Link Book least act only)
open Km483Neutral (told)
theorem refuse_cases (b : Book) (k : Nat) : (b.duties.length ≤ k ∧ refuseI b k = -2) ∨ (k < b.duties.length ∧ b.stands k = false ∧ refuseI b k = -6) ∨ (k < b.duties.length ∧ b.stands k = true ∧ refuseI b k = 0) := by
  unfold refuseI
  by_cases h : b.duties.length ≤ k
  · exact .inl ⟨h, if_pos h⟩
  · rw [if_neg h]
    cases e : b.stands k with
    | false => exact .inr (.inl ⟨by omega, rfl, rfl⟩)
    | true => exact .inr (.inr ⟨by omega, rfl, rfl⟩)
theorem keep_filter {b : Book} (h : BookOk b) {d : Duty} (hd : d ∈ b.duties) (l : List Nat) : (l.filter fun c => keepB c d) = l.filter d.keeps := List.filter_congr fun _ _ => keepB_eq (h.dr d hd).2
theorem waive_map {b : Book} (h : BookOk b) {k : Nat} (hs : b.stands k = true) (l : List Nat) : l.map (waiveI b.breaks (b.duty k)) = l.map fun s => (b.breaksBut k s : Int) := by
  refine List.map_congr_left fun c _ => ?_
  unfold waiveI
  rw [keepB_eq (h.dr _ (duty_mem (stands_lt hs))).2]
  exact waived_eq hs c
theorem first_at {ns : List Int} {m : Int} (h : m ∈ ns) : ∃ j : Nat, ns[j]? = some m ∧ ∀ i : Nat, i < j → ns[i]? ≠ some m := by
  induction ns with
  | nil => cases h
  | cons a l ih =>
    by_cases e : a = m
    · subst e
      exact ⟨0, rfl, fun i hi => absurd hi (by omega)⟩
    · have hm : m ∈ l := by
        rcases List.mem_cons.mp h with z | z
        · exact absurd z.symm e
        · exact z
      obtain ⟨j, h1, h2⟩ := ih hm
      refine ⟨j + 1, by simpa using h1, fun i hi => ?_⟩
      cases i with
      | zero => simpa using e
      | succ i => simpa using h2 i (by omega)
section
variable {P : Program} {w : World} {K : PySem.W.Frag} {mg : Str → Option Value} {base : Heap} {CD CB : Addr}
theorem ok_ck_can (T : Txt K mg CD CB) (h : Has K mg "ck_can" s_ck_can ["book", "k"]) (GR : Does P w K mg base 3 "refusal_of" ["book", "k"] (spRefusal CD CB)) (GT : Does P w K mg base 5 "best_conducts" ["book"] (spBest CD CB)) (GK : Does P w K mg base 2 "keeps" ["conduct", "duty"] (spKeeps CD)) :
    Does P w K mg base 6 "ck_can" ["book", "k"] (sp1 CD CB .can) := by
  refine h.does sc_ck_can (fun vs H Q E h => ?_) (fun f cdv A outer s H vs Q E hr h => ?_)
  · obtain ⟨_, _, _, rfl, _⟩ := h
    rfl
  · obtain ⟨B, D, k, rfl, hBk, dk, q⟩ := h
    refine ⟨_, pss_cons (ps_set (i := 2) sc_ck_can.nd rfl (Or.inl rfl) (pe_f GR hr (ha := pa_cons (pv 0) (pa_cons (pv 1) pa_nil))))
      (pss_cons (ps_if (pt_cmpR op_lt (pv 2) pe_int (nomark _)) (pss_one (ps_ret (pe_lst (pa_cons (pv 2) pa_nil)))) pss_nil)
      (pss_cons (ps_set (i := 3) sc_ck_can.nd rfl (Or.inr rfl) (pe_ix ix_list (pe_fld (pv 0) rfl) (pv 1) (fun _ _ => rfl)))
      (pss_cons (ps_setLc (i := 4) (own := [("conduct", 5)]) rfl sc_ck_can.nd rfl rfl (sw_true rfl rfl rfl (by decide +kernel)) (pi_list (pe_f GT hr (ha := pa_cons (pv 0) pa_nil))) (blkOk_by (by rfl))
        (fun _ _ _ _ _ => pg_name (i := 5) sc_ck_can.nd rfl (Or.inl rfl)) (fun _ _ _ _ _ => pts_one (pt_val (pe_f GK hr (ha := pa_cons (pv 5) (pa_cons (pv 3) pa_nil))))) (fun _ _ _ _ _ => pv 5))
      (pss_one (ps_ret (pe_lst (pa_cons (pe_ifExp (pt_truth (pv 4) (fun _ => rfl)) pe_int pe_int) pa_nil))))))), ?_⟩
    refine ⟨_, rfl, _, rfl, B, D, k, rfl, hBk, fun H1 s1 => ?_⟩
    refine ⟨_, rfl, _, _, rfl, rfl, _, rfl, ?_⟩
    rcases refuse_cases D.now k with ⟨hk, er⟩ | ⟨hk, hs, er⟩ | ⟨hk, hs, er⟩
    · rw [er]
      have ea : act D (.can k) = (D, only (-2)) := by unfold act; dsimp only; rw [if_pos hk]
      exact iteT ⟨_, rfl, one_line, fun r hr => q.q ea hBk s1 hr (told_only _)⟩
    · rw [er]
      have ea : act D (.can k) = (D, only (-6)) := by unfold act; dsimp only; rw [if_neg (by omega), if_pos hs]
      exact iteT ⟨_, rfl, one_line, fun r hr => q.q ea hBk s1 hr (told_only _)⟩
    · rw [er]
      refine iteF ?_
      have ea : act D (.can k) = (D, only (if (D.now.bests.any (D.now.duty k).keeps) = true then 1 else 0)) := by unfold act; dsimp only; rw [if_neg (by omega), if_neg (by rw [hs]; simp)]
      obtain ⟨dx, pd, pl, pb, pq, xs, x, hB, hd, hx, r, a1, a2⟩ := (hBk.same s1).duty hk
      refine ⟨_, rfl, _, CB, _, _, _, rfl, hB, T.clB, T.nB _ (by decide +kernel), rfl, _, rfl, _, _, _, _, rfl, rfl, SqL.of hd, hx, ?_⟩
      refine ⟨_, rfl, B, D, rfl, hBk.same s1, dk.now, fun H2 p2 s2 n2 hp2 => ?_⟩
      refine ⟨p2, rfl, hp2.sq, fun Dd hD => lc_gen (S := RI) (vs := [5]) mono_RI fmono_RI hp2 hD (fun c => keepB c (D.now.duty k)) (fun c => c) (fun y c H' N Y hc hy s hN hY => ?_) fun H3 s3 hH => ?_⟩
      · obtain rfl : y = V.int c := hy
        refine ⟨rfl, _, rfl, _, rfl, c, x, _, rfl, mono_RD _ _ _ _ (s2.trans s) r, _, rfl, ?_⟩
        exact bool_if _ (fun e => ⟨_, rfl, hY _ _ (Same.refl _) e rfl⟩) fun e => hN _ (Same.refl _) e
      · rw [List.map_id', keep_filter dk.now (duty_mem hk)] at hH
        obtain ⟨ys, hy, ly⟩ := hH.len
        have e1 : (!ys.isEmpty) = D.now.bests.any (D.now.duty k).keeps := by
          have e2 : ys.isEmpty = (D.now.bests.filter (D.now.duty k).keeps).isEmpty := by
            rw [Bool.eq_iff_iff, List.isEmpty_iff, List.isEmpty_iff, ← List.length_eq_zero_iff, ← List.length_eq_zero_iff, ly]
          rw [e2]
          cases e3 : D.now.bests.any (D.now.duty k).keeps with
          | true =>
            obtain ⟨c, hc, hk⟩ := List.any_eq_true.mp e3
            have := List.ne_nil_of_mem (List.mem_filter.mpr ⟨hc, hk⟩)
            cases e4 : D.now.bests.filter (D.now.duty k).keeps with
            | nil => exact absurd e4 this
            | cons _ _ => rfl
          | false =>
            have : D.now.bests.filter (D.now.duty k).keeps = [] := List.filter_eq_nil_iff.mpr fun c hc => by
              have := List.any_eq_false.mp e3 c hc
              simpa using this
            rw [this]
            rfl
        refine ⟨_, rfl, _, .inl ⟨ys, SqL.of hy, rfl⟩, ?_⟩
        rw [e1]
        refine bool_if _ (fun e => ?_) fun e => ?_
        · refine ⟨one_line, fun r hr => q.q ea hBk (s1.trans (s2.trans s3)) hr ?_⟩
          rw [if_pos e]
          rfl
        · refine ⟨one_line, fun r hr => q.q ea hBk (s1.trans (s2.trans s3)) hr ?_⟩
          rw [if_neg (by rw [e]; simp)]
          rfl
theorem ok_ck_cost (T : Txt K mg CD CB) (h : Has K mg "ck_cost" s_ck_cost ["book", "k"]) (GR : Does P w K mg base 3 "refusal_of" ["book", "k"] (spRefusal CD CB)) (GC : Does P w K mg base 3 "cost_of" ["duty", "weighed"] (spCost CD)) (GW : Does P w K mg base 4 "weighed_conducts" ["book"] (spWeighed CD CB)) :
    Does P w K mg base 5 "ck_cost" ["book", "k"] (sp1 CD CB .cost) := by
  refine h.does sc_ck_cost (fun vs H Q E h => ?_) (fun f cdv A outer s H vs Q E hr h => ?_)
  · obtain ⟨_, _, _, rfl, _⟩ := h
    rfl
  · obtain ⟨B, D, k, rfl, hBk, dk, q⟩ := h
    refine ⟨_, pss_cons (ps_set (i := 2) sc_ck_cost.nd rfl (Or.inl rfl) (pe_f GR hr (ha := pa_cons (pv 0) (pa_cons (pv 1) pa_nil))))
      (pss_cons (ps_if (pt_cmpR op_lt (pv 2) pe_int (nomark _)) (pss_one (ps_ret (pe_lst (pa_cons (pv 2) pa_nil)))) pss_nil)
      (pss_one (ps_ret (pe_lst (pa_cons (pe_f GC hr (ha := pa_cons (pe_ix ix_list (pe_fld (pv 0) rfl) (pv 1) (fun _ _ => rfl)) (pa_cons (pe_f GW hr (ha := pa_cons (pv 0) pa_nil)) pa_nil))) pa_nil))))), ?_⟩
    refine ⟨_, rfl, _, rfl, B, D, k, rfl, hBk, fun H1 s1 => ?_⟩
    refine ⟨_, rfl, _, _, rfl, rfl, _, rfl, ?_⟩
    rcases refuse_cases D.now k with ⟨hk, er⟩ | ⟨hk, hs, er⟩ | ⟨hk, hs, er⟩
    · rw [er]
      have ea : act D (.cost k) = (D, only (-2)) := by unfold act; dsimp only; rw [if_pos hk]
      exact iteT ⟨_, rfl, one_line, fun r hr => q.q ea hBk s1 hr (told_only _)⟩
    · rw [er]
      have ea : act D (.cost k) = (D, only (-6)) := by unfold act; dsimp only; rw [if_neg (by omega), if_pos hs]
      exact iteT ⟨_, rfl, one_line, fun r hr => q.q ea hBk s1 hr (told_only _)⟩
    · rw [er]
      refine iteF ?_
      have ea : act D (.cost k) = (D, only (Km483.n2i (D.now.keeping (D.now.duty k) - D.now.worth))) := by unfold act; dsimp only; rw [if_neg (by omega), if_neg (by rw [hs]; simp)]
      obtain ⟨dx, pd, pl, pb, pq, xs, x, hB, hd, hx, r, a1, a2⟩ := (hBk.same s1).duty hk
      refine ⟨_, rfl, _, CB, _, _, _, rfl, hB, T.clB, T.nB _ (by decide +kernel), rfl, _, rfl, _, _, _, _, rfl, rfl, SqL.of hd, hx, ?_⟩
      refine ⟨_, rfl, B, D, rfl, hBk.same s1, dk.now, fun H2 p2 s2 n2 hp2 => ?_⟩
      have kf := keep_filter dk.now (duty_mem hk) D.now.conducts
      refine ⟨x, p2, _, _, _, rfl, mono_RD _ _ _ _ s2 r, hp2, (by rw [kf]; exact kept_ne dk.now (duty_mem hk)), fun H3 s3 => ?_⟩
      refine ⟨one_line, fun r hr => q.q ea hBk (s1.trans (s2.trans s3)) hr ?_⟩
      rw [kf]
      have := cost_eq dk.now (duty_mem hk)
      show [V.int ((D.now.keeping (D.now.duty k) : Int) - (D.now.worth : Int))] = _
      rw [this]
      rfl
theorem ok_ck_relief (T : Txt K mg CD CB) (h : Has K mg "ck_relief" s_ck_relief ["book", "k"]) (GR : Does P w K mg base 3 "refusal_of" ["book", "k"] (spRefusal CD CB)) (GC : Does P w K mg base 3 "relief_of" ["duty", "weighed"] (spRelief CD)) (GW : Does P w K mg base 4 "weighed_conducts" ["book"] (spWeighed CD CB)) :
    Does P w K mg base 5 "ck_relief" ["book", "k"] (sp1 CD CB .relief) := by
  refine h.does sc_ck_relief (fun vs H Q E h => ?_) (fun f cdv A outer s H vs Q E hr h => ?_)
  · obtain ⟨_, _, _, rfl, _⟩ := h
    rfl
  · obtain ⟨B, D, k, rfl, hBk, dk, q⟩ := h
    refine ⟨_, pss_cons (ps_set (i := 2) sc_ck_relief.nd rfl (Or.inl rfl) (pe_f GR hr (ha := pa_cons (pv 0) (pa_cons (pv 1) pa_nil))))
      (pss_cons (ps_if (pt_cmpR op_lt (pv 2) pe_int (nomark _)) (pss_one (ps_ret (pe_lst (pa_cons (pv 2) pa_nil)))) pss_nil)
      (pss_one (ps_ret (pe_lst (pa_cons (pe_f GC hr (ha := pa_cons (pe_ix ix_list (pe_fld (pv 0) rfl) (pv 1) (fun _ _ => rfl)) (pa_cons (pe_f GW hr (ha := pa_cons (pv 0) pa_nil)) pa_nil))) pa_nil))))), ?_⟩
    refine ⟨_, rfl, _, rfl, B, D, k, rfl, hBk, fun H1 s1 => ?_⟩
    refine ⟨_, rfl, _, _, rfl, rfl, _, rfl, ?_⟩
    rcases refuse_cases D.now k with ⟨hk, er⟩ | ⟨hk, hs, er⟩ | ⟨hk, hs, er⟩
    · rw [er]
      have ea : act D (.relief k) = (D, only (-2)) := by unfold act; dsimp only; rw [if_pos hk]
      exact iteT ⟨_, rfl, one_line, fun r hr => q.q ea hBk s1 hr (told_only _)⟩
    · rw [er]
      have ea : act D (.relief k) = (D, only (-6)) := by unfold act; dsimp only; rw [if_neg (by omega), if_pos hs]
      exact iteT ⟨_, rfl, one_line, fun r hr => q.q ea hBk s1 hr (told_only _)⟩
    · rw [er]
      refine iteF ?_
      have ea : act D (.relief k) = (D, only (Km483.n2i (D.now.relief k))) := by unfold act; dsimp only; rw [if_neg (by omega), if_neg (by rw [hs]; simp)]
      obtain ⟨dx, pd, pl, pb, pq, xs, x, hB, hd, hx, r, a1, a2⟩ := (hBk.same s1).duty hk
      refine ⟨_, rfl, _, CB, _, _, _, rfl, hB, T.clB, T.nB _ (by decide +kernel), rfl, _, rfl, _, _, _, _, rfl, rfl, SqL.of hd, hx, ?_⟩
      refine ⟨_, rfl, B, D, rfl, hBk.same s1, dk.now, fun H2 p2 s2 n2 hp2 => ?_⟩
      refine ⟨x, p2, _, _, _, rfl, mono_RD _ _ _ _ s2 r, hp2, conducts_ne _, fun H3 m s3 hm hle => ?_⟩
      refine ⟨one_line, fun r hr => q.q ea hBk (s1.trans (s2.trans s3)) hr ?_⟩
      rw [waive_map dk.now hs] at hm hle
      have e1 := least_min hm hle
      have e2 := relief_eq hs
      show [V.int ((D.now.worth : Int) - m)] = [V.int (D.now.relief k : Int)]
      rw [e1, e2]
theorem ok_ck_waive (T : Txt K mg CD CB) (h : Has K mg "ck_waive" s_ck_waive ["book"]) (GP : Does P w K mg base 3 "standing_places" ["duties"] (spPlaces CD)) (GC : Does P w K mg base 3 "relief_of" ["duty", "weighed"] (spRelief CD)) (GW : Does P w K mg base 4 "weighed_conducts" ["book"] (spWeighed CD CB)) :
    Does P w K mg base 5 "ck_waive" ["book"] (sp0 CD CB .waive) := by
  refine h.does sc_ck_waive (fun vs H Q E h => ?_) (fun f cdv A outer s H vs Q E hr h => ?_)
  · obtain ⟨_, _, rfl, _⟩ := h
    rfl
  · obtain ⟨B, D, rfl, hBk, dk, q⟩ := h
    refine ⟨_, pss_cons (ps_set (i := 1) sc_ck_waive.nd rfl (Or.inl rfl) (pe_f GP hr (ha := pa_cons (pe_fld (pv 0) rfl) pa_nil)))
      (pss_cons (ps_if (pt_not (pt_truth (pv 1) (fun _ => rfl))) (pss_one (ps_ret (pe_lst (pa_cons (pk (T.cs ("OUT_OF_REACH", -33) (by decide +kernel))) pa_nil)))) pss_nil)
      (pss_cons (ps_set (i := 2) sc_ck_waive.nd rfl (Or.inr rfl) (pe_f GW hr (ha := pa_cons (pv 0) pa_nil)))
      (pss_cons (ps_setLc (i := 3) (own := [("place", 5)]) rfl sc_ck_waive.nd rfl rfl (sw_true rfl rfl rfl (by decide +kernel)) (pi_list (pv 1)) (blkOk_by (by rfl))
        (fun _ _ _ _ _ => pg_name (i := 5) sc_ck_waive.nd rfl (Or.inl rfl)) (fun _ _ _ _ _ => pts_nil) (fun _ _ _ _ _ => pe_f GC hr (ha := pa_cons (pixL K (pf K (pv 0)) (pv 5)) (pa_cons (pv 2) pa_nil))))
      (pss_cons (ps_set (i := 4) sc_ck_waive.nd rfl (Or.inl rfl) (pe_callB (cr_max rfl) (by rfl) (T.bn _ (by decide +kernel)) boot_max (pa_cons (pv 3) pa_nil)))
      (pss_one (ps_ret (pe_lst (pa_cons (pe_ix ix_list (pv 1) (pe_bm PySem.F.plainAttrs_list PySem.F.slot_list_index PySem.F.type_list_index mt_index (pv 3) (pa_cons (pv 4) pa_nil)) (fun _ _ => rfl)) (pa_cons (pv 4) pa_nil))))))))), ?_⟩
    obtain ⟨dx, pd, pl, pb, pq, hB, a1, a2, a3, a4⟩ := id hBk
    refine ⟨_, rfl, _, CB, _, _, _, rfl, hB, T.clB, T.nB _ (by decide +kernel), rfl, pd, _, rfl, a1, fun H1 p1 s1 n1 hp1 => ?_⟩
    rw [places_eq] at hp1
    have hx1 := hp1.nats
    refine ⟨_, rfl, _, .inl ⟨_, SqL.of hx1, rfl⟩, ?_⟩
    cases epl : places D.now with
    | nil =>
      have ea : act D .waive = (D, only (-33)) := by unfold act; dsimp only; rw [waive_nil epl]
      exact iteT ⟨one_line, fun r hr => q.q ea hBk s1 hr (told_only _)⟩
    | cons p0 rest =>
      refine iteF ?_
      have hne : places D.now ≠ [] := by rw [epl]; simp
      refine ⟨_, rfl, B, D, rfl, hBk.same s1, dk.now, fun H2 p2 s2 n2 hp2 => ?_⟩
      have hpl2 := hp1.same mono_RI s2
      refine ⟨_, rfl, p1, rfl, hpl2.sq, fun Dd hD => lc_gen (S := RZ) (vs := [5]) mono_RI fmono_RZ hpl2 hD (fun _ => true) (fun k => (D.now.relief k : Int)) (fun y k H' N Y hk hy s hN hY => ?_) fun H3 s3 hH => ?_⟩
      · obtain rfl : y = V.int k := hy
        have hs := mem_places.mp hk
        obtain ⟨dx, pd, pl, pb, pq, xs, x, hB, hd, hx, r, a1, a2⟩ := (hBk.same (s1.trans (s2.trans s))).duty (stands_lt hs)
        refine ⟨rfl, iteT (B := N H') ?_⟩
        refine ⟨_, rfl, _, CB, _, _, _, rfl, hB, T.clB, T.nB _ (by decide +kernel), rfl, _, rfl, _, _, _, _, rfl, rfl, SqL.of hd, hx, ?_⟩
        refine ⟨_, rfl, x, p2, _, _, _, rfl, r, hp2.same fmono_RW.mono s, conducts_ne _, fun H4 m s4 hm hle => ?_⟩
        rw [waive_map dk.now hs] at hm hle
        refine hY _ _ s4 rfl ?_
        show V.int _ = V.int _
        rw [least_min hm hle]
        exact congrArg V.int (relief_eq hs)
      · rw [filter_yes] at hH
        refine ⟨_, rfl, Dd, _, rfl, hH.ints, (by rw [List.length_map]; exact List.length_pos_iff.mpr hne), fun g hg hge => ?_⟩
        obtain ⟨j, hj, hfirst⟩ := first_at hg
        obtain ⟨p, hp, epv⟩ : ∃ p, (places D.now)[j]? = some p ∧ (D.now.relief p : Int) = g := by
          rw [List.getElem?_map] at hj
          cases e : (places D.now)[j]? with
          | none => rw [e] at hj; cases hj
          | some c => rw [e] at hj; exact ⟨c, rfl, Option.some.inj hj⟩
        have hw : D.now.waive = some p := by
          refine waive_at hp (fun x hx => ?_) fun i x hi hx e => ?_
          · have := hge _ (List.mem_map.mpr ⟨x, hx, rfl⟩)
            omega
          · refine hfirst i hi ?_
            rw [List.getElem?_map, hx, ← epv, ← e]
            rfl
        have ea : act D .waive = (D, ⟨Km483.n2i p, [D.now.relief p]⟩) := by unfold act; dsimp only; rw [hw]
        refine ⟨_, rfl, _, rfl, .inl ⟨rfl, _, hH.ints⟩, _, rfl, Dd, _, _, j, V.int g, rfl, rfl, hH.ints, rfl, ?_, ?_, ?_, ?_, ?_⟩
        · rw [List.all_eq_true]
          intro v hv
          obtain ⟨z, _, rfl⟩ := List.mem_map.mp hv
          rfl
        · rw [List.getElem?_map, hj]
          rfl
        · show (g == g) = true
          simp
        · intro i z' hi hz
          rw [List.getElem?_map] at hz
          cases e : (List.map (fun k => (D.now.relief k : Int)) (places D.now))[i]? with
          | none => rw [e] at hz; cases hz
          | some c =>
            rw [e] at hz
            obtain rfl : V.int c = z' := Option.some.inj hz
            have := hfirst i hi
            rw [e] at this
            show (c == g) = false
            exact beq_eq_false_iff_ne.mpr fun w => this (by rw [w])
        · refine ⟨p1, _, _, V.int p, rfl, rfl, SqL.of ((s2.trans s3) _ _ hx1), atI_nat (by rw [List.getElem?_map, hp]; rfl), ?_⟩
          refine ⟨_, rfl, two_line, fun r hr => q.q ea hBk (s1.trans (s2.trans s3)) hr ?_⟩
          rw [← epv]
          rfl
/-! ### ck_clash, ck_clashes -/
theorem ok_ck_clash (T : Txt K mg CD CB) (h : Has K mg "ck_clash" s_ck_clash ["book", "k", "l"]) (GH : DoesM P w K mg base CB 1 "has_duty" ["self", "place"] (spHasDuty CB)) (GC : Does P w K mg base 4 "clash" ["one", "other", "links"] (spClash CD)) :
    Does P w K mg base 5 "ck_clash" ["book", "k", "l"] (sp2 CD CB .clash) := by
  refine h.does sc_ck_clash (fun vs H Q E h => ?_) (fun f cdv A outer s H vs Q E hr h => ?_)
  · obtain ⟨_, _, _, _, rfl, _⟩ := h
    rfl
  · obtain ⟨B, D, k, l, rfl, hBk, dk, q⟩ := h
    refine ⟨_, pss_cons (ps_if (pt_not (pw_and (pt_val (pe_m GH T.clB hr (pv 0) (pa_cons (pv 1) pa_nil))) (pw_and1 (pt_val (pe_m GH T.clB hr (pv 0) (pa_cons (pv 2) pa_nil))))).pt) (pss_one (ps_ret (pe_lst (pa_cons (pk (T.cs ("NONE_THERE", -2) (by decide +kernel))) pa_nil)))) pss_nil)
      (pss_cons (ps_if (pt_cmpR op_eq (pv 1) (pv 2) (nomark _)) (pss_one (ps_ret (pe_lst (pa_cons (pk (T.cs ("NOT_ALLOWED", -22) (by decide +kernel))) pa_nil)))) pss_nil)
      (pss_one (ps_ret (pe_lst (pa_cons (pe_ifExp (pt_val (pe_f GC hr (ha := pa_cons (pe_ix ix_list (pe_fld (pv 0) rfl) (pv 1) (fun _ _ => rfl)) (pa_cons (pe_ix ix_list (pe_fld (pv 0) rfl) (pv 2) (fun _ _ => rfl)) (pa_cons (pe_fld (pv 0) rfl) pa_nil))))) pe_int pe_int) pa_nil))))), ?_⟩
    refine go_if (evt_not (evt_and (evt_b (ev_has_duty (i := 0) (j := 1) (k := k) hBk rfl rfl)) fun _ => evt_b (ev_has_duty (i := 0) (j := 2) (k := l) hBk rfl rfl))) (fun e => ?_) fun e => ?_
    · have hk : D.now.duties.length ≤ k ∨ D.now.duties.length ≤ l := by simpa using e
      have ea : act D (.clash k l) = (D, only (-2)) := by unfold act; dsimp only; rw [if_pos hk]
      exact ⟨one_line, fun r hr => q.q ea hBk (Same.refl _) hr (told_only _)⟩
    · have hk : k < D.now.duties.length ∧ l < D.now.duties.length := by simpa using e
      refine go_if (evt_test (ev_eq (ev_var rfl) (ev_var rfl) rfl)) (fun e => ?_) fun e => ?_
      · rw [dec_nat] at e
        have ea : act D (.clash k l) = (D, only (-22)) := by unfold act; dsimp only; rw [if_neg (by omega), if_pos (eq_of_beq e)]
        exact ⟨one_line, fun r hr => q.q ea hBk (Same.refl _) hr (told_only _)⟩
      · rw [dec_nat] at e
        have hkl : ¬ k = l := fun z => by rw [z] at e; simp at e
        have ea : act D (.clash k l) = (D, only (if D.now.clash (D.now.duty k) (D.now.duty l) = true then 1 else 0)) := by unfold act; dsimp only; rw [if_neg (by omega), if_neg hkl]
        obtain ⟨dx1, pd1, pl1, pb1, pf1, xs1, x1, b1, b2, b3, b4, b5, b6⟩ := hBk.duty hk.1
        obtain ⟨x2, c3, c4⟩ : ∃ x2, atI xs1 (l : Int) = some x2 ∧ RD CD H x2 (D.now.duty l) := by
          obtain ⟨ys, y, e1, e2, e3⟩ := b5.at_ (duty_at hk.2)
          rw [b2] at e1
          cases e1
          exact ⟨y, e2, e3⟩
        refine ⟨_, rfl, _, CB, _, _, _, rfl, b1, T.clB, T.nB _ (by decide +kernel), rfl, _, rfl, _, _, _, _, rfl, rfl, SqL.of b2, b3, _, rfl, _, CB, _, _, _, rfl, b1, T.clB, T.nB _ (by decide +kernel), rfl, _, rfl, _, _, _, _, rfl, rfl, SqL.of b2, c3, _, rfl, _, CB, _, _, _, rfl, b1, T.clB, T.nB _ (by decide +kernel), rfl, x1, x2, pl1, D.now, _, _, rfl, b4, c4, b6, dk.now, duty_mem hk.1, duty_mem hk.2, _, rfl, ?_⟩
        refine bool_if _ (fun e => ?_) fun e => ?_
        · refine ⟨one_line, fun r hr => q.q ea hBk (Same.refl _) hr ?_⟩
          rw [if_pos e]
          rfl
        · refine ⟨one_line, fun r hr => q.q ea hBk (Same.refl _) hr ?_⟩
          rw [if_neg (by rw [e]; simp)]
          rfl
theorem ok_ck_clashes (T : Txt K mg CD CB) (h : Has K mg "ck_clashes" s_ck_clashes ["book"]) (GP : Does P w K mg base 5 "clashing_pairs" ["book"] (spPairs CD CB)) : Does P w K mg base 6 "ck_clashes" ["book"] (sp0 CD CB .clashes) := by
  refine h.does sc_ck_clashes (fun vs H Q E h => ?_) (fun f cdv A outer s H vs Q E hr h => ?_)
  · obtain ⟨_, _, rfl, _⟩ := h
    rfl
  · obtain ⟨B, D, rfl, hBk, dk, q⟩ := h
    refine ⟨_, pss_cons (ps_set (i := 1) sc_ck_clashes.nd rfl (Or.inl rfl) (pe_f GP hr (ha := pa_cons (pv 0) pa_nil)))
      (pss_cons (ps_if (pt_not (pt_truth (pv 1) (fun _ => rfl))) (pss_one (ps_ret (pe_lst (pa_cons pe_int (pa_cons pe_int (pa_cons pe_int pa_nil)))))) pss_nil)
      (pss_one (ps_ret (pe_lst (pa_cons (pe_callB call_len_seq (by rfl) (T.bn _ (by decide +kernel)) PySem.boot_len (pa_cons (pv 1) pa_nil))
        (pa_cons (pe_ix ix_tup (pe_ix ix_list (pv 1) pe_int (fun _ _ => rfl)) pe_int (fun _ _ => rfl)) (pa_cons (pe_ix ix_tup (pe_ix ix_list (pv 1) pe_int (fun _ _ => rfl)) pe_int (fun _ _ => rfl)) pa_nil))))))), ?_⟩
    refine ⟨_, rfl, B, D, rfl, hBk, dk.now, fun H1 p1 s1 n1 hp1 => ?_⟩
    obtain ⟨xs, hx, hp, hz⟩ := hp1
    refine ⟨_, rfl, _, .inl ⟨xs, SqL.of hx, rfl⟩, ?_⟩
    cases epl : D.now.pairs with
    | nil =>
      rw [epl] at hp
      cases hp
      have ea : act D .clashes = (D, ⟨0, [0, 0]⟩) := by unfold act; dsimp only; rw [epl]
      exact iteT ⟨(by rw [sizeLine_eq]; show 3 ≤ 16777216; decide), fun r hr => q.q ea hBk s1 hr rfl⟩
    | cons pr rest =>
      rw [epl] at hp
      cases hp with
      | cons r0 rt =>
        obtain ⟨t, rfl, ht⟩ := r0
        refine iteF ?_
        have ea : act D .clashes = (D, ⟨Km483.n2i (rest.length + 1), [pr.1, pr.2]⟩) := by unfold act; dsimp only; rw [epl]
        have lx := paired_len rt
        refine ⟨_, rfl, p1, _, rfl, .inl (.of hx), ?_⟩
        refine ⟨_, rfl, p1, _, 0, _, rfl, rfl, SqL.of hx, atI_nat (j := 0) rfl, t, _, 0, _, rfl, rfl, SqT.of ht, rfl, ?_⟩
        refine ⟨_, rfl, p1, _, 0, _, rfl, rfl, SqL.of hx, atI_nat (j := 0) rfl, t, _, 1, _, rfl, rfl, SqT.of ht, rfl, ?_⟩
        refine ⟨(by rw [sizeLine_eq]; show 3 ≤ 16777216; decide), fun r hr => q.q ea hBk s1 hr ?_⟩
        rw [List.length_cons, lx]
        rfl
end
end My
namespace My
open PySem PySem.Spec PyProof.Rows L2
open Km483 (Desk Duty Link Book least act only)
open Km483Neutral (told)
def FinX (CD CB : Addr) (H : Hp) (B : Addr) (D : Desk) (x : Km483.Call) (Q : VK) : Prop :=
  ∀ H' r, SameBut B H H' → BookAt CD CB H' B (act D x).1 → ((∃ n m, x = .start n m) → ∀ R xs, H R = some (.lst xs) → BookAt CD CB (hid R H) B D → BookAt CD CB (hid R H') B (act D x).1) → H r = none → H' r = some (.lst ((told (act D x).2).map V.int)) → Q (.ref r) H'
theorem FinX.fin {CD CB : Addr} {H : Hp} {B : Addr} {D : Desk} {x : Km483.Call} {Q : VK} (k : FinX CD CB H B D x Q) (h : ¬ ∃ n m, x = .start n m) : Fin' CD CB H B (act D x) Q := fun H' r s b n e => k H' r s b (fun z => absurd z h) n e
theorem FinX.same {CD CB : Addr} {H H1 : Hp} {B : Addr} {D : Desk} {x : Km483.Call} {Q : VK} (k : FinX CD CB H B D x Q) (s : Same H H1) : FinX CD CB H1 B D x Q := fun H' r s' b av n e =>
  k H' r ((but_same s).trans s') b (fun hx R xs hR hb => av hx R xs (s _ _ hR) (hb.same (hid_same s))) (s.free n) e
def spStart (CD CB : Addr) : Sp := fun vs H Q _ => ∃ (B : Addr) (D : Desk) (x y : Nat), vs = [.ref B, .int x, .int y] ∧ BookAt CD CB H B D ∧ FinX CD CB H B D (.start x y) Q
def sp6 (CD CB : Addr) : Sp := fun vs H Q _ => ∃ (B : Addr) (D : Desk) (i j a x w d : Nat), vs = [.ref B, .int i, .int j, .int a, .int x, .int w, .int d] ∧ BookAt CD CB H B D ∧ DeskOk D ∧ Fin' CD CB H B (act D (.duty i j a x w d)) Q
theorem made_same {H : Hp} {x dx : Addr} {o1 o2 : HO} (hx : H x = none) (hd : H dx = none) : Same H (upd (upd H dx o1) x o2) := fun b o e => by
  rw [upd_ne (ne_of_none e hx), upd_ne (ne_of_none e hd)]
  exact e
theorem lD_depth (l : Link) : (lD l).depth ≤ 8 := Nat.le_of_ble_eq_true rfl
theorem in_eq (ls : List Link) (m : Link) : ((ls.map lD).any fun e => PyData.eqv e (lD m)) = ls.contains m := by
  rw [List.any_map, List.contains_eq_any_beq]
  congr 1
  funext l
  show PyData.eqv (lD l) (lD m) = (m == l)
  rw [link_eqv]
  by_cases h : l = m
  · subst h; simp
  · rw [decide_eq_false h]; exact (beq_eq_false_iff_ne.mpr fun z => h z.symm).symm
theorem cut_take (xs : List V) (k : Nat) : cutV xs none (some (k : Int)) = xs.take k := by
  unfold cutV
  rw [HT.sIx_none, HT.sIx_nat, List.drop_zero, Nat.sub_zero]
  by_cases h : k ≤ xs.length
  · rw [Nat.min_eq_left h]
  · rw [Nat.min_eq_right (by omega), List.take_of_length_le (Nat.le_refl _), List.take_of_length_le (by omega)]
theorem cut_drop (xs : List V) (k : Nat) : cutV xs (some (k : Int)) none = xs.drop k := by
  unfold cutV
  rw [HT.sIx_none, HT.sIx_nat]
  by_cases h : k ≤ xs.length
  · rw [Nat.min_eq_left h]
    exact List.take_of_length_le (by rw [List.length_drop]; exact Nat.le_refl _)
  · rw [Nat.min_eq_right (by omega), Nat.sub_self, List.take_zero, List.drop_of_length_le (by omega)]
section
variable {X : Cx}
theorem op_neDK (K : PySem.W.Frag) (hu : X.A.units + 64 < cLine) (hK : X.K = K := by rfl) : OpR X (compareOp .NotEq) (rNeD K) := by
  subst hK
  exact op_neD hu
end
section
variable {P : Program} {w : World} {K : PySem.W.Frag} {mg : Str → Option Value} {base : Heap} {CD CB : Addr}
theorem ok_ck_start (T : Txt K mg CD CB) (h : Has K mg "ck_start" s_ck_start ["book", "n", "m"]) (GB : DoesM P w K mg base CB 1 "begin" ["self", "acts", "states"] (spBegin CD CB)) : Does P w K mg base 2 "ck_start" ["book", "n", "m"] (spStart CD CB) := by
  refine h.does sc_ck_start (fun vs H Q E h => ?_) (fun f cdv A outer s H vs Q E hr h => ?_)
  · obtain ⟨_, _, _, _, rfl, _⟩ := h
    rfl
  · obtain ⟨B, D, n, m, rfl, hBk, q⟩ := h
    refine ⟨_, pss_cons (ps_if (pw_or (pt_cmpR op_lt (pv 1) pe_int (nomark _)) (pw_or (pt_cmpR op_gt (pv 1) (pk (T.cs ("MOST_ACTS", 8) (by decide +kernel))) (nomark _)) (pw_or (pt_cmpR op_lt (pv 2) (pk (T.cs ("LEAST_STATES", 2) (by decide +kernel))) (nomark _))
        (pw_or1 (pt_cmpR op_gt (pv 2) (pk (T.cs ("MOST_STATES", 6) (by decide +kernel))) (nomark _)))))).pt (pss_one (ps_ret (pe_lst (pa_cons (pk (T.cs ("NOT_ALLOWED", -22) (by decide +kernel))) pa_nil)))) pss_nil)
      (pss_cons (ps_expr (pe_m GB T.clB hr (pv 0) (pa_cons (pv 1) (pa_cons (pv 2) pa_nil)))) (pss_one (ps_ret (pe_lst (pa_cons pe_int pa_nil))))), ?_⟩
    have hA : Km483.ACTS = 8 := rfl
    have hS : Km483.STATES = 6 := rfl
    refine go_if (evt_or (evt_test (ev_i0 (ev_var rfl) ev_c)) (fun _ => evt_or (evt_test (ev_i0 (ev_var rfl) ev_c)) fun _ => evt_or (evt_test (ev_i0 (ev_var rfl) ev_c)) fun _ => evt_test (ev_i0 (ev_var rfl) ev_c))) (fun e => ?_) fun e => ?_
    · rw [Bool.or_eq_true, Bool.or_eq_true, Bool.or_eq_true, decide_eq_true_eq, decide_eq_true_eq, decide_eq_true_eq, decide_eq_true_eq] at e
      have ea : act D (.start n m) = (D, only (-22)) := by unfold act; dsimp only; rw [if_pos (by omega)]
      refine ⟨one_line, fun r hr => ?_⟩
      have s2 := same_new (o := .lst [.int (-22)]) hr
      unfold FinX at q
      rw [ea] at q
      exact q _ r (but_same s2) (hBk.same s2) (fun _ R xs hR hb => hb.same (hid_same s2)) hr upd_same
    · rw [Bool.or_eq_false_iff, Bool.or_eq_false_iff, Bool.or_eq_false_iff, decide_eq_false_iff_not, decide_eq_false_iff_not, decide_eq_false_iff_not, decide_eq_false_iff_not] at e
      have ea : act D (.start n m) = (⟨⟨n, m, [], []⟩, [], []⟩, only 0) := by unfold act; dsimp only; rw [if_neg (by omega)]
      obtain ⟨dx, pd, pl, pb, pq, hB, a1, a2, a3, a4⟩ := hBk
      refine ⟨_, rfl, B, dx, _, rfl, hB, rfl, _, rfl, _, rfl, B, dx, _, n, m, rfl, hB, .inr ⟨_, _, _, _, _, _, rfl⟩, fun H1 s1 hb1 av => ⟨one_line, fun r hr => ?_⟩⟩
      have s2 := same_new (o := .lst [.int 0]) hr
      unfold FinX at q
      rw [ea] at q
      obtain ⟨dx1, pd1, pl1, pb1, pf1, hB1, _⟩ := id hb1
      exact q _ r (s1.trans (but_same s2)) (hb1.same s2) (fun _ R xs hR _ => (av R xs hR).same (hid_same s2)) (but_free s1 hB1 hr) upd_same
theorem ok_ck_duty (T : Txt K mg CD CB) (h : Has K mg "ck_duty" s_ck_duty ["book", "i", "j", "a", "x", "w", "d"]) (GS : DoesM P w K mg base CB 1 "has_state" ["self", "state"] (spHasState CB)) (GA : DoesM P w K mg base CB 1 "has_act" ["self", "act"] (spHasAct CB))
    (GD : DoesC P w K mg base CD 1 "Duty" ["self", "debtor", "creditor", "act", "owed", "weight", "day"] (spDuty CD)) (GC : DoesM P w K mg base CB 2 "change" ["self", "duties", "links"] (spChange CD CB)) :
    Does P w K mg base 3 "ck_duty" ["book", "i", "j", "a", "x", "w", "d"] (sp6 CD CB) := by
  refine h.does sc_ck_duty (fun vs H Q E h => ?_) (fun f cdv A outer s H vs Q E hr h => ?_)
  · obtain ⟨_, _, _, _, _, _, _, _, rfl, _⟩ := h
    rfl
  · obtain ⟨B, D, i, j, a, x, w', t, rfl, hBk, dk, q⟩ := h
    refine ⟨_, pss_cons (ps_if (pt_not (pw_and (pt_val (pe_m GS T.clB hr (pv 0) (pa_cons (pv 1) pa_nil))) (pw_and (pt_val (pe_m GS T.clB hr (pv 0) (pa_cons (pv 2) pa_nil))) (pw_and1 (pt_val (pe_m GA T.clB hr (pv 0) (pa_cons (pv 3) pa_nil)))))).pt)
        (pss_one (ps_ret (pe_lst (pa_cons (pk (T.cs ("NONE_THERE", -2) (by decide +kernel))) pa_nil)))) pss_nil)
      (pss_cons (ps_if (pw_or (pt_cmpR op_eq (pv 1) (pv 2) (nomark _)) (pw_or (pt_cmpR op_gt (pv 4) pe_int (nomark _)) (pw_or (pt_cmpR op_lt (pv 5) pe_int (nomark _)) (pw_or (pt_cmpR op_gt (pv 5) (pk (T.cs ("MOST_WEIGHT", 50) (by decide +kernel))) (nomark _))
        (pw_or1 (pt_cmpR op_gt (pv 6) (pk (T.cs ("LAST_DAY", 10000) (by decide +kernel))) (nomark _))))))).pt (pss_one (ps_ret (pe_lst (pa_cons (pk (T.cs ("NOT_ALLOWED", -22) (by decide +kernel))) pa_nil)))) pss_nil)
      (pss_cons (ps_set (i := 7) sc_ck_duty.nd rfl (Or.inl rfl) (pe_callB call_len_seq (by rfl) (T.bn _ (by decide +kernel)) PySem.boot_len (pa_cons (pe_fld (pv 0) rfl) pa_nil)))
      (pss_cons (ps_if (pt_cmpR op_eq (pv 7) (pk (T.cs ("MOST_DUTIES", 16) (by decide +kernel))) (nomark _)) (pss_one (ps_ret (pe_lst (pa_cons (pk (T.cs ("FULL", -28) (by decide +kernel))) pa_nil)))) pss_nil)
      (pss_cons (ps_expr (pe_m GC T.clB hr (pv 0) (pa_cons (pe_op op_cat (pe_fld (pv 0) rfl) (pe_lst (pa_cons (pe_c GD hr (ha := pa_cons (pv 1) (pa_cons (pv 2) (pa_cons (pv 3) (pa_cons (pv 4) (pa_cons (pv 5) (pa_cons (pv 6) pa_nil))))))) pa_nil))) (pa_cons (pe_fld (pv 0) rfl) pa_nil))))
      (pss_one (ps_ret (pe_lst (pa_cons (pv 7) pa_nil)))))))), ?_⟩
    have hH : Km483.HEAVY = 50 := rfl
    have hL : Km483.LAST = 10000 := rfl
    have hDU : Km483.DUTIES = 16 := rfl
    obtain ⟨dx, pd, pl, pb, pq, hB, a1, a2, a3, a4⟩ := id hBk
    refine go_if (evt_not (evt_and (evt_b (ev_has_state (i := 0) (j := 1) (k := i) hBk rfl rfl)) fun _ => evt_and (evt_b (ev_has_state (i := 0) (j := 2) (k := j) hBk rfl rfl)) fun _ => evt_b (ev_has_act (i := 0) (j := 3) (k := a) hBk rfl rfl))) (fun e => ?_) fun e => ?_
    · have hk : D.now.m ≤ i ∨ D.now.m ≤ j ∨ D.now.n ≤ a := by simpa using e
      have ea : act D (.duty i j a x w' t) = (D, only (-2)) := by unfold act; dsimp only; rw [if_pos hk]
      exact ⟨one_line, fun r hr => q.q ea hBk (Same.refl _) hr (told_only _)⟩
    · have hk : i < D.now.m ∧ j < D.now.m ∧ a < D.now.n := by simpa using e
      refine go_if (evt_or (evt_test (ev_eq (ev_var rfl) (ev_var rfl) rfl)) (fun _ => evt_or (evt_test (ev_i0 (ev_var rfl) ev_c)) fun _ => evt_or (evt_test (ev_i0 (ev_var rfl) ev_c)) fun _ => evt_or (evt_test (ev_i0 (ev_var rfl) ev_c)) fun _ => evt_test (ev_i0 (ev_var rfl) ev_c))) (fun e => ?_) fun e => ?_
      · rw [dec_nat, Bool.or_eq_true, Bool.or_eq_true, Bool.or_eq_true, Bool.or_eq_true, beq_iff_eq, decide_eq_true_eq, decide_eq_true_eq, decide_eq_true_eq, decide_eq_true_eq] at e
        have ea : act D (.duty i j a x w' t) = (D, only (-22)) := by unfold act; dsimp only; rw [if_neg (by omega), if_pos (by omega)]
        exact ⟨one_line, fun r hr => q.q ea hBk (Same.refl _) hr (told_only _)⟩
      · rw [dec_nat, Bool.or_eq_false_iff, Bool.or_eq_false_iff, Bool.or_eq_false_iff, Bool.or_eq_false_iff, beq_eq_false_iff_ne, decide_eq_false_iff_not, decide_eq_false_iff_not, decide_eq_false_iff_not, decide_eq_false_iff_not] at e
        obtain ⟨xs, hx, px, hz⟩ := id a1
        have lx := paired_len px
        refine ⟨_, rfl, B, CB, dx, _, _, rfl, hB, T.clB, T.nB _ (by decide +kernel), rfl, pd, xs, rfl, .inl (.of hx), ?_⟩
        rw [lx]
        have dl := dk.now.dl
        refine go_if (evt_test (ev_eq (ev_var rfl) ev_c rfl)) (fun e2 => ?_) fun e2 => ?_
        · rw [My.dec_int, decide_eq_true_eq] at e2
          have ea : act D (.duty i j a x w' t) = (D, only (-28)) := by unfold act; dsimp only; rw [if_neg (by omega), if_neg (by omega), if_pos (by omega)]
          exact ⟨one_line, fun r hr => q.q ea hBk (Same.refl _) hr (told_only _)⟩
        · rw [My.dec_int, decide_eq_false_iff_not] at e2
          have ea : act D (.duty i j a x w' t) = (D.become { D.now with duties := D.now.duties ++ [⟨i, j, a, x, w', t⟩] }, only (Km483.n2i D.now.duties.length)) := by
            unfold act; dsimp only; rw [if_neg (by omega), if_neg (by omega), if_neg (by omega)]
          refine ⟨_, rfl, B, dx, _, rfl, hB, rfl, _, rfl, B, CB, dx, _, _, rfl, hB, T.clB, T.nB _ (by decide +kernel), rfl, ?_⟩
          refine ⟨_, rfl, _, rfl, _, rfl, _, rfl, _, rfl, _, rfl, fun u du hu hdu hne => ⟨u, du, ⟨i, j, a, x, w', t⟩, rfl, upd_same, rfl, one_line, fun c hc => ?_⟩⟩
          rw [upd_upd] at hc ⊢
          have s1 : Same H (upd (upd H du (.own u)) u (.ins CD du (dF ⟨i, j, a, x, w', t⟩))) := made_same hu hdu
          have u1 : (upd (upd H du (.own u)) u (.ins CD du (dF ⟨i, j, a, x, w', t⟩))) u = some (.ins CD du (dF ⟨i, j, a, x, w', t⟩)) := upd_same
          generalize upd (upd H du (.own u)) u (.ins CD du (dF ⟨i, j, a, x, w', t⟩)) = H1 at hc s1 u1 ⊢
          have s2 := s1.trans (same_new (o := .lst [.ref u]) hc)
          have u2 := same_new (o := .lst [.ref u]) hc _ _ u1
          have c2 : (upd H1 c (.lst [.ref u])) c = some (.lst [.ref u]) := upd_same
          generalize upd H1 c (.lst [.ref u]) = H2 at s2 u2 c2 ⊢
          refine ⟨pd, c, xs, [.ref u], rfl, rfl, s2 _ _ hx, c2, (by rw [sizeLine_eq]; show xs.length + 1 ≤ _; omega), fun r hr => ?_⟩
          have s3 := s2.trans (same_new (o := .lst (xs ++ [.ref u])) hr)
          have u3 := same_new (o := .lst (xs ++ [.ref u])) hr _ _ u2
          have r3 : (upd H2 r (.lst (xs ++ [.ref u]))) r = some (.lst (xs ++ [.ref u])) := upd_same
          generalize upd H2 r (.lst (xs ++ [.ref u])) = H3 at s3 u3 r3 ⊢
          refine ⟨_, rfl, B, CB, dx, _, _, rfl, s3 _ _ hB, T.clB, T.nB _ (by decide +kernel), rfl, ?_⟩
          have len := dk.len
          refine ⟨B, r, pl, D, _, _, rfl, hBk.same s3, by omega, ⟨_, r3, paired_app (paired_imp (fun _ _ r => mono_RD _ _ _ _ s3 r) px) (.cons ⟨u, du, rfl, u3⟩ .nil), by rw [List.length_append, List.length_singleton]; omega⟩, a2.same mono_RL s3, fun H4 s4 hb4 => ?_⟩
          exact ⟨_, rfl, one_line, fun r hr => q.c ea hb4 ((but_same s3).trans s4) hr rfl⟩
theorem ok_ck_drop (T : Txt K mg CD CB) (h : Has K mg "ck_drop" s_ck_drop ["book", "k"]) (GH : DoesM P w K mg base CB 1 "has_duty" ["self", "place"] (spHasDuty CB)) (GC : DoesM P w K mg base CB 2 "change" ["self", "duties", "links"] (spChange CD CB)) :
    Does P w K mg base 3 "ck_drop" ["book", "k"] (sp1 CD CB .drop) := by
  refine h.does sc_ck_drop (fun vs H Q E h => ?_) (fun f cdv A outer s H vs Q E hr h => ?_)
  · obtain ⟨_, _, _, rfl, _⟩ := h
    rfl
  · obtain ⟨B, D, k, rfl, hBk, dk, q⟩ := h
    refine ⟨_, pss_cons (ps_if (pt_not (pt_val (pe_m GH T.clB hr (pv 0) (pa_cons (pv 1) pa_nil)))) (pss_one (ps_ret (pe_lst (pa_cons (pk (T.cs ("NONE_THERE", -2) (by decide +kernel))) pa_nil)))) pss_nil)
      (pss_cons (ps_expr (pe_m GC T.clB hr (pv 0) (pa_cons (pe_op op_cat (pe_slice sl_list (pe_fld (pv 0) rfl) po_none (po_some (pv 1))) (pe_slice sl_list (pe_fld (pv 0) rfl) (po_some (pe_op op_add (pv 1) pe_int)) po_none)) (pa_cons (pe_fld (pv 0) rfl) pa_nil))))
      (pss_one (ps_ret (pe_lst (pa_cons (pe_callB call_len_seq (by rfl) (T.bn _ (by decide +kernel)) PySem.boot_len (pa_cons (pe_fld (pv 0) rfl) pa_nil)) pa_nil))))), ?_⟩
    refine go_if (evt_not (evt_b (ev_has_duty (i := 0) (j := 1) (k := k) hBk rfl rfl))) (fun e => ?_) fun e => ?_
    · have hk : D.now.duties.length ≤ k := by
        have : ¬ k < D.now.duties.length := by simpa using e
        omega
      have ea : act D (.drop k) = (D, only (-2)) := by unfold act; dsimp only; rw [if_pos hk]
      exact ⟨one_line, fun r hr => q.q ea hBk (Same.refl _) hr (told_only _)⟩
    · have hk : k < D.now.duties.length := by simpa using e
      have ea : act D (.drop k) = (D.become (D.now.without k), only (Km483.n2i (D.now.duties.length - 1))) := by unfold act; dsimp only; rw [if_neg (by omega)]
      obtain ⟨dx, pd, pl, pb, pq, hB, a1, a2, a3, a4⟩ := id hBk
      obtain ⟨xs, hx, px, hz⟩ := id a1
      have lx := paired_len px
      have dl := dk.now.dl
      refine ⟨_, rfl, B, dx, _, rfl, hB, rfl, _, rfl, B, CB, dx, _, _, rfl, hB, T.clB, T.nB _ (by decide +kernel), rfl, _, rfl, (k : Int), rfl, pd, xs, rfl, .of hx, fun p1 h1 => ?_⟩
      rw [cut_take]
      have s1 := same_new (o := .lst (xs.take k)) h1
      have e1 : (upd H p1 (.lst (xs.take k))) p1 = some (.lst (xs.take k)) := upd_same
      generalize upd H p1 (.lst (xs.take k)) = H1 at s1 e1 ⊢
      refine ⟨_, rfl, B, CB, dx, _, _, rfl, s1 _ _ hB, T.clB, T.nB _ (by decide +kernel), rfl, _, rfl, _, _, rfl, rfl, ((k + 1 : Nat) : Int), rfl, pd, xs, rfl, .of (s1 _ _ hx), fun p2 h2 => ?_⟩
      rw [cut_drop]
      have s2 := s1.trans (same_new (o := .lst (xs.drop (k + 1))) h2)
      have e2 := same_new (o := .lst (xs.drop (k + 1))) h2 _ _ e1
      have e3 : (upd H1 p2 (.lst (xs.drop (k + 1)))) p2 = some (.lst (xs.drop (k + 1))) := upd_same
      generalize upd H1 p2 (.lst (xs.drop (k + 1))) = H2 at s2 e2 e3 ⊢
      refine ⟨p1, p2, _, _, rfl, rfl, e2, e3, (by rw [sizeLine_eq, List.length_take, List.length_drop]; omega), fun r hr => ?_⟩
      have s3 := s2.trans (same_new (o := .lst (xs.take k ++ xs.drop (k + 1))) hr)
      have r3 : (upd H2 r (.lst (xs.take k ++ xs.drop (k + 1)))) r = some (.lst (xs.take k ++ xs.drop (k + 1))) := upd_same
      generalize upd H2 r (.lst (xs.take k ++ xs.drop (k + 1))) = H3 at s3 r3 ⊢
      refine ⟨_, rfl, B, CB, dx, _, _, rfl, s3 _ _ hB, T.clB, T.nB _ (by decide +kernel), rfl, ?_⟩
      have len := dk.len
      have px3 := paired_imp (fun _ _ r => mono_RD _ _ _ _ s3 r) px
      refine ⟨B, r, pl, D, _, _, rfl, hBk.same s3, by omega, ⟨_, r3, paired_app (paired_take k px3) (paired_drop (k + 1) px3), by rw [List.length_append, List.length_take, List.length_drop]; omega⟩, a2.same mono_RL s3, fun H4 s4 hb4 => ?_⟩
      obtain ⟨dx4, pd4, pl4, pb4, pf4, hB4, c1, _⟩ := id hb4
      obtain ⟨ys, hy, ly⟩ := c1.len
      refine ⟨_, rfl, B, CB, dx4, _, _, rfl, hB4, T.clB, T.nB _ (by decide +kernel), rfl, pd4, ys, rfl, .inl (.of hy), one_line, fun r hr => q.c ea hb4 ((but_same s3).trans s4) hr ?_⟩
      rw [ly]
      have e5 : (D.now.duties.take k ++ D.now.duties.drop (k + 1)).length = D.now.duties.length - 1 := by
        rw [List.length_append, List.length_take, List.length_drop]; omega
      show [V.int ((D.now.duties.take k ++ D.now.duties.drop (k + 1)).length : Int)] = _
      rw [e5]
      rfl
theorem ok_ck_needs (T : Txt K mg CD CB) (h : Has K mg "ck_needs" s_ck_needs ["book", "a", "b"]) (GA : DoesM P w K mg base CB 1 "has_act" ["self", "act"] (spHasAct CB)) (GC : DoesM P w K mg base CB 2 "change" ["self", "duties", "links"] (spChange CD CB)) :
    Does P w K mg base 3 "ck_needs" ["book", "a", "b"] (sp2 CD CB .needs) := by
  refine h.does sc_ck_needs (fun vs H Q E h => ?_) (fun f cdv A outer s H vs Q E hr h => ?_)
  · obtain ⟨_, _, _, _, rfl, _⟩ := h
    rfl
  · obtain ⟨B, D, a, b, rfl, hBk, dk, q⟩ := h
    refine ⟨_, pss_cons (ps_if (pt_not (pw_and (pt_val (pe_m GA T.clB hr (pv 0) (pa_cons (pv 1) pa_nil))) (pw_and1 (pt_val (pe_m GA T.clB hr (pv 0) (pa_cons (pv 2) pa_nil))))).pt) (pss_one (ps_ret (pe_lst (pa_cons (pk (T.cs ("NONE_THERE", -2) (by decide +kernel))) pa_nil)))) pss_nil)
      (pss_cons (ps_if (pt_cmpR op_eq (pv 1) (pv 2) (nomark _)) (pss_one (ps_ret (pe_lst (pa_cons (pk (T.cs ("NOT_ALLOWED", -22) (by decide +kernel))) pa_nil)))) pss_nil)
      (pss_cons (ps_if (pt_cmpR (op_inD hr.units) (pe_tup (pa_cons (pv 1) (pa_cons (pv 2) pa_nil))) (pe_fld (pv 0) rfl) rfl) (pss_one (ps_ret (pe_lst (pa_cons (pk (T.cs ("THERE_ALREADY", -17) (by decide +kernel))) pa_nil)))) pss_nil)
      (pss_cons (ps_if (pt_cmpR op_eq (pe_callB call_len_seq (by rfl) (T.bn _ (by decide +kernel)) PySem.boot_len (pa_cons (pe_fld (pv 0) rfl) pa_nil)) (pk (T.cs ("MOST_LINKS", 12) (by decide +kernel))) (nomark _)) (pss_one (ps_ret (pe_lst (pa_cons (pk (T.cs ("FULL", -28) (by decide +kernel))) pa_nil)))) pss_nil)
      (pss_cons (ps_expr (pe_m GC T.clB hr (pv 0) (pa_cons (pe_fld (pv 0) rfl) (pa_cons (pe_op op_cat (pe_fld (pv 0) rfl) (pe_lst (pa_cons (pe_tup (pa_cons (pv 1) (pa_cons (pv 2) pa_nil))) pa_nil))) pa_nil))))
      (pss_one (ps_ret (pe_lst (pa_cons (pe_callB call_len_seq (by rfl) (T.bn _ (by decide +kernel)) PySem.boot_len (pa_cons (pe_fld (pv 0) rfl) pa_nil)) pa_nil)))))))), ?_⟩
    have hLI : Km483.LINKS = 12 := rfl
    refine go_if (evt_not (evt_and (evt_b (ev_has_act (i := 0) (j := 1) (k := a) hBk rfl rfl)) fun _ => evt_b (ev_has_act (i := 0) (j := 2) (k := b) hBk rfl rfl))) (fun e => ?_) fun e => ?_
    · have hk : D.now.n ≤ a ∨ D.now.n ≤ b := by simpa using e
      have ea : act D (.needs a b) = (D, only (-2)) := by unfold act; dsimp only; rw [if_pos hk]
      exact ⟨one_line, fun r hr => q.q ea hBk (Same.refl _) hr (told_only _)⟩
    · have hk : a < D.now.n ∧ b < D.now.n := by simpa using e
      refine go_if (evt_test (ev_eq (ev_var rfl) (ev_var rfl) rfl)) (fun e => ?_) fun e => ?_
      · rw [dec_nat] at e
        have ea : act D (.needs a b) = (D, only (-22)) := by unfold act; dsimp only; rw [if_neg (by omega), if_pos (eq_of_beq e)]
        exact ⟨one_line, fun r hr => q.q ea hBk (Same.refl _) hr (told_only _)⟩
      · rw [dec_nat] at e
        have hab : ¬ a = b := fun z => by rw [z] at e; simp at e
        refine ⟨_, rfl, _, rfl, two_line, fun t ht => ?_⟩
        have s1 := same_new (o := .tup [.int (a : Int), .int (b : Int)]) ht
        have t1 : (upd H t (.tup [.int (a : Int), .int (b : Int)])) t = some (.tup [.int (a : Int), .int (b : Int)]) := upd_same
        generalize upd H t (.tup [.int (a : Int), .int (b : Int)]) = H1 at s1 t1 ⊢
        have hB1 := hBk.same s1
        obtain ⟨dx, pd, pl, pb, pq, hB, a1, a2, a3, a4⟩ := id hB1
        obtain ⟨xs, hx, px, hz⟩ := id a2
        have lx := paired_len px
        have ll := dk.now.ll
        refine ⟨_, rfl, B, CB, dx, _, _, rfl, hB, T.clB, T.nB _ (by decide +kernel), rfl, lD ⟨a, b⟩, D.now.links.map lD, link_dp ⟨t, rfl, t1⟩, .lst (.of hx) (links_dp px), links_lay _, rfl, lD_depth _, _, rfl, ?_⟩
        show if (D.now.links.map lD).any (fun e => PyData.eqv e (lD ⟨a, b⟩)) = true then _ else _
        rw [in_eq]
        refine bool_if _ (fun e => ?_) fun e => ?_
        · have ea : act D (.needs a b) = (D, only (-17)) := by unfold act; dsimp only; rw [if_neg (by omega), if_neg hab, if_pos e]
          exact ⟨one_line, fun r hr => q.q ea hBk s1 hr (told_only _)⟩
        · refine ⟨_, rfl, B, CB, dx, _, _, rfl, hB, T.clB, T.nB _ (by decide +kernel), rfl, pl, xs, rfl, .inl (.of hx), rfl, _, rfl, ?_⟩
          rw [lx]
          refine bool_if _ (fun e2 => ?_) fun e2 => ?_
          · rw [My.dec_int, decide_eq_true_eq] at e2
            have ea : act D (.needs a b) = (D, only (-28)) := by unfold act; dsimp only; rw [if_neg (by omega), if_neg hab, if_neg (by rw [e]; simp), if_pos (by omega)]
            exact ⟨one_line, fun r hr => q.q ea hBk s1 hr (told_only _)⟩
          · rw [My.dec_int, decide_eq_false_iff_not] at e2
            have ea : act D (.needs a b) = (D.become { D.now with links := D.now.links ++ [⟨a, b⟩] }, only (Km483.n2i (D.now.links.length + 1))) := by
              unfold act; dsimp only; rw [if_neg (by omega), if_neg hab, if_neg (by rw [e]; simp), if_neg (by omega)]
            refine ⟨_, rfl, B, dx, _, rfl, hB, rfl, _, rfl, B, CB, dx, _, _, rfl, hB, T.clB, T.nB _ (by decide +kernel), rfl, ?_⟩
            refine ⟨_, rfl, B, CB, dx, _, _, rfl, hB, T.clB, T.nB _ (by decide +kernel), rfl, _, rfl, _, rfl, two_line, fun u hu => ⟨one_line, fun c hc => ?_⟩⟩
            have s2 := same_new (o := .tup [.int (a : Int), .int (b : Int)]) hu
            have u2 : (upd H1 u (.tup [.int (a : Int), .int (b : Int)])) u = some (.tup [.int (a : Int), .int (b : Int)]) := upd_same
            generalize upd H1 u (.tup [.int (a : Int), .int (b : Int)]) = H2 at hc s2 u2 ⊢
            have s3 := s2.trans (same_new (o := .lst [.ref u]) hc)
            have u3 := same_new (o := .lst [.ref u]) hc _ _ u2
            have c3 : (upd H2 c (.lst [.ref u])) c = some (.lst [.ref u]) := upd_same
            generalize upd H2 c (.lst [.ref u]) = H3 at s3 u3 c3 ⊢
            refine ⟨pl, c, xs, [.ref u], rfl, rfl, s3 _ _ hx, c3, (by rw [sizeLine_eq]; show xs.length + 1 ≤ _; omega), fun r hr => ?_⟩
            have s4 := s3.trans (same_new (o := .lst (xs ++ [.ref u])) hr)
            have u4 := same_new (o := .lst (xs ++ [.ref u])) hr _ _ u3
            have r4 : (upd H3 r (.lst (xs ++ [.ref u]))) r = some (.lst (xs ++ [.ref u])) := upd_same
            generalize upd H3 r (.lst (xs ++ [.ref u])) = H4 at s4 u4 r4 ⊢
            have len := dk.len
            refine ⟨B, pd, r, D, _, D.now.links ++ [(⟨a, b⟩ : Link)], rfl, hB1.same s4, by omega, a1.same mono_RD s4, ⟨_, r4, paired_app (paired_imp (fun _ _ r => mono_RL _ _ _ _ s4 r) px) (.cons ⟨u, rfl, u4⟩ .nil), by rw [List.length_append, List.length_singleton]; omega⟩, fun H5 s5 hb5 => ?_⟩
            obtain ⟨dx5, pd5, pl5, pb5, pf5, hB5, _, c2, _⟩ := id hb5
            obtain ⟨ys, hy, ly⟩ := c2.len
            refine ⟨_, rfl, B, CB, dx5, _, _, rfl, hB5, T.clB, T.nB _ (by decide +kernel), rfl, pl5, ys, rfl, .inl (.of hy), one_line, fun r hr => q.c ea hb5 ((but_same (s1.trans s4)).trans s5) hr ?_⟩
            rw [ly]
            show [V.int ((D.now.links ++ [(⟨a, b⟩ : Link)]).length : Int)] = _
            rw [List.length_append, List.length_singleton]
            rfl
theorem ok_ck_free (T : Txt K mg CD CB) (h : Has K mg "ck_free" s_ck_free ["book", "a", "b"]) (GA : DoesM P w K mg base CB 1 "has_act" ["self", "act"] (spHasAct CB)) (GC : DoesM P w K mg base CB 2 "change" ["self", "duties", "links"] (spChange CD CB)) :
    Does P w K mg base 3 "ck_free" ["book", "a", "b"] (sp2 CD CB .free) := by
  refine h.does sc_ck_free (fun vs H Q E h => ?_) (fun f cdv A outer s H vs Q E hr h => ?_)
  · obtain ⟨_, _, _, _, rfl, _⟩ := h
    rfl
  · obtain ⟨B, D, a, b, rfl, hBk, dk, q⟩ := h
    refine ⟨_, pss_cons (ps_if (pt_not (pw_and (pt_val (pe_m GA T.clB hr (pv 0) (pa_cons (pv 1) pa_nil))) (pw_and1 (pt_val (pe_m GA T.clB hr (pv 0) (pa_cons (pv 2) pa_nil))))).pt) (pss_one (ps_ret (pe_lst (pa_cons (pk (T.cs ("NONE_THERE", -2) (by decide +kernel))) pa_nil)))) pss_nil)
      (pss_cons (ps_if (pt_cmpR (op_notInD hr.units) (pe_tup (pa_cons (pv 1) (pa_cons (pv 2) pa_nil))) (pe_fld (pv 0) rfl) rfl) (pss_one (ps_ret (pe_lst (pa_cons (pk (T.cs ("NO_SUCH", -6) (by decide +kernel))) pa_nil)))) pss_nil)
      (pss_cons (ps_expr (pe_m GC T.clB hr (pv 0) (pa_cons (pe_fld (pv 0) rfl) (pa_cons (pe_lc (own := [("link", 3)]) rfl sc_ck_free.nd (pi_list (pe_fld (pv 0) rfl)) (blkOk_by (by rfl))
        (fun _ _ _ _ _ => pg_name (i := 3) sc_ck_free.nd rfl (Or.inl rfl)) (fun _ _ _ _ _ => pts_one (pt_cmpR (op_neDK K hr.units) (pv 3) (pe_tup (pa_cons (pv 1) (pa_cons (pv 2) pa_nil))) (nomark _))) (fun _ _ _ _ _ => pv 3)) pa_nil))))
      (pss_one (ps_ret (pe_lst (pa_cons (pe_callB call_len_seq (by rfl) (T.bn _ (by decide +kernel)) PySem.boot_len (pa_cons (pe_fld (pv 0) rfl) pa_nil)) pa_nil)))))), ?_⟩
    refine go_if (evt_not (evt_and (evt_b (ev_has_act (i := 0) (j := 1) (k := a) hBk rfl rfl)) fun _ => evt_b (ev_has_act (i := 0) (j := 2) (k := b) hBk rfl rfl))) (fun e => ?_) fun e => ?_
    · have hk : D.now.n ≤ a ∨ D.now.n ≤ b := by simpa using e
      have ea : act D (.free a b) = (D, only (-2)) := by unfold act; dsimp only; rw [if_pos hk]
      exact ⟨one_line, fun r hr => q.q ea hBk (Same.refl _) hr (told_only _)⟩
    · have hk : a < D.now.n ∧ b < D.now.n := by simpa using e
      refine ⟨_, rfl, _, rfl, two_line, fun t ht => ?_⟩
      have s1 := same_new (o := .tup [.int (a : Int), .int (b : Int)]) ht
      have t1 : (upd H t (.tup [.int (a : Int), .int (b : Int)])) t = some (.tup [.int (a : Int), .int (b : Int)]) := upd_same
      generalize upd H t (.tup [.int (a : Int), .int (b : Int)]) = H1 at s1 t1 ⊢
      have hB1 := hBk.same s1
      obtain ⟨dx, pd, pl, pb, pq, hB, a1, a2, a3, a4⟩ := id hB1
      obtain ⟨xs, hx, px, hz⟩ := id a2
      refine ⟨_, rfl, B, CB, dx, _, _, rfl, hB, T.clB, T.nB _ (by decide +kernel), rfl, lD ⟨a, b⟩, D.now.links.map lD, link_dp ⟨t, rfl, t1⟩, .lst (.of hx) (links_dp px), links_lay _, rfl, lD_depth _, _, rfl, ?_⟩
      show if (!((D.now.links.map lD).any (fun e => PyData.eqv e (lD ⟨a, b⟩)))) = true then _ else _
      rw [in_eq]
      refine bool_if _ (fun e => ?_) fun e => ?_
      · have ec : D.now.links.contains (⟨a, b⟩ : Link) = false := by simpa using e
        have ea : act D (.free a b) = (D, only (-6)) := by unfold act; dsimp only; rw [if_neg (by omega), if_pos ec]
        exact ⟨one_line, fun r hr => q.q ea hBk s1 hr (told_only _)⟩
      · have ec : D.now.links.contains (⟨a, b⟩ : Link) = true := nn e
        have ea : act D (.free a b) = (D.become { D.now with links := D.now.links.filter (· != ⟨a, b⟩) }, only (Km483.n2i (D.now.links.length - 1))) := by
          unfold act; dsimp only; rw [if_neg (by omega), if_neg (by rw [ec]; simp)]
        refine ⟨_, rfl, B, dx, _, rfl, hB, rfl, _, rfl, B, CB, dx, _, _, rfl, hB, T.clB, T.nB _ (by decide +kernel), rfl, ?_⟩
        refine ⟨_, rfl, B, CB, dx, _, _, rfl, hB, T.clB, T.nB _ (by decide +kernel), rfl, pl, rfl, a2.sq, fun Dd hD => lc_gen (S := RL) (vs := [3]) mono_RL fmono_RL a2 hD (fun l => l != ⟨a, b⟩) (fun l => l) (fun y l H' N Y hl hy s hN hY => ?_) fun H2 s2 hH => ?_⟩
        · refine ⟨rfl, _, rfl, _, rfl, _, rfl, two_line, fun u hu => ?_⟩
          have s3 := same_new (o := .tup [.int (a : Int), .int (b : Int)]) hu
          refine ⟨lD l, lD ⟨a, b⟩, link_dp (mono_RL _ _ _ _ s3 hy), link_dp ⟨u, rfl, upd_same⟩, rfl, rfl, _, rfl, ?_⟩
          have e1 : (!PyData.eqv (lD l) (lD ⟨a, b⟩)) = (l != ⟨a, b⟩) := by
            rw [link_eqv]
            by_cases z : l = ⟨a, b⟩
            · subst z; simp
            · rw [decide_eq_false z]; exact (bne_iff_ne.mpr z).symm
          rw [e1]
          exact bool_if _ (fun e => ⟨_, rfl, hY _ _ s3 e (mono_RL _ _ _ _ s3 hy)⟩) fun e => hN _ s3 e
        · rw [List.map_id'] at hH
          have len := dk.len
          refine ⟨B, pd, Dd, D, _, _, rfl, hB1.same s2, by omega, a1.same mono_RD s2, hH, fun H5 s5 hb5 => ?_⟩
          obtain ⟨dx5, pd5, pl5, pb5, pf5, hB5, _, c2, _⟩ := id hb5
          obtain ⟨ys, hy, ly⟩ := c2.len
          refine ⟨_, rfl, B, CB, dx5, _, _, rfl, hB5, T.clB, T.nB _ (by decide +kernel), rfl, pl5, ys, rfl, .inl (.of hy), one_line, fun r hr => q.c ea hb5 ((but_same (s1.trans s2)).trans s5) hr ?_⟩
          rw [ly]
          have e5 := free_len dk.now.ln (List.contains_iff_mem.mp ec)
          show [V.int ((D.now.links.filter (· != (⟨a, b⟩ : Link))).length : Int)] = _
          rw [e5]
          rfl
theorem ok_ck_back (T : Txt K mg CD CB) (h : Has K mg "ck_back" s_ck_back ["book"]) (GT : DoesM P w K mg base CB 2 "take_back" ["self"] (spTake CD CB)) : Does P w K mg base 3 "ck_back" ["book"] (sp0 CD CB .back) := by
  refine h.does sc_ck_back (fun vs H Q E h => ?_) (fun f cdv A outer s H vs Q E hr h => ?_)
  · obtain ⟨_, _, rfl, _⟩ := h
    rfl
  · obtain ⟨B, D, rfl, hBk, dk, q⟩ := h
    refine ⟨_, pss_cons (ps_if (pt_not (pt_truth (pe_fld (pv 0) rfl) (fun _ => rfl))) (pss_one (ps_ret (pe_lst (pa_cons (pk (T.cs ("NONE_THERE", -2) (by decide +kernel))) pa_nil)))) pss_nil)
      (pss_cons (ps_expr (pe_m0 GT T.clB hr (pv 0)))
      (pss_one (ps_ret (pe_lst (pa_cons (pe_callB call_len_seq (by rfl) (T.bn _ (by decide +kernel)) PySem.boot_len (pa_cons (pe_fld (pv 0) rfl) pa_nil)) pa_nil))))), ?_⟩
    obtain ⟨dx, pd, pl, pb, pq, hB, a1, a2, a3, a4⟩ := id hBk
    obtain ⟨xs, hx, lx⟩ := a3.len
    rw [List.length_reverse] at lx
    refine ⟨_, rfl, B, CB, dx, _, _, rfl, hB, T.clB, T.nB _ (by decide +kernel), rfl, _, .inl ⟨xs, SqL.of hx, rfl⟩, ?_⟩
    have len := dk.len
    cases ep : D.past with
    | nil =>
      rw [ep] at lx
      obtain rfl : xs = [] := List.length_eq_zero_iff.mp lx
      have ea : act D .back = (D, only (-2)) := by unfold act; dsimp only; rw [ep]
      exact iteT ⟨one_line, fun r hr => q.q ea hBk (Same.refl _) hr (told_only _)⟩
    | cons k rr =>
      rw [ep, List.length_cons] at lx
      have ex : xs.isEmpty = false := by
        cases xs with
        | nil => cases lx
        | cons _ _ => rfl
      rw [ex]
      refine iteF ?_
      have ea : act D .back = (⟨k, rr, D.now :: D.future⟩, only (Km483.n2i rr.length)) := by unfold act; dsimp only; rw [ep]
      have hk := dk.past k (by rw [ep]; exact List.mem_cons_self)
      refine ⟨_, rfl, B, dx, _, rfl, hB, rfl, B, D, k, rr, rfl, hBk, ep, by omega, hk.2.1, hk.2.2, fun H1 s1 hb1 => ?_⟩
      obtain ⟨dx5, pd5, pl5, pb5, pf5, hB5, _, _, c3, _⟩ := id hb1
      obtain ⟨ys, hy, ly⟩ := c3.len
      refine ⟨_, rfl, B, CB, dx5, _, _, rfl, hB5, T.clB, T.nB _ (by decide +kernel), rfl, pb5, ys, rfl, .inl (.of hy), one_line, fun r hr => q.c ea hb1 s1 hr ?_⟩
      rw [ly, List.length_reverse]
      rfl
theorem ok_ck_again (T : Txt K mg CD CB) (h : Has K mg "ck_again" s_ck_again ["book"]) (GT : DoesM P w K mg base CB 2 "do_again" ["self"] (spAgain CD CB)) : Does P w K mg base 3 "ck_again" ["book"] (sp0 CD CB .again) := by
  refine h.does sc_ck_again (fun vs H Q E h => ?_) (fun f cdv A outer s H vs Q E hr h => ?_)
  · obtain ⟨_, _, rfl, _⟩ := h
    rfl
  · obtain ⟨B, D, rfl, hBk, dk, q⟩ := h
    refine ⟨_, pss_cons (ps_if (pt_not (pt_truth (pe_fld (pv 0) rfl) (fun _ => rfl))) (pss_one (ps_ret (pe_lst (pa_cons (pk (T.cs ("NONE_THERE", -2) (by decide +kernel))) pa_nil)))) pss_nil)
      (pss_cons (ps_expr (pe_m0 GT T.clB hr (pv 0)))
      (pss_one (ps_ret (pe_lst (pa_cons (pe_callB call_len_seq (by rfl) (T.bn _ (by decide +kernel)) PySem.boot_len (pa_cons (pe_fld (pv 0) rfl) pa_nil)) pa_nil))))), ?_⟩
    obtain ⟨dx, pd, pl, pb, pq, hB, a1, a2, a3, a4⟩ := id hBk
    obtain ⟨xs, hx, lx⟩ := a4.len
    rw [List.length_reverse] at lx
    refine ⟨_, rfl, B, CB, dx, _, _, rfl, hB, T.clB, T.nB _ (by decide +kernel), rfl, _, .inl ⟨xs, SqL.of hx, rfl⟩, ?_⟩
    have len := dk.len
    cases ep : D.future with
    | nil =>
      rw [ep] at lx
      obtain rfl : xs = [] := List.length_eq_zero_iff.mp lx
      have ea : act D .again = (D, only (-2)) := by unfold act; dsimp only; rw [ep]
      exact iteT ⟨one_line, fun r hr => q.q ea hBk (Same.refl _) hr (told_only _)⟩
    | cons k rr =>
      rw [ep, List.length_cons] at lx
      have ex : xs.isEmpty = false := by
        cases xs with
        | nil => cases lx
        | cons _ _ => rfl
      rw [ex]
      refine iteF ?_
      rw [ep, List.length_cons] at len
      have et : (D.now :: D.past).take Km483.PAST = D.now :: D.past := List.take_of_length_le (by rw [List.length_cons]; show D.past.length + 1 ≤ 20; omega)
      have ea : act D .again = (⟨k, D.now :: D.past, rr⟩, only (Km483.n2i rr.length)) := by unfold act; dsimp only; rw [ep]; dsimp only; rw [et]
      have hk := dk.future k (by rw [ep]; exact List.mem_cons_self)
      refine ⟨_, rfl, B, dx, _, rfl, hB, rfl, B, D, k, rr, rfl, hBk, ep, by omega, hk.2.1, hk.2.2, fun H1 s1 hb1 => ?_⟩
      obtain ⟨dx5, pd5, pl5, pb5, pf5, hB5, _, _, _, c4⟩ := id hb1
      obtain ⟨ys, hy, ly⟩ := c4.len
      refine ⟨_, rfl, B, CB, dx5, _, _, rfl, hB5, T.clB, T.nB _ (by decide +kernel), rfl, pf5, ys, rfl, .inl (.of hy), one_line, fun r hr => q.c ea hb1 s1 hr ?_⟩
      rw [ly, List.length_reverse]
      rfl
end
end My
namespace My
open PySem PySem.Spec PyProof.Rows L2
open Km483 (Desk Duty Link Book least act only)
open Km483Neutral (told)
theorem dis_no {c n : Int} (h : c ≠ n) {A B : Prop} (hB : B) : if decide (V.int c = V.int n) = true then A else B := by
  rw [if_neg]
  · exact hB
  · rw [decide_eq_true_eq]
    intro z
    injection z with z
    exact h z
theorem dis_yes {c n : Int} (h : c = n) {A B : Prop} (hA : A) : if decide (V.int c = V.int n) = true then A else B := by
  subst h
  rw [if_pos (by simp)]
  exact hA
section
variable {P : Program} {w : World} {K : PySem.W.Frag} {mg : Str → Option Value} {base : Heap} {CD CB : Addr}
def sp_answer_change (CD CB : Addr) : Sp := fun vs H Q _ => ∃ (B : Addr) (D : Desk) (g : Addr) (p : Nat) (ns : List Nat) (x : Km483.Call), vs = [.ref B, .int (p : Int), .ref g] ∧ p ∈ ([0, 1, 2, 4, 5, 20, 21] : List Nat) ∧ H g = some (.lst ((intsN ns).map V.int)) ∧ CallIs p ns x ∧ BookAt CD CB H B D ∧ (DeskOk D ∨ ∃ n m, x = .start n m) ∧ FinX CD CB H B D x Q
theorem ok_answer_change (T : Txt K mg CD CB) (h : Has K mg "answer_change" s_answer_change ["book", "call", "given"])
    (Gstart : Does P w K mg base 2 "ck_start" ["book", "n", "m"] (spStart CD CB))
    (Gduty : Does P w K mg base 3 "ck_duty" ["book", "i", "j", "a", "x", "w", "d"] (sp6 CD CB))
    (Gdrop : Does P w K mg base 3 "ck_drop" ["book", "k"] (sp1 CD CB .drop))
    (Gneeds : Does P w K mg base 3 "ck_needs" ["book", "a", "b"] (sp2 CD CB .needs))
    (Gfree : Does P w K mg base 3 "ck_free" ["book", "a", "b"] (sp2 CD CB .free))
    (Gback : Does P w K mg base 3 "ck_back" ["book"] (sp0 CD CB .back))
    (Gagain : Does P w K mg base 3 "ck_again" ["book"] (sp0 CD CB .again))
    : Does P w K mg base 4 "answer_change" ["book", "call", "given"] (sp_answer_change CD CB) := by
  refine h.does sc_answer_change (fun vs H Q E h => ?_) (fun f cdv A outer s H vs Q E hr h => ?_)
  · obtain ⟨_, _, _, _, _, _, rfl, _⟩ := h
    rfl
  · obtain ⟨B, D, g, p, ns, x, rfl, hp, hg, hN, hBk, hdk, q⟩ := h
    refine ⟨_, pss_cons (ps_if (pt_cmpR op_eq (pv 1) (pk (T.cs ("START", 0) (by decide +kernel))) (nomark _)) (pss_one (ps_ret (pe_f Gstart hr (ha := pa_cons (pv 0) (pa_cons (pe_ix ix_list (pv 2) pe_int (fun _ _ => rfl)) (pa_cons (pe_ix ix_list (pv 2) pe_int (fun _ _ => rfl)) pa_nil)))))) pss_nil)
      (pss_cons (ps_if (pt_cmpR op_eq (pv 1) (pk (T.cs ("DUTY", 1) (by decide +kernel))) (nomark _)) (pss_one (ps_ret (pe_f Gduty hr (ha := pa_cons (pv 0) (pa_cons (pe_ix ix_list (pv 2) pe_int (fun _ _ => rfl)) (pa_cons (pe_ix ix_list (pv 2) pe_int (fun _ _ => rfl)) (pa_cons (pe_ix ix_list (pv 2) pe_int (fun _ _ => rfl)) (pa_cons (pe_ix ix_list (pv 2) pe_int (fun _ _ => rfl)) (pa_cons (pe_ix ix_list (pv 2) pe_int (fun _ _ => rfl)) (pa_cons (pe_ix ix_list (pv 2) pe_int (fun _ _ => rfl)) pa_nil)))))))))) pss_nil)
      (pss_cons (ps_if (pt_cmpR op_eq (pv 1) (pk (T.cs ("DROP", 2) (by decide +kernel))) (nomark _)) (pss_one (ps_ret (pe_f Gdrop hr (ha := pa_cons (pv 0) (pa_cons (pe_ix ix_list (pv 2) pe_int (fun _ _ => rfl)) pa_nil))))) pss_nil)
      (pss_cons (ps_if (pt_cmpR op_eq (pv 1) (pk (T.cs ("NEEDS", 4) (by decide +kernel))) (nomark _)) (pss_one (ps_ret (pe_f Gneeds hr (ha := pa_cons (pv 0) (pa_cons (pe_ix ix_list (pv 2) pe_int (fun _ _ => rfl)) (pa_cons (pe_ix ix_list (pv 2) pe_int (fun _ _ => rfl)) pa_nil)))))) pss_nil)
      (pss_cons (ps_if (pt_cmpR op_eq (pv 1) (pk (T.cs ("FREE", 5) (by decide +kernel))) (nomark _)) (pss_one (ps_ret (pe_f Gfree hr (ha := pa_cons (pv 0) (pa_cons (pe_ix ix_list (pv 2) pe_int (fun _ _ => rfl)) (pa_cons (pe_ix ix_list (pv 2) pe_int (fun _ _ => rfl)) pa_nil)))))) pss_nil)
      (pss_cons (ps_if (pt_cmpR op_eq (pv 1) (pk (T.cs ("BACK", 20) (by decide +kernel))) (nomark _)) (pss_one (ps_ret (pe_f Gback hr (ha := pa_cons (pv 0) pa_nil)))) pss_nil)
      (pss_one (ps_ret (pe_f Gagain hr (ha := pa_cons (pv 0) pa_nil))))))))), ?_⟩
    cases hN
    · exact go_yes (i := 1) rfl (by decide) ((go_call (eva_cons (ev_var rfl) (eva_cons (ev_ixL (ev_var rfl) ev_c (.of hg) rfl) (eva_cons (ev_ixL (ev_var rfl) ev_c (.of hg) rfl) eva_nil))) ⟨B, D, _, _, rfl, hBk, q⟩))
    · have dk : DeskOk D := hdk.elim id fun z => (by obtain ⟨_, _, z⟩ := z; cases z)
      have q := q.fin (by rintro ⟨_, _, z⟩; cases z)
      exact go_no (i := 1) rfl (by decide) ((go_yes (i := 1) rfl (by decide) ((go_call (eva_cons (ev_var rfl) (eva_cons (ev_ixL (ev_var rfl) ev_c (.of hg) rfl) (eva_cons (ev_ixL (ev_var rfl) ev_c (.of hg) rfl) (eva_cons (ev_ixL (ev_var rfl) ev_c (.of hg) rfl) (eva_cons (ev_ixL (ev_var rfl) ev_c (.of hg) rfl) (eva_cons (ev_ixL (ev_var rfl) ev_c (.of hg) rfl) (eva_cons (ev_ixL (ev_var rfl) ev_c (.of hg) rfl) eva_nil))))))) ⟨B, D, _, _, _, _, _, _, rfl, hBk, dk, q⟩))))
    · have dk : DeskOk D := hdk.elim id fun z => (by obtain ⟨_, _, z⟩ := z; cases z)
      have q := q.fin (by rintro ⟨_, _, z⟩; cases z)
      exact go_no (i := 1) rfl (by decide) ((go_no (i := 1) rfl (by decide) ((go_yes (i := 1) rfl (by decide) ((go_call (eva_cons (ev_var rfl) (eva_cons (ev_ixL (ev_var rfl) ev_c (.of hg) rfl) eva_nil)) ⟨B, D, _, rfl, hBk, dk, q⟩))))))
    · exact absurd hp (by decide)
    · have dk : DeskOk D := hdk.elim id fun z => (by obtain ⟨_, _, z⟩ := z; cases z)
      have q := q.fin (by rintro ⟨_, _, z⟩; cases z)
      exact go_no (i := 1) rfl (by decide) ((go_no (i := 1) rfl (by decide) ((go_no (i := 1) rfl (by decide) ((go_yes (i := 1) rfl (by decide) ((go_call (eva_cons (ev_var rfl) (eva_cons (ev_ixL (ev_var rfl) ev_c (.of hg) rfl) (eva_cons (ev_ixL (ev_var rfl) ev_c (.of hg) rfl) eva_nil))) ⟨B, D, _, _, rfl, hBk, dk, q⟩))))))))
    · have dk : DeskOk D := hdk.elim id fun z => (by obtain ⟨_, _, z⟩ := z; cases z)
      have q := q.fin (by rintro ⟨_, _, z⟩; cases z)
      exact go_no (i := 1) rfl (by decide) ((go_no (i := 1) rfl (by decide) ((go_no (i := 1) rfl (by decide) ((go_no (i := 1) rfl (by decide) ((go_yes (i := 1) rfl (by decide) ((go_call (eva_cons (ev_var rfl) (eva_cons (ev_ixL (ev_var rfl) ev_c (.of hg) rfl) (eva_cons (ev_ixL (ev_var rfl) ev_c (.of hg) rfl) eva_nil))) ⟨B, D, _, _, rfl, hBk, dk, q⟩))))))))))
    · exact absurd hp (by decide)
    · exact absurd hp (by decide)
    · exact absurd hp (by decide)
    · exact absurd hp (by decide)
    · exact absurd hp (by decide)
    · exact absurd hp (by decide)
    · exact absurd hp (by decide)
    · exact absurd hp (by decide)
    · exact absurd hp (by decide)
    · exact absurd hp (by decide)
    · exact absurd hp (by decide)
    · exact absurd hp (by decide)
    · exact absurd hp (by decide)
    · exact absurd hp (by decide)
    · have dk : DeskOk D := hdk.elim id fun z => (by obtain ⟨_, _, z⟩ := z; cases z)
      have q := q.fin (by rintro ⟨_, _, z⟩; cases z)
      exact go_no (i := 1) rfl (by decide) ((go_no (i := 1) rfl (by decide) ((go_no (i := 1) rfl (by decide) ((go_no (i := 1) rfl (by decide) ((go_no (i := 1) rfl (by decide) ((go_yes (i := 1) rfl (by decide) ((go_call (eva_cons (ev_var rfl) eva_nil) ⟨B, D, rfl, hBk, dk, q⟩))))))))))))
    · have dk : DeskOk D := hdk.elim id fun z => (by obtain ⟨_, _, z⟩ := z; cases z)
      have q := q.fin (by rintro ⟨_, _, z⟩; cases z)
      exact go_no (i := 1) rfl (by decide) ((go_no (i := 1) rfl (by decide) ((go_no (i := 1) rfl (by decide) ((go_no (i := 1) rfl (by decide) ((go_no (i := 1) rfl (by decide) ((go_no (i := 1) rfl (by decide) ((go_call (eva_cons (ev_var rfl) eva_nil) ⟨B, D, rfl, hBk, dk, q⟩))))))))))))
    · exact absurd hp (by decide)
def sp_answer_cost (CD CB : Addr) : Sp := fun vs H Q _ => ∃ (B : Addr) (D : Desk) (g : Addr) (p : Nat) (ns : List Nat) (x : Km483.Call), vs = [.ref B, .int (p : Int), .ref g] ∧ p ∈ ([14, 15, 16, 17, 18, 19] : List Nat) ∧ H g = some (.lst ((intsN ns).map V.int)) ∧ CallIs p ns x ∧ BookAt CD CB H B D ∧ (DeskOk D ∨ ∃ n m, x = .start n m) ∧ FinX CD CB H B D x Q
theorem ok_answer_cost (T : Txt K mg CD CB) (h : Has K mg "answer_cost" s_answer_cost ["book", "call", "given"])
    (Gcan : Does P w K mg base 6 "ck_can" ["book", "k"] (sp1 CD CB .can))
    (Gcost : Does P w K mg base 5 "ck_cost" ["book", "k"] (sp1 CD CB .cost))
    (Gclash : Does P w K mg base 5 "ck_clash" ["book", "k", "l"] (sp2 CD CB .clash))
    (Gclashes : Does P w K mg base 6 "ck_clashes" ["book"] (sp0 CD CB .clashes))
    (Gwaive : Does P w K mg base 5 "ck_waive" ["book"] (sp0 CD CB .waive))
    (Grelief : Does P w K mg base 5 "ck_relief" ["book", "k"] (sp1 CD CB .relief))
    : Does P w K mg base 7 "answer_cost" ["book", "call", "given"] (sp_answer_cost CD CB) := by
  refine h.does sc_answer_cost (fun vs H Q E h => ?_) (fun f cdv A outer s H vs Q E hr h => ?_)
  · obtain ⟨_, _, _, _, _, _, rfl, _⟩ := h
    rfl
  · obtain ⟨B, D, g, p, ns, x, rfl, hp, hg, hN, hBk, hdk, q⟩ := h
    refine ⟨_, pss_cons (ps_if (pt_cmpR op_eq (pv 1) (pk (T.cs ("CAN", 14) (by decide +kernel))) (nomark _)) (pss_one (ps_ret (pe_f Gcan hr (ha := pa_cons (pv 0) (pa_cons (pe_ix ix_list (pv 2) pe_int (fun _ _ => rfl)) pa_nil))))) pss_nil)
      (pss_cons (ps_if (pt_cmpR op_eq (pv 1) (pk (T.cs ("COST", 15) (by decide +kernel))) (nomark _)) (pss_one (ps_ret (pe_f Gcost hr (ha := pa_cons (pv 0) (pa_cons (pe_ix ix_list (pv 2) pe_int (fun _ _ => rfl)) pa_nil))))) pss_nil)
      (pss_cons (ps_if (pt_cmpR op_eq (pv 1) (pk (T.cs ("CLASH", 16) (by decide +kernel))) (nomark _)) (pss_one (ps_ret (pe_f Gclash hr (ha := pa_cons (pv 0) (pa_cons (pe_ix ix_list (pv 2) pe_int (fun _ _ => rfl)) (pa_cons (pe_ix ix_list (pv 2) pe_int (fun _ _ => rfl)) pa_nil)))))) pss_nil)
      (pss_cons (ps_if (pt_cmpR op_eq (pv 1) (pk (T.cs ("CLASHES", 17) (by decide +kernel))) (nomark _)) (pss_one (ps_ret (pe_f Gclashes hr (ha := pa_cons (pv 0) pa_nil)))) pss_nil)
      (pss_cons (ps_if (pt_cmpR op_eq (pv 1) (pk (T.cs ("WAIVE", 18) (by decide +kernel))) (nomark _)) (pss_one (ps_ret (pe_f Gwaive hr (ha := pa_cons (pv 0) pa_nil)))) pss_nil)
      (pss_one (ps_ret (pe_f Grelief hr (ha := pa_cons (pv 0) (pa_cons (pe_ix ix_list (pv 2) pe_int (fun _ _ => rfl)) pa_nil))))))))), ?_⟩
    cases hN
    · exact absurd hp (by decide)
    · exact absurd hp (by decide)
    · exact absurd hp (by decide)
    · exact absurd hp (by decide)
    · exact absurd hp (by decide)
    · exact absurd hp (by decide)
    · exact absurd hp (by decide)
    · exact absurd hp (by decide)
    · exact absurd hp (by decide)
    · exact absurd hp (by decide)
    · exact absurd hp (by decide)
    · exact absurd hp (by decide)
    · exact absurd hp (by decide)
    · exact absurd hp (by decide)
    · have dk : DeskOk D := hdk.elim id fun z => (by obtain ⟨_, _, z⟩ := z; cases z)
      have q := q.fin (by rintro ⟨_, _, z⟩; cases z)
      exact go_yes (i := 1) rfl (by decide) ((go_call (eva_cons (ev_var rfl) (eva_cons (ev_ixL (ev_var rfl) ev_c (.of hg) rfl) eva_nil)) ⟨B, D, _, rfl, hBk, dk, q⟩))
    · have dk : DeskOk D := hdk.elim id fun z => (by obtain ⟨_, _, z⟩ := z; cases z)
      have q := q.fin (by rintro ⟨_, _, z⟩; cases z)
      exact go_no (i := 1) rfl (by decide) ((go_yes (i := 1) rfl (by decide) ((go_call (eva_cons (ev_var rfl) (eva_cons (ev_ixL (ev_var rfl) ev_c (.of hg) rfl) eva_nil)) ⟨B, D, _, rfl, hBk, dk, q⟩))))
    · have dk : DeskOk D := hdk.elim id fun z => (by obtain ⟨_, _, z⟩ := z; cases z)
      have q := q.fin (by rintro ⟨_, _, z⟩; cases z)
      exact go_no (i := 1) rfl (by decide) ((go_no (i := 1) rfl (by decide) ((go_yes (i := 1) rfl (by decide) ((go_call (eva_cons (ev_var rfl) (eva_cons (ev_ixL (ev_var rfl) ev_c (.of hg) rfl) (eva_cons (ev_ixL (ev_var rfl) ev_c (.of hg) rfl) eva_nil))) ⟨B, D, _, _, rfl, hBk, dk, q⟩))))))
    · have dk : DeskOk D := hdk.elim id fun z => (by obtain ⟨_, _, z⟩ := z; cases z)
      have q := q.fin (by rintro ⟨_, _, z⟩; cases z)
      exact go_no (i := 1) rfl (by decide) ((go_no (i := 1) rfl (by decide) ((go_no (i := 1) rfl (by decide) ((go_yes (i := 1) rfl (by decide) ((go_call (eva_cons (ev_var rfl) eva_nil) ⟨B, D, rfl, hBk, dk, q⟩))))))))
    · have dk : DeskOk D := hdk.elim id fun z => (by obtain ⟨_, _, z⟩ := z; cases z)
      have q := q.fin (by rintro ⟨_, _, z⟩; cases z)
      exact go_no (i := 1) rfl (by decide) ((go_no (i := 1) rfl (by decide) ((go_no (i := 1) rfl (by decide) ((go_no (i := 1) rfl (by decide) ((go_yes (i := 1) rfl (by decide) ((go_call (eva_cons (ev_var rfl) eva_nil) ⟨B, D, rfl, hBk, dk, q⟩))))))))))
    · have dk : DeskOk D := hdk.elim id fun z => (by obtain ⟨_, _, z⟩ := z; cases z)
      have q := q.fin (by rintro ⟨_, _, z⟩; cases z)
      exact go_no (i := 1) rfl (by decide) ((go_no (i := 1) rfl (by decide) ((go_no (i := 1) rfl (by decide) ((go_no (i := 1) rfl (by decide) ((go_no (i := 1) rfl (by decide) ((go_call (eva_cons (ev_var rfl) (eva_cons (ev_ixL (ev_var rfl) ev_c (.of hg) rfl) eva_nil)) ⟨B, D, _, rfl, hBk, dk, q⟩))))))))))
    · exact absurd hp (by decide)
    · exact absurd hp (by decide)
    · exact absurd hp (by decide)
def sp_answer_question (CD CB : Addr) : Sp := fun vs H Q _ => ∃ (B : Addr) (D : Desk) (g : Addr) (p : Nat) (ns : List Nat) (x : Km483.Call), vs = [.ref B, .int (p : Int), .ref g] ∧ p ∈ ([3, 6, 7, 8, 9, 10, 11, 12, 13, 22] : List Nat) ∧ H g = some (.lst ((intsN ns).map V.int)) ∧ CallIs p ns x ∧ BookAt CD CB H B D ∧ (DeskOk D ∨ ∃ n m, x = .start n m) ∧ FinX CD CB H B D x Q
theorem ok_answer_question (T : Txt K mg CD CB) (h : Has K mg "answer_question" s_answer_question ["book", "call", "given"])
    (Gtold : Does P w K mg base 3 "ck_told" ["book", "k"] (sp1 CD CB .told))
    (Gmay : Does P w K mg base 3 "ck_may" ["book", "s"] (sp1 CD CB .may))
    (Gbreaks : Does P w K mg base 4 "ck_breaks" ["book", "s"] (sp1 CD CB .breaks))
    (Gbest : Does P w K mg base 6 "ck_best" ["book"] (sp0 CD CB .best))
    (Gmost : Does P w K mg base 6 "ck_most" ["book"] (sp0 CD CB .most))
    (Gways : Does P w K mg base 6 "ck_ways" ["book"] (sp0 CD CB .ways))
    (Gnth : Does P w K mg base 6 "ck_nth" ["book", "k"] (sp1 CD CB .nth))
    (Gsure : Does P w K mg base 6 "ck_sure" ["book", "a"] (sp1 CD CB .sure))
    (Gwho : Does P w K mg base 6 "ck_who" ["book", "i"] (sp1 CD CB .who))
    (Gstate : Does P w K mg base 1 "ck_state" ["book"] (sp0 CD CB .state))
    : Does P w K mg base 7 "answer_question" ["book", "call", "given"] (sp_answer_question CD CB) := by
  refine h.does sc_answer_question (fun vs H Q E h => ?_) (fun f cdv A outer s H vs Q E hr h => ?_)
  · obtain ⟨_, _, _, _, _, _, rfl, _⟩ := h
    rfl
  · obtain ⟨B, D, g, p, ns, x, rfl, hp, hg, hN, hBk, hdk, q⟩ := h
    refine ⟨_, pss_cons (ps_if (pt_cmpR op_eq (pv 1) (pk (T.cs ("TOLD", 3) (by decide +kernel))) (nomark _)) (pss_one (ps_ret (pe_f Gtold hr (ha := pa_cons (pv 0) (pa_cons (pe_ix ix_list (pv 2) pe_int (fun _ _ => rfl)) pa_nil))))) pss_nil)
      (pss_cons (ps_if (pt_cmpR op_eq (pv 1) (pk (T.cs ("MAY", 6) (by decide +kernel))) (nomark _)) (pss_one (ps_ret (pe_f Gmay hr (ha := pa_cons (pv 0) (pa_cons (pe_ix ix_list (pv 2) pe_int (fun _ _ => rfl)) pa_nil))))) pss_nil)
      (pss_cons (ps_if (pt_cmpR op_eq (pv 1) (pk (T.cs ("BREAKS", 7) (by decide +kernel))) (nomark _)) (pss_one (ps_ret (pe_f Gbreaks hr (ha := pa_cons (pv 0) (pa_cons (pe_ix ix_list (pv 2) pe_int (fun _ _ => rfl)) pa_nil))))) pss_nil)
      (pss_cons (ps_if (pt_cmpR op_eq (pv 1) (pk (T.cs ("BEST", 8) (by decide +kernel))) (nomark _)) (pss_one (ps_ret (pe_f Gbest hr (ha := pa_cons (pv 0) pa_nil)))) pss_nil)
      (pss_cons (ps_if (pt_cmpR op_eq (pv 1) (pk (T.cs ("MOST", 9) (by decide +kernel))) (nomark _)) (pss_one (ps_ret (pe_f Gmost hr (ha := pa_cons (pv 0) pa_nil)))) pss_nil)
      (pss_cons (ps_if (pt_cmpR op_eq (pv 1) (pk (T.cs ("WAYS", 10) (by decide +kernel))) (nomark _)) (pss_one (ps_ret (pe_f Gways hr (ha := pa_cons (pv 0) pa_nil)))) pss_nil)
      (pss_cons (ps_if (pt_cmpR op_eq (pv 1) (pk (T.cs ("NTH", 11) (by decide +kernel))) (nomark _)) (pss_one (ps_ret (pe_f Gnth hr (ha := pa_cons (pv 0) (pa_cons (pe_ix ix_list (pv 2) pe_int (fun _ _ => rfl)) pa_nil))))) pss_nil)
      (pss_cons (ps_if (pt_cmpR op_eq (pv 1) (pk (T.cs ("SURE", 12) (by decide +kernel))) (nomark _)) (pss_one (ps_ret (pe_f Gsure hr (ha := pa_cons (pv 0) (pa_cons (pe_ix ix_list (pv 2) pe_int (fun _ _ => rfl)) pa_nil))))) pss_nil)
      (pss_cons (ps_if (pt_cmpR op_eq (pv 1) (pk (T.cs ("WHO", 13) (by decide +kernel))) (nomark _)) (pss_one (ps_ret (pe_f Gwho hr (ha := pa_cons (pv 0) (pa_cons (pe_ix ix_list (pv 2) pe_int (fun _ _ => rfl)) pa_nil))))) pss_nil)
      (pss_one (ps_ret (pe_f Gstate hr (ha := pa_cons (pv 0) pa_nil)))))))))))), ?_⟩
    cases hN
    · exact absurd hp (by decide)
    · exact absurd hp (by decide)
    · exact absurd hp (by decide)
    · have dk : DeskOk D := hdk.elim id fun z => (by obtain ⟨_, _, z⟩ := z; cases z)
      have q := q.fin (by rintro ⟨_, _, z⟩; cases z)
      exact go_yes (i := 1) rfl (by decide) ((go_call (eva_cons (ev_var rfl) (eva_cons (ev_ixL (ev_var rfl) ev_c (.of hg) rfl) eva_nil)) ⟨B, D, _, rfl, hBk, dk, q⟩))
    · exact absurd hp (by decide)
    · exact absurd hp (by decide)
    · have dk : DeskOk D := hdk.elim id fun z => (by obtain ⟨_, _, z⟩ := z; cases z)
      have q := q.fin (by rintro ⟨_, _, z⟩; cases z)
      exact go_no (i := 1) rfl (by decide) ((go_yes (i := 1) rfl (by decide) ((go_call (eva_cons (ev_var rfl) (eva_cons (ev_ixL (ev_var rfl) ev_c (.of hg) rfl) eva_nil)) ⟨B, D, _, rfl, hBk, dk, q⟩))))
    · have dk : DeskOk D := hdk.elim id fun z => (by obtain ⟨_, _, z⟩ := z; cases z)
      have q := q.fin (by rintro ⟨_, _, z⟩; cases z)
      exact go_no (i := 1) rfl (by decide) ((go_no (i := 1) rfl (by decide) ((go_yes (i := 1) rfl (by decide) ((go_call (eva_cons (ev_var rfl) (eva_cons (ev_ixL (ev_var rfl) ev_c (.of hg) rfl) eva_nil)) ⟨B, D, _, rfl, hBk, dk, q⟩))))))
    · have dk : DeskOk D := hdk.elim id fun z => (by obtain ⟨_, _, z⟩ := z; cases z)
      have q := q.fin (by rintro ⟨_, _, z⟩; cases z)
      exact go_no (i := 1) rfl (by decide) ((go_no (i := 1) rfl (by decide) ((go_no (i := 1) rfl (by decide) ((go_yes (i := 1) rfl (by decide) ((go_call (eva_cons (ev_var rfl) eva_nil) ⟨B, D, rfl, hBk, dk, q⟩))))))))
    · have dk : DeskOk D := hdk.elim id fun z => (by obtain ⟨_, _, z⟩ := z; cases z)
      have q := q.fin (by rintro ⟨_, _, z⟩; cases z)
      exact go_no (i := 1) rfl (by decide) ((go_no (i := 1) rfl (by decide) ((go_no (i := 1) rfl (by decide) ((go_no (i := 1) rfl (by decide) ((go_yes (i := 1) rfl (by decide) ((go_call (eva_cons (ev_var rfl) eva_nil) ⟨B, D, rfl, hBk, dk, q⟩))))))))))
    · have dk : DeskOk D := hdk.elim id fun z => (by obtain ⟨_, _, z⟩ := z; cases z)
      have q := q.fin (by rintro ⟨_, _, z⟩; cases z)
      exact go_no (i := 1) rfl (by decide) ((go_no (i := 1) rfl (by decide) ((go_no (i := 1) rfl (by decide) ((go_no (i := 1) rfl (by decide) ((go_no (i := 1) rfl (by decide) ((go_yes (i := 1) rfl (by decide) ((go_call (eva_cons (ev_var rfl) eva_nil) ⟨B, D, rfl, hBk, dk, q⟩))))))))))))
    · have dk : DeskOk D := hdk.elim id fun z => (by obtain ⟨_, _, z⟩ := z; cases z)
      have q := q.fin (by rintro ⟨_, _, z⟩; cases z)
      exact go_no (i := 1) rfl (by decide) ((go_no (i := 1) rfl (by decide) ((go_no (i := 1) rfl (by decide) ((go_no (i := 1) rfl (by decide) ((go_no (i := 1) rfl (by decide) ((go_no (i := 1) rfl (by decide) ((go_yes (i := 1) rfl (by decide) ((go_call (eva_cons (ev_var rfl) (eva_cons (ev_ixL (ev_var rfl) ev_c (.of hg) rfl) eva_nil)) ⟨B, D, _, rfl, hBk, dk, q⟩))))))))))))))
    · have dk : DeskOk D := hdk.elim id fun z => (by obtain ⟨_, _, z⟩ := z; cases z)
      have q := q.fin (by rintro ⟨_, _, z⟩; cases z)
      exact go_no (i := 1) rfl (by decide) ((go_no (i := 1) rfl (by decide) ((go_no (i := 1) rfl (by decide) ((go_no (i := 1) rfl (by decide) ((go_no (i := 1) rfl (by decide) ((go_no (i := 1) rfl (by decide) ((go_no (i := 1) rfl (by decide) ((go_yes (i := 1) rfl (by decide) ((go_call (eva_cons (ev_var rfl) (eva_cons (ev_ixL (ev_var rfl) ev_c (.of hg) rfl) eva_nil)) ⟨B, D, _, rfl, hBk, dk, q⟩))))))))))))))))
    · have dk : DeskOk D := hdk.elim id fun z => (by obtain ⟨_, _, z⟩ := z; cases z)
      have q := q.fin (by rintro ⟨_, _, z⟩; cases z)
      exact go_no (i := 1) rfl (by decide) ((go_no (i := 1) rfl (by decide) ((go_no (i := 1) rfl (by decide) ((go_no (i := 1) rfl (by decide) ((go_no (i := 1) rfl (by decide) ((go_no (i := 1) rfl (by decide) ((go_no (i := 1) rfl (by decide) ((go_no (i := 1) rfl (by decide) ((go_yes (i := 1) rfl (by decide) ((go_call (eva_cons (ev_var rfl) (eva_cons (ev_ixL (ev_var rfl) ev_c (.of hg) rfl) eva_nil)) ⟨B, D, _, rfl, hBk, dk, q⟩))))))))))))))))))
    · exact absurd hp (by decide)
    · exact absurd hp (by decide)
    · exact absurd hp (by decide)
    · exact absurd hp (by decide)
    · exact absurd hp (by decide)
    · exact absurd hp (by decide)
    · exact absurd hp (by decide)
    · exact absurd hp (by decide)
    · have dk : DeskOk D := hdk.elim id fun z => (by obtain ⟨_, _, z⟩ := z; cases z)
      have q := q.fin (by rintro ⟨_, _, z⟩; cases z)
      exact go_no (i := 1) rfl (by decide) ((go_no (i := 1) rfl (by decide) ((go_no (i := 1) rfl (by decide) ((go_no (i := 1) rfl (by decide) ((go_no (i := 1) rfl (by decide) ((go_no (i := 1) rfl (by decide) ((go_no (i := 1) rfl (by decide) ((go_no (i := 1) rfl (by decide) ((go_no (i := 1) rfl (by decide) ((go_call (eva_cons (ev_var rfl) eva_nil) ⟨B, D, rfl, hBk, dk, q⟩))))))))))))))))))
/-! ### answer_call -/
theorem in_no {v : V} {xs : List V} (h : inV v xs = false) {A B : Prop} (hB : B) : if inV v xs = true then A else B := by
  rw [h, if_neg (by simp)]
  exact hB
theorem in_yes {v : V} {xs : List V} (h : inV v xs = true) {A B : Prop} (hA : A) : if inV v xs = true then A else B := by
  rw [h, if_pos rfl]
  exact hA
theorem callN_lt {p : Nat} {ns : List Nat} {x : Km483.Call} (h : CallIs p ns x) : p < 23 := by
  cases h <;> decide
def spCall (CD CB : Addr) : Sp := fun vs H Q _ => ∃ (B : Addr) (D : Desk) (g : Addr) (p : Nat) (ns : List Nat) (x : Km483.Call), vs = [.ref B, .int (p : Int), .ref g] ∧ H g = some (.lst ((intsN ns).map V.int)) ∧ CallIs p ns x ∧ BookAt CD CB H B D ∧ (DeskOk D ∨ ∃ n m, x = .start n m) ∧ FinX CD CB H B D x Q
theorem ok_call (T : Txt K mg CD CB) (h : Has K mg "answer_call" s_answer_call ["book", "call", "given"]) (GA : Does P w K mg base 4 "answer_change" ["book", "call", "given"] (sp_answer_change CD CB))
    (GC : Does P w K mg base 7 "answer_cost" ["book", "call", "given"] (sp_answer_cost CD CB)) (GQ : Does P w K mg base 7 "answer_question" ["book", "call", "given"] (sp_answer_question CD CB)) :
    Does P w K mg base 8 "answer_call" ["book", "call", "given"] (spCall CD CB) := by
  refine h.does sc_answer_call (fun vs H Q E h => ?_) (fun f cdv A outer s H vs Q E hr h => ?_)
  · obtain ⟨_, _, _, _, _, _, rfl, _⟩ := h
    rfl
  · obtain ⟨B, D, g, p, ns, x, rfl, hg, hN, hBk, hdk, q⟩ := h
    refine ⟨_, pss_cons (ps_if (pt_cmpR op_in_seq (pv 1) (pe_tup (pa_cons (pk (T.cs ("START", 0) (by decide +kernel))) (pa_cons (pk (T.cs ("DUTY", 1) (by decide +kernel))) (pa_cons (pk (T.cs ("DROP", 2) (by decide +kernel))) (pa_cons (pk (T.cs ("NEEDS", 4) (by decide +kernel))) (pa_cons (pk (T.cs ("FREE", 5) (by decide +kernel))) (pa_cons (pk (T.cs ("BACK", 20) (by decide +kernel))) (pa_cons (pk (T.cs ("AGAIN", 21) (by decide +kernel))) pa_nil)))))))) rfl) (pss_one (ps_ret (pe_f GA hr (ha := pa_cons (pv 0) (pa_cons (pv 1) (pa_cons (pv 2) pa_nil)))))) pss_nil)
      (pss_cons (ps_if (pt_cmpR op_in_seq (pv 1) (pe_tup (pa_cons (pk (T.cs ("CAN", 14) (by decide +kernel))) (pa_cons (pk (T.cs ("COST", 15) (by decide +kernel))) (pa_cons (pk (T.cs ("CLASH", 16) (by decide +kernel))) (pa_cons (pk (T.cs ("CLASHES", 17) (by decide +kernel))) (pa_cons (pk (T.cs ("WAIVE", 18) (by decide +kernel))) (pa_cons (pk (T.cs ("RELIEF", 19) (by decide +kernel))) pa_nil))))))) rfl) (pss_one (ps_ret (pe_f GC hr (ha := pa_cons (pv 0) (pa_cons (pv 1) (pa_cons (pv 2) pa_nil)))))) pss_nil)
      (pss_one (ps_ret (pe_f GQ hr (ha := pa_cons (pv 0) (pa_cons (pv 1) (pa_cons (pv 2) pa_nil))))))), ?_⟩
    have hp := callN_lt hN
    refine ⟨_, rfl, (by rw [sizeLine_eq]; show 7 ≤ 16777216; decide), fun t ht => ?_⟩
    refine ⟨t, _, rfl, .inr (SqT.of upd_same), rfl, rfl, _, rfl, ?_⟩
    have s1 := same_new (o := .tup [.int 0, .int 1, .int 2, .int 4, .int 5, .int 20, .int 21]) ht
    show if inV (V.int (p : Int)) [.int 0, .int 1, .int 2, .int 4, .int 5, .int 20, .int 21] = true then _ else _
    by_cases h1 : p ∈ ([0, 1, 2, 4, 5, 20, 21] : List Nat)
    · refine in_yes ?_ ⟨_, rfl, _, rfl, _, rfl, B, D, g, p, ns, x, rfl, h1, s1 _ _ hg, hN, hBk.same s1, hdk, q.same s1⟩
      have : ∀ k ∈ ([0, 1, 2, 4, 5, 20, 21] : List Nat), inV (V.int (k : Int)) [.int 0, .int 1, .int 2, .int 4, .int 5, .int 20, .int 21] = true := by decide
      exact this p h1
    · refine in_no ?_ ?_
      · have : ∀ k : Fin 23, k.val ∉ ([0, 1, 2, 4, 5, 20, 21] : List Nat) → inV (V.int (k.val : Int)) [.int 0, .int 1, .int 2, .int 4, .int 5, .int 20, .int 21] = false := by decide
        exact this ⟨p, hp⟩ h1
      refine ⟨_, rfl, (by rw [sizeLine_eq]; show 6 ≤ 16777216; decide), fun t2 ht2 => ?_⟩
      refine ⟨t2, _, rfl, .inr (SqT.of upd_same), rfl, rfl, _, rfl, ?_⟩
      have s2 := s1.trans (same_new (o := .tup [.int 14, .int 15, .int 16, .int 17, .int 18, .int 19]) ht2)
      show if inV (V.int (p : Int)) [.int 14, .int 15, .int 16, .int 17, .int 18, .int 19] = true then _ else _
      by_cases h2 : p ∈ ([14, 15, 16, 17, 18, 19] : List Nat)
      · refine in_yes ?_ ⟨_, rfl, _, rfl, _, rfl, B, D, g, p, ns, x, rfl, h2, s2 _ _ hg, hN, hBk.same s2, hdk, q.same s2⟩
        have : ∀ k ∈ ([14, 15, 16, 17, 18, 19] : List Nat), inV (V.int (k : Int)) [.int 14, .int 15, .int 16, .int 17, .int 18, .int 19] = true := by decide
        exact this p h2
      · refine in_no ?_ ⟨_, rfl, _, rfl, _, rfl, B, D, g, p, ns, x, rfl, ?_, s2 _ _ hg, hN, hBk.same s2, hdk, q.same s2⟩
        · have : ∀ k : Fin 23, k.val ∉ ([14, 15, 16, 17, 18, 19] : List Nat) → inV (V.int (k.val : Int)) [.int 14, .int 15, .int 16, .int 17, .int 18, .int 19] = false := by decide
          exact this ⟨p, hp⟩ h2
        · have : ∀ k : Fin 23, k.val ∉ ([0, 1, 2, 4, 5, 20, 21] : List Nat) → k.val ∉ ([14, 15, 16, 17, 18, 19] : List Nat) → k.val ∈ ([3, 6, 7, 8, 9, 10, 11, 12, 13, 22] : List Nat) := by decide
          exact this ⟨p, hp⟩ h1 h2
/-! ### answers -/
theorem LAt.told {α : Type} {R0 : Hp → V → α → Prop} (mR : FMono R0) (isr : ∀ (H : Hp) (v : V) (d : α), R0 H v d → ∃ a, v = .ref a) {H : Hp} {R p : Addr} {z : Int} {ys : List V} {o : HO} (hR : H R = some (.lst (.int z :: ys))) {ds : List α} (h : LAt R0 H p ds) : LAt R0 (upd H R o) p ds := by
  obtain ⟨xs, e, q, n⟩ := h
  have ne : p ≠ R := ne_of e hR fun w => by
    have w := HO.lst.inj w
    subst w
    cases q with
    | cons r _ =>
      obtain ⟨a, w⟩ := isr _ _ _ r
      cases w
  exact ⟨xs, (upd_ne ne).trans e, paired_imp (fun _ _ r => mR _ _ _ _ (fsame_lst hR) r) q, n⟩
theorem rd_ref {C : Addr} (H : Hp) (v : V) (d : Duty) (h : RD C H v d) : ∃ a, v = .ref a := let ⟨a, _, e, _⟩ := h; ⟨a, e⟩
theorem rl_ref (H : Hp) (v : V) (d : Link) (h : RL H v d) : ∃ a, v = .ref a := let ⟨a, e, _⟩ := h; ⟨a, e⟩
theorem LAt.toldP {CD : Addr} {H : Hp} {R p : Addr} {z : Int} {ys : List V} {o : HO} (hR : H R = some (.lst (.int z :: ys))) {ds : List Book} (h : LAt (RP CD) H p ds) : LAt (RP CD) (upd H R o) p ds := by
  obtain ⟨xs, e, q, n⟩ := h
  have ne : p ≠ R := ne_of e hR fun w => by
    have w := HO.lst.inj w
    subst w
    cases q with
    | cons r _ =>
      obtain ⟨a, _, _, w, _⟩ := r
      cases w
  exact ⟨xs, (upd_ne ne).trans e, paired_imp (fun _ _ ⟨t, pd, pl, e, h, a, b⟩ => ⟨t, pd, pl, e, fsame_lst hR _ _ (.inl ⟨_, rfl⟩) h, a.told fmono_RD rd_ref hR, b.told fmono_RL rl_ref hR⟩) q, n⟩
theorem BookAt.told {CD CB B : Addr} {H : Hp} {R : Addr} {z : Int} {ys : List V} {o : HO} {D : Desk} (h : BookAt CD CB H B D) (hR : H R = some (.lst (.int z :: ys))) : BookAt CD CB (upd H R o) B D := by
  obtain ⟨dx, pd, pl, pb, pq, hB, a1, a2, a3, a4⟩ := h
  exact ⟨dx, pd, pl, pb, pq, (upd_ne (ne_of hB hR (by intro z; cases z))).trans hB, a1.told fmono_RD rd_ref hR, a2.told fmono_RL rl_ref hR, a3.toldP hR, a4.toldP hR⟩
theorem cut_mid (xs : List V) (m k : Nat) (h : m + k ≤ xs.length) : cutV xs (some (m : Int)) (some ((m + k : Nat) : Int)) = (xs.drop m).take k := by
  unfold cutV
  rw [HT.sIx_nat, HT.sIx_nat, Nat.min_eq_left h, Nat.min_eq_left (show m ≤ xs.length by omega), Nat.add_sub_cancel_left]
def anM (n : Nat) (σ : L2.St) : Nat := match σ with
  | [_, _, _, some (.int i), _, _, _] => n - i.toNat
  | _ => 0
def spAns (K : PySem.W.Frag) : Sp := fun vs H Q _ => ∃ (a : Addr) (l : List Int), vs = [.ref a] ∧ SqL K H a (l.map V.int) ∧ PyKm483.answers_asked l = true ∧ ∀ (H' : Hp) (p : Addr), H' p = some (.lst ((PyKm483.answers l).map V.int)) → Q (.ref p) H'
theorem put_nil {s : Km483Neutral.S} {cs : List (List (List Int))} (L : Line s cs) (h : PyFlat.put cs = []) : cs = [] := by
  cases cs with
  | nil => rfl
  | cons c cs =>
    obtain ⟨p, ns, x, rfl, _⟩ := L.next
    rw [put_cons] at h
    cases h
theorem takes_at {p k : Nat} (h : takesN[p]? = some k) : atI (takesN.map fun n : Nat => V.int (n : Int)) (p : Int) = some (V.int (k : Int)) := atI_nat (by rw [List.getElem?_map, h]; rfl)
theorem ok_answers {fA : Addr} {fdA : FuncData} (T : Txt K mg CD CB) (F : Fun K "answers" "answers" s_answers fA fdA) (GB : DoesC P w K mg base CB 2 "Book" ["self"] (spInit CD CB)) (GC : Does P w K mg base 8 "answer_call" ["book", "call", "given"] (spCall CD CB)) :
    FnOk P w K mg base CX0 9 fA fdA ["calls"] (spAns K) := by
  obtain ⟨aT, hT, sT⟩ := T.tk
  refine F.ok sc_answers (fun vs H Q E h => ?_) (fun cdv A outer s H vs Q E hr h => ?_)
  · obtain ⟨_, _, rfl, _⟩ := h
    rfl
  · obtain ⟨a, l, rfl, hl, hask, k⟩ := h
    obtain ⟨cs0, el, L0, eans, hlen⟩ := asked_line hask
    refine ⟨_, pss_cons (ps_set (i := 1) sc_answers.nd rfl (Or.inl rfl) (pe_c0 GB hr))
      (pss_cons (ps_set (i := 2) sc_answers.nd rfl (Or.inl rfl) (pe_lst pa_nil))
      (pss_cons (ps_set (i := 3) sc_answers.nd rfl (Or.inl rfl) pe_int)
      (pss_cons (ps_while PassesOwn.never (pt_cmpR op_lt (pv 3) (pe_callB call_len_seq (by rfl) (T.bn _ (by decide +kernel)) PySem.boot_len (pa_cons (pv 0) pa_nil)) (nomark _))
        (pss_cons (ps_set (i := 4) sc_answers.nd rfl (Or.inl rfl) (pe_ix ix_list (pv 0) (pv 3) (fun _ _ => rfl)))
        (pss_cons (ps_set (i := 5) sc_answers.nd rfl (Or.inl rfl) (pe_op op_add (pe_op op_add (pv 3) pe_int) (pe_ix ix_tup (pe_glob (v := .ref aT) (by rfl) hT rfl) (pv 4) (fun _ _ => rfl))))
        (pss_cons (ps_set (i := 6) sc_answers.nd rfl (Or.inl rfl) (pe_f GC hr (ha := pa_cons (pv 1) (pa_cons (pv 4) (pa_cons (pe_slice sl_list (pv 0) (po_some (pe_op op_add (pv 3) pe_int)) (po_some (pv 5))) pa_nil)))))
        (pss_cons (ps_expr (pe_bm PySem.F.plainAttrs_list PySem.F.slot_list_append PySem.F.type_list_append mt_append (pv 2) (pa_cons (pe_callB call_len_seq (by rfl) (T.bn _ (by decide +kernel)) PySem.boot_len (pa_cons (pv 6) pa_nil)) pa_nil)))
        (pss_cons (ps_expr (pe_bm PySem.F.plainAttrs_list PySem.F.slot_list_extend PySem.F.type_list_extend mt_extend (pv 2) (pa_cons (pv 6) pa_nil)))
        (pss_one (ps_set (i := 3) sc_answers.nd rfl (Or.inl rfl) (pv 5)))))))))
      (pss_one (ps_ret (pv 2)))))), ?_⟩
    -- book = Book()
    refine fun B dx nB ndx nex => ⟨B, dx, rfl, upd_same, fun H1 s1 hb1 => ⟨rfl, ?_⟩⟩
    have s01 : Same H H1 := fun b o e => s1 b o (ne_of_none e nB) (made_same nB ndx b o e)
    refine ⟨(by show 0 ≤ sizeLine; decide), fun R hR => ?_⟩
    have hR0 : H R = none := s01.free hR
    have s02 := s01.trans (same_new (o := .lst []) hR)
    have hb2 := hb1.same (same_new (o := .lst []) hR)
    have r2 : (upd H1 R (.lst [])) R = some (.lst []) := upd_same
    have v2 : BookAt CD CB (hid R (upd H1 R (.lst []))) B void := hb1.same fun b o e => by
      rw [hid_ne (ne_of_none e hR), upd_ne (ne_of_none e hR)]
      exact e
    generalize upd H1 R (.lst []) = H2 at s02 hb2 r2 v2 ⊢
    refine while_by (fun σ H' => Same H H' ∧ ∃ (i : Nat) (v4 v5 v6 : Option V) (cs : List (List (List Int))) (S : Km483Neutral.S) (D : List Int), σ = [some (.ref a), some (.ref B), some (.ref R), some (.int (i : Int)), v4, v5, v6] ∧ i ≤ l.length ∧ l.drop i = PyFlat.put cs ∧ Line S cs ∧
        D ++ PyFlat.told (PyFlat.played Km483Neutral.step S cs) = PyKm483.answers l ∧ BookAt CD CB H' B (deskOf S) ∧ H' R = some (.lst (D.map V.int)) ∧ (D = [] → S = none ∧ BookAt CD CB (hid R H') B (deskOf S))) (fun σ _ => anM l.length σ)
      ⟨s02, 0, none, none, none, cs0, Km483Neutral.start, [], rfl, Nat.zero_le _, el, L0, eans.symm, hb2, r2, fun _ => ⟨rfl, v2⟩⟩ ?_ ?_
    · rintro σ H3 ⟨s3, i, v4, v5, v6, cs, S, D, rfl, hi, ed, L, eD, hb3, r3, v3⟩
      have hl3 := s3.seq hl
      refine ⟨_, rfl, _, rfl, a, _, rfl, .inl hl3, _, _, rfl, rfl, _, rfl, ?_⟩
      rw [List.length_map, dec_lt]
      refine bool_if _ (fun e => ?_) fun e => ?_
      · have hil : i < l.length := by simpa using e
        cases cs with
        | nil =>
          have : (l.drop i).length = 0 := by rw [ed]; rfl
          rw [List.length_drop] at this
          omega
        | cons c cs =>
          obtain ⟨p, ns, x, rfl, ht, hN, h1, h2, L', hdk⟩ := L.next
          rw [put_cons] at ed
          have e0 : l[i]? = some (p : Int) := by
            have := congrArg (fun z => z[0]?) ed
            simpa using this
          have elen : i + 1 + ns.length + (PyFlat.put cs).length = l.length := by
            have := congrArg List.length ed
            rw [List.length_drop, List.length_cons, List.length_append] at this
            have e3 : (intsN ns).length = ns.length := List.length_map _
            omega
          have ed1 : l.drop (i + 1) = intsN ns ++ PyFlat.put cs := by
            rw [← List.drop_drop, ed]
            rfl
          -- call = calls[place]
          refine ⟨_, rfl, _, rfl, a, _, _, V.int (p : Int), rfl, rfl, hl3, atI_nat (by rw [List.getElem?_map, e0]; rfl), ?_⟩
          -- behind
          refine ⟨_, rfl, _, _, rfl, rfl, _, rfl, aT, _, _, _, rfl, rfl, sT H3, takes_at ht, _, _, rfl, rfl, ?_⟩
          -- answer
          refine ⟨_, rfl, _, rfl, _, rfl, _, rfl, _, _, rfl, rfl, ((i + 1 : Nat) : Int), rfl, _, rfl, ((i + 1 + ns.length : Nat) : Int), rfl, a, _, rfl, hl3, fun g hg => ?_⟩
          have ecut : cutV (l.map V.int) (some ((i + 1 : Nat) : Int)) (some ((i + 1 + ns.length : Nat) : Int)) = (intsN ns).map V.int := by
            rw [cut_mid _ _ _ (by rw [List.length_map]; omega), ← List.map_drop, ← List.map_take, ed1]
            have e3 : (intsN ns).length = ns.length := List.length_map _
            rw [← e3, List.take_left']
            rfl
          rw [ecut]
          have s4 := same_new (o := .lst ((intsN ns).map V.int)) hg
          have g4 : (upd H3 g (.lst ((intsN ns).map V.int))) g = some (.lst ((intsN ns).map V.int)) := upd_same
          generalize upd H3 g (.lst ((intsN ns).map V.int)) = H4 at s4 g4 ⊢
          refine ⟨B, deskOf S, g, p, ns, x, rfl, g4, hN, hb3.same s4, hdk, fun H5 r s5 hb5 av5 hr5 h5 => ?_⟩
          -- told.append(len(answer))
          rw [← h1] at h5
          rw [← h2] at hb5 av5
          have eD2 : (D ++ (((Km483Neutral.step S [(p : Int) :: intsN ns]).2.length : Int) :: (Km483Neutral.step S [(p : Int) :: intsN ns]).2)) ++ PyFlat.told (PyFlat.played Km483Neutral.step (Km483Neutral.step S [(p : Int) :: intsN ns]).1 cs) = PyKm483.answers l := by
            rw [List.append_assoc]
            exact eD
          generalize (Km483Neutral.step S [(p : Int) :: intsN ns]).2 = ans at h5 eD2
          have zlen := congrArg List.length eD2
          rw [List.length_append, List.length_append, List.length_cons] at zlen
          have s05 : Same H H5 := fun b o e => s5 b o (ne_of_none e nB) (s4 b o (s3 b o e))
          obtain ⟨dx3, pd3, pl3, pb3, pf3, hB3, _⟩ := hb3.same s4
          have r5 : H5 R = some (.lst (D.map V.int)) := lst_but hB3 s5 (s4 _ _ r3)
          have nrR : r ≠ R := fun z => by rw [z, s4 _ _ r3] at hr5; cases hr5
          obtain ⟨dx5, pd5, pl5, pb5, pf5, hB5, _⟩ := id hb5
          refine ⟨_, rfl, .inl ⟨rfl, _, SqL.of r5⟩, _, rfl, r, _, rfl, .inl (.of h5), R, _, _, rfl, rfl, r5, (by rw [List.length_map, sizeLine_eq]; omega), ?_⟩
          rw [List.length_map]
          -- told.extend(answer)
          refine ⟨_, rfl, .inl ⟨rfl, _, SqL.of upd_same⟩, _, rfl, R, r, _, _, rfl, rfl, upd_same, (upd_ne nrR).trans h5, (by rw [List.length_append, List.length_map, List.length_map, List.length_singleton, sizeLine_eq]; omega), ?_⟩
          rw [upd_upd]
          refine ⟨_, rfl, ⟨fun b o e => ?_, i + 1 + ns.length, some (.int (p : Int)), some (.int ((i : Int) + 1 + (ns.length : Int))), some (.ref r), cs, _, _, ?_, by omega, ?_, L', eD2, ?_, ?_, ?_⟩, ?_⟩
          · rw [upd_ne (ne_of_none e hR0)]
            exact s05 _ _ e
          · rfl
          · rw [← List.drop_drop, ed1]
            have e3 : (intsN ns).length = ns.length := List.length_map _
            rw [← e3, List.drop_left']
            rfl
          · by_cases hD : D = []
            · obtain ⟨v1, v2⟩ := v3 hD
              have hst : ∃ n m, x = .start n m := hdk.elim (fun z => by rw [v1] at z; exact absurd z.now.n1 (by decide)) id
              refine (av5 hst R _ (s4 _ _ r3) (v2.same (hid_same s4))).same fun b o e => ?_
              have nb : b ≠ R := fun z => by rw [z] at e; unfold hid at e; rw [if_pos rfl] at e; cases e
              rw [upd_ne nb]
              rw [hid_ne nb] at e
              exact e
            · obtain ⟨z, zs, ez⟩ := List.exists_cons_of_ne_nil hD
              rw [ez, List.map_cons] at r5
              exact hb5.told r5
          · rw [upd_same, List.map_append, List.map_cons]
            rw [List.append_assoc]
            rfl
          · intro z
            have := congrArg List.length z
            rw [List.length_append, List.length_cons] at this
            exact absurd this (by show ¬ D.length + (ans.length + 1) = 0; omega)
          · show l.length - ((i + 1 + ns.length : Nat) : Int).toNat < l.length - ((i : Nat) : Int).toNat
            rw [Int.toNat_natCast, Int.toNat_natCast]
            omega
      · have hil : ¬ i < l.length := by simpa using e
        have e0 : l.drop i = [] := List.drop_of_length_le (by omega)
        rw [e0] at ed
        have := put_nil L ed.symm
        subst this
        have e1 : D = PyKm483.answers l := by
          rw [← eD]
          show D = D ++ []
          rw [List.append_nil]
        rw [e1] at r3
        exact ⟨_, rfl, k H3 R r3⟩
    · rintro σ H' Q1 Q2 mono ⟨v1, e1, v2, e2, p, ys, ev, hs, i, j, ei, ej, b, eb, q⟩
      exact ⟨v1, e1, v2, e2, p, ys, ev, hs, i, j, ei, ej, b, eb, mono _ _ q⟩
end
end My
namespace My
open PySem PySem.Spec PyProof.Rows L2
/-! ### what the top has written, def by def -/
section
variable {K : PySem.W.Frag} {h : Heap} {mg : Str → Option Value}
theorem has_mk {x : Str} {st : Stmt} {ps : List Str} (X : K.In h) (G : h.Ns mainGlobals mg) {f : Addr} {oc : Value} {od an : Option Addr} {osl : Array (Option Value)} {kV doc pm cdv ct : Value} (a : PySem.W.nsIn K mainGlobals x = some (some (.ref f)))
    (l : K.lookup f = some ⟨oc, od, .func (PySem.W.fnOf x x (defArgs st) (defBody st) (defScope st) .none kV doc pm an cdv ct), osl⟩) (c : PySem.W.codeIn K cdv x = true) (k : PySem.W.keepIn K (.ref f) = true)
    (b : ∀ (kV doc pm : Value) (an : Option Addr) (cdv ct : Value) (us : List Value), us.length = ps.length → bindArgs (PySem.W.fnOf x x (defArgs st) (defBody st) (defScope st) .none kV doc pm an cdv ct) ⟨us, []⟩ = pure (ps.zip us)) : Has K mg x st ps :=
  ⟨f, _, PySem.W.mg_of X G a, fun_mk l c k, (fun_mk l c k).binds b⟩
theorem hasM_mk {C : Addr} {x qual : Str} {st : Stmt} {ps : List Str} {f : Addr} {oc : Value} {od an : Option Addr} {osl : Array (Option Value)} {kV doc pm cdv ct : Value} (a : PySem.W.findIn K (.ref C) x = some (some (.ref f))) (i : PySem.W.isFn K (.ref f) = true)
    (l : K.lookup f = some ⟨oc, od, .func (PySem.W.fnOf x qual (defArgs st) (defBody st) (defScope st) .none kV doc pm an cdv ct), osl⟩) (c : PySem.W.codeIn K cdv qual = true) (k : PySem.W.keepIn K (.ref f) = true)
    (b : ∀ (kV doc pm : Value) (an : Option Addr) (cdv ct : Value) (us : List Value), us.length = ps.length → bindArgs (PySem.W.fnOf x qual (defArgs st) (defBody st) (defScope st) .none kV doc pm an cdv ct) ⟨us, []⟩ = pure (ps.zip us)) : HasM K C x qual st ps :=
  ⟨f, _, ⟨a, i, k⟩, fun_mk l c k, (fun_mk l c k).binds b⟩
theorem hasC_mk {C : Addr} {x qual : Str} {st : Stmt} {ps : List Str} (X : K.In h) (G : h.Ns mainGlobals mg) {f : Addr} {oc : Value} {od an : Option Addr} {osl : Array (Option Value)} {kV doc pm cdv ct : Value} (n : PySem.W.nsIn K mainGlobals x = some (some (.ref C)))
    (a : PySem.W.findIn K (.ref C) "__init__" = some (some (.ref f))) (i : PySem.W.isFn K (.ref f) = true)
    (l : K.lookup f = some ⟨oc, od, .func (PySem.W.fnOf "__init__" qual (defArgs st) (defBody st) (defScope st) .none kV doc pm an cdv ct), osl⟩) (c : PySem.W.codeIn K cdv qual = true) (k : PySem.W.keepIn K (.ref f) = true) (mk : PySem.W.makesIn K C = true) (kc : PySem.W.keepIn K (.ref C) = true)
    (b : ∀ (kV doc pm : Value) (an : Option Addr) (cdv ct : Value) (us : List Value), us.length = ps.length → bindArgs (PySem.W.fnOf "__init__" qual (defArgs st) (defBody st) (defScope st) .none kV doc pm an cdv ct) ⟨us, []⟩ = pure (ps.zip us)) : HasC K mg C x qual st ps :=
  ⟨f, _, ⟨mk, a, i, kc⟩, PySem.W.mg_of X G n, fun_mk l c k, (fun_mk l c k).binds b⟩
theorem int_mk {x : Str} {n : Int} {t : Tok} (X : K.In h) (G : h.Ns mainGlobals mg) (a : PySem.W.nsIn K mainGlobals x = some (some (.int n t))) : ∃ t, mg x = some (.int n t) := ⟨t, PySem.W.mg_of X G a⟩
theorem vals_nats : ∀ {ns : List Nat} {us : List Value}, us.map (fun u => match u with | .int i _ => some i | _ => none) = ns.map (fun n : Nat => some (n : Int)) → Vals (ns.map fun n : Nat => V.int (n : Int)) us
  | [], [], _ => .nil
  | [], _ :: _, e => nomatch e
  | _ :: _, [], e => nomatch e
  | n :: ns, u :: us, e => by
    obtain ⟨e1, e2⟩ := List.cons.inj e
    refine .cons ?_ (vals_nats e2)
    cases u with
    | int i t =>
      have e1 := Option.some.inj e1
      exact ⟨t, by rw [e1]⟩
    | _ => cases e1
theorem tak_mk {x : Str} {ns : List Nat} {aT : Addr} {its : Array Value} {n : Nat} {od : Option Addr} {sl : Array (Option Value)} (X : K.In h) (G : h.Ns mainGlobals mg) (a : PySem.W.nsIn K mainGlobals x = some (some (.ref aT)))
    (l : K.lookup aT = some ⟨.type "tuple", od, .seq its n, sl⟩) (z : its.size ≤ 1000) (v : its.toList.map (fun u => match u with | .int i _ => some i | _ => none) = ns.map (fun n : Nat => some (n : Int))) :
    ∃ aT, mg x = some (.ref aT) ∧ ∀ H : Hp, SqT K H aT (ns.map fun n : Nat => V.int (n : Int)) :=
  ⟨aT, PySem.W.mg_of X G a, fun _ => .inr ⟨_, its, n, l, rfl, rfl, by rw [sizeLine_eq]; omega, vals_nats v⟩⟩
end
theorem fa_nil {α : Type} {p : α → Prop} : ∀ x ∈ ([] : List α), p x := fun _ h => nomatch h
theorem fa_cons {α : Type} {p : α → Prop} {a : α} {l : List α} (h : p a) (t : ∀ x ∈ l, p x) : ∀ x ∈ a :: l, p x := fun x hx => by
  rcases List.mem_cons.mp hx with rfl | hx
  · exact h
  · exact t x hx
theorem na_mk {K : PySem.W.Frag} {C : Addr} {f : Str} (e : PySem.W.findIn K (.ref C) f = some none) : NoAttr K C f := e
theorem all_mk {P : Program} {w : World} {K : PySem.W.Frag} {mg : Str → Option Value} {CD CB fa : Addr} (T : Txt K mg CD CB) (hfa : mg "answers" = some (.ref fa))
    (h_overtakes : Has K mg "overtakes" s_overtakes ["other", "duty"])
    (h_stands : Has K mg "stands" s_stands ["duty", "duties"])
    (h_standing : Has K mg "standing" s_standing ["duties"])
    (h_does : Has K mg "does" s_does ["conduct", "act"])
    (h_count : Has K mg "count_acts" s_count_acts ["conduct"])
    (h_may : Has K mg "may_be" s_may_be ["conduct", "links"])
    (h_keeps : Has K mg "keeps" s_keeps ["conduct", "duty"])
    (h_broken : Has K mg "broken_by" s_broken_by ["conduct", "duties"])
    (h_weight : Has K mg "weight_of" s_weight_of ["duties"])
    (h_has_act : HasM K CB "has_act" "Book.has_act" s_Book_has_act ["self", "act"])
    (h_has_state : HasM K CB "has_state" "Book.has_state" s_Book_has_state ["self", "state"])
    (h_has_duty : HasM K CB "has_duty" "Book.has_duty" s_Book_has_duty ["self", "place"])
    (h_is_set : HasM K CB "is_set" "Book.is_set" s_Book_is_set ["self", "conduct"])
    (h_page : HasM K CB "page" "Book.page" s_Book_page ["self"])
    (h_turn : HasM K CB "turn_to" "Book.turn_to" s_Book_turn_to ["self", "page"])
    (h_begin : HasM K CB "begin" "Book.begin" s_Book_begin ["self", "acts", "states"])
    (h_init : HasC K mg CB "Book" "Book.__init__" s_Book_init ["self"])
    (h_duty_init : HasC K mg CD "Duty" "Duty.__init__" s_Duty_init ["self", "debtor", "creditor", "act", "owed", "weight", "day"])
    (h_change : HasM K CB "change" "Book.change" s_Book_change ["self", "duties", "links"])
    (h_take : HasM K CB "take_back" "Book.take_back" s_Book_take_back ["self"])
    (h_again : HasM K CB "do_again" "Book.do_again" s_Book_do_again ["self"])
    (h_places : Has K mg "standing_places" s_standing_places ["duties"])
    (h_conducts : Has K mg "conducts_that_may_be" s_conducts_that_may_be ["book"])
    (h_weighed : Has K mg "weighed_conducts" s_weighed_conducts ["book"])
    (h_least : Has K mg "least_broken" s_least_broken ["weighed"])
    (h_best : Has K mg "best_conducts" s_best_conducts ["book"])
    (h_refusal : Has K mg "refusal_of" s_refusal_of ["book", "k"])
    (h_cost : Has K mg "cost_of" s_cost_of ["duty", "weighed"])
    (h_relief : Has K mg "relief_of" s_relief_of ["duty", "weighed"])
    (h_lw : Has K mg "least_with" s_least_with ["act", "links"])
    (h_clash : Has K mg "clash" s_clash ["one", "other", "links"])
    (h_pairs : Has K mg "clashing_pairs" s_clashing_pairs ["book"])
    (h_ck_told : Has K mg "ck_told" s_ck_told ["book", "k"])
    (h_ck_may : Has K mg "ck_may" s_ck_may ["book", "s"])
    (h_ck_breaks : Has K mg "ck_breaks" s_ck_breaks ["book", "s"])
    (h_ck_best : Has K mg "ck_best" s_ck_best ["book"])
    (h_ck_most : Has K mg "ck_most" s_ck_most ["book"])
    (h_ck_ways : Has K mg "ck_ways" s_ck_ways ["book"])
    (h_ck_nth : Has K mg "ck_nth" s_ck_nth ["book", "k"])
    (h_ck_sure : Has K mg "ck_sure" s_ck_sure ["book", "a"])
    (h_ck_who : Has K mg "ck_who" s_ck_who ["book", "i"])
    (h_ck_state : Has K mg "ck_state" s_ck_state ["book"])
    (h_ck_can : Has K mg "ck_can" s_ck_can ["book", "k"])
    (h_ck_cost : Has K mg "ck_cost" s_ck_cost ["book", "k"])
    (h_ck_relief : Has K mg "ck_relief" s_ck_relief ["book", "k"])
    (h_ck_waive : Has K mg "ck_waive" s_ck_waive ["book"])
    (h_ck_clash : Has K mg "ck_clash" s_ck_clash ["book", "k", "l"])
    (h_ck_clashes : Has K mg "ck_clashes" s_ck_clashes ["book"])
    (h_ck_start : Has K mg "ck_start" s_ck_start ["book", "n", "m"])
    (h_ck_duty : Has K mg "ck_duty" s_ck_duty ["book", "i", "j", "a", "x", "w", "d"])
    (h_ck_drop : Has K mg "ck_drop" s_ck_drop ["book", "k"])
    (h_ck_needs : Has K mg "ck_needs" s_ck_needs ["book", "a", "b"])
    (h_ck_free : Has K mg "ck_free" s_ck_free ["book", "a", "b"])
    (h_ck_back : Has K mg "ck_back" s_ck_back ["book"])
    (h_ck_again : Has K mg "ck_again" s_ck_again ["book"])
    (h_answer_change : Has K mg "answer_change" s_answer_change ["book", "call", "given"])
    (h_answer_cost : Has K mg "answer_cost" s_answer_cost ["book", "call", "given"])
    (h_answer_question : Has K mg "answer_question" s_answer_question ["book", "call", "given"])
    (h_call : Has K mg "answer_call" s_answer_call ["book", "call", "given"])
    (h_answers : Has K mg "answers" s_answers ["calls"]) :
    ∃ fd : FuncData, (∀ (s : Shared) (us : List Value), us.length = (["calls"] : List Str).length → BindsTo s fd ⟨us, []⟩ ((["calls"] : List Str).zip us)) ∧ ∀ base : Heap, K.In base → base.Ns mainGlobals mg → FnOk P w K mg base CX0 9 fa fd ["calls"] (spAns K) := by
  obtain ⟨f, fd, hm, F, b⟩ := h_answers
  cases hfa.symm.trans hm
  refine ⟨fd, fun s us hu => ?_, fun base _ _ => ?_⟩
  · obtain ⟨oc, od, kV, doc, pm, an, cdv, ct, osl, rfl, lk, hcd⟩ := F.ex
    exact match us, hu with | [_], _ => .of_eq rfl
  have d_overtakes : Does P w K mg base 1 "overtakes" ["other", "duty"] (spOvertakes CD) := ok_overtakes T h_overtakes
  have d_stands : Does P w K mg base 2 "stands" ["duty", "duties"] (spStands CD) := ok_stands T h_stands d_overtakes
  have d_standing : Does P w K mg base 3 "standing" ["duties"] (spStanding CD) := ok_standing h_standing d_stands
  have d_does : Does P w K mg base 1 "does" ["conduct", "act"] spDoes := ok_does h_does
  have d_count : Does P w K mg base 2 "count_acts" ["conduct"] spCount := ok_count T h_count d_does
  have d_may : Does P w K mg base 2 "may_be" ["conduct", "links"] spMay := ok_may h_may d_does
  have d_keeps : Does P w K mg base 2 "keeps" ["conduct", "duty"] (spKeeps CD) := ok_keeps T h_keeps d_does
  have d_broken : Does P w K mg base 3 "broken_by" ["conduct", "duties"] (spBroken CD) := ok_broken h_broken d_keeps
  have d_weight : Does P w K mg base 1 "weight_of" ["duties"] (spWeight CD) := ok_weight T h_weight
  have d_has_act : DoesM P w K mg base CB 1 "has_act" ["self", "act"] (spHasAct CB) := ok_has_act T h_has_act
  have d_has_state : DoesM P w K mg base CB 1 "has_state" ["self", "state"] (spHasState CB) := ok_has_state T h_has_state
  have d_has_duty : DoesM P w K mg base CB 1 "has_duty" ["self", "place"] (spHasDuty CB) := ok_has_duty T h_has_duty
  have d_is_set : DoesM P w K mg base CB 1 "is_set" ["self", "conduct"] (spIsSet CB) := ok_is_set T h_is_set
  have d_page : DoesM P w K mg base CB 1 "page" ["self"] (spPage CB) := ok_page T h_page
  have d_turn : DoesM P w K mg base CB 1 "turn_to" ["self", "page"] (spTurn CB) := ok_turn T h_turn
  have d_begin : DoesM P w K mg base CB 1 "begin" ["self", "acts", "states"] (spBegin CD CB) := ok_begin T h_begin
  have d_init : DoesC P w K mg base CB 2 "Book" ["self"] (spInit CD CB) := ok_init T h_init d_begin
  have d_duty_init : DoesC P w K mg base CD 1 "Duty" ["self", "debtor", "creditor", "act", "owed", "weight", "day"] (spDuty CD) := ok_duty_init T h_duty_init
  have d_change : DoesM P w K mg base CB 2 "change" ["self", "duties", "links"] (spChange CD CB) := ok_change T h_change d_page d_turn
  have d_take : DoesM P w K mg base CB 2 "take_back" ["self"] (spTake CD CB) := ok_take T h_take d_page d_turn
  have d_again : DoesM P w K mg base CB 2 "do_again" ["self"] (spAgain CD CB) := ok_again T h_again d_page d_turn
  have d_places : Does P w K mg base 3 "standing_places" ["duties"] (spPlaces CD) := ok_places T h_places d_stands
  have d_conducts : Does P w K mg base 3 "conducts_that_may_be" ["book"] (spConducts CD CB) := ok_conducts T h_conducts d_may
  have d_weighed : Does P w K mg base 4 "weighed_conducts" ["book"] (spWeighed CD CB) := ok_weighed T h_weighed d_standing d_conducts d_broken d_weight
  have d_least : Does P w K mg base 1 "least_broken" ["weighed"] spLeast := ok_least T h_least
  have d_best : Does P w K mg base 5 "best_conducts" ["book"] (spBest CD CB) := ok_best T h_best d_weighed d_least
  have d_refusal : Does P w K mg base 3 "refusal_of" ["book", "k"] (spRefusal CD CB) := ok_refusal T h_refusal d_has_duty d_stands
  have d_cost : Does P w K mg base 3 "cost_of" ["duty", "weighed"] (spCost CD) := ok_cost T h_cost d_keeps d_least
  have d_relief : Does P w K mg base 3 "relief_of" ["duty", "weighed"] (spRelief CD) := ok_relief T h_relief d_keeps d_least
  have d_lw : Does P w K mg base 3 "least_with" ["act", "links"] spLW := ok_lw T h_lw d_may d_does
  have d_clash : Does P w K mg base 4 "clash" ["one", "other", "links"] (spClash CD) := ok_clash T h_clash d_lw d_does
  have d_pairs : Does P w K mg base 5 "clashing_pairs" ["book"] (spPairs CD CB) := ok_pairs T h_pairs d_places d_clash
  have d_ck_told : Does P w K mg base 3 "ck_told" ["book", "k"] (sp1 CD CB .told) := ok_ck_told T h_ck_told d_has_duty d_stands
  have d_ck_may : Does P w K mg base 3 "ck_may" ["book", "s"] (sp1 CD CB .may) := ok_ck_may T h_ck_may d_is_set d_may
  have d_ck_breaks : Does P w K mg base 4 "ck_breaks" ["book", "s"] (sp1 CD CB .breaks) := ok_ck_breaks T h_ck_breaks d_is_set d_may d_standing d_broken d_weight
  have d_ck_best : Does P w K mg base 6 "ck_best" ["book"] (sp0 CD CB .best) := ok_ck_best T h_ck_best d_best d_standing d_broken d_weight
  have d_ck_most : Does P w K mg base 6 "ck_most" ["book"] (sp0 CD CB .most) := ok_ck_most T h_ck_most d_best d_count
  have d_ck_ways : Does P w K mg base 6 "ck_ways" ["book"] (sp0 CD CB .ways) := ok_ck_ways T h_ck_ways d_best d_conducts
  have d_ck_nth : Does P w K mg base 6 "ck_nth" ["book", "k"] (sp1 CD CB .nth) := ok_ck_nth T h_ck_nth d_best d_count
  have d_ck_sure : Does P w K mg base 6 "ck_sure" ["book", "a"] (sp1 CD CB .sure) := ok_ck_sure T h_ck_sure d_has_act d_best d_does
  have d_ck_who : Does P w K mg base 6 "ck_who" ["book", "i"] (sp1 CD CB .who) := ok_ck_who T h_ck_who d_has_state d_best d_standing d_broken d_weight
  have d_ck_state : Does P w K mg base 1 "ck_state" ["book"] (sp0 CD CB .state) := ok_ck_state T h_ck_state
  have d_ck_can : Does P w K mg base 6 "ck_can" ["book", "k"] (sp1 CD CB .can) := ok_ck_can T h_ck_can d_refusal d_best d_keeps
  have d_ck_cost : Does P w K mg base 5 "ck_cost" ["book", "k"] (sp1 CD CB .cost) := ok_ck_cost T h_ck_cost d_refusal d_cost d_weighed
  have d_ck_relief : Does P w K mg base 5 "ck_relief" ["book", "k"] (sp1 CD CB .relief) := ok_ck_relief T h_ck_relief d_refusal d_relief d_weighed
  have d_ck_waive : Does P w K mg base 5 "ck_waive" ["book"] (sp0 CD CB .waive) := ok_ck_waive T h_ck_waive d_places d_relief d_weighed
  have d_ck_clash : Does P w K mg base 5 "ck_clash" ["book", "k", "l"] (sp2 CD CB .clash) := ok_ck_clash T h_ck_clash d_has_duty d_clash
  have d_ck_clashes : Does P w K mg base 6 "ck_clashes" ["book"] (sp0 CD CB .clashes) := ok_ck_clashes T h_ck_clashes d_pairs
  have d_ck_start : Does P w K mg base 2 "ck_start" ["book", "n", "m"] (spStart CD CB) := ok_ck_start T h_ck_start d_begin
  have d_ck_duty : Does P w K mg base 3 "ck_duty" ["book", "i", "j", "a", "x", "w", "d"] (sp6 CD CB) := ok_ck_duty T h_ck_duty d_has_state d_has_act d_duty_init d_change
  have d_ck_drop : Does P w K mg base 3 "ck_drop" ["book", "k"] (sp1 CD CB .drop) := ok_ck_drop T h_ck_drop d_has_duty d_change
  have d_ck_needs : Does P w K mg base 3 "ck_needs" ["book", "a", "b"] (sp2 CD CB .needs) := ok_ck_needs T h_ck_needs d_has_act d_change
  have d_ck_free : Does P w K mg base 3 "ck_free" ["book", "a", "b"] (sp2 CD CB .free) := ok_ck_free T h_ck_free d_has_act d_change
  have d_ck_back : Does P w K mg base 3 "ck_back" ["book"] (sp0 CD CB .back) := ok_ck_back T h_ck_back d_take
  have d_ck_again : Does P w K mg base 3 "ck_again" ["book"] (sp0 CD CB .again) := ok_ck_again T h_ck_again d_again
  have d_answer_change : Does P w K mg base 4 "answer_change" ["book", "call", "given"] (sp_answer_change CD CB) := ok_answer_change T h_answer_change d_ck_start d_ck_duty d_ck_drop d_ck_needs d_ck_free d_ck_back d_ck_again
  have d_answer_cost : Does P w K mg base 7 "answer_cost" ["book", "call", "given"] (sp_answer_cost CD CB) := ok_answer_cost T h_answer_cost d_ck_can d_ck_cost d_ck_clash d_ck_clashes d_ck_waive d_ck_relief
  have d_answer_question : Does P w K mg base 7 "answer_question" ["book", "call", "given"] (sp_answer_question CD CB) := ok_answer_question T h_answer_question d_ck_told d_ck_may d_ck_breaks d_ck_best d_ck_most d_ck_ways d_ck_nth d_ck_sure d_ck_who d_ck_state
  have d_call : Does P w K mg base 8 "answer_call" ["book", "call", "given"] (spCall CD CB) := ok_call T h_call d_answer_change d_answer_cost d_answer_question
  exact ok_answers T F d_init d_call
end My
/-! names that are taken: the head then uses these heaps as they are, without a second writing of them (the compiled file stays small) -/
def PySem.W.Fast.tw13596503306108602269 : Unit := ()
def PySem.W.Fast.tw10195556228729117629 : Unit := ()
def PySem.W.Fast.tw234735124952707386 : Unit := ()
def PySem.W.Fast.tw12172969317427752553 : Unit := ()
def PySem.W.Fast.tw15339151498522697812 : Unit := ()
def PySem.W.Fast.tw14886905270200014753 : Unit := ()
def PySem.W.Fast.tw15332742657171639159 : Unit := ()
open PySem PySem.W PyProof.Rows
set_option maxRecDepth 100000 in
set_option maxHeartbeats 0 in
theorem PySem.Challenge.cw_promisesheld_s01_answers_holds : PySem.Challenge.rw_promisesheld_s01_answers.Holds := by
  w_on; k_headS; (case hw => exact ⟨[.list [.int 0, .int 1, .int 2]], by decide +kernel, by decide +kernel⟩)
  k_fillS
  refine L2.walk_specK (r := PySem.Challenge.rw_promisesheld_s01_answers) (k := 9) (CX := L2.CX0) (ps := ["calls"]) (sp := My.spAns) (by decide +kernel) rfl rfl ⟨rfl, by decide, by decide⟩ (fun w h Y => PySem.W.kIn_of Y) ?F ?S (fun _ _ _ _ z => z)
  case F =>
    intro w mg fa h Y KX G hmg
    refine' My.all_mk (CD := 31) (CB := 122) ⟨⟨?Dpg17, ?Dhd18, ?Dpo19, ?Dsa20⟩, (My.fa_cons (My.na_mk (f := "debtor") ?nD25) (My.fa_cons (My.na_mk (f := "creditor") ?nD26) (My.fa_cons (My.na_mk (f := "act") ?nD27) (My.fa_cons (My.na_mk (f := "owed") ?nD28) (My.fa_cons (My.na_mk (f := "weight") ?nD29) (My.fa_cons (My.na_mk (f := "day") ?nD30) My.fa_nil)))))), ⟨?Bpg21, ?Bhd22, ?Bpo23, ?Bsa24⟩, (My.fa_cons (My.na_mk (f := "acts") ?nB31) (My.fa_cons (My.na_mk (f := "states") ?nB32) (My.fa_cons (My.na_mk (f := "duties") ?nB33) (My.fa_cons (My.na_mk (f := "links") ?nB34) (My.fa_cons (My.na_mk (f := "pages_before") ?nB35) (My.fa_cons (My.na_mk (f := "pages_behind") ?nB36) My.fa_nil)))))), (My.fa_cons (PySem.W.mg_none_of (n := "len") KX G ?bn37) (My.fa_cons (PySem.W.mg_none_of (n := "any") KX G ?bn38) (My.fa_cons (PySem.W.mg_none_of (n := "sum") KX G ?bn39) (My.fa_cons (PySem.W.mg_none_of (n := "min") KX G ?bn40) (My.fa_cons (PySem.W.mg_none_of (n := "max") KX G ?bn41) (My.fa_cons (PySem.W.mg_none_of (n := "range") KX G ?bn42) (My.fa_cons (PySem.W.mg_none_of (n := "enumerate") KX G ?bn43) My.fa_nil))))))), (My.fa_cons (My.int_mk (x := "MOST_ACTS") (n := 8) KX G ?cs44) (My.fa_cons (My.int_mk (x := "LEAST_STATES") (n := 2) KX G ?cs45) (My.fa_cons (My.int_mk (x := "MOST_STATES") (n := 6) KX G ?cs46) (My.fa_cons (My.int_mk (x := "MOST_DUTIES") (n := 16) KX G ?cs47) (My.fa_cons (My.int_mk (x := "MOST_LINKS") (n := 12) KX G ?cs48) (My.fa_cons (My.int_mk (x := "MOST_WEIGHT") (n := 50) KX G ?cs49) (My.fa_cons (My.int_mk (x := "LAST_DAY") (n := 10000) KX G ?cs50) (My.fa_cons (My.int_mk (x := "MOST_BACK") (n := 20) KX G ?cs51) (My.fa_cons (My.int_mk (x := "NONE_THERE") (n := (-2)) KX G ?cs52) (My.fa_cons (My.int_mk (x := "NO_SUCH") (n := (-6)) KX G ?cs53) (My.fa_cons (My.int_mk (x := "THERE_ALREADY") (n := (-17)) KX G ?cs54) (My.fa_cons (My.int_mk (x := "NOT_ALLOWED") (n := (-22)) KX G ?cs55) (My.fa_cons (My.int_mk (x := "FULL") (n := (-28)) KX G ?cs56) (My.fa_cons (My.int_mk (x := "OUT_OF_REACH") (n := (-33)) KX G ?cs57) (My.fa_cons (My.int_mk (x := "START") (n := 0) KX G ?cs58) (My.fa_cons (My.int_mk (x := "DUTY") (n := 1) KX G ?cs59) (My.fa_cons (My.int_mk (x := "DROP") (n := 2) KX G ?cs60) (My.fa_cons (My.int_mk (x := "TOLD") (n := 3) KX G ?cs61) (My.fa_cons (My.int_mk (x := "NEEDS") (n := 4) KX G ?cs62) (My.fa_cons (My.int_mk (x := "FREE") (n := 5) KX G ?cs63) (My.fa_cons (My.int_mk (x := "MAY") (n := 6) KX G ?cs64) (My.fa_cons (My.int_mk (x := "BREAKS") (n := 7) KX G ?cs65) (My.fa_cons (My.int_mk (x := "BEST") (n := 8) KX G ?cs66) (My.fa_cons (My.int_mk (x := "MOST") (n := 9) KX G ?cs67) (My.fa_cons (My.int_mk (x := "WAYS") (n := 10) KX G ?cs68) (My.fa_cons (My.int_mk (x := "NTH") (n := 11) KX G ?cs69) (My.fa_cons (My.int_mk (x := "SURE") (n := 12) KX G ?cs70) (My.fa_cons (My.int_mk (x := "WHO") (n := 13) KX G ?cs71) (My.fa_cons (My.int_mk (x := "CAN") (n := 14) KX G ?cs72) (My.fa_cons (My.int_mk (x := "COST") (n := 15) KX G ?cs73) (My.fa_cons (My.int_mk (x := "CLASH") (n := 16) KX G ?cs74) (My.fa_cons (My.int_mk (x := "CLASHES") (n := 17) KX G ?cs75) (My.fa_cons (My.int_mk (x := "WAIVE") (n := 18) KX G ?cs76) (My.fa_cons (My.int_mk (x := "RELIEF") (n := 19) KX G ?cs77) (My.fa_cons (My.int_mk (x := "BACK") (n := 20) KX G ?cs78) (My.fa_cons (My.int_mk (x := "AGAIN") (n := 21) KX G ?cs79) My.fa_nil)))))))))))))))))))))))))))))))))))), (My.tak_mk (x := "TAKES") (ns := My.takesN) KX G ?tk80 ?tk81 ?tk82 ?tk83)⟩ hmg
      (My.has_mk (x := "overtakes") (st := My.s_overtakes) (ps := ["other", "duty"]) KX G ?overtakes_a84 ?overtakes_l85 ?overtakes_c86 ?overtakes_k87 (fun _ _ _ _ _ _ us hl => match us, hl with | [_, _], _ => rfl))
      (My.has_mk (x := "stands") (st := My.s_stands) (ps := ["duty", "duties"]) KX G ?stands_a88 ?stands_l89 ?stands_c90 ?stands_k91 (fun _ _ _ _ _ _ us hl => match us, hl with | [_, _], _ => rfl))
      (My.has_mk (x := "standing") (st := My.s_standing) (ps := ["duties"]) KX G ?standing_a92 ?standing_l93 ?standing_c94 ?standing_k95 (fun _ _ _ _ _ _ us hl => match us, hl with | [_], _ => rfl))
      (My.has_mk (x := "does") (st := My.s_does) (ps := ["conduct", "act"]) KX G ?does_a96 ?does_l97 ?does_c98 ?does_k99 (fun _ _ _ _ _ _ us hl => match us, hl with | [_, _], _ => rfl))
      (My.has_mk (x := "count_acts") (st := My.s_count_acts) (ps := ["conduct"]) KX G ?count_a100 ?count_l101 ?count_c102 ?count_k103 (fun _ _ _ _ _ _ us hl => match us, hl with | [_], _ => rfl))
      (My.has_mk (x := "may_be") (st := My.s_may_be) (ps := ["conduct", "links"]) KX G ?may_a104 ?may_l105 ?may_c106 ?may_k107 (fun _ _ _ _ _ _ us hl => match us, hl with | [_, _], _ => rfl))
      (My.has_mk (x := "keeps") (st := My.s_keeps) (ps := ["conduct", "duty"]) KX G ?keeps_a108 ?keeps_l109 ?keeps_c110 ?keeps_k111 (fun _ _ _ _ _ _ us hl => match us, hl with | [_, _], _ => rfl))
      (My.has_mk (x := "broken_by") (st := My.s_broken_by) (ps := ["conduct", "duties"]) KX G ?broken_a112 ?broken_l113 ?broken_c114 ?broken_k115 (fun _ _ _ _ _ _ us hl => match us, hl with | [_, _], _ => rfl))
      (My.has_mk (x := "weight_of") (st := My.s_weight_of) (ps := ["duties"]) KX G ?weight_a116 ?weight_l117 ?weight_c118 ?weight_k119 (fun _ _ _ _ _ _ us hl => match us, hl with | [_], _ => rfl))
      (My.hasM_mk (x := "has_act") (qual := "Book.has_act") (st := My.s_Book_has_act) (ps := ["self", "act"]) ?has_act_a120 ?has_act_i121 ?has_act_l122 ?has_act_c123 ?has_act_k124 (fun _ _ _ _ _ _ us hl => match us, hl with | [_, _], _ => rfl))
      (My.hasM_mk (x := "has_state") (qual := "Book.has_state") (st := My.s_Book_has_state) (ps := ["self", "state"]) ?has_state_a125 ?has_state_i126 ?has_state_l127 ?has_state_c128 ?has_state_k129 (fun _ _ _ _ _ _ us hl => match us, hl with | [_, _], _ => rfl))
      (My.hasM_mk (x := "has_duty") (qual := "Book.has_duty") (st := My.s_Book_has_duty) (ps := ["self", "place"]) ?has_duty_a130 ?has_duty_i131 ?has_duty_l132 ?has_duty_c133 ?has_duty_k134 (fun _ _ _ _ _ _ us hl => match us, hl with | [_, _], _ => rfl))
      (My.hasM_mk (x := "is_set") (qual := "Book.is_set") (st := My.s_Book_is_set) (ps := ["self", "conduct"]) ?is_set_a135 ?is_set_i136 ?is_set_l137 ?is_set_c138 ?is_set_k139 (fun _ _ _ _ _ _ us hl => match us, hl with | [_, _], _ => rfl))
      (My.hasM_mk (x := "page") (qual := "Book.page") (st := My.s_Book_page) (ps := ["self"]) ?page_a140 ?page_i141 ?page_l142 ?page_c143 ?page_k144 (fun _ _ _ _ _ _ us hl => match us, hl with | [_], _ => rfl))
      (My.hasM_mk (x := "turn_to") (qual := "Book.turn_to") (st := My.s_Book_turn_to) (ps := ["self", "page"]) ?turn_a145 ?turn_i146 ?turn_l147 ?turn_c148 ?turn_k149 (fun _ _ _ _ _ _ us hl => match us, hl with | [_, _], _ => rfl))
      (My.hasM_mk (x := "begin") (qual := "Book.begin") (st := My.s_Book_begin) (ps := ["self", "acts", "states"]) ?begin_a150 ?begin_i151 ?begin_l152 ?begin_c153 ?begin_k154 (fun _ _ _ _ _ _ us hl => match us, hl with | [_, _, _], _ => rfl))
      (My.hasC_mk (C := 122) (x := "Book") (qual := "Book.__init__") (st := My.s_Book_init) (ps := ["self"]) KX G ?init_n1 ?init_a2 ?init_i3 ?init_l4 ?init_c5 ?init_k6 ?init_mk7 ?init_kc8 (fun _ _ _ _ _ _ us hl => match us, hl with | [_], _ => rfl))
      (My.hasC_mk (C := 31) (x := "Duty") (qual := "Duty.__init__") (st := My.s_Duty_init) (ps := ["self", "debtor", "creditor", "act", "owed", "weight", "day"]) KX G ?duty_init_n9 ?duty_init_a10 ?duty_init_i11 ?duty_init_l12 ?duty_init_c13 ?duty_init_k14 ?duty_init_mk15 ?duty_init_kc16 (fun _ _ _ _ _ _ us hl => match us, hl with | [_, _, _, _, _, _, _], _ => rfl))
      (My.hasM_mk (x := "change") (qual := "Book.change") (st := My.s_Book_change) (ps := ["self", "duties", "links"]) ?change_a155 ?change_i156 ?change_l157 ?change_c158 ?change_k159 (fun _ _ _ _ _ _ us hl => match us, hl with | [_, _, _], _ => rfl))
      (My.hasM_mk (x := "take_back") (qual := "Book.take_back") (st := My.s_Book_take_back) (ps := ["self"]) ?take_a160 ?take_i161 ?take_l162 ?take_c163 ?take_k164 (fun _ _ _ _ _ _ us hl => match us, hl with | [_], _ => rfl))
      (My.hasM_mk (x := "do_again") (qual := "Book.do_again") (st := My.s_Book_do_again) (ps := ["self"]) ?again_a165 ?again_i166 ?again_l167 ?again_c168 ?again_k169 (fun _ _ _ _ _ _ us hl => match us, hl with | [_], _ => rfl))
      (My.has_mk (x := "standing_places") (st := My.s_standing_places) (ps := ["duties"]) KX G ?places_a170 ?places_l171 ?places_c172 ?places_k173 (fun _ _ _ _ _ _ us hl => match us, hl with | [_], _ => rfl))
      (My.has_mk (x := "conducts_that_may_be") (st := My.s_conducts_that_may_be) (ps := ["book"]) KX G ?conducts_a174 ?conducts_l175 ?conducts_c176 ?conducts_k177 (fun _ _ _ _ _ _ us hl => match us, hl with | [_], _ => rfl))
      (My.has_mk (x := "weighed_conducts") (st := My.s_weighed_conducts) (ps := ["book"]) KX G ?weighed_a178 ?weighed_l179 ?weighed_c180 ?weighed_k181 (fun _ _ _ _ _ _ us hl => match us, hl with | [_], _ => rfl))
      (My.has_mk (x := "least_broken") (st := My.s_least_broken) (ps := ["weighed"]) KX G ?least_a182 ?least_l183 ?least_c184 ?least_k185 (fun _ _ _ _ _ _ us hl => match us, hl with | [_], _ => rfl))
      (My.has_mk (x := "best_conducts") (st := My.s_best_conducts) (ps := ["book"]) KX G ?best_a186 ?best_l187 ?best_c188 ?best_k189 (fun _ _ _ _ _ _ us hl => match us, hl with | [_], _ => rfl))
      (My.has_mk (x := "refusal_of") (st := My.s_refusal_of) (ps := ["book", "k"]) KX G ?refusal_a190 ?refusal_l191 ?refusal_c192 ?refusal_k193 (fun _ _ _ _ _ _ us hl => match us, hl with | [_, _], _ => rfl))
      (My.has_mk (x := "cost_of") (st := My.s_cost_of) (ps := ["duty", "weighed"]) KX G ?cost_a194 ?cost_l195 ?cost_c196 ?cost_k197 (fun _ _ _ _ _ _ us hl => match us, hl with | [_, _], _ => rfl))
      (My.has_mk (x := "relief_of") (st := My.s_relief_of) (ps := ["duty", "weighed"]) KX G ?relief_a198 ?relief_l199 ?relief_c200 ?relief_k201 (fun _ _ _ _ _ _ us hl => match us, hl with | [_, _], _ => rfl))
      (My.has_mk (x := "least_with") (st := My.s_least_with) (ps := ["act", "links"]) KX G ?lw_a202 ?lw_l203 ?lw_c204 ?lw_k205 (fun _ _ _ _ _ _ us hl => match us, hl with | [_, _], _ => rfl))
      (My.has_mk (x := "clash") (st := My.s_clash) (ps := ["one", "other", "links"]) KX G ?clash_a206 ?clash_l207 ?clash_c208 ?clash_k209 (fun _ _ _ _ _ _ us hl => match us, hl with | [_, _, _], _ => rfl))
      (My.has_mk (x := "clashing_pairs") (st := My.s_clashing_pairs) (ps := ["book"]) KX G ?pairs_a210 ?pairs_l211 ?pairs_c212 ?pairs_k213 (fun _ _ _ _ _ _ us hl => match us, hl with | [_], _ => rfl))
      (My.has_mk (x := "ck_told") (st := My.s_ck_told) (ps := ["book", "k"]) KX G ?ck_told_a214 ?ck_told_l215 ?ck_told_c216 ?ck_told_k217 (fun _ _ _ _ _ _ us hl => match us, hl with | [_, _], _ => rfl))
      (My.has_mk (x := "ck_may") (st := My.s_ck_may) (ps := ["book", "s"]) KX G ?ck_may_a218 ?ck_may_l219 ?ck_may_c220 ?ck_may_k221 (fun _ _ _ _ _ _ us hl => match us, hl with | [_, _], _ => rfl))
      (My.has_mk (x := "ck_breaks") (st := My.s_ck_breaks) (ps := ["book", "s"]) KX G ?ck_breaks_a222 ?ck_breaks_l223 ?ck_breaks_c224 ?ck_breaks_k225 (fun _ _ _ _ _ _ us hl => match us, hl with | [_, _], _ => rfl))
      (My.has_mk (x := "ck_best") (st := My.s_ck_best) (ps := ["book"]) KX G ?ck_best_a226 ?ck_best_l227 ?ck_best_c228 ?ck_best_k229 (fun _ _ _ _ _ _ us hl => match us, hl with | [_], _ => rfl))
      (My.has_mk (x := "ck_most") (st := My.s_ck_most) (ps := ["book"]) KX G ?ck_most_a230 ?ck_most_l231 ?ck_most_c232 ?ck_most_k233 (fun _ _ _ _ _ _ us hl => match us, hl with | [_], _ => rfl))
      (My.has_mk (x := "ck_ways") (st := My.s_ck_ways) (ps := ["book"]) KX G ?ck_ways_a234 ?ck_ways_l235 ?ck_ways_c236 ?ck_ways_k237 (fun _ _ _ _ _ _ us hl => match us, hl with | [_], _ => rfl))
      (My.has_mk (x := "ck_nth") (st := My.s_ck_nth) (ps := ["book", "k"]) KX G ?ck_nth_a238 ?ck_nth_l239 ?ck_nth_c240 ?ck_nth_k241 (fun _ _ _ _ _ _ us hl => match us, hl with | [_, _], _ => rfl))
      (My.has_mk (x := "ck_sure") (st := My.s_ck_sure) (ps := ["book", "a"]) KX G ?ck_sure_a242 ?ck_sure_l243 ?ck_sure_c244 ?ck_sure_k245 (fun _ _ _ _ _ _ us hl => match us, hl with | [_, _], _ => rfl))
      (My.has_mk (x := "ck_who") (st := My.s_ck_who) (ps := ["book", "i"]) KX G ?ck_who_a246 ?ck_who_l247 ?ck_who_c248 ?ck_who_k249 (fun _ _ _ _ _ _ us hl => match us, hl with | [_, _], _ => rfl))
      (My.has_mk (x := "ck_state") (st := My.s_ck_state) (ps := ["book"]) KX G ?ck_state_a250 ?ck_state_l251 ?ck_state_c252 ?ck_state_k253 (fun _ _ _ _ _ _ us hl => match us, hl with | [_], _ => rfl))
      (My.has_mk (x := "ck_can") (st := My.s_ck_can) (ps := ["book", "k"]) KX G ?ck_can_a254 ?ck_can_l255 ?ck_can_c256 ?ck_can_k257 (fun _ _ _ _ _ _ us hl => match us, hl with | [_, _], _ => rfl))
      (My.has_mk (x := "ck_cost") (st := My.s_ck_cost) (ps := ["book", "k"]) KX G ?ck_cost_a258 ?ck_cost_l259 ?ck_cost_c260 ?ck_cost_k261 (fun _ _ _ _ _ _ us hl => match us, hl with | [_, _], _ => rfl))
      (My.has_mk (x := "ck_relief") (st := My.s_ck_relief) (ps := ["book", "k"]) KX G ?ck_relief_a262 ?ck_relief_l263 ?ck_relief_c264 ?ck_relief_k265 (fun _ _ _ _ _ _ us hl => match us, hl with | [_, _], _ => rfl))
      (My.has_mk (x := "ck_waive") (st := My.s_ck_waive) (ps := ["book"]) KX G ?ck_waive_a266 ?ck_waive_l267 ?ck_waive_c268 ?ck_waive_k269 (fun _ _ _ _ _ _ us hl => match us, hl with | [_], _ => rfl))
      (My.has_mk (x := "ck_clash") (st := My.s_ck_clash) (ps := ["book", "k", "l"]) KX G ?ck_clash_a270 ?ck_clash_l271 ?ck_clash_c272 ?ck_clash_k273 (fun _ _ _ _ _ _ us hl => match us, hl with | [_, _, _], _ => rfl))
      (My.has_mk (x := "ck_clashes") (st := My.s_ck_clashes) (ps := ["book"]) KX G ?ck_clashes_a274 ?ck_clashes_l275 ?ck_clashes_c276 ?ck_clashes_k277 (fun _ _ _ _ _ _ us hl => match us, hl with | [_], _ => rfl))
      (My.has_mk (x := "ck_start") (st := My.s_ck_start) (ps := ["book", "n", "m"]) KX G ?ck_start_a278 ?ck_start_l279 ?ck_start_c280 ?ck_start_k281 (fun _ _ _ _ _ _ us hl => match us, hl with | [_, _, _], _ => rfl))
      (My.has_mk (x := "ck_duty") (st := My.s_ck_duty) (ps := ["book", "i", "j", "a", "x", "w", "d"]) KX G ?ck_duty_a282 ?ck_duty_l283 ?ck_duty_c284 ?ck_duty_k285 (fun _ _ _ _ _ _ us hl => match us, hl with | [_, _, _, _, _, _, _], _ => rfl))
      (My.has_mk (x := "ck_drop") (st := My.s_ck_drop) (ps := ["book", "k"]) KX G ?ck_drop_a286 ?ck_drop_l287 ?ck_drop_c288 ?ck_drop_k289 (fun _ _ _ _ _ _ us hl => match us, hl with | [_, _], _ => rfl))
      (My.has_mk (x := "ck_needs") (st := My.s_ck_needs) (ps := ["book", "a", "b"]) KX G ?ck_needs_a290 ?ck_needs_l291 ?ck_needs_c292 ?ck_needs_k293 (fun _ _ _ _ _ _ us hl => match us, hl with | [_, _, _], _ => rfl))
      (My.has_mk (x := "ck_free") (st := My.s_ck_free) (ps := ["book", "a", "b"]) KX G ?ck_free_a294 ?ck_free_l295 ?ck_free_c296 ?ck_free_k297 (fun _ _ _ _ _ _ us hl => match us, hl with | [_, _, _], _ => rfl))
      (My.has_mk (x := "ck_back") (st := My.s_ck_back) (ps := ["book"]) KX G ?ck_back_a298 ?ck_back_l299 ?ck_back_c300 ?ck_back_k301 (fun _ _ _ _ _ _ us hl => match us, hl with | [_], _ => rfl))
      (My.has_mk (x := "ck_again") (st := My.s_ck_again) (ps := ["book"]) KX G ?ck_again_a302 ?ck_again_l303 ?ck_again_c304 ?ck_again_k305 (fun _ _ _ _ _ _ us hl => match us, hl with | [_], _ => rfl))
      (My.has_mk (x := "answer_change") (st := My.s_answer_change) (ps := ["book", "call", "given"]) KX G ?answer_change_a306 ?answer_change_l307 ?answer_change_c308 ?answer_change_k309 (fun _ _ _ _ _ _ us hl => match us, hl with | [_, _, _], _ => rfl))
      (My.has_mk (x := "answer_cost") (st := My.s_answer_cost) (ps := ["book", "call", "given"]) KX G ?answer_cost_a310 ?answer_cost_l311 ?answer_cost_c312 ?answer_cost_k313 (fun _ _ _ _ _ _ us hl => match us, hl with | [_, _, _], _ => rfl))
      (My.has_mk (x := "answer_question") (st := My.s_answer_question) (ps := ["book", "call", "given"]) KX G ?answer_question_a314 ?answer_question_l315 ?answer_question_c316 ?answer_question_k317 (fun _ _ _ _ _ _ us hl => match us, hl with | [_, _, _], _ => rfl))
      (My.has_mk (x := "answer_call") (st := My.s_answer_call) (ps := ["book", "call", "given"]) KX G ?call_a318 ?call_l319 ?call_c320 ?call_k321 (fun _ _ _ _ _ _ us hl => match us, hl with | [_, _, _], _ => rfl))
      (My.has_mk (x := "answers") (st := My.s_answers) (ps := ["calls"]) KX G ?answers_a322 ?answers_l323 ?answers_c324 ?answers_k325 (fun _ _ _ _ _ _ us hl => match us, hl with | [_], _ => rfl))
    (case init_n1 => k_is)
    (case init_a2 => k_is)
    (case init_i3 => k_is)
    (case init_l4 => k_is)
    (case init_c5 => k_is)
    (case init_k6 => k_is)
    (case init_mk7 => k_is)
    (case init_kc8 => k_is)
    (case duty_init_n9 => first | k_is | (trace_state; fail))
    (case duty_init_a10 => k_is)
    (case duty_init_i11 => k_is)
    (case duty_init_l12 => k_is)
    (case duty_init_c13 => k_is)
    (case duty_init_k14 => k_is)
    (case duty_init_mk15 => k_is)
    (case duty_init_kc16 => k_is)
    (case Dpg17 => k_is)
    (case Dhd18 => k_is)
    (case Dpo19 => k_is)
    (case Dsa20 => k_is)
    (case Bpg21 => k_is)
    (case Bhd22 => k_is)
    (case Bpo23 => k_is)
    (case Bsa24 => k_is)
    (case nD25 => k_is)
    (case nD26 => k_is)
    (case nD27 => k_is)
    (case nD28 => k_is)
    (case nD29 => k_is)
    (case nD30 => k_is)
    (case nB31 => k_is)
    (case nB32 => k_is)
    (case nB33 => k_is)
    (case nB34 => k_is)
    (case nB35 => k_is)
    (case nB36 => k_is)
    (case bn37 => k_is)
    (case bn38 => k_is)
    (case bn39 => k_is)
    (case bn40 => k_is)
    (case bn41 => k_is)
    (case bn42 => k_is)
    (case bn43 => k_is)
    (case cs44 => k_is)
    (case cs45 => k_is)
    (case cs46 => k_is)
    (case cs47 => k_is)
    (case cs48 => k_is)
    (case cs49 => k_is)
    (case cs50 => k_is)
    (case cs51 => k_is)
    (case cs52 => k_is)
    (case cs53 => k_is)
    (case cs54 => k_is)
    (case cs55 => k_is)
    (case cs56 => k_is)
    (case cs57 => k_is)
    (case cs58 => k_is)
    (case cs59 => k_is)
    (case cs60 => k_is)
    (case cs61 => k_is)
    (case cs62 => k_is)
    (case cs63 => k_is)
    (case cs64 => k_is)
    (case cs65 => k_is)
    (case cs66 => k_is)
    (case cs67 => k_is)
    (case cs68 => k_is)
    (case cs69 => k_is)
    (case cs70 => k_is)
    (case cs71 => k_is)
    (case cs72 => k_is)
    (case cs73 => k_is)
    (case cs74 => k_is)
    (case cs75 => k_is)
    (case cs76 => k_is)
    (case cs77 => k_is)
    (case cs78 => k_is)
    (case cs79 => k_is)
    (case tk80 => k_is)
    (case tk81 => k_is)
    (case overtakes_a84 => k_is)
    (case overtakes_l85 => k_is)
    (case overtakes_c86 => k_is)
    (case overtakes_k87 => k_is)
    (case stands_a88 => k_is)
    (case stands_l89 => k_is)
    (case stands_c90 => k_is)
    (case stands_k91 => k_is)
    (case standing_a92 => k_is)
    (case standing_l93 => k_is)
    (case standing_c94 => k_is)
    (case standing_k95 => k_is)
    (case does_a96 => k_is)
    (case does_l97 => k_is)
    (case does_c98 => k_is)
    (case does_k99 => k_is)
    (case count_a100 => k_is)
    (case count_l101 => k_is)
    (case count_c102 => k_is)
    (case count_k103 => k_is)
    (case may_a104 => k_is)
    (case may_l105 => k_is)
    (case may_c106 => k_is)
    (case may_k107 => k_is)
    (case keeps_a108 => k_is)
    (case keeps_l109 => k_is)
    (case keeps_c110 => k_is)
    (case keeps_k111 => k_is)
    (case broken_a112 => k_is)
    (case broken_l113 => k_is)
    (case broken_c114 => k_is)
    (case broken_k115 => k_is)
    (case weight_a116 => k_is)
    (case weight_l117 => k_is)
    (case weight_c118 => k_is)
    (case weight_k119 => k_is)
    (case has_act_a120 => k_is)
    (case has_act_i121 => k_is)
    (case has_act_l122 => k_is)
    (case has_act_c123 => k_is)
    (case has_act_k124 => k_is)
    (case has_state_a125 => k_is)
    (case has_state_i126 => k_is)
    (case has_state_l127 => k_is)
    (case has_state_c128 => k_is)
    (case has_state_k129 => k_is)
    (case has_duty_a130 => k_is)
    (case has_duty_i131 => k_is)
    (case has_duty_l132 => k_is)
    (case has_duty_c133 => k_is)
    (case has_duty_k134 => k_is)
    (case is_set_a135 => k_is)
    (case is_set_i136 => k_is)
    (case is_set_l137 => k_is)
    (case is_set_c138 => k_is)
    (case is_set_k139 => k_is)
    (case page_a140 => k_is)
    (case page_i141 => k_is)
    (case page_l142 => k_is)
    (case page_c143 => k_is)
    (case page_k144 => k_is)
    (case turn_a145 => k_is)
    (case turn_i146 => k_is)
    (case turn_l147 => k_is)
    (case turn_c148 => k_is)
    (case turn_k149 => k_is)
    (case begin_a150 => k_is)
    (case begin_i151 => k_is)
    (case begin_l152 => k_is)
    (case begin_c153 => k_is)
    (case begin_k154 => k_is)
    (case change_a155 => k_is)
    (case change_i156 => k_is)
    (case change_l157 => k_is)
    (case change_c158 => k_is)
    (case change_k159 => k_is)
    (case take_a160 => k_is)
    (case take_i161 => k_is)
    (case take_l162 => k_is)
    (case take_c163 => k_is)
    (case take_k164 => k_is)
    (case again_a165 => k_is)
    (case again_i166 => k_is)
    (case again_l167 => k_is)
    (case again_c168 => k_is)
    (case again_k169 => k_is)
    (case places_a170 => k_is)
    (case places_l171 => k_is)
    (case places_c172 => k_is)
    (case places_k173 => k_is)
    (case conducts_a174 => k_is)
    (case conducts_l175 => k_is)
    (case conducts_c176 => k_is)
    (case conducts_k177 => k_is)
    (case weighed_a178 => k_is)
    (case weighed_l179 => k_is)
    (case weighed_c180 => k_is)
    (case weighed_k181 => k_is)
    (case least_a182 => k_is)
    (case least_l183 => k_is)
    (case least_c184 => k_is)
    (case least_k185 => k_is)
    (case best_a186 => k_is)
    (case best_l187 => k_is)
    (case best_c188 => k_is)
    (case best_k189 => k_is)
    (case refusal_a190 => k_is)
    (case refusal_l191 => k_is)
    (case refusal_c192 => k_is)
    (case refusal_k193 => k_is)
    (case cost_a194 => k_is)
    (case cost_l195 => k_is)
    (case cost_c196 => k_is)
    (case cost_k197 => k_is)
    (case relief_a198 => k_is)
    (case relief_l199 => k_is)
    (case relief_c200 => k_is)
    (case relief_k201 => k_is)
    (case lw_a202 => k_is)
    (case lw_l203 => k_is)
    (case lw_c204 => k_is)
    (case lw_k205 => k_is)
    (case clash_a206 => k_is)
    (case clash_l207 => k_is)
    (case clash_c208 => k_is)
    (case clash_k209 => k_is)
    (case pairs_a210 => k_is)
    (case pairs_l211 => k_is)
    (case pairs_c212 => k_is)
    (case pairs_k213 => k_is)
    (case ck_told_a214 => k_is)
    (case ck_told_l215 => k_is)
    (case ck_told_c216 => k_is)
    (case ck_told_k217 => k_is)
    (case ck_may_a218 => k_is)
    (case ck_may_l219 => k_is)
    (case ck_may_c220 => k_is)
    (case ck_may_k221 => k_is)
    (case ck_breaks_a222 => k_is)
    (case ck_breaks_l223 => k_is)
    (case ck_breaks_c224 => k_is)
    (case ck_breaks_k225 => k_is)
    (case ck_best_a226 => k_is)
    (case ck_best_l227 => k_is)
    (case ck_best_c228 => k_is)
    (case ck_best_k229 => k_is)
    (case ck_most_a230 => k_is)
    (case ck_most_l231 => k_is)
    (case ck_most_c232 => k_is)
    (case ck_most_k233 => k_is)
    (case ck_ways_a234 => k_is)
    (case ck_ways_l235 => k_is)
    (case ck_ways_c236 => k_is)
    (case ck_ways_k237 => k_is)
    (case ck_nth_a238 => k_is)
    (case ck_nth_l239 => k_is)
    (case ck_nth_c240 => k_is)
    (case ck_nth_k241 => k_is)
    (case ck_sure_a242 => k_is)
    (case ck_sure_l243 => k_is)
    (case ck_sure_c244 => k_is)
    (case ck_sure_k245 => k_is)
    (case ck_who_a246 => k_is)
    (case ck_who_l247 => k_is)
    (case ck_who_c248 => k_is)
    (case ck_who_k249 => k_is)
    (case ck_state_a250 => k_is)
    (case ck_state_l251 => k_is)
    (case ck_state_c252 => k_is)
    (case ck_state_k253 => k_is)
    (case ck_can_a254 => k_is)
    (case ck_can_l255 => k_is)
    (case ck_can_c256 => k_is)
    (case ck_can_k257 => k_is)
    (case ck_cost_a258 => k_is)
    (case ck_cost_l259 => k_is)
    (case ck_cost_c260 => k_is)
    (case ck_cost_k261 => k_is)
    (case ck_relief_a262 => k_is)
    (case ck_relief_l263 => k_is)
    (case ck_relief_c264 => k_is)
    (case ck_relief_k265 => k_is)
    (case ck_waive_a266 => k_is)
    (case ck_waive_l267 => k_is)
    (case ck_waive_c268 => k_is)
    (case ck_waive_k269 => k_is)
    (case ck_clash_a270 => k_is)
    (case ck_clash_l271 => k_is)
    (case ck_clash_c272 => k_is)
    (case ck_clash_k273 => k_is)
    (case ck_clashes_a274 => k_is)
    (case ck_clashes_l275 => k_is)
    (case ck_clashes_c276 => k_is)
    (case ck_clashes_k277 => k_is)
    (case ck_start_a278 => k_is)
    (case ck_start_l279 => k_is)
    (case ck_start_c280 => k_is)
    (case ck_start_k281 => k_is)
    (case ck_duty_a282 => k_is)
    (case ck_duty_l283 => k_is)
    (case ck_duty_c284 => k_is)
    (case ck_duty_k285 => k_is)
    (case ck_drop_a286 => k_is)
    (case ck_drop_l287 => k_is)
    (case ck_drop_c288 => k_is)
    (case ck_drop_k289 => k_is)
    (case ck_needs_a290 => k_is)
    (case ck_needs_l291 => k_is)
    (case ck_needs_c292 => k_is)
    (case ck_needs_k293 => k_is)
    (case ck_free_a294 => k_is)
    (case ck_free_l295 => k_is)
    (case ck_free_c296 => k_is)
    (case ck_free_k297 => k_is)
    (case ck_back_a298 => k_is)
    (case ck_back_l299 => k_is)
    (case ck_back_c300 => k_is)
    (case ck_back_k301 => k_is)
    (case ck_again_a302 => k_is)
    (case ck_again_l303 => k_is)
    (case ck_again_c304 => k_is)
    (case ck_again_k305 => k_is)
    (case answer_change_a306 => k_is)
    (case answer_change_l307 => k_is)
    (case answer_change_c308 => k_is)
    (case answer_change_k309 => k_is)
    (case answer_cost_a310 => k_is)
    (case answer_cost_l311 => k_is)
    (case answer_cost_c312 => k_is)
    (case answer_cost_k313 => k_is)
    (case answer_question_a314 => k_is)
    (case answer_question_l315 => k_is)
    (case answer_question_c316 => k_is)
    (case answer_question_k317 => k_is)
    (case call_a318 => k_is)
    (case call_l319 => k_is)
    (case call_c320 => k_is)
    (case call_k321 => k_is)
    (case answers_a322 => k_is)
    (case answers_l323 => k_is)
    (case answers_c324 => k_is)
    (case answers_k325 => k_is)
    (case tk82 => decide)
    (case tk83 => rfl)
  case S =>
    intro K H xs a hO hwi hask hx
    cases hx with
    | cons h1 h2 =>
      cases h2
      cases h1 with
      | lst hs ha =>
        have e := L2.ints_dw a.1 _ ha
        subst e
        exact ⟨_, a.1, rfl, hs, hask, fun H' p hp => .lst (L2.SqL.of hp) (L2.dw_ints _)⟩
