import PyProof.Rows.All
import Wide.All
import OpenK.AllK
import Wide.FinOn
import PyProof.EqAt
import PyProof.EqKinds
import PyProof.TupleCall
import KE.BitLaws
import Open.SpecLaws
import KE.OsHead
import KE.OsGo
import KE.KMinKey
import KE.KSortTupG
import PySem.Challenge.RW_evenwires_s01_answers
set_option Elab.async false
set_option linter.all false
set_option maxRecDepth 100000
namespace L2
open PySem PySem.Spec PyProof.Rows
/-- a key: an int or a str -/
abbrev Key := Sum Int Str
def keyIs : Key → Value → Bool
  | .inl k, v => Value.isInt k v
  | .inr x, v => Value.isStrOf x v
def keyH (w : World) : Key → Int
  | .inl k => hashInt k
  | .inr x => hashStr w x
theorem keyIs_shape : ∀ {k : Key} {v : Value}, keyIs k v = true → (∃ i t, k = Sum.inl i ∧ v = Value.int i t) ∨ (∃ x t, k = Sum.inr x ∧ v = Value.str x t)
  | .inl i, v, h => by
    obtain ⟨t, e⟩ := Value.isInt_shape (k := i) (v := v) h
    exact .inl ⟨i, t, rfl, e⟩
  | .inr x, v, h => by
    obtain ⟨t, e⟩ := Value.isStrOf_shape (x := x) (v := v) h
    exact .inr ⟨x, t, rfl, e⟩
theorem key_ll (a b : Int) : decide ((Sum.inl a : Key) = Sum.inl b) = (a == b) := by
  by_cases e : a = b
  · subst e; simp
  · have h : ¬ (Sum.inl a : Key) = Sum.inl b := fun q => e (Sum.inl.inj q)
    rw [decide_eq_false h]
    exact (beq_eq_false_iff_ne.mpr e).symm
theorem key_rr (a b : Str) : decide ((Sum.inr a : Key) = Sum.inr b) = decide (a = b) := by
  by_cases e : a = b
  · subst e; simp
  · have h : ¬ (Sum.inr a : Key) = Sum.inr b := fun q => e (Sum.inr.inj q)
    rw [decide_eq_false h, decide_eq_false e]
theorem key_lr (a : Int) (b : Str) : decide ((Sum.inl a : Key) = Sum.inr b) = false := decide_eq_false (fun q => nomatch q)
theorem key_rl (a : Str) (b : Int) : decide ((Sum.inr a : Key) = Sum.inl b) = false := decide_eq_false (fun q => nomatch q)
def mixKind (prog : Program) (w : World) : PySem.KeyKind prog w Key where
  is := keyIs
  hash := keyH w
  inj := fun v a b ha hb => by
    rcases keyIs_shape ha with ⟨i, t, rfl, rfl⟩ | ⟨x, t, rfl, rfl⟩
    · rcases keyIs_shape hb with ⟨j, u, rfl, e⟩ | ⟨y, u, rfl, e⟩
      · injection e with e1 _; rw [e1]
      · exact nomatch e
    · rcases keyIs_shape hb with ⟨j, u, rfl, e⟩ | ⟨y, u, rfl, e⟩
      · exact nomatch e
      · injection e with e1 _; rw [e1]
  byValue := fun k v h => by
    rcases keyIs_shape h with ⟨i, t, rfl, rfl⟩ | ⟨x, t, rfl, rfl⟩ <;> rfl
  pyHash := fun hv h => by
    rcases keyIs_shape hv with ⟨i, t, rfl, rfl⟩ | ⟨x, t, rfl, rfl⟩
    · exact wpAny_pyHash_int h
    · exact wpAny_pyHash_str h
  eqBool := fun hu hv h => by
    rcases keyIs_shape hu with ⟨i, t, rfl, rfl⟩ | ⟨x, t, rfl, rfl⟩
    · rcases keyIs_shape hv with ⟨j, u, rfl, rfl⟩ | ⟨y, u, rfl, rfl⟩
      · rw [key_ll] at h; exact wpAny_eqBool_int h
      · rw [key_lr] at h; exact SeqAt.EqAt.int_str i t y u _ _ _ _ h
    · rcases keyIs_shape hv with ⟨j, u, rfl, rfl⟩ | ⟨y, u, rfl, rfl⟩
      · rw [key_rl] at h; exact SeqAt.EqAt.str_int x t j u _ _ _ _ h
      · rw [key_rr] at h; exact wpAny_eqBool_str h
  «strs» := fun k x t v h => by
    rcases keyIs_shape h with ⟨i, u, rfl, e⟩ | ⟨y, u, rfl, e⟩
    · exact nomatch e
    · injection e with e1 _
      subst e1
      cases v <;> rfl
end L2
namespace L2
open PySem PySem.Spec PyProof.Rows
/-- a value, without the heap -/
inductive V where
  | non | bl (b : Bool) | int (i : Int) | str (x : Str) | byt (b : Array UInt8) | flt (b : UInt64) | ref (a : Addr) | ty (n : String)
  deriving DecidableEq
def RelV : V → Value → Prop
  | .non, u => u = Value.none
  | .bl b, u => u = Value.bool b
  | .int i, u => ∃ t, u = Value.int i t
  | .str x, u => ∃ t, u = Value.str x t
  | .byt b, u => ∃ t, u = Value.bytes b t
  | .flt b, u => ∃ t, u = Value.float b t
  | .ref a, u => u = Value.ref a
  | .ty n, u => u = Value.type n
abbrev Vals : List V → List Value → Prop := Paired RelV
theorem Vals.length {xs : List V} {us : List Value} (r : Vals xs us) : xs.length = us.length := Paired.length r
theorem Vals.get : ∀ {xs : List V} {us : List Value} {i : Nat} {x : V}, Vals xs us → xs[i]? = some x → ∃ u, us[i]? = some u ∧ RelV x u
  | _, _, _, _, .nil, e => by simp at e
  | _, _, 0, _, .cons r _, e => by simp at e; subst e; exact ⟨_, rfl, r⟩
  | _, _, i + 1, x, .cons _ t, e => by
    obtain ⟨u, h1, h2⟩ := Vals.get (i := i) (x := x) t (by simpa using e)
    exact ⟨u, by simpa using h1, h2⟩
theorem Vals.set {x : V} {u : Value} (r : RelV x u) : ∀ {xs : List V} {us : List Value} (i : Nat), Vals xs us → Vals (xs.set i x) (us.set i u)
  | _, _, _, .nil => .nil
  | _, _, 0, .cons _ t => .cons r t
  | _, _, i + 1, .cons q t => .cons q (Vals.set r i t)
theorem Vals.append : ∀ {xs ys : List V} {us ws : List Value}, Vals xs us → Vals ys ws → Vals (xs ++ ys) (us ++ ws)
  | _, _, _, _, .nil, s => s
  | _, _, _, _, .cons r t, s => .cons r (Vals.append t s)
theorem Vals.take : ∀ {xs : List V} {us : List Value} (n : Nat), Vals xs us → Vals (xs.take n) (us.take n)
  | _, _, 0, _ => .nil
  | _, _, _ + 1, .nil => .nil
  | _, _, n + 1, .cons r t => .cons r (Vals.take n t)
theorem Vals.drop : ∀ {xs : List V} {us : List Value} (n : Nat), Vals xs us → Vals (xs.drop n) (us.drop n)
  | _, _, 0, r => r
  | _, _, _ + 1, .nil => .nil
  | _, _, n + 1, .cons _ t => Vals.drop n t
def RelO : Option V → Option Value → Prop
  | some v, some u => RelV v u
  | none, none => True
  | _, _ => False
def KV {κ : Type} : List (κ × V) → List (κ × Value) → Prop := Paired fun (p : κ × V) (q : κ × Value) => p.1 = q.1 ∧ RelV p.2 q.2
/-- a key of a dict (00_mix): an int or a text -/
def kV : Key → V
  | .inl i => .int i
  | .inr x => .str x
/-- what stands at a tracked address -/
inductive HO where
  /-- a list -/
  | lst (xs : List V)
  /-- a tuple (never changes) -/
  | tup (xs : List V)
  /-- a dict whose keys are ints and texts; one whose keys are tuples of ints and texts (the empty one is both) -/
  | dK (kvs : List (Key × V)) | dT (kvs : List (List Key × V))
  /-- a set of ints: its members, its size -/
  | set (S : Int → Bool) (n : Nat)
  /-- an instance of the class at C, its dict at dx, its attributes -/
  | ins (C dx : Addr) (fs : List (Str × V))
  /-- the dict of the instance at x -/
  | own (x : Addr)
  /-- the dict of an exception -/
  | xd (fs : List (Str × V))
  /-- a bound method, f of x -/
  | met (f x : Addr)
  /-- a range object lo, lo + 1, .. below hi -/
  | rng (lo hi : Int)
  /-- a thing that is known to the object (the script; a dict while a loop walks it): read, never written while it is so -/
  | frz (o : Obj) (u : HO)
  /-- a code object's table -/
  | tbl (ps : Array Value)
  /-- any other thing, by what is true of its one object (a def of one's own: SetO a S n := HO.ext fun h => ..) -/
  | ext (φ : Heap → Prop)
abbrev Hp := Addr → Option HO
def upd (H : Hp) (a : Addr) (o : HO) : Hp := fun b => if b = a then some o else H b
theorem upd_same {H : Hp} {a : Addr} {o : HO} : upd H a o a = some o := by unfold upd; rw [if_pos rfl]
theorem upd_ne {H : Hp} {a b : Addr} {o : HO} (h : b ≠ a) : upd H a o b = H b := by unfold upd; rw [if_neg h]
/-- two objects of different content stand apart -/
theorem ne_of {H : Hp} {a b : Addr} {o u : HO} (h : H a = some o) (h' : H b = some u) (d : o ≠ u) : a ≠ b := by
  intro e; subst e; rw [h] at h'; exact d (Option.some.inj h')
theorem ne_of_none {H : Hp} {a b : Addr} {o : HO} (h : H a = some o) (h' : H b = none) : a ≠ b := by
  intro e; subst e; rw [h] at h'; cases h'
section
variable (P : Program) (w : World)
def ObjOk (H : Hp) (h : Heap) (a : Addr) : HO → Prop
  | .lst xs => xs.length ≤ sizeLine ∧ ∃ (its : List Value) (n : Nat), Vals xs its ∧ h.get? a = some { cls := .type "list", data := .seq its.toArray n }
  | .tup xs => xs.length ≤ sizeLine ∧ ∃ its : List Value, Vals xs its ∧ IsTup h a its.toArray
  | .dK kvs => kvs.length ≤ sizeLine ∧ (a == sysModules) = false ∧ ∃ vs, KV kvs vs ∧ h.DictOf (mixKind P w) a vs
  | .dT kvs => kvs.length ≤ sizeLine ∧ (a == sysModules) = false ∧ ∃ xs : List (List Key × Addr × Value),
      Paired (fun (p : List Key × V) (q : List Key × Addr × Value) => p.1 = q.1 ∧ H q.2.1 = some (.tup (p.1.map kV)) ∧ RelV p.2 q.2.2) kvs xs ∧
      ∃ o es ep, h.get? a = some o ∧ o.ExactDict ∧ o.data = .dict es ep ∧ es.toList = xs.map (entryOfKey (tupleKind (mixKind P w))) ∧ (xs.map (·.1)).Nodup
  | .set S n => h.SetOf (intKind P w) a S n
  | .ins C dx fs => H dx = some (.own a) ∧ fs.length ≤ 1000 ∧ dx ≠ a ∧ h.get? a = some (PySem.W.instObj C dx) ∧
      ∃ mA, h.Ns1 dx mA ∧ (∀ f, RelO (fs.lookup f) (mA f)) ∧ PySem.Within mA (fs.map (·.1))
  | .own _ => ∃ o, h.get? a = some o
  | .xd fs => ∃ mA, h.Ns1 a mA ∧ ∀ f, RelO (fs.lookup f) (mA f)
  | .rng lo hi => ∃ t u v, h.get? a = some { cls := .type "range", data := .fields #[.int lo t, .int hi u, .int 1 v] }
  | .frz o u => h.get? a = some o ∧ ObjOk H h a u
  | .tbl ps => h.get? a = some { cls := .none, data := .fields ps }
  | .met f x => h.get? a = some (PySem.W.methodObj (.ref f) (.ref x))
  | .ext φ => φ h ∧ (∃ o, h.get? a = some o) ∧ ∀ h1 h2 : Heap, φ h1 → (∀ o, h1.get? a = some o → h2.get? a = some o) → φ h2
/-- the abstract heap is held -/
def HOk (H : Hp) (h : Heap) : Prop := ∀ a o, H a = some o → ObjOk P w H h a o
end
section
variable {P : Program} {w : World} {H H' : Hp} {h h' : Heap} {a : Addr} {o : HO}
theorem ObjOk.lt (x : ObjOk P w H h a o) : a < h.objs.size := by
  cases o with
  | lst xs => obtain ⟨_, _, _, _, e⟩ := x; exact Heap.lt_size e
  | tup xs => obtain ⟨_, _, _, p⟩ := x; exact p.lt
  | dK kvs => obtain ⟨_, _, _, _, o, _, _, e, _⟩ := x; exact Heap.lt_size e
  | dT kvs => obtain ⟨_, _, _, _, o, _, _, e, _⟩ := x; exact Heap.lt_size e
  | set S n => obtain ⟨o, _, _, _, e, _⟩ := x; exact Heap.lt_size e
  | ins C dx fs => obtain ⟨_, _, _, e, _⟩ := x; exact Heap.lt_size e
  | own y => obtain ⟨_, e⟩ := x; exact Heap.lt_size e
  | xd fs => obtain ⟨_, ⟨_, _, _, e, _⟩, _⟩ := x; exact Heap.lt_size e
  | rng lo hi => obtain ⟨_, _, _, e⟩ := x; exact Heap.lt_size e
  | frz ob u => obtain ⟨e, _⟩ := x; exact Heap.lt_size e
  | tbl ps => exact Heap.lt_size (show h.get? a = some _ from x)
  | met f y => exact Heap.lt_size (show h.get? a = some _ from x)
  | ext φ => obtain ⟨_, ⟨_, e⟩, _⟩ := x; exact Heap.lt_size e
theorem Paired.mapP {α β : Type} {F G : α → β → Prop} : ∀ {l₁ : List α} {l₂ : List β}, Paired F l₁ l₂ → (∀ a b, F a b → G a b) → Paired G l₁ l₂
  | _, _, .nil, _ => .nil
  | _, _, .cons r t, f => .cons (f _ _ r) (Paired.mapP t f)
/-- what an object's description leans on: its own object, its own dict, the tuples -/
theorem ObjOk.stay (x : ObjOk P w H h a o) (k : ∀ b u, (b = a ∨ H b = some (.own a)) → h.get? b = some u → h'.get? b = some u)
    (ho : ∀ b, H b = some (.own a) → H' b = some (.own a)) (ht : ∀ b xs, H b = some (.tup xs) → H' b = some (.tup xs)) : ObjOk P w H' h' a o := by
  induction o with
  | lst xs => obtain ⟨z, its, n, r, e⟩ := x; exact ⟨z, its, n, r, k _ _ (.inl rfl) e⟩
  | tup xs => obtain ⟨z, its, r, ob, e, c⟩ := x; exact ⟨z, its, r, ob, k _ _ (.inl rfl) e, c⟩
  | dK kvs => obtain ⟨z, y, vs, r, ob, es, ep, e, c⟩ := x; exact ⟨z, y, vs, r, ob, es, ep, k _ _ (.inl rfl) e, c⟩
  | dT kvs =>
    obtain ⟨z, y, xs, r, ob, es, ep, e, c⟩ := x
    exact ⟨z, y, xs, Paired.mapP r fun p q z => ⟨z.1, ht _ _ z.2.1, z.2.2⟩, ob, es, ep, k _ _ (.inl rfl) e, c⟩
  | set S n => obtain ⟨ob, es, ep, t, e, c⟩ := x; exact ⟨ob, es, ep, t, k _ _ (.inl rfl) e, c⟩
  | ins C dx fs =>
    obtain ⟨d, z, ne, e, mA, ⟨od, es, ep, e2, c⟩, r⟩ := x
    exact ⟨ho _ d, z, ne, k _ _ (.inl rfl) e, mA, ⟨od, es, ep, k _ _ (.inr d) e2, c⟩, r⟩
  | own y => obtain ⟨ob, e⟩ := x; exact ⟨ob, k _ _ (.inl rfl) e⟩
  | xd fs => obtain ⟨mA, ⟨od, es, ep, e, c⟩, r⟩ := x; exact ⟨mA, ⟨od, es, ep, k _ _ (.inl rfl) e, c⟩, r⟩
  | rng lo hi => obtain ⟨t, u, v, e⟩ := x; exact ⟨t, u, v, k _ _ (.inl rfl) e⟩
  | frz ob u ih => obtain ⟨e, q⟩ := x; exact ⟨k _ _ (.inl rfl) e, ih q⟩
  | tbl ps =>
    have e : h.get? a = some { cls := .none, data := .fields ps } := x
    show h'.get? a = some { cls := .none, data := .fields ps }
    exact k a _ (.inl rfl) e
  | met f y =>
    have e : h.get? a = some (PySem.W.methodObj (.ref f) (.ref y)) := x
    show h'.get? a = some (PySem.W.methodObj (.ref f) (.ref y))
    exact k a _ (.inl rfl) e
  | ext φ => obtain ⟨p, ⟨o, e⟩, st⟩ := x; exact ⟨st _ _ p fun o q => k _ _ (.inl rfl) q, ⟨o, k _ _ (.inl rfl) e⟩, st⟩
theorem HOk.lt (x : HOk P w H h) (e : H a = some o) : a < h.objs.size := (x a o e).lt
theorem HOk.fresh (x : HOk P w H h) (e : h.objs.size ≤ a) : H a = none := by
  cases q : H a with
  | none => rfl
  | some u => exact absurd (Nat.lt_of_lt_of_le (x.lt q) e) (Nat.lt_irrefl _)
/-- every object of the heap is kept -/
theorem HOk.kept (x : HOk P w H h) (k : ∀ b u, h.get? b = some u → h'.get? b = some u) : HOk P w H h' := fun a o e =>
  (x a o e).stay (fun b u _ q => k b u q) (fun _ q => q) fun _ _ q => q
/-- a new object is laid and tracked -/
theorem HOk.laid (x : HOk P w H h) (k : ∀ b u, h.get? b = some u → h'.get? b = some u) (hp : h.objs.size ≤ a) (new : ObjOk P w (upd H a o) h' a o) : HOk P w (upd H a o) h' := fun b u e => by
  have hn := x.fresh hp
  by_cases hb : b = a
  · subst hb; rw [upd_same] at e; cases e; exact new
  · rw [upd_ne hb] at e
    exact (x b u e).stay (fun c v _ q => k c v q) (fun c q => by rw [upd_ne (ne_of_none q hn)]; exact q) fun c xs q => by rw [upd_ne (ne_of_none q hn)]; exact q
end
/-- what may be read as u: it is u, or a known u -/
def Rd (H : Hp) (a : Addr) (u : HO) : Prop := H a = some u ∨ ∃ o, H a = some (.frz o u)
theorem Rd.ok {P : Program} {w : World} {H : Hp} {h : Heap} {a : Addr} {u : HO} (r : Rd H a u) (x : HOk P w H h) : ObjOk P w H h a u := by
  rcases r with r | ⟨o, r⟩
  · exact x a u r
  · obtain ⟨_, q⟩ := x a _ r
    exact q
/-- what may be written -/
def Mut : Option HO → Prop
  | some (.lst _) => True
  | some (.dK _) => True
  | some (.dT _) => True
  | some (.set _ _) => True
  | some (.ins _ _ _) => True
  | some (.ext _) => True
  | _ => False
section
variable {P : Program} {w : World} {H : Hp} {h h' : Heap} {x e : Addr} {o' : HO}
/-- the object at e is changed: x itself, or the dict of the instance x -/
theorem HOk.write (ok : HOk P w H h) (mu : Mut (H x)) (he : e = x ∨ H e = some (.own x)) (k : ∀ b u, b ≠ e → h.get? b = some u → h'.get? b = some u) (heo : ∃ u, h'.get? e = some u)
    (new : ObjOk P w (upd H x o') h' x o') : HOk P w (upd H x o') h' := fun b u q => by
  have nown : ∀ c y, H c = some (.own y) → c ≠ x := fun c y r z => by subst z; rw [r] at mu; exact mu
  have ntup : ∀ c xs, H c = some (.tup xs) → c ≠ x := fun c xs r z => by subst z; rw [r] at mu; exact mu
  by_cases hb : b = x
  · subst hb; rw [upd_same] at q; cases q; exact new
  · rw [upd_ne hb] at q
    by_cases hbe : b = e
    · have q' : H b = some (.own x) := by
        rcases he with z | z
        · exact absurd (hbe.trans z) hb
        · rw [hbe]; exact z
      rw [q] at q'; cases q'
      obtain ⟨v, hv⟩ := heo
      exact ⟨v, by rw [hbe]; exact hv⟩
    · refine (ok b u q).stay (fun c v hc r => k c v ?_ r) (fun c r => by rw [upd_ne (nown c b r)]; exact r) fun c xs r => by rw [upd_ne (ntup c xs r)]; exact r
      rcases hc with rfl | hc
      · exact hbe
      · rintro rfl
        rcases he with z | z
        · exact nown c b hc z
        · rw [hc] at z; cases z; exact hb rfl
end
structure Un (fs ex : List Addr) (H H' : Hp) (h h' : Heap) : Prop where
  keep : ∀ b o, h.get? b = some o → H b = none → b ∉ fs → b ∉ ex → h'.get? b = some o
  slot : ∀ b o, h.get? b = some o → H b = none → b ∈ fs → b ∉ ex → ∃ sl, h'.get? b = some { o with slots := sl }
  free : ∀ b o, h.get? b = some o → H b = none → b ∉ ex → H' b = none
  there : ∀ b o, h.get? b = some o → b ∉ ex → ∃ o', h'.get? b = some o'
  tups : ∀ b xs, H b = some (.tup xs) → H' b = some (.tup xs)
  frzs : ∀ b o u, H b = some (.frz o u) → H' b = some (.frz o u)
  tbls : ∀ b ps, H b = some (.tbl ps) → ∃ more, H' b = some (.tbl (ps ++ more))
section
variable {fs fs' ex ex' : List Addr} {H H1 H2 : Hp} {h h1 h2 h' : Heap} {a x e : Addr} {o : HO}
theorem Un.any (u : Un fs ex H H1 h h1) {b : Addr} {ob : Obj} (q : h.get? b = some ob) (n : H b = none) (hx : b ∉ ex) : ∃ sl, h1.get? b = some { ob with slots := sl } := by
  by_cases hb : b ∈ fs
  · exact u.slot b ob q n hb hx
  · exact ⟨ob.slots, u.keep b ob q n hb hx⟩
theorem Un.kept (k : ∀ b u, h.get? b = some u → h'.get? b = some u) : Un fs ex H H h h' :=
  ⟨fun b ob q _ _ _ => k b ob q, fun b ob q _ _ _ => ⟨ob.slots, k b ob q⟩, fun _ _ _ n _ => n, fun b ob q _ => ⟨ob, k b ob q⟩, fun _ _ q => q, fun _ _ _ q => q, fun _ ps q => ⟨#[], by rw [q]; simp⟩⟩
theorem Un.refl : Un fs ex H H h h := Un.kept fun _ _ q => q
theorem Un.laid (k : ∀ b u, h.get? b = some u → h'.get? b = some u) (hp : h.objs.size ≤ a) (hn : H a = none) : Un fs ex H (upd H a o) h h' where
  keep := fun b u q _ _ _ => k b u q
  slot := fun b u q _ _ _ => ⟨u.slots, k b u q⟩
  free := fun b u q n _ => by rw [upd_ne (Nat.ne_of_lt (Nat.lt_of_lt_of_le (Heap.lt_size q) hp))]; exact n
  there := fun b u q _ => ⟨u, k b u q⟩
  tups := fun b xs q => by rw [upd_ne (ne_of_none q hn)]; exact q
  frzs := fun b u xs q => by rw [upd_ne (ne_of_none q hn)]; exact q
  tbls := fun b ps q => ⟨#[], by rw [upd_ne (ne_of_none q hn), q]; simp⟩
theorem Un.write (mu : Mut (H x)) (he : e = x ∨ H e = some (.own x)) (k : ∀ b u, b ≠ e → h.get? b = some u → h'.get? b = some u) (heo : ∃ u, h'.get? e = some u) : Un fs ex H (upd H x o) h h' := by
  have hx : ∀ b, H b = none → b ≠ x := fun b n z => by subst z; rw [n] at mu; exact mu
  have hb : ∀ b, H b = none → b ≠ e := fun b n z => by
    subst z
    rcases he with r | r
    · exact hx b n r
    · rw [n] at r; cases r
  have hm : ∀ b u, H b = some u → ¬ Mut (some u) → b ≠ x := fun b u q nm z => by subst z; rw [q] at mu; exact nm mu
  refine ⟨fun b u q n _ _ => k b u (hb b n) q, fun b u q n _ _ => ⟨u.slots, k b u (hb b n) q⟩, fun b u q n _ => by rw [upd_ne (hx b n)]; exact n, fun b u q _ => ?_,
    fun b xs q => by rw [upd_ne (hm b _ q fun z => z)]; exact q, fun b u xs q => by rw [upd_ne (hm b _ q fun z => z)]; exact q, fun b ps q => ⟨#[], by rw [upd_ne (hm b _ q fun z => z), q]; simp⟩⟩
  by_cases hbe : b = e
  · subst hbe; exact heo
  · exact ⟨u, k b u hbe q⟩
end
def trk (h : Heap) (H : Hp) : List Addr := (List.range h.objs.size).filter fun a => (H a).isSome
def hidT (h : Heap) (H : Hp) : Heap := PySem.W.hideAll h (trk h H)
theorem hidT_size (h : Heap) (H : Hp) : (hidT h H).objs.size = h.objs.size := PySem.W.hideAll_size _ _
theorem hidT_get {h : Heap} {H : Hp} {b : Addr} {o : Obj} (e : h.get? b = some o) (n : H b = none) : (hidT h H).get? b = some o :=
  PySem.W.hideAll_get _ e fun hm => by
    have q : (H b).isSome = true := (List.mem_filter.mp hm).2
    rw [n] at q; simp at q
theorem of_hidT {h : Heap} {H : Hp} {b : Addr} {o : Obj} (e : (hidT h H).get? b = some o) : h.get? b = some o ∧ H b = none := by
  have e' : h.get? b = some o := PySem.W.of_hideAll (trk h H) e
  refine ⟨e', ?_⟩
  cases q : H b with
  | none => rfl
  | some x =>
    have hm : b ∈ trk h H := List.mem_filter.mpr ⟨List.mem_range.mpr (Heap.lt_size e'), by simp [q]⟩
    have z : (hidT h H).get? b = none := PySem.W.hideAll_none (trk h H) hm
    rw [z] at e; cases e
end L2
namespace L2
open PySem PySem.Spec PyProof.Rows
/-- the module's facts, over the base: the heap at the law's entry without what is tracked there -/
structure Mod (K : PySem.W.Frag) (mg : Str → Option Value) (base : Heap) : Prop where
  kin : K.In base
  glob : base.Ns mainGlobals mg
  blt : ∃ mb, base.Ns builtinsNs mb ∧ ∀ x : Str, x ≠ "__name__" → mb x = bootBuiltins x
  nolimit : base.NoLimit
/-- the context: a def's body (or a comprehension's block) running. base: fixed through the whole law; s₀, H₀: the entry; outer: the frames whose slots others may change (a def's callers); stack: all frames that run;
   ex: iterators that were made ahead of the entry and are walked here (a comprehension's); fn: the names whose cells were made at the entry (a def: all; a comprehension's block: its own); calm: not within an except suite; pn: pins that every state bears; xe: what is wanted of an exception that leaves the code -/
structure Cx where
  prog : Program
  w : World
  K : PySem.W.Frag
  mg : Str → Option Value
  base : Heap
  A : Around
  N : List Str
  s_0 : Shared
  H_0 : Hp
  env : Env
  outer : List Env
  stack : List Env
  ex : List Addr
  fn : Str → Bool
  calm : Bool
  pn : List (Addr × Obj)
  xe : Value → Shared → Prop
/-- the callers' frames -/
def frs (l : List Env) : List Addr := l.filterMap (·.frame)
abbrev Cx.fs (X : Cx) : List Addr := frs X.outer
def Vis (sc : Scope) (x : Str) : Prop := sc.names.lookup x = some .local ∨ sc.names.lookup x = some .cell ∨ sc.names.lookup x = some .free
def Loc (sc : Scope) (x : Str) : Prop := sc.names.lookup x = some .local ∨ sc.names.lookup x = some .cell
def Look (env : Env) (h : Heap) (m : Str → Option Value) (x : Str) (u : Value) : Prop :=
  (env.kindOf x = some .local ∧ m x = some u) ∨ ((env.kindOf x = some .cell ∨ env.kindOf x = some .free) ∧ ∃ c, env.cells.lookup x = some c ∧ h.IsCell c (some u))
structure Cx.Ok (X : Cx) : Prop where
  mod : Mod X.K X.mg X.base
  kind : X.env.scope.kind = .function
  glob : X.env.globals = mainGlobals
  blt : X.env.builtins = builtinsNs
  above : X.s_0.heap.objs.size ≤ X.env.locals
  inj : ∀ x y c, X.env.cells.lookup x = some c → X.env.cells.lookup y = some c → x = y
  has : ∀ x, (X.env.kindOf x = some .cell ∨ X.env.kindOf x = some .free) → ∃ c, X.env.cells.lookup x = some c
  cab : ∀ x c, X.fn x = true → X.env.cells.lookup x = some c → X.s_0.heap.objs.size ≤ c
  hd : X.calm = true → X.A.handled = none
  frames : X.A.frames = some X.stack
  stk : X.stack = X.outer ∨ (X.stack = X.env :: X.outer ∧ X.env.frame = some X.env.locals)
  exf : ∀ b ∈ X.ex, b ≠ X.env.locals ∧ ∀ x c, X.env.cells.lookup x = some c → c ≠ b
  bs : ∀ b o, X.base.get? b = some o → X.s_0.heap.get? b = some o ∧ X.H_0 b = none
  bsz : X.base.objs.size ≤ X.s_0.heap.objs.size
  noex : ∀ b o, X.base.get? b = some o → b ∉ X.ex
  exfs : ∀ b ∈ X.ex, b ∉ X.fs
  funs : X.s_0.heap.FunFrames X.base X.outer
  frf : ∀ b ∈ X.fs, X.H_0 b = none
structure Inv (X : Cx) (pins : List (Addr × Obj)) (σ : List (Option V)) (H : Hp) (s : Shared) : Prop where
  ok : X.Ok
  os : s.os = X.s_0.os
  bare : AllBare s.gens
  base : Un X.fs X.ex X.H_0 H X.s_0.heap s.heap
  loc : ∃ m, s.heap.Ns X.env.locals m ∧ ∀ (i : Nat) (x : Str) (v : V), X.N[i]? = some x → σ[i]? = some (some v) → Vis X.env.scope x → ∃ u, RelV v u ∧ Look X.env s.heap m x u
  cell : ∀ x c, X.env.cells.lookup x = some c → ∃ v, s.heap.IsCell c v
  free : H X.env.locals = none
  freeC : ∀ x c, X.env.cells.lookup x = some c → H c = none
  pin : ∀ p ∈ X.pn ++ pins, s.heap.get? p.1 = some p.2 ∧ H p.1 = none ∧ p.1 ≠ X.env.locals ∧ p.1 ∉ X.fs ∧ ∀ v, p.2.data ≠ .cell v
  hok : HOk X.prog X.w H s.heap
  len : σ.length = X.N.length
section
variable {X : Cx} {pins : List (Addr × Obj)} {σ : List (Option V)} {H H' : Hp} {s : Shared} {h' : Heap}
theorem Cx.Ok.nofr (ok : X.Ok) {b : Addr} {o : Obj} (e : X.base.get? b = some o) : b ∉ X.fs := fun hb => by
  have := (ok.funs.mem hb).1
  rw [e] at this; cases this
theorem Inv.bs (I : Inv X pins σ H s) : ∀ b o, X.base.get? b = some o → s.heap.get? b = some o ∧ H b = none := fun b o e =>
  ⟨I.base.keep b o (I.ok.bs b o e).1 (I.ok.bs b o e).2 (I.ok.nofr e) (I.ok.noex b o e), I.base.free b o (I.ok.bs b o e).1 (I.ok.bs b o e).2 (I.ok.noex b o e)⟩
theorem Inv.bk (I : Inv X pins σ H s) : ∀ b o, X.base.get? b = some o → s.heap.get? b = some o := fun b o e => (I.bs b o e).1
theorem Inv.mod (I : Inv X pins σ H s) : Mod X.K X.mg X.base := I.ok.mod
theorem Inv.kIn (I : Inv X pins σ H s) : X.K.In s.heap := I.ok.mod.kin.keeps I.bk
theorem Inv.lt (I : Inv X pins σ H s) : X.env.locals < s.heap.objs.size := let ⟨_, hn, _⟩ := I.loc; hn.lt
theorem Inv.sz (I : Inv X pins σ H s) : X.s_0.heap.objs.size ≤ s.heap.objs.size := Nat.le_trans I.ok.above (Nat.le_of_lt I.lt)
theorem Inv.nofs (I : Inv X pins σ H s) {a : Addr} (h : s.heap.objs.size ≤ a) : a ∉ X.fs := fun hb => by
  obtain ⟨_, o, ho, _⟩ := I.ok.funs.mem hb
  exact absurd (Nat.lt_of_lt_of_le (Heap.lt_size ho) (Nat.le_trans I.sz h)) (Nat.lt_irrefl _)
theorem Inv.cne (I : Inv X pins σ H s) : ∀ x c, X.env.cells.lookup x = some c → c ≠ X.env.locals := fun x c e z => by
  obtain ⟨v, o, ho, hd⟩ := I.cell x c e
  obtain ⟨m, ⟨o', es, ep, ho', hd', _⟩, _⟩ := I.loc
  rw [z, ho'] at ho; cases ho; rw [hd'] at hd; cases hd
theorem Inv.funs (I : Inv X pins σ H s) : s.heap.FunFrames X.base X.outer := by
  have all : ∀ (l : List Env), (∀ b ∈ frs l, b ∈ X.fs) → X.s_0.heap.FunFrames X.base l → s.heap.FunFrames X.base l := by
    intro l
    induction l with
    | nil => intro _ _; trivial
    | cons env r ih =>
      intro hs hl
      obtain ⟨hk, ⟨L, o, hf, hn, ho, hd⟩, hr⟩ := hl
      have hL : L ∈ X.fs := hs L (by unfold frs; rw [List.filterMap_cons, hf]; exact List.mem_cons_self)
      obtain ⟨sl, e⟩ := I.base.slot L o ho (I.ok.frf L hL) hL fun z => I.ok.exfs L z hL
      exact ⟨hk, ⟨L, _, hf, hn, e, hd⟩, ih (fun b hb => hs b (by unfold frs; rw [List.filterMap_cons, hf]; exact List.mem_cons_of_mem _ hb)) hr⟩
  exact all X.outer (fun _ hb => hb) I.ok.funs
/-- the frames that run, for a call -/
theorem Inv.stack (I : Inv X pins σ H s) : s.heap.FunFrames X.base X.stack := by
  rcases I.ok.stk with e | ⟨e, hf⟩
  · rw [e]; exact I.funs
  · rw [e]
    obtain ⟨m, hn, _⟩ := I.loc
    refine .cons (by rw [I.ok.kind]; decide) hf hn ?_ I.funs
    exact Heap.get?_none_of_le (Nat.le_trans I.ok.bsz I.ok.above)
theorem Inv.stkSub (I : Inv X pins σ H s) : ∀ b ∈ frs X.stack, b ∈ X.env.locals :: X.fs := fun b hb => by
  rcases I.ok.stk with e | ⟨e, hf⟩
  · rw [e] at hb; exact List.mem_cons_of_mem _ hb
  · rw [e] at hb
    unfold frs at hb
    rw [List.filterMap_cons, hf] at hb
    exact hb
theorem Inv.stkFree (I : Inv X pins σ H s) : ∀ b ∈ frs X.stack, H b = none := fun b hb => by
  rcases List.mem_cons.mp (I.stkSub b hb) with e | hb
  · rw [e]; exact I.free
  · obtain ⟨_, o, ho, _⟩ := I.ok.funs.mem hb
    exact I.base.free b o ho (I.ok.frf b hb) fun z => I.ok.exfs b z hb
/-- THE STEP: the untracked objects but the frame and the records at ch are kept (the callers' frames up to slots), the frame's map is kept, the new abstract heap is held -/
theorem Inv.step {g' : Array GenState} {t' : Nat} {d' : Drawn} {ch : List Addr} (I : Inv X pins σ H s)
    (hch : ∀ b ∈ ch, (b ∈ X.ex ∨ X.s_0.heap.objs.size ≤ b) ∧ b ≠ X.env.locals ∧ (∀ x c, X.env.cells.lookup x = some c → c ≠ b) ∧ ∀ p ∈ X.pn ++ pins, p.1 ≠ b)
    (keep : ∀ b o, b ≠ X.env.locals → b ∉ X.fs → b ∉ ch → s.heap.get? b = some o → H b = none → h'.get? b = some o)
    (slot : ∀ b o, b ≠ X.env.locals → b ∈ X.fs → b ∉ ch → s.heap.get? b = some o → H b = none → ∃ sl, h'.get? b = some { o with slots := sl }) (free : ∀ b o, b ∉ ch → s.heap.get? b = some o → H b = none → H' b = none)
    (there : ∀ b o, b ∉ ch → s.heap.get? b = some o → ∃ o', h'.get? b = some o')
    (tups : ∀ b xs, H b = some (.tup xs) → H' b = some (.tup xs)) (frzs : ∀ b o u, H b = some (.frz o u) → H' b = some (.frz o u)) (tbls : ∀ b ps, H b = some (.tbl ps) → ∃ more, H' b = some (.tbl (ps ++ more)))
    (ns : ∀ m, s.heap.Ns X.env.locals m → h'.Ns X.env.locals m) (hok : HOk X.prog X.w H' h') (hg : AllBare g') :
    Inv X pins σ H' { s with heap := h', gens := g', drawn := d', toks := t' } := by
  have neL : ∀ b o, X.s_0.heap.get? b = some o → b ≠ X.env.locals := fun b o e => Nat.ne_of_lt (Nat.lt_of_lt_of_le (Heap.lt_size e) I.ok.above)
  have neC : ∀ b o, X.s_0.heap.get? b = some o → b ∉ X.ex → b ∉ ch := fun b o e hx hb => by
    rcases (hch b hb).1 with z | z
    · exact hx z
    · exact absurd (Nat.lt_of_lt_of_le (Heap.lt_size e) z) (Nat.lt_irrefl _)
  have cellK : ∀ x c, X.env.cells.lookup x = some c → ∀ v, s.heap.IsCell c v → h'.IsCell c v := fun x c e v ⟨o, ho, hd⟩ => by
    have nch : c ∉ ch := fun z => (hch c z).2.2.1 x c e rfl
    by_cases hc : c ∈ X.fs
    · obtain ⟨sl, q⟩ := slot c o (I.cne x c e) hc nch ho (I.freeC x c e)
      exact ⟨_, q, hd⟩
    · exact ⟨o, keep c o (I.cne x c e) hc nch ho (I.freeC x c e), hd⟩
  refine ⟨I.ok, I.os, hg, ⟨fun b o e n hb hx => ?_, fun b o e n hb hx => ?_, fun b o e n hx => ?_, fun b o e hx => ?_, fun b xs e => tups b xs (I.base.tups b xs e), fun b o xs e => frzs b o xs (I.base.frzs b o xs e), fun b ps e => ?_⟩, ?_, fun x c e => ?_, ?_, fun x c e => ?_, fun p hp => ?_, hok, I.len⟩
  · exact keep b o (neL b o e) hb (neC b o e hx) (I.base.keep b o e n hb hx) (I.base.free b o e n hx)
  · obtain ⟨sl, e1⟩ := I.base.slot b o e n hb hx
    obtain ⟨sl', e2⟩ := slot b _ (neL b o e) hb (neC b o e hx) e1 (I.base.free b o e n hx)
    exact ⟨sl', e2⟩
  · obtain ⟨o', e1⟩ := I.base.there b o e hx
    exact free b o' (neC b o e hx) e1 (I.base.free b o e n hx)
  · obtain ⟨o', e1⟩ := I.base.there b o e hx
    exact there b o' (neC b o e hx) e1
  · obtain ⟨m1, e1⟩ := I.base.tbls b ps e
    obtain ⟨m2, e2⟩ := tbls b _ e1
    exact ⟨m1 ++ m2, by rw [e2, Array.append_assoc]⟩
  · obtain ⟨m, hn, hl⟩ := I.loc
    refine ⟨m, ns m hn, fun i x v e1 e2 e3 => ?_⟩
    obtain ⟨u, r, l⟩ := hl i x v e1 e2 e3
    refine ⟨u, r, ?_⟩
    rcases l with l | ⟨k, c, e, z⟩
    · exact .inl l
    · exact .inr ⟨k, c, e, cellK x c e _ z⟩
  · obtain ⟨v, z⟩ := I.cell x c e
    exact ⟨v, cellK x c e v z⟩
  · obtain ⟨m, ⟨o, _, _, ho, _⟩, _⟩ := I.loc
    exact free _ o (fun z => (hch _ z).2.1 rfl) ho I.free
  · obtain ⟨v, o, ho, hd⟩ := I.cell x c e
    exact free c o (fun z => (hch c z).2.2.1 x c e rfl) ho (I.freeC x c e)
  · obtain ⟨e, n, ne, nf, d⟩ := I.pin p hp
    have nch : p.1 ∉ ch := fun z => (hch p.1 z).2.2.2 p hp rfl
    exact ⟨keep p.1 p.2 ne nf nch e n, free p.1 p.2 nch e n, ne, nf, d⟩
/-- .. where the frame's own object is kept too -/
theorem Inv.un {t' : Nat} (I : Inv X pins σ H s) (u : Un X.fs [] H H' s.heap h') (hok : HOk X.prog X.w H' h') : Inv X pins σ H' { s with heap := h', toks := t' } := by
  obtain ⟨m, ⟨o, es, ep, ho, r⟩, _⟩ := id I.loc
  obtain ⟨sl, hL⟩ := u.any ho I.free (by simp)
  exact I.step (g' := s.gens) (d' := s.drawn) (ch := []) (fun _ z => nomatch z) (fun b o _ hb _ e n => u.keep b o e n hb (by simp)) (fun b o _ hb _ e n => u.slot b o e n hb (by simp)) (fun b o _ e n => u.free b o e n (by simp)) (fun b o _ e => u.there b o e (by simp)) u.tups u.frzs u.tbls (fun m' hm => by
    obtain ⟨o', es', ep', ho', r'⟩ := hm
    rw [ho] at ho'; cases ho'
    exact ⟨_, es', ep', hL, r'⟩) hok I.bare
/-- behind a call (or a comprehension's block): the slots of this frame may have changed too, the records at ch may have turned -/
theorem Inv.call {g' : Array GenState} {t' : Nat} {d' : Drawn} {ch : List Addr} (I : Inv X pins σ H s) (u : Un (frs X.stack) ch H H' s.heap h') (hok : HOk X.prog X.w H' h') (hg : AllBare g')
    (hch : ∀ b ∈ ch, (b ∈ X.ex ∨ X.s_0.heap.objs.size ≤ b) ∧ b ≠ X.env.locals ∧ (∀ x c, X.env.cells.lookup x = some c → c ≠ b) ∧ ∀ p ∈ X.pn ++ pins, p.1 ≠ b) :
    Inv X pins σ H' { s with heap := h', gens := g', drawn := d', toks := t' } := by
  obtain ⟨m, ⟨o, es, ep, ho, r⟩, _⟩ := id I.loc
  obtain ⟨sl, hL⟩ := u.any ho I.free fun z => (hch _ z).2.1 rfl
  exact I.step (ch := ch) hch (fun b o hL hb hc e n => u.keep b o e n (fun z => (List.mem_cons.mp (I.stkSub b z)).elim hL hb) hc) (fun b o _ _ hc e n => u.any e n hc) (fun b o hc e n => u.free b o e n hc) (fun b o hc e => u.there b o e hc) u.tups u.frzs u.tbls (fun m' hm => by
    obtain ⟨o', es', ep', ho', r'⟩ := hm
    rw [ho] at ho'; cases ho'
    exact ⟨_, es', ep', hL, r'⟩) hok hg
/-- an untracked record of ours (an iterator) has turned -/
theorem Inv.turned {t' : Nat} {it : Addr} (I : Inv X pins σ H s) (k : ∀ b o, b ≠ it → s.heap.get? b = some o → h'.get? b = some o) (hn : H it = none) (hL : it ≠ X.env.locals)
    (h1 : it ∈ X.ex ∨ X.s_0.heap.objs.size ≤ it) (h2 : ∀ x c, X.env.cells.lookup x = some c → c ≠ it) (h3 : ∀ p ∈ X.pn ++ pins, p.1 ≠ it) : Inv X pins σ H { s with heap := h', toks := t' } := by
  have nit : ∀ b u, H b = some u → b ≠ it := fun b u e z => by rw [z, hn] at e; cases e
  refine I.step (g' := s.gens) (d' := s.drawn) (ch := [it]) (fun b hb => ?_) (fun b o _ _ hc e _ => k b o (fun z => hc (by simp [z])) e) (fun b o _ _ hc e _ => ⟨o.slots, k b o (fun z => hc (by simp [z])) e⟩) (fun _ _ _ _ n => n)
    (fun b o hc e => ⟨o, k b o (fun z => hc (by simp [z])) e⟩) (fun _ _ e => e) (fun _ _ _ e => e) (fun b ps e => ⟨#[], by rw [e]; simp⟩) (fun m hm => ?_) (fun b u e => ?_) I.bare
  · have e : b = it := by simpa using hb
    subst e
    exact ⟨h1, hL, h2, h3⟩
  · obtain ⟨o, es, ep, ho, r⟩ := hm
    exact ⟨o, es, ep, k _ o (Ne.symm hL) ho, r⟩
  · refine (I.hok b u e).stay (fun c v hc q => k c v ?_ q) (fun _ q => q) fun _ _ q => q
    rcases hc with z | z
    · rw [z]; exact nit b u e
    · exact nit c _ z
theorem Inv.tok (I : Inv X pins σ H s) (t : Nat) : Inv X pins σ H { s with toks := t } := I.un (h' := s.heap) (t' := t) Un.refl I.hok
/-- all objects kept -/
theorem Inv.kept {t' : Nat} (I : Inv X pins σ H s) (k : ∀ b u, s.heap.get? b = some u → h'.get? b = some u) : Inv X pins σ H { s with heap := h', toks := t' } := I.un (Un.kept k) (I.hok.kept k)
/-- a new object laid and tracked -/
theorem Inv.laid {a : Addr} {o : HO} {t' : Nat} (I : Inv X pins σ H s) (k : ∀ b u, s.heap.get? b = some u → h'.get? b = some u) (hp : s.heap.objs.size ≤ a) (new : ObjOk X.prog X.w (upd H a o) h' a o) :
    Inv X pins σ (upd H a o) { s with heap := h', toks := t' } := I.un (Un.laid k hp (I.hok.fresh hp)) (I.hok.laid k hp new)
/-- an object written -/
theorem Inv.write {x e : Addr} {o : HO} {t' : Nat} (I : Inv X pins σ H s) (mu : Mut (H x)) (he : e = x ∨ H e = some (.own x)) (k : ∀ b u, b ≠ e → s.heap.get? b = some u → h'.get? b = some u) (heo : ∃ u, h'.get? e = some u)
    (new : ObjOk X.prog X.w (upd H x o) h' x o) : Inv X pins σ (upd H x o) { s with heap := h', toks := t' } := I.un (Un.write mu he k heo) (I.hok.write mu he k heo new)
/-- forgetting slots, pins -/
theorem Inv.weak {σ' : List (Option V)} (I : Inv X pins σ H s) (hl : σ'.length = σ.length) (w : ∀ (i : Nat) v, σ'[i]? = some (some v) → σ[i]? = some (some v)) : Inv X pins σ' H s :=
  ⟨I.ok, I.os, I.bare, I.base, let ⟨m, hn, hl'⟩ := I.loc; ⟨m, hn, fun i x v e1 e2 e3 => hl' i x v e1 (w i v e2) e3⟩, I.cell, I.free, I.freeC, I.pin, I.hok, hl.trans I.len⟩
theorem Inv.pins_of {pins' : List (Addr × Obj)} (I : Inv X pins σ H s) (h : ∀ p ∈ pins', s.heap.get? p.1 = some p.2 ∧ H p.1 = none ∧ p.1 ≠ X.env.locals ∧ p.1 ∉ X.fs ∧ ∀ v, p.2.data ≠ .cell v) : Inv X pins' σ H s :=
  ⟨I.ok, I.os, I.bare, I.base, I.loc, I.cell, I.free, I.freeC, fun p hp => (List.mem_append.mp hp).elim (fun z => I.pin p (List.mem_append_left _ z)) (h p), I.hok, I.len⟩
theorem nodup_ix {N : List Str} (hN : N.Nodup) {i j : Nat} {x : Str} (a : N[i]? = some x) (b : N[j]? = some x) : i = j := by
  obtain ⟨h1, e1⟩ := List.getElem?_eq_some_iff.mp a
  obtain ⟨h2, e2⟩ := List.getElem?_eq_some_iff.mp b
  exact (List.getElem_inj hN).mp (e1.trans e2.symm)
/-- a name is stored; what changed -/
theorem store_ok2 {M : Model} {A : Around} {E : Value → Shared → Prop} {i : Nat} {x : Str} {v : V} {u : Value} {Q : Unit → Shared → Prop} (I : Inv X pins σ H s) (hN : X.N.Nodup) (hi : X.N[i]? = some x) (hx : Loc X.env.scope x) (r : RelV v u)
    (h : ∀ s', Inv X pins (σ.set i (some v)) H s' → (∃ a, Heap.SameBut a s.heap s'.heap ∧ (a = X.env.locals ∨ X.env.cells.lookup x = some a)) → Q () s') (hf : X.fn x = true ∨ X.env.scope.names.lookup x = some .local := by first | exact .inl rfl | exact .inr rfl | assumption) : wpAny M A (storeName X.env x u) Q E s := by
  obtain ⟨m, hn, hl⟩ := id I.loc
  have hcls : (X.env.scope.kind == .class || (X.env.scope.kind == .module && X.env.locals != X.env.globals)) = false := by rw [I.ok.kind]; rfl
  have hiσ : i < σ.length := by rw [I.len]; exact (List.getElem?_eq_some_iff.mp hi).1
  have cne := I.cne
  have tracked : ∀ {a : Addr} {h' : Heap}, (∃ o, s.heap.get? a = some o ∧ H a = none) → Heap.SameBut a s.heap h' → HOk X.prog X.w H h' := fun {a h'} ha hs b ob e => by
    obtain ⟨_, _, hfree⟩ := ha
    refine (I.hok b ob e).stay (fun c w' hc q => (hs.2 c ?_).trans q) (fun _ q => q) fun _ _ q => q
    rintro rfl
    rcases hc with rfl | hc
    · rw [hfree] at e; cases e
    · rw [hfree] at hc; cases hc
  rcases hx with hk | hk
  · refine wpAny_storeName_local hk hn (fun h' hn' hs => ?_) hcls
    obtain ⟨oL, _, _, hoL, _⟩ := id hn
    refine h _ ⟨I.ok, I.os, I.bare, ⟨fun b o e n hb hx => ?_, fun b o e n hb hx => ?_, I.base.free, fun b o e hx => ?_, I.base.tups, I.base.frzs, I.base.tbls⟩, ⟨_, hn', fun j y v' e1 e2 e3 => ?_⟩, fun y c e => ?_, I.free, I.freeC, fun p hp => ?_, tracked ⟨oL, hoL, I.free⟩ hs, by simpa using I.len⟩ ⟨_, hs, .inl rfl⟩
    · exact (hs.2 b (Nat.ne_of_lt (Nat.lt_of_lt_of_le (Heap.lt_size e) I.ok.above))).trans (I.base.keep b o e n hb hx)
    · obtain ⟨sl, e1⟩ := I.base.slot b o e n hb hx
      exact ⟨sl, (hs.2 b (Nat.ne_of_lt (Nat.lt_of_lt_of_le (Heap.lt_size e) I.ok.above))).trans e1⟩
    · obtain ⟨o', e1⟩ := I.base.there b o e hx
      exact ⟨o', (hs.2 b (Nat.ne_of_lt (Nat.lt_of_lt_of_le (Heap.lt_size e) I.ok.above))).trans e1⟩
    · by_cases hj : j = i
      · subst hj
        rw [hi] at e1; cases e1
        rw [List.getElem?_set_self hiσ] at e2
        cases e2
        exact ⟨u, r, .inl ⟨hk, by simp⟩⟩
      · rw [List.getElem?_set_ne (Ne.symm hj)] at e2
        obtain ⟨u', r', q⟩ := hl j y v' e1 e2 e3
        refine ⟨u', r', ?_⟩
        rcases q with ⟨k, e⟩ | ⟨k, c, e, z⟩
        · refine .inl ⟨k, ?_⟩
          have : y ≠ x := fun e => hj (nodup_ix hN e1 (e ▸ hi))
          simp [this, e]
        · exact .inr ⟨k, c, e, z.sameBut hs (cne y c e)⟩
    · obtain ⟨w', z⟩ := I.cell y c e
      exact ⟨w', z.sameBut hs (cne y c e)⟩
    · obtain ⟨e, n, ne, nf, d⟩ := I.pin p hp
      exact ⟨(hs.2 p.1 ne).trans e, n, ne, nf, d⟩
  · have hfn : X.fn x = true := by
      rcases hf with z | z
      · exact z
      · rw [z] at hk; cases hk
    obtain ⟨c, hc⟩ := I.ok.has x (.inl hk)
    obtain ⟨w', z⟩ := I.cell x c hc
    refine wpAny_storeName_cell I.ok.kind hk hc z (fun h' hc' hs => ?_)
    obtain ⟨oc, hoc, hocd⟩ := id z
    refine h { s with heap := h' } ⟨I.ok, I.os, I.bare, ⟨fun b o e n hb hx => ?_, fun b o e n hb hx => ?_, I.base.free, fun b o e hx => ?_, I.base.tups, I.base.frzs, I.base.tbls⟩, ⟨m, hn.sameBut hs (Ne.symm (cne x c hc)), fun j y v' e1 e2 e3 => ?_⟩, fun y c' e => ?_, I.free, I.freeC, fun p hp => ?_, tracked ⟨oc, hoc, I.freeC x c hc⟩ hs, by simpa using I.len⟩ ⟨c, hs, .inr hc⟩
    · exact (hs.2 b (Nat.ne_of_lt (Nat.lt_of_lt_of_le (Heap.lt_size e) (I.ok.cab x c hfn hc)))).trans (I.base.keep b o e n hb hx)
    · obtain ⟨sl, e1⟩ := I.base.slot b o e n hb hx
      exact ⟨sl, (hs.2 b (Nat.ne_of_lt (Nat.lt_of_lt_of_le (Heap.lt_size e) (I.ok.cab x c hfn hc)))).trans e1⟩
    · obtain ⟨o', e1⟩ := I.base.there b o e hx
      exact ⟨o', (hs.2 b (Nat.ne_of_lt (Nat.lt_of_lt_of_le (Heap.lt_size e) (I.ok.cab x c hfn hc)))).trans e1⟩
    · by_cases hj : j = i
      · subst hj
        rw [hi] at e1; cases e1
        rw [List.getElem?_set_self hiσ] at e2
        cases e2
        exact ⟨u, r, .inr ⟨.inl hk, c, hc, hc'⟩⟩
      · rw [List.getElem?_set_ne (Ne.symm hj)] at e2
        obtain ⟨u', r', q⟩ := hl j y v' e1 e2 e3
        refine ⟨u', r', ?_⟩
        rcases q with q | ⟨k, c', e, z'⟩
        · exact .inl q
        · refine .inr ⟨k, c', e, z'.sameBut hs ?_⟩
          rintro rfl
          exact hj (nodup_ix hN e1 (I.ok.inj _ _ _ e hc ▸ hi))
    · by_cases hcc : c' = c
      · subst hcc; exact ⟨_, hc'⟩
      · obtain ⟨w2, z2⟩ := I.cell y c' e
        exact ⟨w2, z2.sameBut hs hcc⟩
    · obtain ⟨e, n, ne, nf, d⟩ := I.pin p hp
      refine ⟨(hs.2 p.1 ?_).trans e, n, ne, nf, d⟩
      intro q
      rw [q, hoc] at e
      have q' : oc = p.2 := Option.some.inj e
      exact d w' (by rw [← q']; exact hocd)
theorem store_ok {M : Model} {A : Around} {E : Value → Shared → Prop} {i : Nat} {x : Str} {v : V} {u : Value} {Q : Unit → Shared → Prop} (I : Inv X pins σ H s) (hN : X.N.Nodup) (hi : X.N[i]? = some x) (hx : Loc X.env.scope x) (r : RelV v u)
    (h : ∀ s', Inv X pins (σ.set i (some v)) H s' → Q () s') (hf : X.fn x = true ∨ X.env.scope.names.lookup x = some .local := by first | exact .inl rfl | exact .inr rfl | assumption) : wpAny M A (storeName X.env x u) Q E s :=
  store_ok2 I hN hi hx r (fun s' I' _ => h s' I') hf
/-- behind a call or a block, the state as it is -/
theorem Inv.call' {s' : Shared} {ch : List Addr} (I : Inv X pins σ H s) (ho : s'.os = s.os) (u : Un (frs X.stack) ch H H' s.heap s'.heap) (hok : HOk X.prog X.w H' s'.heap) (hg : AllBare s'.gens)
    (hch : ∀ b ∈ ch, (b ∈ X.ex ∨ X.s_0.heap.objs.size ≤ b) ∧ b ≠ X.env.locals ∧ (∀ x c, X.env.cells.lookup x = some c → c ≠ b) ∧ ∀ p ∈ X.pn ++ pins, p.1 ≠ b) : Inv X pins σ H' s' := by
  obtain ⟨h', g', d', t', o'⟩ := s'
  have e : o' = s.os := ho
  subst e
  exact I.call (g' := g') (t' := t') (d' := d') u hok hg hch
end
/-- an exception: its class, its own dict's address (where it has one), the abstract heap behind it -/
abbrev XK := Value → Option Addr → Hp → Prop
abbrev St := List (Option V)
abbrev VK := V → Hp → Prop
/-- an expression's reading; a test's; an argument list's -/
abbrev TE := St → Hp → VK → Prop
abbrev TT := St → Hp → (Bool → Hp → Prop) → Prop
abbrev TA := St → Hp → (List V → Hp → Prop) → Prop
/-- what is wanted behind a statement -/
structure Ends where
  nx : St → Hp → Prop
  rt : VK
  bk : St → Hp → Prop := fun _ _ => False
  ct : St → Hp → Prop := fun _ _ => False
abbrev TS := Ends → St → Hp → Prop
def EP (X : Cx) (pins : List (Addr × Obj)) (σ : St) (Q : VK) (u : Value) (s' : Shared) : Prop := ∃ v H', Inv X pins σ H' s' ∧ RelV v u ∧ Q v H'
def TP (X : Cx) (pins : List (Addr × Obj)) (σ : St) (Q : Bool → Hp → Prop) (b : Bool) (s' : Shared) : Prop := ∃ H', Inv X pins σ H' s' ∧ Q b H'
def AP (X : Cx) (pins : List (Addr × Obj)) (σ : St) (Q : List V → Hp → Prop) (us : List Value) (s' : Shared) : Prop := ∃ vs H', Inv X pins σ H' s' ∧ Vals vs us ∧ Q vs H'
def SP (X : Cx) (pins : List (Addr × Obj)) (D : Ends) (f : Flow) (s' : Shared) : Prop :=
  match f with
  | .next => ∃ σ' H', Inv X pins σ' H' s' ∧ D.nx σ' H'
  | .brk => ∃ σ' H', Inv X pins σ' H' s' ∧ D.bk σ' H'
  | .cont => ∃ σ' H', Inv X pins σ' H' s' ∧ D.ct σ' H'
  | .ret u => ∃ v σ' H', Inv X pins σ' H' s' ∧ RelV v u ∧ D.rt v H'
def PE (X : Cx) (e : Expr) (t : TE) : Prop :=
  ∀ (pins : List (Addr × Obj)) (s : Shared) (σ : St) (H : Hp) (Q : VK), Inv X pins σ H s → t σ H Q → wpAny (model X.prog X.w) X.A (eval e X.env) (EP X pins σ Q) X.xe s
def PT (X : Cx) (e : Expr) (t : TT) : Prop :=
  ∀ (pins : List (Addr × Obj)) (s : Shared) (σ : St) (H : Hp) (Q : Bool → Hp → Prop), Inv X pins σ H s → t σ H Q → wpAny (model X.prog X.w) X.A (isTrue e X.env (eval e X.env)) (TP X pins σ Q) X.xe s
/-- a test whatever its 'whole' is (and, or) -/
def PW (X : Cx) (e : Expr) (t : TT) : Prop :=
  ∀ (whole : Sem Value) (pins : List (Addr × Obj)) (s : Shared) (σ : St) (H : Hp) (Q : Bool → Hp → Prop), Inv X pins σ H s → t σ H Q → wpAny (model X.prog X.w) X.A (isTrue e X.env whole) (TP X pins σ Q) X.xe s
theorem PW.pt {X : Cx} {e : Expr} {t : TT} (h : PW X e t) : PT X e t := h _
/-- an argument list (no star), from the left -/
def PA (X : Cx) (es : List Expr) (t : TA) : Prop :=
  ∀ (pos : Pos) (pins : List (Addr × Obj)) (s : Shared) (σ : St) (H : Hp) (Q : List V → Hp → Prop), Inv X pins σ H s → t σ H Q → wpAny (model X.prog X.w) X.A (spliced (backTo pos (starEach es X.env))) (AP X pins σ Q) X.xe s
def PS (X : Cx) (st : Stmt) (t : TS) : Prop :=
  ∀ (pins : List (Addr × Obj)) (s : Shared) (σ : St) (H : Hp) (D : Ends), Inv X pins σ H s → t D σ H → wpAny (model X.prog X.w) X.A (exec st X.env) (SP X pins D) X.xe s
def PSs (X : Cx) (st : List Stmt) (t : TS) : Prop :=
  ∀ (pins : List (Addr × Obj)) (s : Shared) (σ : St) (H : Hp) (D : Ends), Inv X pins σ H s → t D σ H → wpAny (model X.prog X.w) X.A (execs st X.env) (SP X pins D) X.xe s
/-- weaken the end -/
theorem thn {α : Type} {t : Sem α} {Q Q' : α → Shared → Prop} {M : Model} {A : Around} {E : Value → Shared → Prop} {s : Shared} (h : wpAny M A t Q E s) (hQ : ∀ a s, Q a s → Q' a s) : wpAny M A t Q' E s := wpAny_mono h hQ fun _ _ x => x
end L2
namespace L2
open PySem PySem.Spec PyProof.Rows
section
variable {X : Cx}
def tVar (i : Nat) : TE := fun σ H Q => ∃ v, σ[i]? = some (some v) ∧ Q v H
def tC (v : V) : TE := fun _ H Q => Q v H
theorem pe_var {i : Nat} {x : Str} {pos : Pos} (hN : X.N[i]? = some x) (hv : Vis X.env.scope x) (hd : (x == ("__debug__" : Str)) = false := by decide) (hcd : (x == ("__classdict__" : Str)) = false := by decide) : PE X (.Name x pos) (tVar i) := by
  intro pins s σ H Q I h
  obtain ⟨v, e, h⟩ := h
  obtain ⟨m, hn, hl⟩ := I.loc
  obtain ⟨u, r, l⟩ := hl i x v hN e hv
  have fin : EP X pins σ Q u s := ⟨v, H, I, r, h⟩
  rcases l with ⟨hk, hm⟩ | ⟨hk, c, hc, hcell⟩
  · exact wpAny_Name (wpAny_loadName_local I.ok.kind hk hn hm fin) hd
  · rcases hk with hk | hk
    · exact wpAny_Name (wpAny_loadName_cell I.ok.kind hk hc hcell fin) hd
    · exact wpAny_Name (wpAny_loadName_free I.ok.kind hk hc hcell fin hcd) hd
theorem pe_int {i j pos} : PE X (.Constant (.int i) j pos) (tC (.int i)) := fun _ _ _ H _ I h => wpAny_Constant_int ⟨.int i, H, I.tok _, ⟨_, rfl⟩, h⟩
theorem pe_bl {b j pos} : PE X (.Constant (.bool b) j pos) (tC (.bl b)) := fun _ _ _ H _ I h => Constant_bool ⟨.bl b, H, I, rfl, h⟩
theorem pe_non {j pos} : PE X (.Constant .none j pos) (tC .non) := fun _ _ _ H _ I h => Constant_none ⟨.non, H, I, rfl, h⟩
/-- a global name of the def -/
def Gl (X : Cx) (x : Str) : Prop := X.env.kindOf x = some .globalImplicit
theorem ld_glob {E : Value → Shared → Prop} {pins : List (Addr × Obj)} {s : Shared} {σ : St} {H : Hp} {x : Str} {u : Value} {pos : Pos} {Q : Value → Shared → Prop} (I : Inv X pins σ H s) (hg : Gl X x) (hm : X.mg x = some u) (h : Q u s)
    (hd : (x == ("__debug__" : Str)) = false := by decide) : wpAny (model X.prog X.w) X.A (eval (.Name x pos) X.env) Q E s :=
  Calls.Name_function_global I.ok.kind hg (Calls.loadGlobal_global (by rw [I.ok.glob]; exact I.mod.glob.keeps I.bk) hm h) hd
theorem ld_blt {E : Value → Shared → Prop} {pins : List (Addr × Obj)} {s : Shared} {σ : St} {H : Hp} {x : Str} {u : Value} {pos : Pos} {Q : Value → Shared → Prop} (I : Inv X pins σ H s) (hg : Gl X x) (hm : X.mg x = none) (hv : bootBuiltins x = some u) (h : Q u s)
    (hn : x ≠ "__name__" := by decide) (hd : (x == ("__debug__" : Str)) = false := by decide) : wpAny (model X.prog X.w) X.A (eval (.Name x pos) X.env) Q E s := by
  obtain ⟨mb, h1, h2⟩ := I.mod.blt
  exact Calls.Name_function_global I.ok.kind hg (Calls.loadGlobal_builtin (by rw [I.ok.glob]; exact I.mod.glob.keeps I.bk) hm (by rw [I.ok.blt]; exact h1.keeps I.bk) ((h2 x hn).trans hv) h) hd
/-- a module's constant, a class, a function, as a value -/
theorem pe_glob {x : Str} {v : V} {u : Value} {pos : Pos} (hg : Gl X x) (hm : X.mg x = some u) (r : RelV v u) (hd : (x == ("__debug__" : Str)) = false := by decide) : PE X (.Name x pos) (tC v) :=
  fun _ _ _ H _ I h => ld_glob I hg hm ⟨v, H, I, r, h⟩ hd
variable {a b : Expr} {ta tb : TE} {pos : Pos}
/-- a comparison as a value, as a test -/
def tB (t : TE) : TT := fun σ H Q => t σ H fun x H1 => ∃ c, x = .bl c ∧ Q c H1
/-- an expression whose value is a bool, as a test -/
theorem pt_val {e : Expr} {t : TE} (h : PE X e t) (he : ∀ whole, isTrue e X.env whole = (do let v ← whole; standAt e.pos; holding [v] (truthy v)) := by intro _; rfl) : PT X e (tB t) := by
  intro pins s σ H Q I hw
  refine isTrue_plain (thn (h pins s σ H _ I hw) fun v s1 ⟨x, H1, I1, r1, q1⟩ => ?_) (he _)
  obtain ⟨d, rfl, q⟩ := q1
  cases r1
  exact wpAny_truthy_bool ⟨H1, I1, q⟩
variable {tA tB' : TT} {rest : List Expr}
def tAnd (t u : TT) : TT := fun σ H Q => t σ H fun c H1 => if c = true then u σ H1 Q else Q false H1
def tOr (t u : TT) : TT := fun σ H Q => t σ H fun c H1 => if c = true then Q true H1 else u σ H1 Q
def tNot (t : TT) : TT := fun σ H Q => t σ H fun c H1 => Q (!c) H1
theorem pw_and1 (ha : PT X a tA) : PW X (.BoolOp .And [a] pos) tA := by
  intro wh pins s σ H Q I h
  refine isTrue_and (thn (ha pins s σ H Q I h) fun c s1 e => ?_)
  cases c with
  | true => exact isTrue_and_nil e
  | false => exact e
theorem pw_or1 (ha : PT X a tA) : PW X (.BoolOp .Or [a] pos) tA := by
  intro wh pins s σ H Q I h
  refine isTrue_or (thn (ha pins s σ H Q I h) fun c s1 e => ?_)
  cases c with
  | false => exact isTrue_or_nil e
  | true => exact e
theorem pw_and (ha : PT X a tA) (hb : PW X (.BoolOp .And (b :: rest) pos) tB') : PW X (.BoolOp .And (a :: b :: rest) pos) (tAnd tA tB') := by
  intro wh pins s σ H Q I h
  refine isTrue_and (thn (ha pins s σ H _ I h) fun c s1 ⟨H1, I1, q1⟩ => ?_)
  cases c with
  | true => exact hb wh pins s1 σ H1 Q I1 q1
  | false => exact ⟨H1, I1, q1⟩
theorem pw_or (ha : PT X a tA) (hb : PW X (.BoolOp .Or (b :: rest) pos) tB') : PW X (.BoolOp .Or (a :: b :: rest) pos) (tOr tA tB') := by
  intro wh pins s σ H Q I h
  refine isTrue_or (thn (ha pins s σ H _ I h) fun c s1 ⟨H1, I1, q1⟩ => ?_)
  cases c with
  | true => exact ⟨H1, I1, q1⟩
  | false => exact hb wh pins s1 σ H1 Q I1 q1
theorem pt_not (ha : PT X a tA) : PT X (.UnaryOp .Not a pos) (tNot tA) := by
  intro pins s σ H Q I h
  exact isTrue_not (ha pins s σ H (fun c H1 => Q (!c) H1) I h)
/-- .. as values (bools) -/
def tAndV (ta tb : TE) : TE := fun σ H Q => ta σ H fun x H1 => ∃ c, x = .bl c ∧ if c = true then tb σ H1 Q else Q (.bl false) H1
theorem pe_one {op} {t : TE} (h : PE X a t) : PE X (.BoolOp op [a] pos) t := fun pins s σ H Q I hw => BoolOp_one (h pins s σ H Q I hw)
theorem pe_and (ha : PE X a ta) (hb : PE X (.BoolOp .And (b :: rest) pos) tb) : PE X (.BoolOp .And (a :: b :: rest) pos) (tAndV ta tb) := by
  intro pins s σ H Q I h
  refine BoolOp_and (thn (ha pins s σ H _ I h) fun v s1 ⟨x, H1, I1, r1, q1⟩ => ?_)
  obtain ⟨c, rfl, q1⟩ := q1
  cases r1
  refine wpAny_truthy_bool ?_
  cases c with
  | true => exact hb pins s1 σ H1 Q I1 q1
  | false => exact ⟨.bl false, H1, I1, rfl, q1⟩
end
end L2
namespace L2
open PySem PySem.Spec PyProof.Rows
def SqL (K : PySem.W.Frag) (H : Hp) (a : Addr) (xs : List V) : Prop :=
  Rd H a (.lst xs) ∨
    ∃ (o : Obj) (its : Array Value) (n : Nat), K.lookup a = some o ∧ o.cls = .type "list" ∧ o.dict = none ∧ o.data = .seq its n ∧ its.size ≤ sizeLine ∧ Vals xs its.toList
def SqT (K : PySem.W.Frag) (H : Hp) (a : Addr) (xs : List V) : Prop :=
  Rd H a (.tup xs) ∨
    ∃ (o : Obj) (its : Array Value) (n : Nat), K.lookup a = some o ∧ o.cls = .type "tuple" ∧ o.data = .seq its n ∧ its.size ≤ sizeLine ∧ Vals xs its.toList
def absV : Value → Option V
  | .none => some .non
  | .bool b => some (.bl b)
  | .int i _ => some (.int i)
  | .str x _ => some (.str x)
  | .bytes b _ => some (.byt b)
  | .float b _ => some (.flt b)
  | .ref a => some (.ref a)
  | .type n => some (.ty n)
  | _ => none
theorem RelV.abs {x : V} {u : Value} (r : RelV x u) : absV u = some x := by
  cases x with
  | non => cases r; rfl
  | bl _ => cases r; rfl
  | int _ => obtain ⟨t, rfl⟩ := r; rfl
  | str _ => obtain ⟨t, rfl⟩ := r; rfl
  | byt _ => obtain ⟨t, rfl⟩ := r; rfl
  | flt _ => obtain ⟨t, rfl⟩ := r; rfl
  | ref _ => cases r; rfl
  | ty _ => cases r; rfl
theorem RelV.inj {x y : V} {u : Value} (r : RelV x u) (q : RelV y u) : x = y := Option.some.inj (r.abs.symm.trans q.abs)
theorem Vals.inj : ∀ {xs ys : List V} {us : List Value}, Vals xs us → Vals ys us → xs = ys
  | _, _, _, .nil, .nil => rfl
  | _, _, _, .cons r t, .cons r' t' => by rw [r.inj r', Vals.inj t t']
section
variable {X : Cx} {pins : List (Addr × Obj)} {σ : St} {H : Hp} {s : Shared} {a : Addr} {xs ys : List V}
theorem SqL.of {K : PySem.W.Frag} (h : H a = some (.lst xs)) : SqL K H a xs := .inl (.inl h)
theorem SqT.of {K : PySem.W.Frag} (h : H a = some (.tup xs)) : SqT K H a xs := .inl (.inl h)
theorem Inv.list (I : Inv X pins σ H s) (h : SqL X.K H a xs) : ∃ its : List Value, Vals xs its ∧ PlainL s.heap a its.toArray ∧ xs.length ≤ sizeLine := by
  rcases h with h | ⟨o, its, n, hk, hc, hd, hs, hz, r⟩
  · obtain ⟨z, its, n, r, e⟩ := h.ok I.hok
    exact ⟨its, r, ⟨_, n, e, rfl, rfl, rfl⟩, z⟩
  · refine ⟨its.toList, r, ⟨o, n, I.kIn a o hk, hc, hd, by simpa using hs⟩, ?_⟩
    have e := r.length
    simp only [Array.length_toList] at e
    omega
theorem Inv.tuple (I : Inv X pins σ H s) (h : SqT X.K H a xs) : ∃ its : List Value, Vals xs its ∧ IsTup s.heap a its.toArray ∧ xs.length ≤ sizeLine := by
  rcases h with h | ⟨o, its, n, hk, hc, hs, hz, r⟩
  · obtain ⟨z, its, r, p⟩ := h.ok I.hok
    exact ⟨its, r, p, z⟩
  · refine ⟨its.toList, r, ⟨o, I.kIn a o hk, hc, n, by simpa using hs⟩, ?_⟩
    have e := r.length
    simp only [Array.length_toList] at e
    omega
theorem Inv.list_inj (I : Inv X pins σ H s) (h : SqL X.K H a xs) (h' : SqL X.K H a ys) : xs = ys := by
  obtain ⟨its, r, ⟨o, n, e, _, _, d⟩, _⟩ := I.list h
  obtain ⟨its', r', ⟨o', n', e', _, _, d'⟩, _⟩ := I.list h'
  rw [e] at e'; cases e'
  rw [d] at d'
  injection d' with d1 _
  have : its = its' := by simpa using congrArg Array.toList d1
  subst this
  exact r.inj r'
end
abbrev Cx.wish (X : Cx) (E : Value → Shared → Prop) : Cx := { X with xe := E }
/-- no exception leaves -/
abbrev Cx.nox (X : Cx) : Cx := X.wish fun _ _ => False
theorem Cx.Ok.wish {X : Cx} (ok : X.Ok) (E : Value → Shared → Prop) : (X.wish E).Ok :=
  ⟨ok.mod, ok.kind, ok.glob, ok.blt, ok.above, ok.inj, ok.has, ok.cab, ok.hd, ok.frames, ok.stk, ok.exf, ok.bs, ok.bsz, ok.noex, ok.exfs, ok.funs, ok.frf⟩
theorem Cx.Ok.unwish {X : Cx} {E : Value → Shared → Prop} (ok : (X.wish E).Ok) : X.Ok :=
  ⟨ok.mod, ok.kind, ok.glob, ok.blt, ok.above, ok.inj, ok.has, ok.cab, ok.hd, ok.frames, ok.stk, ok.exf, ok.bs, ok.bsz, ok.noex, ok.exfs, ok.funs, ok.frf⟩
section
variable {X : Cx} {pins : List (Addr × Obj)} {σ : St} {H : Hp} {s : Shared} {E : Value → Shared → Prop}
theorem Inv.wish (I : Inv X pins σ H s) (E : Value → Shared → Prop) : Inv (X.wish E) pins σ H s := ⟨I.ok.wish E, I.os, I.bare, I.base, I.loc, I.cell, I.free, I.freeC, I.pin, I.hok, I.len⟩
theorem Inv.unwish (I : Inv (X.wish E) pins σ H s) : Inv X pins σ H s := ⟨I.ok.unwish, I.os, I.bare, I.base, I.loc, I.cell, I.free, I.freeC, I.pin, I.hok, I.len⟩
theorem SP.unwish {D : Ends} {f : Flow} {s' : Shared} (h : SP (X.wish E) pins D f s') : SP X pins D f s' := by
  cases f with
  | next => obtain ⟨σ', H', I, q⟩ := h; exact ⟨σ', H', I.unwish, q⟩
  | brk => obtain ⟨σ', H', I, q⟩ := h; exact ⟨σ', H', I.unwish, q⟩
  | cont => obtain ⟨σ', H', I, q⟩ := h; exact ⟨σ', H', I.unwish, q⟩
  | ret u => obtain ⟨v, σ', H', I, r, q⟩ := h; exact ⟨v, σ', H', I.unwish, r, q⟩
theorem PSs.nox {st : List Stmt} {t : TS} (h : PSs X.nox st t) : PSs X st t := fun pins s σ H D I hw =>
  wpAny_mono (h pins s σ H D (I.wish _) hw) (fun _ _ q => q.unwish) fun _ _ z => False.elim z
end
section
variable {X : Cx} {st : Stmt} {rest : List Stmt} {t u : TS} {e : Expr} {te : TE} {pos : Pos}
def tNext : TS := fun D σ H => D.nx σ H
def tSeq (t u : TS) : TS := fun D σ H => t { D with nx := u D } σ H
theorem pss_nil : PSs X [] tNext := fun _ _ σ H _ I h => wpAny_execs_nil ⟨σ, H, I, h⟩
theorem pss_cons (h1 : PS X st t) (h2 : PSs X rest u) : PSs X (st :: rest) (tSeq t u) := by
  intro pins s σ H D I h
  refine wpAny_execs_cons (thn (h1 pins s σ H { D with nx := u D } I h) fun f s1 q => ?_)
  cases f with
  | next =>
    obtain ⟨σ', H', I', q⟩ := q
    exact h2 pins s1 σ' H' D I' q
  | ret v => exact q
  | brk => exact q
  | cont => exact q
theorem pss_one (h1 : PS X st t) : PSs X [st] t := by
  intro pins s σ H D I h
  refine wpAny_execs_cons (thn (h1 pins s σ H D I h) fun f s1 q => ?_)
  cases f with
  | next => exact wpAny_execs_nil q
  | ret v => exact q
  | brk => exact q
  | cont => exact q
/-- in a def's body nothing is shown -/
theorem Inv.quiet {pins : List (Addr × Obj)} {σ : St} {H : Hp} {s : Shared} (I : Inv X pins σ H s) : interactive X.env = false := by simp [interactive, I.ok.kind]
/-- an expression whose value is dropped -/
def tDrop (te : TE) : TS := fun D σ H => te σ H fun _ H1 => D.nx σ H1
theorem ps_expr (he : PE X e te) (hs : swapsWith e none pos.line X.env = pure false := by rfl) : PS X (.Expr e pos) (tDrop te) := by
  intro pins s σ H D I h
  exact wpAny_Expr_any (thn (he pins s σ H _ I h) fun v s1 ⟨x, H1, I1, r1, q1⟩ => ⟨σ, H1, I1, q1⟩) I.quiet hs
def tRet (te : TE) : TS := fun D σ H => te σ H D.rt
theorem ps_ret (he : PE X e te) : PS X (.Return (some e) pos) (tRet te) := by
  intro pins s σ H D I h
  exact wpAny_Return_some (thn (he pins s σ H _ I h) fun v s1 ⟨x, H1, I1, r1, q1⟩ => ⟨x, σ, H1, I1, r1, q1⟩)
def tIfS (c : TT) (t u : TS) : TS := fun D σ H => c σ H fun b H1 => if b = true then t D σ H1 else u D σ H1
theorem ps_if {c : Expr} {a b : List Stmt} {tc : TT} (hc : PT X c tc) (ha : PSs X a t) (hb : PSs X b u) : PS X (.If c a b pos) (tIfS tc t u) := by
  intro pins s σ H D I h
  refine wpAny_If (thn (hc pins s σ H _ I h) fun d s1 ⟨H1, I1, q1⟩ => ?_)
  cases d with
  | true => exact ha pins s1 σ H1 D I1 q1
  | false => exact hb pins s1 σ H1 D I1 q1
end
abbrev TG := V → St → Hp → (St → Hp → Prop) → Prop
abbrev TGs := List V → St → Hp → (St → Hp → Prop) → Prop
def PG (X : Cx) (target : Expr) (t : TG) : Prop :=
  ∀ (pins : List (Addr × Obj)) (s : Shared) (σ : St) (H : Hp) (v : V) (u : Value) (Q : St → Hp → Prop), Inv X pins σ H s → RelV v u → t v σ H Q →
    wpAny (model X.prog X.w) X.A (assign target X.env u) (fun _ s' => ∃ σ' H', Inv X pins σ' H' s' ∧ Q σ' H') X.xe s
/-- several targets, one after another -/
def PGs (X : Cx) (ts : List Expr) (t : TGs) : Prop :=
  ∀ (pins : List (Addr × Obj)) (s : Shared) (σ : St) (H : Hp) (vs : List V) (us : List Value) (Q : St → Hp → Prop), Inv X pins σ H s → Vals vs us → t vs σ H Q →
    wpAny (model X.prog X.w) X.A (assignInOrder ((assignEach ts X.env).map (·.2)) us) (fun _ s' => ∃ σ' H', Inv X pins σ' H' s' ∧ Q σ' H') X.xe s
/-- o[i] = v, by values -/
abbrev TSet := V → V → V → Hp → (Hp → Prop) → Prop
def PSet (X : Cx) (t : TSet) : Prop :=
  ∀ (pins : List (Addr × Obj)) (s : Shared) (σ : St) (H : Hp) (o i v : V) (ov iv u : Value) (Q : Hp → Prop), Inv X pins σ H s → RelV o ov → RelV i iv → RelV v u → t o i v H Q →
    wpAny (model X.prog X.w) X.A (setItem ov iv u) (fun _ s' => ∃ H', Inv X pins σ H' s' ∧ Q H') X.xe s
section
variable {X : Cx} {pos : Pos}
def gName (i : Nat) : TG := fun v σ H Q => Q (σ.set i (some v)) H
theorem pg_name {i : Nat} {x : Str} (hN : X.N.Nodup) (hi : X.N[i]? = some x) (hx : Loc X.env.scope x) (hf : X.fn x = true ∨ X.env.scope.names.lookup x = some .local := by first | exact .inl rfl | exact .inr rfl | assumption) : PG X (.Name x pos) (gName i) := by
  intro pins s σ H v u Q I r h
  exact wpAny_assign_Name (store_ok I hN hi hx r (fun s' I' => ⟨_, H, I', h⟩) hf)
def gNil : TGs := fun vs σ H Q => vs = [] ∧ Q σ H
def gCons (t : TG) (u : TGs) : TGs := fun vs σ H Q => ∃ v r, vs = v :: r ∧ t v σ H fun σ' H' => u r σ' H' Q
theorem pgs_nil : PGs X [] gNil := by
  intro pins s σ H vs us Q I r h
  obtain ⟨e, h⟩ := h
  subst e
  cases r
  exact assignInOrder_nil ⟨σ, H, I, h⟩
theorem pgs_cons {e : Expr} {es : List Expr} {t : TG} {u : TGs} (h1 : PG X e t) (h2 : PGs X es u)
    (hs : (assignEach (e :: es) X.env).map (·.2) = assign e X.env :: (assignEach es X.env).map (·.2) := by rfl) : PGs X (e :: es) (gCons t u) := by
  intro pins s σ H vs us Q I r h
  obtain ⟨v, vr, e1, h⟩ := h
  subst e1
  cases r with
  | cons r rr =>
    rw [hs]
    refine assignInOrder_cons (thn (h1 pins s σ H _ _ _ I r h) fun _ s1 ⟨σ1, H1, I1, q1⟩ => ?_)
    exact h2 pins s1 σ1 H1 _ _ Q I1 rr q1
/-- (a, b, ..) = a tuple of that length -/
def gTup (K : PySem.W.Frag) (n : Nat) (t : TGs) : TG := fun v σ H Q => ∃ a xs, v = .ref a ∧ SqT K H a xs ∧ xs.length = n ∧ t xs σ H Q
theorem pg_tup {es : List Expr} {k : Nat} {t : TGs} {n : Nat} (hc : X.calm = true) (h : PGs X es t)
    (hn : (assignEach es X.env).length = n := by rfl) (hst : (assignEach es X.env).findIdx? (·.1) = none := by rfl) : PG X (.Tuple es k pos) (gTup X.K n t) := by
  intro pins s σ H v u Q I r hw
  obtain ⟨a, xs, e1, hq, hl, hw⟩ := hw
  subst e1
  cases r
  obtain ⟨its, rv, ht, hz⟩ := I.tuple hq
  refine assign_Tuple_tuple (I.ok.hd hc) ht (by simp [hn, ← hl, rv.length]) hst fun h' hx => ?_
  have I1 : Inv X pins σ H { s with heap := h' } := I.kept (t' := s.toks) fun b o e => hx b o (Nat.ne_of_lt (Heap.lt_size e)) e
  exact h pins _ σ H xs _ Q I1 (by simpa using rv) hw
/-- o[i] = .. -/
def gSub (to ti : TE) (t : TSet) : TG := fun v σ H Q => to σ H fun o H1 => ti σ H1 fun i H2 => t o i v H2 fun H3 => Q σ H3
theorem pg_sub {o i : Expr} {to ti : TE} {t : TSet} (ho : PE X o to) (hi : PE X i ti) (hs : PSet X t)
    (ha : ∀ v, assign (.Subscript o i pos) X.env v = (do
      let ov ← holding [v] (eval o X.env)
      let iv ← holding [v, ov] (eval i X.env)
      standAt pos
      holding [v, ov, iv] (setItem ov iv v)
      release [v, ov, iv] []) := by intro _; rfl) : PG X (.Subscript o i pos) (gSub to ti t) := by
  intro pins s σ H v u Q I r h
  rw [ha]
  refine wpAny_bind (wpAny_holding (thn (ho pins s σ H _ I h) fun ov s1 ⟨x, H1, I1, r1, q1⟩ => ?_))
  refine wpAny_bind (wpAny_holding (thn (hi pins s1 σ H1 _ I1 q1) fun iv s2 ⟨y, H2, I2, r2, q2⟩ => ?_))
  refine wpAny_bind (wpAny_standAt (wpAny_bind (wpAny_holding (thn (hs pins s2 σ H2 x y v ov iv u _ I2 r1 r2 r q2) fun _ s3 ⟨H3, I3, q3⟩ => ?_))))
  exact wpAny_release ⟨σ, H3, I3, q3⟩
/-- target = value -/
def tAsg (te : TE) (g : TG) : TS := fun D σ H => te σ H fun x H1 => g x σ H1 D.nx
theorem ps_asg {tg e : Expr} {te : TE} {g : TG} (he : PE X e te) (hg : PG X tg g) (hs : swapsWithSole [tg] e pos.line X.env = pure false := by rfl) (hw : swappedStores [tg] e X.env = pure none := by rfl)
    (h1 : (assignEach [tg] X.env).map (·.2) = [assign tg X.env] := by rfl) : PS X (.Assign [tg] e pos) (tAsg te g) := by
  intro pins s σ H D I h
  refine wpAny_Assign_stores (thn (he pins s σ H _ I h) fun v s1 ⟨x, H1, I1, r1, q1⟩ => ?_) hs hw
  rw [h1]
  exact thn (hg pins s1 σ H1 x v _ I1 r1 q1) fun _ s2 q => q
/-- name = value -/
theorem ps_set {i : Nat} {x : Str} {e : Expr} {te : TE} {pos' : Pos} (hN : X.N.Nodup) (hi : X.N[i]? = some x) (hx : Loc X.env.scope x) (he : PE X e te) (hs : swapsWith e (some (.Name x pos')) pos.line X.env = pure false := by rfl) (hf : X.fn x = true ∨ X.env.scope.names.lookup x = some .local := by first | exact .inl rfl | exact .inr rfl | assumption) :
    PS X (.Assign [.Name x pos'] e pos) (tAsg te (gName i)) := by
  intro pins s σ H D I h
  refine wpAny_Assign_Name (thn (he pins s σ H _ I h) fun v s1 ⟨y, H1, I1, r1, q1⟩ => ?_) hs
  exact store_ok I1 hN hi hx r1 (fun s2 I2 => ⟨_, H1, I2, q1⟩) hf
end
section
variable {X : Cx} {pos : Pos}
/-- the invariant W with its measure -/
def tWhile (c : TT) (tb : TS) : TS := fun D σ H => ∃ W : Nat → St → Hp → Prop, (∃ m, W m σ H) ∧ ∀ m σ H, W m σ H →
  c σ H fun b H1 => if b = true then ∃ N : St → Hp → Prop, (∀ σ' H', N σ' H' → ∃ m', m' < m ∧ W m' σ' H') ∧ tb { D with nx := N, ct := N, bk := D.nx } σ H1 else D.nx σ H1
theorem ps_while {c : Expr} {body : List Stmt} {tc : TT} {tb : TS} (hp : PassesOwn (model X.prog X.w) X.A X.env X.xe) (hc : PT X c tc) (hb : PSs X body tb) : PS X (.While c body [] pos) (tWhile tc tb) := by
  intro pins s σ H D I h
  obtain ⟨W, ⟨m0, w0⟩, turn⟩ := h
  refine wpAny_While (codeAny_whileLoop (fun n s' => ∃ σ' H', Inv X pins σ' H' s' ∧ W n σ' H') ?_ m0 ⟨σ, H, I, w0⟩)
  rintro n s1 ⟨σ1, H1, I1, w1⟩
  refine wpAny_passesOwn hp (thn (hc pins s1 σ1 H1 _ I1 (turn n σ1 H1 w1)) fun b s2 ⟨H2, I2, q2⟩ => ?_)
  cases b with
  | true =>
    obtain ⟨N, hN, q2⟩ := q2
    rw [if_pos rfl]
    refine wpAny_passesOwn hp (thn (hb pins s2 σ1 H2 _ I2 q2) fun f s3 q3 => ?_)
    cases f with
    | next =>
      obtain ⟨σ3, H3, I3, n3⟩ := q3
      obtain ⟨m', hm, w3⟩ := hN σ3 H3 n3
      exact ⟨m', hm, σ3, H3, I3, w3⟩
    | cont =>
      obtain ⟨σ3, H3, I3, n3⟩ := q3
      obtain ⟨m', hm, w3⟩ := hN σ3 H3 n3
      exact ⟨m', hm, σ3, H3, I3, w3⟩
    | brk => exact q3
    | ret v => exact q3
  | false =>
    rw [if_neg Bool.false_ne_true]
    exact wpAny_execs_nil ⟨σ1, H2, I2, q2⟩
end
/-- at turn i: it yields x (the heap may grow), or it stops -/
structure It where
  go : Nat → Hp → Prop
  yld : Nat → Hp → V → Hp → Prop
  stop : Nat → Hp → Prop
/-- the iterator's own objects may turn: they are not the frame's, not pinned, younger than the entry (or a comprehension's own) -/
def FpOk (X : Cx) (pins : List (Addr × Obj)) (H : Hp) (b : Addr) : Prop :=
  H b = none ∧ b ≠ X.env.locals ∧ b ∉ X.fs ∧ (b ∈ X.ex ∨ X.s_0.heap.objs.size ≤ b) ∧ (∀ x c, X.env.cells.lookup x = some c → c ≠ b) ∧ ∀ p ∈ X.pn ++ pins, p.1 ≠ b
theorem Inv.fpOk {X : Cx} {pins : List (Addr × Obj)} {σ : St} {H H' : Hp} {s : Shared} {b : Addr} (I : Inv X pins σ H s) (hb : s.heap.objs.size ≤ b) (hn : H' b = none) : FpOk X pins H' b := by
  refine ⟨hn, Nat.ne_of_gt (Nat.lt_of_lt_of_le I.lt hb), I.nofs hb, .inr (Nat.le_trans I.sz hb), fun x c e z => ?_, fun p hp z => ?_⟩
  · obtain ⟨v, q⟩ := I.cell x c e
    exact absurd (Nat.lt_of_lt_of_le q.lt (by rw [z]; exact hb)) (Nat.lt_irrefl _)
  · exact absurd (Nat.lt_of_lt_of_le (Heap.lt_size (I.pin p hp).1) (by rw [z]; exact hb)) (Nat.lt_irrefl _)
structure Turn (P : Program) (w : World) (K : PySem.W.Frag) (tg : Expr) (J : It) (fp : List Addr) (it : Addr) (tn : Nat → Heap → Prop) : Prop where
  mem : it ∈ fp
  obj : ∀ i h, tn i h → ∀ b ∈ fp, ∃ o, h.get? b = some o ∧ ∀ v, o.data ≠ .cell v
  keep : ∀ i h h', tn i h → (∀ b ∈ fp, ∀ o, h.get? b = some o → h'.get? b = some o) → tn i h'
  item : ∀ (X : Cx), X.prog = P → X.w = w → X.K = K → X.calm = true → ∀ (i : Nat) (pins : List (Addr × Obj)) (s : Shared) (σ : St) (H : Hp) (E : Value → Shared → Prop), Inv X pins σ H s → (∀ b ∈ fp, FpOk X pins H b) → tn i s.heap → J.go i H →
    wpAny (model P w) X.A (pyNext (.ref it)) (fun r s1 => ∃ u, r = some u ∧
      wpAny (model P w) X.A (letOwnedTupleGo tg (.ref it) u) (fun _ s2 => ∃ x H', Inv X pins σ H' s2 ∧ RelV x u ∧ J.yld i H x H' ∧ tn (i + 1) s2.heap ∧ ∀ b ∈ fp, H' b = none) E s1) E s
  done : ∀ (X : Cx), X.prog = P → X.w = w → X.K = K → X.calm = true → ∀ (i : Nat) (pins : List (Addr × Obj)) (s : Shared) (σ : St) (H : Hp) (E : Value → Shared → Prop), Inv X pins σ H s → (∀ b ∈ fp, FpOk X pins H b) → tn i s.heap → J.stop i H →
    wpAny (model P w) X.A (pyNext (.ref it)) (fun r s1 => r = none ∧ Inv X pins σ H s1) E s
  self : ∀ (A : Around) (i : Nat) (s : Shared) (Q : Value → Shared → Prop) (E : Value → Shared → Prop), tn i s.heap → Q (.ref it) s → wpAny (model P w) A (pyIter (.ref it)) Q E s
abbrev TI := St → Hp → (It → Hp → Prop) → Prop
/-- an iterator has come -/
def PIE (X : Cx) (pins : List (Addr × Obj)) (σ : St) (tg : Expr) (R : It → Hp → Prop) (itv : Value) (s2 : Shared) : Prop :=
  ∃ (it : Addr) (fp : List Addr) (tn : Nat → Heap → Prop) (J : It) (H' : Hp), itv = .ref it ∧ Inv X pins σ H' s2 ∧ Turn X.prog X.w X.K tg J fp it tn ∧ tn 0 s2.heap ∧ (∀ b ∈ fp, FpOk X pins H' b) ∧ R J H'
def PI (X : Cx) (tg iter : Expr) (wi : TI) : Prop :=
  ∀ (pins : List (Addr × Obj)) (s : Shared) (σ : St) (H : Hp) (R : It → Hp → Prop), Inv X pins σ H s → wi σ H R →
    wpAny (model X.prog X.w) X.A (eval iter X.env) (fun v s1 => wpAny (model X.prog X.w) X.A (pyIter v) (PIE X pins σ tg R) X.xe s1) X.xe s
/-- the step ahead of the store is nothing for an iterator that keeps no tuple -/
theorem go_of {M : Model} {A : Around} {E : Value → Shared → Prop} {s : Shared} {tg : Expr} {it : Addr} {u : Value} {o : Obj} {n : String} {vs : Array Value} {Q : Unit → Shared → Prop} (ho : s.heap.get? it = some o) (hc : o.cls = .type n) (hd : o.data = .fields vs)
    (hn : ["enumerate", "zip", "dict_itemiterator", "dict_reverseitemiterator", "odict_iterator", "itertools.zip_longest", "itertools.pairwise"].contains n = false) (hQ : Q () s) : wpAny M A (letOwnedTupleGo tg (.ref it) u) Q E s := by
  unfold letOwnedTupleGo
  cases tg <;> first
    | exact wpAny_pure hQ
    | (cases u <;> first
        | exact wpAny_pure hQ
        | (refine wpAny_bind (wpAny_load ho ?_)
           rw [hc, hd]
           show wpAny M A (if (["enumerate", "zip", "dict_itemiterator", "dict_reverseitemiterator", "odict_iterator", "itertools.zip_longest", "itertools.pairwise"].contains n && vs[0]? == some (rawInt _)) = true then _ else _) Q E s
           rw [if_neg (by intro h; rw [hn, Bool.false_and] at h; cases h)]
           exact wpAny_pure hQ))
/-- the list at a, as it stands at each turn (a loop may append to it) -/
def Itl (K : PySem.W.Frag) (a : Addr) : It :=
  ⟨fun i H => ∃ xs x, SqL K H a xs ∧ xs[i]? = some x, fun i H x H' => H' = H ∧ ∀ xs, SqL K H a xs → xs[i]? = some x, fun i H => ∃ xs, SqL K H a xs ∧ xs.length ≤ i⟩
/-- lo, lo + 1, .. (n of them) -/
def Itr (lo : Int) (n : Nat) : It := ⟨fun i _ => i < n, fun i H x H' => H' = H ∧ x = .int (lo + i), fun i _ => n ≤ i⟩
theorem turn_list {P : Program} {w : World} {K : PySem.W.Frag} {tg : Expr} (a it : Addr) : Turn P w K tg (Itl K a) [it] it (fun i h => h.IsListIter it a i) where
  mem := by simp
  obj := fun i h st b hb => by
    have e : b = it := by simpa using hb
    subst e
    obtain ⟨o, e, c, d⟩ := st
    exact ⟨o, e, fun v z => by rw [d] at z; cases z⟩
  keep := fun i h h' st k => st.at fun o e => k it (by simp) o e
  item := by
    intro X hP hw hK hc i pins s σ H E I hf st hg
    subst hP hw hK
    obtain ⟨xs, x, hq, hx⟩ := hg
    obtain ⟨its, rv, p, hz⟩ := I.list hq
    obtain ⟨u, hu, ru⟩ := rv.get hx
    obtain ⟨f0, f1, f2, f3, f4, f5⟩ := hf it (by simp)
    refine wpAny_pyNext_list_item st p.isList (x := u) (by simpa using hu) fun h' st' sb => ?_
    have I1 : Inv X pins σ H { s with heap := h' } := I.turned (t' := s.toks) (fun b o hb e => (sb.2 b hb).trans e) f0 f1 f3 f4 f5
    obtain ⟨o, e, c, d⟩ := id st'
    exact ⟨u, rfl, go_of (s := { s with heap := h' }) e c d (by decide) ⟨x, H, I1, ru, ⟨rfl, fun ys hy => by rw [I.list_inj hy hq]; exact hx⟩, st', fun b hb => (hf b hb).1⟩⟩
  done := by
    intro X hP hw hK hc i pins s σ H E I hf st hg
    subst hP hw hK
    obtain ⟨xs, hq, hx⟩ := hg
    obtain ⟨its, rv, p, hz⟩ := I.list hq
    obtain ⟨f0, f1, f2, f3, f4, f5⟩ := hf it (by simp)
    have hl := rv.length
    exact wpAny_pyNext_list_end (I.ok.hd hc) st p.isList (by simp; omega) fun h' eb => ⟨rfl, I.turned (t' := s.toks) (fun b o hb e => eb b o hb e) f0 f1 f3 f4 f5⟩
  self := fun _ _ _ _ _ st h => wpAny_pyIter_listiter st h
theorem turn_range {P : Program} {w : World} {K : PySem.W.Frag} {tg : Expr} (it : Addr) (lo : Int) (n : Nat) : Turn P w K tg (Itr lo n) [it] it (fun i h => IsRangeIter h it (lo + (i : Nat) * 1) ((n : Int) - (i : Nat)) 1) where
  mem := by simp
  obj := fun i h st b hb => by
    have e : b = it := by simpa using hb
    subst e
    exact ⟨_, st, fun v z => by
      have z' : Data.fields _ = Data.cell v := z
      cases z'⟩
  keep := fun i h h' st k => k it (by simp) _ st
  item := by
    intro X hP hw hK hc i pins s σ H E I hf st hg
    subst hP hw hK
    obtain ⟨f0, f1, f2, f3, f4, f5⟩ := hf it (by simp)
    have W := Walks.range (prog := X.prog) (w := X.w) (I.ok.hd hc) it lo 1 n
    refine W.item i s _ _ hg st fun v h' tk hv st' kk => ?_
    obtain ⟨t, rfl⟩ := hv
    have I1 : Inv X pins σ H { s with heap := h', toks := tk } := I.turned (fun b o hb e => kk b o (by simpa using hb) e) f0 f1 f3 f4 f5
    refine ⟨_, rfl, go_of (s := { s with heap := h', toks := tk }) (n := "range_iterator") st' rfl rfl (by decide) ⟨.int (lo + i), H, I1, ⟨t, ?_⟩, ⟨rfl, rfl⟩, st', fun b hb => (hf b hb).1⟩⟩
    rw [Int.mul_one]
  done := by
    intro X hP hw hK hc i pins s σ H E I hf st hg
    subst hP hw hK
    obtain ⟨f0, f1, f2, f3, f4, f5⟩ := hf it (by simp)
    exact wpAny_pyNext_range_end (I.ok.hd hc) st (by have : n ≤ i := hg; omega) fun h' eb => ⟨rfl, I.turned (t' := s.toks) (fun b o hb e => eb b o hb e) f0 f1 f3 f4 f5⟩
  self := fun _ _ _ _ _ st h => wpAny_pyIter_rangeiter st h
end L2
namespace L2
open PySem PySem.Spec PyProof.Rows
section
variable {X : Cx} {tg : Expr}
def iList (K : PySem.W.Frag) (tl : TE) : TI := fun σ H R => tl σ H fun x H1 => ∃ a, x = .ref a ∧ (∃ xs, SqL K H1 a xs) ∧ R (Itl K a) H1
theorem pi_list {l : Expr} {tl : TE} (hl : PE X l tl) : PI X tg l (iList X.K tl) := by
  intro pins s σ H R I h
  refine thn (hl pins s σ H _ I h) fun v s1 ⟨x, H1, I1, r1, q1⟩ => ?_
  obtain ⟨a, e, ⟨xs, hq⟩, q⟩ := q1
  subst e
  cases r1
  obtain ⟨its, rv, p, hz⟩ := I1.list hq
  refine wpAny_pyIter_list p.isList ?_
  refine ⟨s1.heap.objs.size, [s1.heap.objs.size], _, _, H1, rfl, I1.kept (t' := s1.toks) fun b o e => Heap.get?_push_of_some _ e, turn_list a _, ⟨_, Heap.get?_push_size _ rfl, rfl, rfl⟩, fun b hb => ?_, q⟩
  have e : b = s1.heap.objs.size := by simpa using hb
  subst e
  exact I1.fpOk (Nat.le_refl _) (I1.hok.fresh (Nat.le_refl _))
/-- a range object just made, walked -/
theorem range_it {pins : List (Addr × Obj)} {σ : St} {H : Hp} {s : Shared} {R : It → Hp → Prop} {E : Value → Shared → Prop} {lo hi : Int} {t u v : Tok} {tk : Nat} (I : Inv X pins σ H s) (h1 : -(2 ^ 62) ≤ lo) (h2 : lo < 2 ^ 62) (h3 : -(2 ^ 62) ≤ hi) (h4 : hi < 2 ^ 62)
    (q : R (Itr lo (hi - lo).toNat) H) : wpAny (model X.prog X.w) X.A (pyIter (.ref s.heap.objs.size)) (PIE X pins σ tg R) E { s with heap := s.heap.push { cls := .type "range", data := .fields #[.int lo t, .int hi u, .int 1 v] }, toks := tk } := by
  refine wpAny_pyIter_range (IsRange.new ..) (small_one h1 h2 h3 h4) ?_
  have I1 : Inv X pins σ H { s with heap := s.heap.push { cls := .type "range", data := .fields #[.int lo t, .int hi u, .int 1 v] }, toks := tk } := I.kept fun b o e => Heap.get?_push_of_some _ e
  refine ⟨(s.heap.push { cls := .type "range", data := .fields #[.int lo t, .int hi u, .int 1 v] }).objs.size, [(s.heap.push { cls := .type "range", data := .fields #[.int lo t, .int hi u, .int 1 v] }).objs.size], _, _, H, rfl,
    I1.kept (t' := tk) fun b o e => Heap.get?_push_of_some _ e, turn_range _ lo (hi - lo).toNat, ?_, fun b hb => ?_, q⟩
  · have e1 : lo + ((0 : Nat) : Int) * 1 = lo := by simp
    have e2 : (((hi - lo).toNat : Nat) : Int) - ((0 : Nat) : Int) = Builtin.Range.rangeSize lo hi 1 := by rw [rangeSize_one]; split <;> omega
    show IsRangeIter _ _ (lo + ((0 : Nat) : Int) * 1) ((((hi - lo).toNat : Nat) : Int) - ((0 : Nat) : Int)) 1
    rw [e1, e2]
    exact Heap.get?_push_size _ rfl
  · have e : b = (s.heap.push { cls := .type "range", data := .fields #[.int lo t, .int hi u, .int 1 v] }).objs.size := by simpa using hb
    subst e
    exact I1.fpOk (Nat.le_refl _) (I1.hok.fresh (Nat.le_refl _))
def iRng1 (ta : TA) : TI := fun σ H R => ta σ H fun vs H1 => ∃ j : Int, vs = [.int j] ∧ -(2 ^ 62) ≤ j ∧ j < 2 ^ 62 ∧ R (Itr 0 j.toNat) H1
theorem pi_range1 {a : Expr} {ta : TA} {p pos : Pos} (hg : Gl X "range") (hm : X.mg "range" = none) (ha : PA X [a] ta) (hs : starEach [a] X.env = [(false, eval a X.env)] := by rfl) : PI X tg (.Call (.Name "range" p) [a] [] pos) (iRng1 ta) := by
  intro pins s σ H R I h
  refine Call_ (ld_blt I hg hm boot_range (PyProof.Rows.callWith_type1 (thn (ha pos pins s σ H _ I h) fun us s1 ⟨vs, H1, I1, r1, q1⟩ => ?_) hs rfl))
  obtain ⟨j, e, q1, q2, q⟩ := q1
  subst e
  cases r1 with
  | cons r rr =>
    cases rr
    obtain ⟨t, rfl⟩ := r
    exact call_range_1 (range_it I1 (by omega) (by omega) q1 q2 (by simpa using q))
/-- W: the invariant by the turn and a measure; N: what the body is to reach -/
def tFor (wi : TI) (g : TG) (tb : TS) : TS := fun D σ H => wi σ H fun J H1 => ∃ W : Nat → Nat → St → Hp → Prop, (∃ m, W 0 m σ H1) ∧ ∀ i m σ H, W i m σ H →
  (J.stop i H ∧ D.nx σ H) ∨ (J.go i H ∧ ∃ N : St → Hp → Prop, (∀ σ' H', N σ' H' → ∃ m', m' < m ∧ W (i + 1) m' σ' H') ∧ ∀ x H', J.yld i H x H' → g x σ H' fun σ2 H2 => tb { D with nx := N, ct := N, bk := D.nx } σ2 H2)
/-- the records at fp as they stand -/
def pinsAt (fp : List Addr) (h : Heap) : List (Addr × Obj) := fp.filterMap fun b => (h.get? b).map fun o => (b, o)
theorem mem_pinsAt {fp : List Addr} {h : Heap} {b : Addr} {o : Obj} (hb : b ∈ fp) (e : h.get? b = some o) : (b, o) ∈ pinsAt fp h := List.mem_filterMap.mpr ⟨b, hb, by rw [e]; rfl⟩
theorem of_pinsAt {fp : List Addr} {h : Heap} {p : Addr × Obj} (hp : p ∈ pinsAt fp h) : p.1 ∈ fp ∧ h.get? p.1 = some p.2 := by
  obtain ⟨b, hb, e⟩ := List.mem_filterMap.mp hp
  cases q : h.get? b with
  | none => rw [q] at e; cases e
  | some o =>
    rw [q] at e
    have e' : (b, o) = p := Option.some.inj e
    subst e'
    exact ⟨hb, q⟩
theorem Inv.pinned {pins : List (Addr × Obj)} {σ : St} {H : Hp} {s : Shared} {fp : List Addr} (I : Inv X pins σ H s) (hf : ∀ b ∈ fp, FpOk X pins H b) (ho : ∀ b ∈ fp, ∃ o, s.heap.get? b = some o ∧ ∀ v, o.data ≠ .cell v) : Inv X (pins ++ pinsAt fp s.heap) σ H s :=
  I.pins_of fun p hp => (List.mem_append.mp hp).elim (fun z => I.pin p (List.mem_append_right _ z)) fun z => by
    obtain ⟨hb, e⟩ := of_pinsAt z
    obtain ⟨f0, f1, f2, _⟩ := hf p.1 hb
    obtain ⟨o, e', d⟩ := ho p.1 hb
    rw [e] at e'; cases e'
    exact ⟨e, f0, f1, f2, d⟩
theorem Inv.unpinned {pins pl : List (Addr × Obj)} {σ : St} {H : Hp} {s : Shared} (I : Inv X (pins ++ pl) σ H s) : Inv X pins σ H s := I.pins_of fun p hp => I.pin p (List.mem_append_right _ (List.mem_append_left _ hp))
theorem ps_for {iter : Expr} {body : List Stmt} {wi : TI} {g : TG} {tb : TS} {pos : Pos} (hp : PassesOwn (model X.prog X.w) X.A X.env X.xe) (hc : X.calm = true) (hi : PI X tg iter wi) (hg : PG X tg g) (hb : PSs X body tb)
    (hs : ∀ x, foldedSetIterable iter X.env x = pure x := by intro _; rfl) : PS X (.For tg iter body [] pos) (tFor wi g tb) := by
  intro pins s σ H D I h
  refine wpAny_For (thn (hi pins s σ H _ I h) fun v s1 h1 => thn h1 fun itv s2 h2 => ?_) hs
  obtain ⟨it, fp, tn, J, H2, e, I2, T, st2, f2, W, ⟨m0, w0⟩, turn⟩ := h2
  subst e
  -- what stays true of the iterator's objects through the loop
  have stat : ∀ {H' : Hp}, (∀ b ∈ fp, H' b = none) → ∀ b ∈ fp, FpOk X pins H' b := fun hn b hb => ⟨hn b hb, (f2 b hb).2⟩
  refine codeAny_forLoop_any (fun n s' => ∃ i σ' H', Inv X pins σ' H' s' ∧ tn i s'.heap ∧ (∀ b ∈ fp, H' b = none) ∧ W i n σ' H') ?_ m0 ⟨0, σ, H2, I2, st2, fun b hb => (f2 b hb).1, w0⟩
  rintro n s3 ⟨i, σ3, H3, I3, st3, fr3, w3⟩
  rcases turn i n σ3 H3 w3 with ⟨stop, qn⟩ | ⟨go, N, hN, step⟩
  · refine wpAny_passesOwn hp (thn (T.done X rfl rfl rfl hc i pins s3 σ3 H3 X.xe I3 (stat fr3) st3 stop) fun r s4 ⟨hr, I4⟩ => ?_)
    subst hr
    exact wpAny_execs_nil ⟨σ3, H3, I4, qn⟩
  · refine wpAny_passesOwn hp (thn (T.item X rfl rfl rfl hc i pins s3 σ3 H3 X.xe I3 (stat fr3) st3 go) fun r s4 ⟨u, hr, h4⟩ => ?_)
    subst hr
    refine wpAny_passesOwn hp (thn h4 fun _ s5 ⟨x, H5, I5, r5, y5, st5, fr5⟩ => ?_)
    have I5' := I5.pinned (stat fr5) (T.obj _ _ st5)
    refine wpAny_passesOwn hp (thn (hg _ s5 σ3 H5 x u _ I5' r5 (step x H5 y5)) fun _ s6 ⟨σ6, H6, I6, q6⟩ => ?_)
    refine wpAny_passesOwn hp (thn (hb _ s6 σ6 H6 _ I6 q6) fun f s7 q7 => ?_)
    have again : ∀ {σ7 : St} {H7 : Hp}, Inv X (pins ++ pinsAt fp s5.heap) σ7 H7 s7 → N σ7 H7 → ∃ m, m < n ∧ ∃ i σ' H', Inv X pins σ' H' s7 ∧ tn i s7.heap ∧ (∀ b ∈ fp, H' b = none) ∧ W i m σ' H' := fun {σ7 H7} I7 n7 => by
      obtain ⟨m', hm, w7⟩ := hN σ7 H7 n7
      refine ⟨m', hm, i + 1, σ7, H7, I7.unpinned, T.keep _ _ _ st5 fun b hb o e => (I7.pin (b, o) (List.mem_append_right _ (List.mem_append_right _ (mem_pinsAt hb e)))).1, fun b hb => ?_, w7⟩
      obtain ⟨o, e, d⟩ := T.obj _ _ st5 b hb
      exact (I7.pin (b, o) (List.mem_append_right _ (List.mem_append_right _ (mem_pinsAt hb e)))).2.1
    cases f with
    | next => obtain ⟨σ7, H7, I7, n7⟩ := q7; exact again I7 n7
    | cont => obtain ⟨σ7, H7, I7, n7⟩ := q7; exact again I7 n7
    | brk => obtain ⟨σ7, H7, I7, q7⟩ := q7; exact ⟨σ7, H7, I7.unpinned, q7⟩
    | ret v => obtain ⟨x7, σ7, H7, I7, r7, q7⟩ := q7; exact ⟨x7, σ7, H7, I7.unpinned, r7, q7⟩
end
/-- over a list that the body leaves as it is -/
theorem for_list {K : PySem.W.Frag} {a : Addr} {xs : List V} {g : TG} {tb : TS} {D : Ends} {σ : St} {H : Hp} (Pv : Nat → St → Hp → Prop) (h0 : Pv 0 σ H) (hl : ∀ i σ H, i ≤ xs.length → Pv i σ H → SqL K H a xs)
    (hs : ∀ i x σ H, xs[i]? = some x → Pv i σ H → g x σ H fun σ2 H2 => tb { D with nx := Pv (i + 1), ct := Pv (i + 1), bk := D.nx } σ2 H2) (hd : ∀ σ H, Pv xs.length σ H → D.nx σ H) :
    ∃ W : Nat → Nat → St → Hp → Prop, (∃ m, W 0 m σ H) ∧ ∀ i m σ H, W i m σ H →
      ((Itl K a).stop i H ∧ D.nx σ H) ∨ ((Itl K a).go i H ∧ ∃ N : St → Hp → Prop, (∀ σ' H', N σ' H' → ∃ m', m' < m ∧ W (i + 1) m' σ' H') ∧ ∀ x H', (Itl K a).yld i H x H' → g x σ H' fun σ2 H2 => tb { D with nx := N, ct := N, bk := D.nx } σ2 H2) := by
  refine ⟨fun i m σ H => m = xs.length - i ∧ i ≤ xs.length ∧ Pv i σ H, ⟨xs.length, by simp, Nat.zero_le _, h0⟩, ?_⟩
  rintro i m σ H ⟨rfl, hi, p⟩
  have q := hl i σ H hi p
  by_cases hlt : i < xs.length
  · refine .inr ⟨⟨xs, xs[i], q, by simp [hlt]⟩, Pv (i + 1), fun σ' H' p' => ⟨xs.length - (i + 1), by omega, rfl, hlt, p'⟩, fun x H' y => ?_⟩
    obtain ⟨e, y⟩ := y
    subst e
    exact hs i x σ _ (y xs q) p
  · have e : i = xs.length := by omega
    subst e
    exact .inl ⟨⟨xs, q, Nat.le_refl _⟩, hd σ H p⟩
theorem for_range {lo : Int} {n : Nat} {g : TG} {tb : TS} {D : Ends} {σ : St} {H : Hp} (Pv : Nat → St → Hp → Prop) (h0 : Pv 0 σ H)
    (hs : ∀ i σ H, i < n → Pv i σ H → g (.int (lo + i)) σ H fun σ2 H2 => tb { D with nx := Pv (i + 1), ct := Pv (i + 1), bk := D.nx } σ2 H2) (hd : ∀ σ H, Pv n σ H → D.nx σ H) :
    ∃ W : Nat → Nat → St → Hp → Prop, (∃ m, W 0 m σ H) ∧ ∀ i m σ H, W i m σ H →
      ((Itr lo n).stop i H ∧ D.nx σ H) ∨ ((Itr lo n).go i H ∧ ∃ N : St → Hp → Prop, (∀ σ' H', N σ' H' → ∃ m', m' < m ∧ W (i + 1) m' σ' H') ∧ ∀ x H', (Itr lo n).yld i H x H' → g x σ H' fun σ2 H2 => tb { D with nx := N, ct := N, bk := D.nx } σ2 H2) := by
  refine ⟨fun i m σ H => m = n - i ∧ i ≤ n ∧ Pv i σ H, ⟨n, by simp, Nat.zero_le _, h0⟩, ?_⟩
  rintro i m σ H ⟨rfl, hi, p⟩
  by_cases hlt : i < n
  · refine .inr ⟨hlt, Pv (i + 1), fun σ' H' p' => ⟨n - (i + 1), by omega, rfl, hlt, p'⟩, fun x H' y => ?_⟩
    obtain ⟨e, y⟩ := y
    subst e y
    exact hs i σ _ hlt p
  · have e : i = n := by omega
    subst e
    exact .inl ⟨Nat.le_refl _, hd σ H p⟩
/-- while, by a word and a measure of the state -/
theorem while_by {c : TT} {tb : TS} {D : Ends} {σ : St} {H : Hp} (Pv : St → Hp → Prop) (μ : St → Hp → Nat) (h0 : Pv σ H)
    (hs : ∀ σ H, Pv σ H → c σ H fun b H1 => if b = true then tb { D with nx := fun σ' H' => Pv σ' H' ∧ μ σ' H' < μ σ H, ct := fun σ' H' => Pv σ' H' ∧ μ σ' H' < μ σ H, bk := D.nx } σ H1 else D.nx σ H1)
    (mono : ∀ σ H Q Q', (∀ b H1, Q b H1 → Q' b H1) → c σ H Q → c σ H Q') : tWhile c tb D σ H := by
  refine ⟨fun m σ H => m = μ σ H ∧ Pv σ H, ⟨_, rfl, h0⟩, ?_⟩
  rintro m σ H ⟨rfl, p⟩
  refine mono σ H _ _ (fun b H1 q => ?_) (hs σ H p)
  cases b with
  | true => exact ⟨_, fun σ' H' ⟨p', l⟩ => ⟨_, l, rfl, p'⟩, q⟩
  | false => exact q
end L2
namespace L2
open PySem PySem.Spec PyProof.Rows
abbrev R2 := V → V → Hp → VK → Prop
/-- a two-place operation on values: f is binaryOp op, inplaceOp op or compareOp op -/
def OpR (X : Cx) (f : Value → Value → Sem Value) (r : R2) : Prop :=
  ∀ (pins : List (Addr × Obj)) (s : Shared) (σ : St) (H : Hp) (x y : V) (v u : Value) (Q : VK), Inv X pins σ H s → RelV x v → RelV y u → r x y H Q →
    wpAny (model X.prog X.w) X.A (f v u) (EP X pins σ Q) X.xe s
/-- a one-place operation -/
def UnR (X : Cx) (f : Value → Sem Value) (r : V → Hp → VK → Prop) : Prop :=
  ∀ (pins : List (Addr × Obj)) (s : Shared) (σ : St) (H : Hp) (x : V) (v : Value) (Q : VK), Inv X pins σ H s → RelV x v → r x H Q →
    wpAny (model X.prog X.w) X.A (f v) (EP X pins σ Q) X.xe s
/-- a call of a value that is known (a builtin, a type) with values -/
def CallR (X : Cx) (f : Value) (r : List V → Hp → VK → Prop) : Prop :=
  ∀ (pins : List (Addr × Obj)) (s : Shared) (σ : St) (H : Hp) (xs : List V) (us : List Value) (Q : VK), Inv X pins σ H s → Vals xs us → r xs H Q →
    wpAny (model X.prog X.w) X.A (call f us) (EP X pins σ Q) X.xe s
def tOp (r : R2) (ta tb : TE) : TE := fun σ H Q => ta σ H fun x H1 => tb σ H1 fun y H2 => r x y H2 Q
def tUn (r : V → Hp → VK → Prop) (ta : TE) : TE := fun σ H Q => ta σ H fun x H1 => r x H1 Q
/-- ints in, under C, and a value out -/
def rI (C : Int → Int → Prop) (g : Int → Int → V) : R2 := fun x y H Q => ∃ i j, x = .int i ∧ y = .int j ∧ C i j ∧ Q (g i j) H
def rI0 (g : Int → Int → V) : R2 := fun x y H Q => ∃ i j, x = .int i ∧ y = .int j ∧ Q (g i j) H
def rU (g : Int → V) : V → Hp → VK → Prop := fun x H Q => ∃ i, x = .int i ∧ Q (g i) H
section
variable {X : Cx} {a b c : Expr} {ta tb tc : TE} {pos : Pos}
theorem binT (ha : PE X a ta) (hb : PE X b tb) {pins : List (Addr × Obj)} {s : Shared} {σ : St} {H : Hp} {R : V → V → Hp → Prop} (I : Inv X pins σ H s)
    (h : ta σ H fun x H1 => tb σ H1 fun y H2 => R x y H2) {Q : Value → Shared → Prop} {f : Value → Value → Sem Value}
    (hf : ∀ v u s2 x y H2, Inv X pins σ H2 s2 → RelV x v → RelV y u → R x y H2 → wpAny (model X.prog X.w) X.A (f v u) Q X.xe s2) :
    wpAny (model X.prog X.w) X.A (eval a X.env) (fun v s₁ => wpAny (model X.prog X.w) X.A (eval b X.env) (fun u s₂ => wpAny (model X.prog X.w) X.A (f v u) Q X.xe s₂) X.xe s₁) X.xe s := by
  refine thn (ha pins s σ H _ I h) fun v s1 ⟨x, H1, I1, r1, q1⟩ => ?_
  refine thn (hb pins s1 σ H1 _ I1 q1) fun u s2 ⟨y, H2, I2, r2, q2⟩ => ?_
  exact hf v u s2 x y H2 I2 r1 r2 q2
theorem pe_op {op : Operator} {r : R2} (ho : OpR X (binaryOp op) r) (ha : PE X a ta) (hb : PE X b tb) : PE X (.BinOp a op b pos) (tOp r ta tb) := by
  intro pins s σ H Q I h
  exact wpAny_BinOp (binT ha hb I h fun v u s2 x y H2 I2 rx ry q => ho pins s2 σ H2 x y v u Q I2 rx ry q)
theorem pe_un {op : UnaryOp} {r : V → Hp → VK → Prop} (ho : UnR X (unaryOp op) r) (ha : PE X a ta) : PE X (.UnaryOp op a pos) (tUn r ta) := by
  intro pins s σ H Q I h
  exact UnaryOp_ (thn (ha pins s σ H _ I h) fun v s1 ⟨x, H1, I1, r1, q1⟩ => ho pins s1 σ H1 x v Q I1 r1 q1)
theorem opI {f : Value → Value → Sem Value} {C : Int → Int → Prop} {g : Int → Int → Int}
    (rule : ∀ (i j : Int) (t u : Tok) (s : Shared) (Q : Value → Shared → Prop) (E : Value → Shared → Prop), C i j → Q (.int (g i j) s.toks) { s with toks := s.toks + 1 } → wpAny (model X.prog X.w) X.A (f (.int i t) (.int j u)) Q E s) :
    OpR X f (rI C fun i j => .int (g i j)) := by
  intro pins s σ H x y v u Q I rx ry h
  obtain ⟨i, j, rfl, rfl, hc, q⟩ := h
  obtain ⟨t, rfl⟩ := rx
  obtain ⟨t', rfl⟩ := ry
  exact rule i j t t' s _ _ hc ⟨.int (g i j), H, I.tok _, ⟨_, rfl⟩, q⟩
theorem opI0 {f : Value → Value → Sem Value} {g : Int → Int → Int}
    (rule : ∀ (i j : Int) (t u : Tok) (s : Shared) (Q : Value → Shared → Prop) (E : Value → Shared → Prop), Q (.int (g i j) s.toks) { s with toks := s.toks + 1 } → wpAny (model X.prog X.w) X.A (f (.int i t) (.int j u)) Q E s) :
    OpR X f (rI0 fun i j => .int (g i j)) := by
  intro pins s σ H x y v u Q I rx ry h
  obtain ⟨i, j, rfl, rfl, q⟩ := h
  obtain ⟨t, rfl⟩ := rx
  obtain ⟨t', rfl⟩ := ry
  exact rule i j t t' s _ _ ⟨.int (g i j), H, I.tok _, ⟨_, rfl⟩, q⟩
theorem opB0 {f : Value → Value → Sem Value} {g : Int → Int → Bool}
    (rule : ∀ (i j : Int) (t u : Tok) (s : Shared) (Q : Value → Shared → Prop) (E : Value → Shared → Prop), Q (.bool (g i j)) s → wpAny (model X.prog X.w) X.A (f (.int i t) (.int j u)) Q E s) :
    OpR X f (rI0 fun i j => .bl (g i j)) := by
  intro pins s σ H x y v u Q I rx ry h
  obtain ⟨i, j, rfl, rfl, q⟩ := h
  obtain ⟨t, rfl⟩ := rx
  obtain ⟨t', rfl⟩ := ry
  exact rule i j t t' s _ _ ⟨.bl (g i j), H, I, rfl, q⟩
def CDiv (i j : Int) : Prop := 0 < j ∧ j < 1073741824
def CMul (i j : Int) : Prop := (-(2 ^ 64) < i ∧ i < 2 ^ 64) ∨ (-(2 ^ 64) < j ∧ j < 2 ^ 64)
theorem CMul.ok {i j : Int} (h : CMul i j) : IntMulOk i j := by
  rcases h with ⟨h1, h2⟩ | ⟨h1, h2⟩
  · exact .of_left (intBits_le_64 h1 h2)
  · exact .of_right (intBits_le_64 h1 h2)
theorem op_add : OpR X (binaryOp .Add) (rI0 fun i j => .int (i + j)) := opI0 fun _ _ _ _ _ _ _ q => add_int q
theorem op_sub : OpR X (binaryOp .Sub) (rI0 fun i j => .int (i - j)) := opI0 fun _ _ _ _ _ _ _ q => sub_int q
theorem op_mul : OpR X (binaryOp .Mult) (rI CMul fun i j => .int (i * j)) := opI fun _ _ _ _ _ _ _ hc q => mul_int q hc.ok
/-- // by a positive divisor -/
theorem op_fdiv : OpR X (binaryOp .FloorDiv) (rI CDiv fun i j => .int (i / j)) := opI fun i j _ _ _ _ _ hc q => by
  have h1 : (0 : Int) < j := hc.1
  have h2 : j < 1073741824 := hc.2
  exact floordiv_int (by omega) (by rw [Int.fdiv_eq_ediv_of_nonneg i (by omega)]; exact q) (.inl (PyProof.noPylong_small (by omega)))
/-- % by a positive divisor of any size -/
theorem op_mod : OpR X (binaryOp .Mod) (rI (fun _ j => 0 < j) fun i j => .int (i % j)) := opI fun i j _ _ _ _ _ hc q => by
  have h1 : (0 : Int) < j := hc
  exact mod_int' (by omega) (by rw [Int.fmod_eq_emod_of_nonneg i (by omega)]; exact q)
theorem unI {f : Value → Sem Value} {g : Int → Int}
    (rule : ∀ (i : Int) (t : Tok) (s : Shared) (Q : Value → Shared → Prop) (E : Value → Shared → Prop), Q (.int (g i) s.toks) { s with toks := s.toks + 1 } → wpAny (model X.prog X.w) X.A (f (.int i t)) Q E s) :
    UnR X f (rU fun i => .int (g i)) := by
  intro pins s σ H x v Q I rx h
  obtain ⟨i, rfl, q⟩ := h
  obtain ⟨t, rfl⟩ := rx
  exact rule i t s _ _ ⟨.int (g i), H, I.tok _, ⟨_, rfl⟩, q⟩
theorem un_neg : UnR X (unaryOp .USub) (rU fun i => .int (-i)) := unI fun _ _ _ _ _ q => neg_int q
end
/-- the scalars that == tells apart as data does -/
def scal : V → V → Bool
  | .non, .non => true | .non, .int _ => true | .int _, .non => true | .non, .bl _ => true | .bl _, .non => true | .non, .str _ => true | .str _, .non => true
  | .int _, .int _ => true | .bl _, .bl _ => true | .str _, .str _ => true | .byt _, .byt _ => true
  | .int _, .str _ => true | .str _, .int _ => true | .bl _, .str _ => true | .str _, .bl _ => true
  | _, _ => false
def rEq : R2 := fun x y H Q => scal x y = true ∧ Q (.bl (decide (x = y))) H
def rNe : R2 := fun x y H Q => scal x y = true ∧ Q (.bl (!decide (x = y))) H
theorem dec_int {i j : Int} : decide (V.int i = V.int j) = (i == j) := by
  rw [Bool.eq_iff_iff]
  simp
theorem dec_bl {i j : Bool} : decide (V.bl i = V.bl j) = (i == j) := by
  rw [Bool.eq_iff_iff]
  simp
theorem dec_str {i j : Str} : decide (V.str i = V.str j) = (i == j) := by
  rw [Bool.eq_iff_iff]
  simp
theorem dec_byt {i j : Array UInt8} : decide (V.byt i = V.byt j) = (i.toList == j.toList) := by
  rw [Bool.eq_iff_iff]
  cases i
  cases j
  simp
section
variable {X : Cx} {a b c : Expr} {ta tb tc : TE} {pos : Pos}
theorem fin_bl {pins : List (Addr × Obj)} {σ : St} {H : Hp} {s : Shared} {Q : VK} {k k' : Bool} (I : Inv X pins σ H s) (q : Q (.bl k) H) (e : k = k') : EP X pins σ Q (.bool k') s := by
  subst e
  exact ⟨.bl k, H, I, rfl, q⟩
theorem op_eq : OpR X (compareOp .Eq) rEq := by
  intro pins s σ H x y v u Q I rx ry h
  obtain ⟨hs, q⟩ := h
  cases x with
  | non =>
    cases rx
    cases y with
    | non => cases ry; exact PySem.EqNone.eq_none_none (fin_bl I q (by simp))
    | bl j => cases ry; exact PySem.EqNone.eq_none_bool (fin_bl I q (by simp))
    | int j => obtain ⟨t', rfl⟩ := ry; exact PySem.EqNone.eq_none_int (fin_bl I q (by simp))
    | str j => obtain ⟨t', rfl⟩ := ry; exact PySem.EqNone.eq_none_str (fin_bl I q (by simp))
    | _ => exact absurd (show false = true from hs) Bool.false_ne_true
  | bl i =>
    cases rx
    cases y with
    | non => cases ry; exact PySem.EqNone.eq_bool_none (fin_bl I q (by simp))
    | bl j => cases ry; exact eq_bool (fin_bl I q dec_bl)
    | str j => obtain ⟨t', rfl⟩ := ry; exact PySem.EqMixed.eq_bool_str (fin_bl I q (by simp))
    | _ => exact absurd (show false = true from hs) Bool.false_ne_true
  | int i =>
    obtain ⟨t, rfl⟩ := rx
    cases y with
    | non => cases ry; exact PySem.EqNone.eq_int_none (fin_bl I q (by simp))
    | int j => obtain ⟨t', rfl⟩ := ry; exact eq_int (fin_bl I q dec_int)
    | str j => obtain ⟨t', rfl⟩ := ry; exact PySem.EqMixed.eq_int_str (fin_bl I q (by simp))
    | _ => exact absurd (show false = true from hs) Bool.false_ne_true
  | str i =>
    obtain ⟨t, rfl⟩ := rx
    cases y with
    | non => cases ry; exact PySem.EqNone.eq_str_none (fin_bl I q (by simp))
    | bl j => cases ry; exact PySem.EqMixed.eq_str_bool (fin_bl I q (by simp))
    | int j => obtain ⟨t', rfl⟩ := ry; exact PySem.EqMixed.eq_str_int (fin_bl I q (by simp))
    | str j => obtain ⟨t', rfl⟩ := ry; exact eq_str (fin_bl I q dec_str)
    | _ => exact absurd (show false = true from hs) Bool.false_ne_true
  | byt i =>
    obtain ⟨t, rfl⟩ := rx
    cases y with
    | byt j => obtain ⟨t', rfl⟩ := ry; exact PySem.W.eq_bytes (fin_bl I q dec_byt)
    | _ => exact absurd (show false = true from hs) Bool.false_ne_true
  | _ => cases y <;> exact absurd (show false = true from hs) Bool.false_ne_true
theorem op_ne : OpR X (compareOp .NotEq) rNe := by
  intro pins s σ H x y v u Q I rx ry h
  obtain ⟨hs, q⟩ := h
  cases x with
  | non =>
    cases rx
    cases y with
    | non => cases ry; exact PySem.EqNone.ne_none_none (fin_bl I q (by simp))
    | bl j => cases ry; exact PySem.EqNone.ne_none_bool (fin_bl I q (by simp))
    | int j => obtain ⟨t', rfl⟩ := ry; exact PySem.EqNone.ne_none_int (fin_bl I q (by simp))
    | str j => obtain ⟨t', rfl⟩ := ry; exact PySem.EqNone.ne_none_str (fin_bl I q (by simp))
    | _ => exact absurd (show false = true from hs) Bool.false_ne_true
  | bl i =>
    cases rx
    cases y with
    | non => cases ry; exact PySem.EqNone.ne_bool_none (fin_bl I q (by simp))
    | bl j => cases ry; exact ne_bool (fin_bl I q (congrArg not dec_bl))
    | str j => obtain ⟨t', rfl⟩ := ry; exact PySem.EqMixed.ne_bool_str (fin_bl I q (by simp))
    | _ => exact absurd (show false = true from hs) Bool.false_ne_true
  | int i =>
    obtain ⟨t, rfl⟩ := rx
    cases y with
    | non => cases ry; exact PySem.EqNone.ne_int_none (fin_bl I q (by simp))
    | int j => obtain ⟨t', rfl⟩ := ry; exact ne_int (fin_bl I q (congrArg not dec_int))
    | str j => obtain ⟨t', rfl⟩ := ry; exact PySem.EqMixed.ne_int_str (fin_bl I q (by simp))
    | _ => exact absurd (show false = true from hs) Bool.false_ne_true
  | str i =>
    obtain ⟨t, rfl⟩ := rx
    cases y with
    | non => cases ry; exact PySem.EqNone.ne_str_none (fin_bl I q (by simp))
    | bl j => cases ry; exact PySem.EqMixed.ne_str_bool (fin_bl I q (by simp))
    | int j => obtain ⟨t', rfl⟩ := ry; exact PySem.EqMixed.ne_str_int (fin_bl I q (by simp))
    | str j => obtain ⟨t', rfl⟩ := ry; exact ne_str (fin_bl I q (congrArg not dec_str))
    | _ => exact absurd (show false = true from hs) Bool.false_ne_true
  | byt i =>
    obtain ⟨t, rfl⟩ := rx
    cases y with
    | byt j => obtain ⟨t', rfl⟩ := ry; exact PySem.W.ne_bytes (fin_bl I q (congrArg not dec_byt))
    | _ => exact absurd (show false = true from hs) Bool.false_ne_true
  | _ => cases y <;> exact absurd (show false = true from hs) Bool.false_ne_true
theorem op_lt : OpR X (compareOp .Lt) (rI0 fun i j => .bl (decide (i < j))) := opB0 fun _ _ _ _ _ _ _ q => lt_int q
theorem op_le : OpR X (compareOp .LtE) (rI0 fun i j => .bl (decide (i ≤ j))) := opB0 fun _ _ _ _ _ _ _ q => le_int q
theorem op_gt : OpR X (compareOp .Gt) (rI0 fun i j => .bl (decide (j < i))) := opB0 fun _ _ _ _ _ _ _ q => gt_int q
theorem op_ge : OpR X (compareOp .GtE) (rI0 fun i j => .bl (decide (j ≤ i))) := opB0 fun _ _ _ _ _ _ _ q => ge_int q
/-- is None, is not None: the right side a value none -/
theorem op_isN : OpR X (compareOp .Is) (fun x y H Q => y = .non ∧ Q (.bl (decide (x = .non))) H) := by
  intro pins s σ H x y v u Q I rx ry h
  obtain ⟨rfl, q⟩ := h
  cases ry
  refine is_none_gen (fin_bl I q ?_)
  cases x <;> first
    | (cases rx; rfl)
    | (obtain ⟨t, rfl⟩ := rx; rfl)
theorem nomark (b : Expr) {op : CmpOp} (h : op ≠ .In := by decide) (h2 : op ≠ .NotIn := by decide) : behindInMarks op b = false := by
  have e1 : (op == CmpOp.In) = false := by cases op <;> first | rfl | exact absurd rfl h
  have e2 : (op == CmpOp.NotIn) = false := by cases op <;> first | rfl | exact absurd rfl h2
  cases b <;> simp [behindInMarks, e1, e2]
/-- a comparison as a value; hm: nomark b, or (for in, not in) by with_unfolding_all rfl -/
theorem pe_cmpR {op : CmpOp} {r : R2} (ho : OpR X (compareOp op) r) (ha : PE X a ta) (hb : PE X b tb) (hm : behindInMarks op b = false) : PE X (.Compare a [op] [b] pos) (tOp r ta tb) := by
  intro pins s σ H Q I h
  exact wpAny_Compare1 (binT ha hb I h fun v u s2 x y H2 I2 rx ry q => ho pins s2 σ H2 x y v u Q I2 rx ry q) hm
/-- a reading of a value as a test -/
def tTest (t : TE) : TT := fun σ H Q => t σ H fun x H' => ∃ k, x = .bl k ∧ Q k H'
theorem pt_cmpR {op : CmpOp} {r : R2} (ho : OpR X (compareOp op) r) (ha : PE X a ta) (hb : PE X b tb) (hm : behindInMarks op b = false) : PT X (.Compare a [op] [b] pos) (tTest (tOp r ta tb)) := by
  intro pins s σ H Q I h
  refine wpAny_isTrue_Compare1 (thn (ha pins s σ H _ I h) fun v s1 ⟨x, H1, I1, r1, q1⟩ => thn (hb pins s1 σ H1 _ I1 q1) fun u s2 ⟨y, H2, I2, r2, q2⟩ =>
    thn (ho pins s2 σ H2 x y v u _ I2 r1 r2 q2) fun c s3 ⟨z, H3, I3, r3, k, e, q3⟩ => ?_) hm
  subst e
  cases r3
  exact wpAny_truthy_bool ⟨H3, I3, q3⟩
theorem line63 : (sizeLine : Nat) < 2 ^ 63 := by rw [sizeLine_eq]; decide
theorem vals1 {x : V} {us : List Value} (r : Vals [x] us) : ∃ u, us = [u] ∧ RelV x u := by
  cases r with
  | cons r1 r2 => cases r2; exact ⟨_, rfl, r1⟩
theorem vals2 {x y : V} {us : List Value} (r : Vals [x, y] us) : ∃ u w', us = [u, w'] ∧ RelV x u ∧ RelV y w' := by
  cases r with
  | cons r1 r2 =>
    cases r2 with
    | cons r3 r4 => cases r4; exact ⟨_, _, rfl, r1, r3⟩
theorem call_abs : CallR X (.builtin "abs") (fun xs H Q => ∃ i, xs = [.int i] ∧ Q (.int (if i < 0 then -i else i)) H) := by
  intro pins s σ H xs us Q I r h
  obtain ⟨i, rfl, q⟩ := h
  obtain ⟨u, rfl, t, rfl⟩ := vals1 r
  exact call_abs_int fun u tk => ⟨.int (if i < 0 then -i else i), H, I.tok _, ⟨_, rfl⟩, q⟩
theorem call_max2 (hc : X.calm = true) : CallR X (.builtin "max") (fun xs H Q => ∃ i j, xs = [.int i, .int j] ∧ Q (.int (if j > i then j else i)) H) := by
  intro pins s σ H xs us Q I r h
  obtain ⟨i, j, rfl, q⟩ := h
  obtain ⟨u, w', rfl, ⟨t, rfl⟩, ⟨t', rfl⟩⟩ := vals2 r
  refine max_two_ints (I.ok.hd hc) fun h' tk k => ⟨_, H, I.kept k, ?_, q⟩
  by_cases hj : j > i
  · rw [if_pos hj, if_pos hj]; exact ⟨_, rfl⟩
  · rw [if_neg hj, if_neg hj]; exact ⟨_, rfl⟩
theorem call_min2 (hc : X.calm = true) : CallR X (.builtin "min") (fun xs H Q => ∃ i j, xs = [.int i, .int j] ∧ Q (.int (if j < i then j else i)) H) := by
  intro pins s σ H xs us Q I r h
  obtain ⟨i, j, rfl, q⟩ := h
  obtain ⟨u, w', rfl, ⟨t, rfl⟩, ⟨t', rfl⟩⟩ := vals2 r
  refine min_two_ints (I.ok.hd hc) fun h' tk k => ⟨_, H, I.kept k, ?_, q⟩
  by_cases hj : j < i
  · rw [if_pos hj, if_pos hj]; exact ⟨_, rfl⟩
  · rw [if_neg hj, if_neg hj]; exact ⟨_, rfl⟩
end
end L2
namespace L2
open PySem PySem.Spec PyProof.Rows
structure ObjM (h : Heap) (x dx C : Addr) (mA : Str → Option Value) : Prop where
  obj : h.get? x = some (PySem.W.instObj C dx)
  ns : h.Ns1 dx mA
  ne : dx ≠ x
theorem lookIn_ns {h : Heap} {dx : Addr} {mA : Str → Option Value} (n : h.Ns1 dx mA) : ∃ od, h.get? dx = some od ∧ ∀ name, PySem.W.lookIn name od = some (mA name) := by
  obtain ⟨o, es, ep, ho, hd, hk, _, hm⟩ := n
  refine ⟨o, ho, fun name => ?_⟩
  have e := hm name
  unfold nsFind findBy at e
  rw [← Array.find?_toList] at e
  unfold PySem.W.lookIn
  rw [hd]
  dsimp only
  split
  · rename_i y q
    rw [q] at e
    exact congrArg some e
  · rename_i q
    rw [q] at e
    have a : es.toList.any (·.refKey) = false := by
      rw [List.any_eq_false]
      intro y hy
      obtain ⟨z, t, hkey⟩ := hk y (Array.mem_toList_iff.mp hy)
      simp [DictEntry.refKey, hkey]
    have a' : ¬ es.toList.any (·.refKey) = true := by rw [a]; exact Bool.false_ne_true
    rw [if_neg a']
    exact congrArg some e
theorem ObjM.look {h : Heap} {x dx C : Addr} {mA : Str → Option Value} (I : ObjM h x dx C mA) : ∃ od, PySem.W.InstAt h x (PySem.W.instObj C dx) C (some od) ∧ ∀ name, PySem.W.lookIn name od = some (mA name) :=
  let ⟨od, ho, hl⟩ := lookIn_ns I.ns
  ⟨od, ⟨I.obj, rfl, rfl, ho⟩, hl⟩
section
variable {prog : Program} {w : World} {A : Around} {E : Value → Shared → Prop} {s : Shared} {K : PySem.W.Frag} {x dx C f : Addr} {mA : Str → Option Value} {name : Str} {v : Value}
theorem get_map {expr : Bool} {Q : Value → Shared → Prop} (X : K.In s.heap) (I : ObjM s.heap x dx C mA) (hg : PySem.W.plainGet K C name = true) (hh : PySem.W.hasDictIn K C = true)
    (ha : PySem.W.findIn K (.ref C) name = some none) (hv : mA name = some v) (hv' : PySem.W.handedIn v = true) (h : Q v { s with toks := s.toks + 1 }) :
    wpAny (model prog w) A (getAttr (.ref x) name expr) Q E s := by
  obtain ⟨od, J, hl⟩ := I.look
  exact PySem.W.get_value X J (PySem.W.plainGet_of hg).1 (PySem.W.findObj_own hh ha rfl (by rw [hl, hv])) hv' h
theorem get_meth {pl : Sem Bool} {Q : Value × List Value → Shared → Prop} (X : K.In s.heap) (I : ObjM s.heap x dx C mA) (hg : PySem.W.plainGet K C name = true)
    (hf : PySem.W.findIn K (.ref C) name = some (some (.ref f))) (ht : PySem.W.isFn K (.ref f) = true) (hv : mA name = none) (h : Q (.ref f, [.ref x]) s) :
    wpAny (model prog w) A (getMethod (.ref x) name pl) Q E s := by
  obtain ⟨od, J, hl⟩ := I.look
  exact PySem.W.method_fn X J (PySem.W.plainGet_of hg).1 (PySem.W.plainGet_of hg).2 hf (beq_iff_eq.mp ht) (by show (PySem.W.lookIn name od).map (·.isSome) = some false; rw [hl, hv]; rfl) h
theorem set_map {ns : List Str} {Q : Unit → Shared → Prop} (X : K.In s.heap) (I : ObjM s.heap x dx C mA)
    (hs : PySem.W.findIn K (.ref C) "__setattr__" = some (some (.builtin "object.__setattr__"))) (hp : PySem.W.plainOver K C = true) (ht : PySem.W.takerIn K C name = some none) (hh : PySem.W.hasDictIn K C = true)
    (hw : PySem.Within mA ns) (hsz : ns.length ≤ sizeLine)
    (h : ∀ h', ObjM h' x dx C (fun y => if y = name then some v else mA y) → Heap.SameBut dx s.heap h' → Q () { s with heap := h', toks := s.toks + 2 }) :
    wpAny (model prog w) A (setAttr (.ref x) name v) Q E s := by
  obtain ⟨od, J, hl⟩ := I.look
  refine PySem.W.set_plain X J hs (PySem.W.osa_open (s := { s with toks := s.toks + 1 }) (r := none) X J hp ht fun b => ?_)
  obtain ⟨cd, hc, hd'⟩ := PySem.W.any_some hh
  have hx : s.heap.get? x = some ⟨.ref C, some dx, .plain, #[]⟩ := I.obj
  refine wpAny_bind (wpAny_pure (wpAny_bind (wpAny_bind (wpAny_loadPart hx (wpAny_bind (PySem.W.Looks.here (s := { s with toks := s.toks + 1 }) (PySem.W.looks_clsIn X hc) ?_))))))
  rw [hd']
  refine wpAny_pure (a := some dx) (wpAny_bind (wpAny_pure (wpAny_bind ?_)))
  refine wpAny_nsSet1 (s := { s with toks := s.toks + 1 }) I.ns fun h' hn2 hs2 => ?_
  obtain ⟨oD, esD, epD, hoD, hdD, hcD⟩ := hn2.count (PySem.Within.cons name v hw)
  refine wpAny_bind (wpAny_lookBehind hoD (by rw [hdD]; exact pastItsLine_dict (Nat.le_trans hcD (by rw [List.length_cons]; omega))) ?_)
  exact wpAny_pure (h _ ⟨(hs2.2 _ (Ne.symm I.ne)).trans I.obj, hn2, I.ne⟩ hs2)
/-- C(..): the dict at the heap's end, the instance behind it; then its __init__ -/
theorem make_map {R : Result → Shared → Prop} {vs : List Value} {kw : List (Str × Value)} (X : K.In s.heap) (hm : PySem.W.makesIn K C = true)
    (hi : PySem.W.findIn K (.ref C) "__init__" = some (some (.ref f))) (hf : PySem.W.typeIn K (.ref f) = some (.type "function"))
    (h : codeAny (model prog w) (A.under (.builtin "type.__call__" ⟨.ref C :: vs, kw⟩)) (.call (.ref f) ⟨.ref (s.heap.objs.size + 1) :: vs, kw⟩) (PySem.W.InitBack (s.heap.objs.size + 1) R)
      { s with heap := (s.heap.push PySem.W.emptyDict).push (PySem.W.instObj C s.heap.objs.size) }) :
    codeAny (model prog w) A (.call (.ref C) ⟨vs, kw⟩) R s := by
  obtain ⟨hh, g, d, t, os⟩ := s
  exact PySem.W.make_core (PySem.W.makes_of X hm) (PySem.W.looks_findIn X hi) (fun self => PySem.W.bind_fn X self hf) (.inl rfl) h
end
def putF (f : Str) (v : V) : List (Str × V) → List (Str × V)
  | [] => [(f, v)]
  | (g, x) :: r => if g = f then (g, v) :: r else (g, x) :: putF f v r
theorem lookup_putF (f g : Str) (v : V) : ∀ fs : List (Str × V), (putF f v fs).lookup g = if g = f then some v else fs.lookup g
  | [] => by
    show List.lookup g [(f, v)] = _
    by_cases h : g = f
    · have hb : (g == f) = true := beq_iff_eq.mpr h
      simp only [List.lookup, hb, if_pos h]
    · have hb : (g == f) = false := beq_eq_false_iff_ne.mpr h
      simp only [List.lookup, hb, if_neg h]
  | (k, x) :: r => by
    have ih := lookup_putF f g v r
    rw [show putF f v ((k, x) :: r) = (if k = f then (k, v) :: r else (k, x) :: putF f v r) from rfl]
    by_cases hk : k = f
    · rw [if_pos hk]
      by_cases h : g = k
      · have hb : (g == k) = true := beq_iff_eq.mpr h
        simp only [List.lookup, hb, if_pos (h.trans hk)]
      · have hb : (g == k) = false := beq_eq_false_iff_ne.mpr h
        simp only [List.lookup, hb, if_neg (fun e : g = f => h (e.trans hk.symm))]
    · rw [if_neg hk]
      by_cases h : g = k
      · have hb : (g == k) = true := beq_iff_eq.mpr h
        simp only [List.lookup, hb, if_neg (fun e : g = f => hk (h.symm.trans e))]
      · have hb : (g == k) = false := beq_eq_false_iff_ne.mpr h
        simp only [List.lookup, hb]
        exact ih
theorem keys_putF (f : Str) (v : V) : ∀ fs : List (Str × V), f ∈ (putF f v fs).map (·.1) ∧ ∀ g, g ∈ fs.map (·.1) → g ∈ (putF f v fs).map (·.1)
  | [] => ⟨by simp [putF], fun g h => by simp at h⟩
  | (k, x) :: r => by
    obtain ⟨i1, i2⟩ := keys_putF f v r
    rw [show putF f v ((k, x) :: r) = (if k = f then (k, v) :: r else (k, x) :: putF f v r) from rfl]
    by_cases hk : k = f
    · rw [if_pos hk]
      subst hk
      exact ⟨by simp, fun g h => by simpa using h⟩
    · rw [if_neg hk]
      refine ⟨?_, fun g h => ?_⟩
      · rw [List.map_cons]
        exact List.mem_cons_of_mem _ i1
      · rw [List.map_cons] at h ⊢
        rcases List.mem_cons.mp h with e | e
        · exact List.mem_cons.mpr (.inl e)
        · exact List.mem_cons_of_mem _ (i2 g e)
theorem length_putF (f : Str) (v : V) : ∀ fs : List (Str × V), (putF f v fs).length ≤ fs.length + 1
  | [] => by simp [putF]
  | (k, x) :: r => by
    have ih := length_putF f v r
    rw [show putF f v ((k, x) :: r) = (if k = f then (k, v) :: r else (k, x) :: putF f v r) from rfl]
    by_cases hk : k = f
    · rw [if_pos hk, List.length_cons, List.length_cons]; omega
    · rw [if_neg hk, List.length_cons, List.length_cons]; omega
theorem RelO.some_of {v : V} {o : Option Value} (r : RelO (some v) o) : ∃ u, o = some u ∧ RelV v u := by
  cases o with
  | none => exact (show False from r).elim
  | some u => exact ⟨u, rfl, r⟩
theorem RelO.none_of {o : Option Value} (r : RelO none o) : o = none := by
  cases o with
  | none => rfl
  | some u => exact (show False from r).elim
theorem handed_of {v : V} {u : Value} (r : RelV v u) : PySem.W.handedIn u = true := by
  cases v with
  | non => cases (show u = Value.none from r); rfl
  | bl b => cases (show u = Value.bool b from r); rfl
  | int i => obtain ⟨t, e⟩ := (show ∃ t, u = Value.int i t from r); cases e; rfl
  | str x => obtain ⟨t, e⟩ := (show ∃ t, u = Value.str x t from r); cases e; rfl
  | byt b => obtain ⟨t, e⟩ := (show ∃ t, u = Value.bytes b t from r); cases e; rfl
  | flt b => obtain ⟨t, e⟩ := (show ∃ t, u = Value.float b t from r); cases e; rfl
  | ref a => cases (show u = Value.ref a from r); rfl
  | ty n => cases (show u = Value.type n from r); rfl
section
variable {P : Program} {w : World} {H H' : Hp} {h h' : Heap} {a C dx : Addr} {fs fs' : List (Str × V)}
theorem ins_get (hok : HOk P w H h) (e : H a = some (.ins C dx fs)) : ∃ mA, ObjM h a dx C mA ∧ (∀ f, RelO (fs.lookup f) (mA f)) ∧ PySem.Within mA (fs.map (·.1)) ∧ fs.length ≤ 1000 ∧ H dx = some (.own a) := by
  obtain ⟨d, z, ne, ob, mA, n, r, q⟩ := (show ObjOk P w H h a (.ins C dx fs) from hok a _ e)
  exact ⟨mA, ⟨ob, n, ne⟩, r, q, z, d⟩
end
structure Cls (K : PySem.W.Frag) (C : Addr) : Prop where
  pg : PySem.W.plainGet K C Str.empty = true
  hd : PySem.W.hasDictIn K C = true
  po : PySem.W.plainOver K C = true
  sa : PySem.W.findIn K (.ref C) "__setattr__" = some (some (.builtin "object.__setattr__"))
theorem Cls.get {K : PySem.W.Frag} {C : Addr} (c : Cls K C) (f : Str) : PySem.W.plainGet K C f = true := c.pg
/-- no class of it has the name -/
def NoAttr (K : PySem.W.Frag) (C : Addr) (f : Str) : Prop := PySem.W.findIn K (.ref C) f = some none
theorem NoAttr.taker {K : PySem.W.Frag} {C : Addr} {f : Str} (n : NoAttr K C f) : PySem.W.takerIn K C f = some none := by
  unfold PySem.W.takerIn
  rw [show PySem.W.findIn K (.ref C) f = some none from n]
  rfl
/-- a method: a plain def of the class or of one above it -/
structure Meth (K : PySem.W.Frag) (C : Addr) (m : Str) (f : Addr) : Prop where
  at_ : PySem.W.findIn K (.ref C) m = some (some (.ref f))
  fn : PySem.W.isFn K (.ref f) = true
  kp : PySem.W.keepIn K (.ref f) = true
section
variable {X : Cx} {pins : List (Addr × Obj)} {σ : St} {H : Hp} {s : Shared} {a C dx : Addr} {fs : List (Str × V)} {f : Str} {v : V} {A : Around} {E : Value → Shared → Prop}
theorem getattr_ok {b : Bool} {Q : Value → Shared → Prop} (I : Inv X pins σ H s) (e : H a = some (.ins C dx fs)) (c : Cls X.K C) (n : NoAttr X.K C f) (l : fs.lookup f = some v)
    (h : ∀ u s', Inv X pins σ H s' → RelV v u → Q u s') : wpAny (model X.prog X.w) A (getAttr (.ref a) f b) Q E s := by
  obtain ⟨mA, O, r, _, _, _⟩ := ins_get I.hok e
  obtain ⟨u, hu, ru⟩ := RelO.some_of (v := v) (o := mA f) (by rw [← l]; exact r f)
  exact get_map I.kIn O (c.get f) c.hd n hu (handed_of ru) (h u _ (I.tok _) ru)
theorem getmeth_ok {m : Str} {g : Addr} {pl : Sem Bool} {Q : Value × List Value → Shared → Prop} (I : Inv X pins σ H s) (e : H a = some (.ins C dx fs)) (c : Cls X.K C) (k : Meth X.K C m g) (l : fs.lookup m = none)
    (h : Q (.ref g, [.ref a]) s) : wpAny (model X.prog X.w) A (getMethod (.ref a) m pl) Q E s := by
  obtain ⟨mA, O, r, _, _, _⟩ := ins_get I.hok e
  have hn : mA m = none := RelO.none_of (by rw [← l]; exact r m)
  exact get_meth I.kIn O (c.get m) k.at_ k.fn hn h
theorem setattr_ok {y : V} {u : Value} {Q : Unit → Shared → Prop} (I : Inv X pins σ H s) (e : H a = some (.ins C dx fs)) (c : Cls X.K C) (n : NoAttr X.K C f) (hl : fs.length < 1000) (ry : RelV y u)
    (h : ∀ s', Inv X pins σ (upd H a (.ins C dx (putF f y fs))) s' → Q () s') : wpAny (model X.prog X.w) A (setAttr (.ref a) f u) Q E s := by
  obtain ⟨mA, O, r, wi, _, ho⟩ := ins_get I.hok e
  have hz : (fs.map (·.1)).length ≤ sizeLine := by rw [List.length_map, sizeLine_eq]; omega
  refine set_map I.kIn O c.sa c.po n.taker c.hd wi hz fun h' O' sb => h _ ?_
  have hd : ∃ o, h'.get? dx = some o := let ⟨o, _, _, e', _⟩ := O'.ns; ⟨o, e'⟩
  refine I.write (x := a) (e := dx) (by rw [e]; exact True.intro) (.inr ho) (fun b q hb z => (sb.2 b hb).trans z) hd ?_
  refine ⟨by rw [upd_ne O.ne]; exact ho, ?_, O.ne, O'.obj, _, O'.ns, fun g => ?_, fun g hg => ?_⟩
  · have := length_putF f y fs; omega
  · show RelO ((putF f y fs).lookup g) (if g = f then some u else mA g)
    rw [lookup_putF]
    by_cases q : g = f
    · rw [if_pos q, if_pos q]; exact ry
    · rw [if_neg q, if_neg q]; exact r g
  · by_cases q : g = f
    · rw [q]; exact (keys_putF f y fs).1
    · refine (keys_putF f y fs).2 g (wi g fun z => hg ?_)
      show (if g = f then some u else mA g) = none
      rw [if_neg q]; exact z
/-- a new instance, tracked, without attributes -/
theorem Inv.made (I : Inv X pins σ H s) : Inv X pins σ (upd (upd H s.heap.objs.size (.own (s.heap.objs.size + 1))) (s.heap.objs.size + 1) (.ins C s.heap.objs.size []))
    { s with heap := (s.heap.push PySem.W.emptyDict).push (PySem.W.instObj C s.heap.objs.size) } := by
  have e1 : (s.heap.push PySem.W.emptyDict).get? s.heap.objs.size = some PySem.W.emptyDict := Heap.get?_push_size s.heap rfl
  have e2 : ((s.heap.push PySem.W.emptyDict).push (PySem.W.instObj C s.heap.objs.size)).get? (s.heap.objs.size + 1) = some (PySem.W.instObj C s.heap.objs.size) := by
    have := Heap.get?_push_size (s.heap.push PySem.W.emptyDict) (o := PySem.W.instObj C s.heap.objs.size) rfl
    rwa [Heap.size_push] at this
  have e3 : (s.heap.push PySem.W.emptyDict).Ns s.heap.objs.size (fun _ => none) := ⟨PySem.W.emptyDict, #[], _, e1, rfl, (fun e he => absurd he (by simp)), fun _ => rfl⟩
  have I1 := I.laid (a := s.heap.objs.size) (o := .own (s.heap.objs.size + 1)) (h' := s.heap.push PySem.W.emptyDict) (t' := s.toks) (fun b u q => Heap.get?_push_of_some _ q) (Nat.le_refl _) ⟨_, e1⟩
  refine I1.laid (a := s.heap.objs.size + 1) (o := .ins C s.heap.objs.size []) (t' := s.toks) (fun b u q => Heap.get?_push_of_some _ q) (Nat.le_of_eq (Heap.size_push _ _)) ?_
  have ne : s.heap.objs.size ≠ s.heap.objs.size + 1 := Nat.ne_of_lt (Nat.lt_succ_self _)
  refine ⟨by rw [upd_ne ne, upd_same], Nat.zero_le _, ne, e2, fun _ => none, (Heap.Ns1.of_empty e3).at fun o q => Heap.get?_push_of_some _ q, fun _ => True.intro, fun y hy => absurd rfl hy⟩
/-- e.f where nothing but the object is asked: through attributeBase (super) and the last hold -/
theorem attr_of {prog : Program} {w : World} {env : Env} {e : Expr} {f : Str} {pos : Pos} {s : Shared} {Q : Value → Shared → Prop} (hb : attributeBase e f env (eval e env) = eval e env)
    (h : wpAny (model prog w) A (eval e env) (fun o s₁ => wpAny (model prog w) A (getAttr o f true) Q E s₁) E s) : wpAny (model prog w) A (eval (.Attribute e f pos) env) Q E s :=
  Attribute_any_ h (by rw [arm_eval_Attribute, hb])
end
/-- e.f, an attribute of the instance -/
def tFld (K : PySem.W.Frag) (ta : TE) (f : Str) : TE := fun σ H Q => ta σ H fun x H1 => ∃ a C dx fs v, x = .ref a ∧ H1 a = some (.ins C dx fs) ∧ Cls K C ∧ NoAttr K C f ∧ fs.lookup f = some v ∧ Q v H1
/-- e.f = value -/
def sFld (K : PySem.W.Frag) (ta tv : TE) (f : Str) : TS := fun D σ H => tv σ H fun y H1 => ta σ H1 fun x H2 => ∃ a C dx fs, x = .ref a ∧ H2 a = some (.ins C dx fs) ∧ Cls K C ∧ NoAttr K C f ∧ fs.length < 1000 ∧
  D.nx σ (upd H2 a (.ins C dx (putF f y fs)))
section
variable {X : Cx} {o e value : Expr} {f : Str} {pos pos' tpos : Pos} {ta tv : TE}
theorem pe_fld (he : PE X e ta) (hb : attributeBase e f X.env (eval e X.env) = eval e X.env) : PE X (.Attribute e f pos) (tFld X.K ta f) := by
  intro pins s σ H Q I h
  refine attr_of hb (thn (he pins s σ H _ I h) fun u s1 ⟨x, H1, I1, rx, a, C, dx, fs, v, ex, ea, c, n, l, q⟩ => ?_)
  subst ex
  obtain rfl : u = Value.ref a := rx
  exact getattr_ok I1 ea c n l fun u' s2 I2 ru => ⟨v, H1, I2, ru, q⟩
theorem ps_fld (ha : PE X o ta) (hv : PE X value tv) (hs : swapsWith value (some (.Attribute o f pos')) pos.line X.env = pure false) : PS X (.Assign [.Attribute o f pos'] value pos) (sFld X.K ta tv f) := by
  intro pins s σ H D I h
  refine plainObj_wpAny_Assign_Attribute (thn (hv pins s σ H _ I h) fun u s1 ⟨y, H1, I1, ry, q⟩ => thn (ha pins s1 σ H1 _ I1 q) fun ov s2 ⟨x, H2, I2, rx, a, C, dx, fs, ex, ea, c, n, l, q2⟩ => ?_) hs
  subst ex
  obtain rfl : ov = Value.ref a := rx
  exact setattr_ok I2 ea c n l ry fun s3 I3 => ⟨σ, _, I3, q2⟩
end
section
variable {X : Cx} {pins : List (Addr × Obj)} {σ : St} {H : Hp} {s : Shared} {A : Around} {E : Value → Shared → Prop} {Q : Value → Shared → Prop} {c : Value} {b : Bool}
end
end L2
namespace L2
open PySem PySem.Spec PyProof.Rows
structure Room (k : Nat) (A : Around) : Prop where
  hd : A.handled = none
  dp : A.depth + 3 * k + 5 < recursionLimit
  un : A.units + 16 * k + 200 < cLine
theorem Room.mono {j k : Nat} {A : Around} (r : Room k A) (h : j ≤ k) : Room j A := ⟨r.hd, by have := r.dp; omega, by have := r.un; omega⟩
theorem Room.deeper {k : Nat} {A : Around} (r : Room (k + 1) A) (env : Env) : Room k (A.deeper env) :=
  ⟨r.hd, by have := r.dp; show A.depth + 1 + 3 * k + 5 < _; omega, by have := r.un; show A.units + 3 + 16 * k + 200 < _; omega⟩
theorem Room.in1 {k : Nat} {A : Around} (r : Room (k + 1) A) : Room k A.in1 :=
  ⟨r.hd, by have := r.dp; show A.depth + 3 * k + 5 < _; omega, by have := r.un; show A.units + 1 + 16 * k + 200 < _; omega⟩
theorem make_depth {A : Around} {C : Addr} {us : List Value} {kw : List (Str × Value)} : (A.under (.builtin "type.__call__" ⟨.ref C :: us, kw⟩)).depth = A.depth + 1 := by
  first | rfl | simp [Around.under, Code.weight, Code.isCreation, Code.isGuard, Code.isCaller, Code.frames, Code.isFrame, guardIds]
theorem make_units {A : Around} {C : Addr} {us : List Value} {kw : List (Str × Value)} : (A.under (.builtin "type.__call__" ⟨.ref C :: us, kw⟩)).units = A.units + 1 := by
  first | rfl | simp [Around.under, Code.cUnits, Code.frames, Code.isFrame]
theorem Room.make {k : Nat} {A : Around} (r : Room (k + 1) A) (C : Addr) (us : List Value) (kw : List (Str × Value)) : Room k (A.under (.builtin "type.__call__" ⟨.ref C :: us, kw⟩)) :=
  ⟨r.hd, by have := r.dp; rw [make_depth]; omega, by have := r.un; rw [make_units]; omega⟩
theorem Room.depth {k : Nat} {A : Around} (r : Room k A) : A.depth < recursionLimit := by have := r.dp; omega
theorem Room.units {k : Nat} {A : Around} (r : Room k A) : A.units + 64 < cLine := by have := r.un; omega
def tNil : TA := fun _ H Q => Q [] H
def tCons (ta : TE) (tr : TA) : TA := fun σ H Q => ta σ H fun x H1 => tr σ H1 fun xs H2 => Q (x :: xs) H2
section
variable {X : Cx} {e : Expr} {es : List Expr} {te : TE} {t : TA} {pos : Pos}
theorem pa_nil : PA X [] tNil := fun _ _ _ _ H Q I h => Calls.spliced_nil ⟨[], H, I, .nil, h⟩
theorem pa_cons (ha : PE X e te) (hr : PA X es t) (hs : starEach (e :: es) X.env = (false, eval e X.env) :: starEach es X.env := by rfl) : PA X (e :: es) (tCons te t) := by
  intro pos pins s σ H Q I h
  rw [hs]
  show wpAny _ _ (spliced ((false, eval e X.env) :: backTo pos (starEach es X.env))) _ _ s
  refine Calls.spliced_cons (thn (ha pins s σ H _ I h) fun u s1 ⟨x, H1, I1, r1, q1⟩ => ?_)
  exact thn (hr pos pins s1 σ H1 _ I1 q1) fun us s2 ⟨xs, H2, I2, r2, q2⟩ => ⟨x :: xs, H2, I2, .cons r1 r2, q2⟩
/-- a tuple, a list of written items -/
def tTup (t : TA) : TE := fun σ H Q => t σ H fun xs H1 => xs.length ≤ sizeLine ∧ ∀ p, H1 p = none → Q (.ref p) (upd H1 p (.tup xs))
def tLst (t : TA) : TE := fun σ H Q => t σ H fun xs H1 => xs.length ≤ sizeLine ∧ ∀ p, H1 p = none → Q (.ref p) (upd H1 p (.lst xs))
theorem pe_tup {x1} (h : PA X es t) : PE X (.Tuple es x1 pos) (tTup t) := by
  intro pins s σ H Q I hq
  refine wpAny_Tuple_spliced (thn (h pos pins s σ H _ I hq) fun us s1 ⟨xs, H1, I1, r, z, q⟩ => ⟨by rw [← r.length]; exact z, ?_⟩)
  have hf : H1 s1.heap.objs.size = none := I1.hok.fresh (Nat.le_refl _)
  refine ⟨.ref s1.heap.objs.size, upd H1 s1.heap.objs.size (.tup xs), I1.laid (t' := s1.toks) (fun b u e => Heap.get?_push_of_some _ e) (Nat.le_refl _) ?_, rfl, q _ hf⟩
  exact ⟨z, us, r, ⟨_, Heap.get?_push_size _ rfl, rfl, _, rfl⟩⟩
theorem pe_lst (h : PA X es t) : PE X (.List es pos) (tLst t) := by
  intro pins s σ H Q I hq
  refine wpAny_List_spliced (thn (h pos pins s σ H _ I hq) fun us s1 ⟨xs, H1, I1, r, z, q⟩ => ⟨by rw [← r.length]; exact z, ?_⟩)
  have hf : H1 s1.heap.objs.size = none := I1.hok.fresh (Nat.le_refl _)
  refine ⟨.ref s1.heap.objs.size, upd H1 s1.heap.objs.size (.lst xs), I1.laid (t' := s1.toks) (fun b u e => Heap.get?_push_of_some _ e) (Nat.le_refl _) ?_, rfl, q _ hf⟩
  exact ⟨z, us, 0, r, Heap.get?_push_size _ rfl⟩
end
/-- a def's promise: the bound arguments in the parameters' order, the heap, the wanted end, the wanted exception -/
abbrev Sp := List V → Hp → VK → XK → Prop
/-- how an exception lies behind a call (file 08 gives it): the callers' frames, abstract heap and state ahead of the call, the wish, the exception, the state -/
abbrev CXT := List Env → Hp → Shared → XK → Value → Shared → Prop
/-- the state at a call -/
structure Env0 (P : Program) (w : World) (K : PySem.W.Frag) (mg : Str → Option Value) (base : Heap) (A : Around) (outer : List Env) (s : Shared) (H : Hp) : Prop where
  frames : A.frames = some outer
  mod : Mod K mg base
  bs : ∀ b o, base.get? b = some o → s.heap.get? b = some o ∧ H b = none
  bsz : base.objs.size ≤ s.heap.objs.size
  funs : s.heap.FunFrames base outer
  frf : ∀ b ∈ frs outer, H b = none
  hok : HOk P w H s.heap
  bare : AllBare s.gens
/-- a call's end -/
def CE (outer : List Env) (P : Program) (w : World) (H : Hp) (s : Shared) (Q : VK) (u : Value) (s' : Shared) : Prop :=
  ∃ v H', s'.os = s.os ∧ AllBare s'.gens ∧ Un (frs outer) [] H H' s.heap s'.heap ∧ HOk P w H' s'.heap ∧ RelV v u ∧ Q v H'
def CR (CX : CXT) (outer : List Env) (P : Program) (w : World) (H : Hp) (s : Shared) (Q : VK) (E : XK) (r : Result) (s' : Shared) : Prop :=
  match r with
  | .ok (.ret u) => CE outer P w H s Q u s'
  | .ok _ => False
  | .error e => CX outer H s E e s'
structure FnOk (P : Program) (w : World) (K : PySem.W.Frag) (mg : Str → Option Value) (base : Heap) (CX : CXT) (k : Nat) (f : Addr) (fd : FuncData) (ps : List Str) (sp : Sp) : Prop where
  len : ∀ vs H Q E, sp vs H Q E → vs.length = ps.length
  run : ∀ (A : Around) (outer : List Env) (s : Shared) (H : Hp) (args : Args) (us : List Value) (vs : List V) (Q : VK) (E : XK), Room k A → Env0 P w K mg base A outer s H → BindsTo s fd args (ps.zip us) → Vals vs us → sp vs H Q E →
    codeAny (model P w) A (.call (.ref f) args) (CR CX outer P w H s Q E) s
theorem FnOk.mono {P : Program} {w : World} {K : PySem.W.Frag} {mg : Str → Option Value} {base : Heap} {CX : CXT} {j k : Nat} {f : Addr} {fd : FuncData} {ps : List Str} {sp : Sp} (F : FnOk P w K mg base CX j f fd ps sp) (h : j ≤ k) :
    FnOk P w K mg base CX k f fd ps sp := ⟨F.len, fun A outer s H args us vs Q E hr => F.run A outer s H args us vs Q E (hr.mono h)⟩
theorem Env0.make {P : Program} {w : World} {K : PySem.W.Frag} {mg : Str → Option Value} {base : Heap} {A : Around} {outer : List Env} {s : Shared} {H : Hp} (e : Env0 P w K mg base A outer s H) (C : Addr) (us : List Value) (kw : List (Str × Value)) :
    Env0 P w K mg base (A.under (.builtin "type.__call__" ⟨.ref C :: us, kw⟩)) outer s H := ⟨by first | exact e.frames | (simpa [Around.under, Code.envs, Code.isFrame, pushEnvs] using e.frames), e.mod, e.bs, e.bsz, e.funs, e.frf, e.hok, e.bare⟩
theorem Env0.in1 {P : Program} {w : World} {K : PySem.W.Frag} {mg : Str → Option Value} {base : Heap} {A : Around} {outer : List Env} {s : Shared} {H : Hp} (e : Env0 P w K mg base A outer s H) :
    Env0 P w K mg base A.in1 outer s H := ⟨e.frames, e.mod, e.bs, e.bsz, e.funs, e.frf, e.hok, e.bare⟩
section
variable {X : Cx} {pins : List (Addr × Obj)} {σ : St} {H : Hp} {s s' : Shared}
/-- from a body: what a callee wants -/
theorem Inv.env0 (I : Inv X pins σ H s) : Env0 X.prog X.w X.K X.mg X.base X.A X.stack s H :=
  ⟨I.ok.frames, I.ok.mod, I.bs, Nat.le_trans I.ok.bsz I.sz, I.stack, I.stkFree, I.hok, I.bare⟩
/-- behind a call -/
theorem Inv.after {Q : VK} {u : Value} (I : Inv X pins σ H s) (h : CE X.stack X.prog X.w H s Q u s') : EP X pins σ Q u s' := by
  obtain ⟨v, H', os, bare, un, hok, r, q⟩ := h
  obtain ⟨hh, g, d, t, os'⟩ := s'
  obtain rfl : os' = s.os := os
  exact ⟨v, H', I.call (h' := hh) (g' := g) (d' := d) (t' := t) (ch := []) un hok bare (fun b z => absurd z (by simp)), r, q⟩
end
/-- f(..): the written arguments, then the defaults dvs; E: what is wanted of an exception -/
def tCall (sp : Sp) (dvs : List V) (E : XK) (t : TA) : TE := fun σ H Q => t σ H fun vs H1 => sp (vs ++ dvs) H1 Q E
/-- o.m(..) of an instance of the class at C -/
def tMeth (C : Addr) (m : Str) (sp : Sp) (dvs : List V) (E : XK) (ta : TE) (t : TA) : TE := fun σ H Q => ta σ H fun x H1 => ∃ a dx fs, x = .ref a ∧ H1 a = some (.ins C dx fs) ∧ fs.lookup m = none ∧
  t σ H1 fun vs H2 => sp (x :: (vs ++ dvs)) H2 Q E
/-- C(..): a new instance and its dict, then __init__ -/
def tMake (C : Addr) (sp : Sp) (dvs : List V) (E : XK) (t : TA) : TE := fun σ H Q => t σ H fun vs H1 => ∀ x dx, H1 x = none → H1 dx = none → dx ≠ x →
  sp (.ref x :: (vs ++ dvs)) (upd (upd H1 dx (.own x)) x (.ins C dx [])) (fun v H2 => v = .non ∧ Q (.ref x) H2) E
/-- how the parameters are bound: us the positional arguments, kw the keywords' values by name, ds the defaults that fill up -/
def Binds (K : PySem.W.Frag) (fd : FuncData) (ps : List Str) (ds : List Value) : Prop :=
  ∀ (s : Shared) (us : List Value), K.In s.heap → (us ++ ds).length = ps.length → BindsTo s fd ⟨us, []⟩ (ps.zip (us ++ ds))
/-- every parameter is given -/
theorem Binds.all {K : PySem.W.Frag} {fd : FuncData} {ps : List Str} (h : ∀ us : List Value, us.length = ps.length → bindArgs fd ⟨us, []⟩ = pure (ps.zip us)) : Binds K fd ps [] := fun s us _ hl => by
  rw [List.append_nil] at hl ⊢
  exact .of_eq (h us hl)
/-- an exception of a callee reaches what this body wants of exceptions -/
def Passes (CX : CXT) (X : Cx) (E : XK) : Prop := ∀ (pins : List (Addr × Obj)) (σ : St) (H : Hp) (s : Shared) (e : Value) (s' : Shared), Inv X pins σ H s → CX X.stack H s E e s' → X.xe e s'
section
variable {X : Cx} {CX : CXT} {k : Nat} {f C : Addr} {fd : FuncData} {ps : List Str} {sp : Sp} {dvs : List V} {ds : List Value} {E : XK} {x m : Str} {p pos apos : Pos} {e o : Expr} {es : List Expr} {ta : TE} {t : TA}
/-- the callee runs -/
theorem run_fn {pins : List (Addr × Obj)} {σ : St} {H : Hp} {s : Shared} {Q : VK} {us : List Value} {vs : List V} (F : FnOk X.prog X.w X.K X.mg X.base CX k f fd ps sp) (hr : Room k X.A) (hb : Binds X.K fd ps ds) (hd : Vals dvs ds) (hx : Passes CX X E)
    (I : Inv X pins σ H s) (r : Vals vs us) (h : sp (vs ++ dvs) H Q E) : wpAny (model X.prog X.w) X.A (call (.ref f) us) (EP X pins σ Q) X.xe s := by
  have r2 : Vals (vs ++ dvs) (us ++ ds) := r.append hd
  have hl : (us ++ ds).length = ps.length := by rw [← r2.length]; exact F.len _ _ _ _ h
  refine wpAny_call (codeAny_mono (F.run X.A X.stack s H ⟨us, []⟩ (us ++ ds) (vs ++ dvs) Q E hr I.env0 (hb s us I.kIn hl) r2 h) fun r s' hq => ?_)
  cases r with
  | error e => exact hx pins σ H s e s' I hq
  | ok fl =>
    cases fl with
    | ret u => exact I.after hq
    | next => exact False.elim hq
    | brk => exact False.elim hq
    | cont => exact False.elim hq
theorem pe_call (F : FnOk X.prog X.w X.K X.mg X.base CX k f fd ps sp) (hr : Room k X.A) (hg : Gl X x) (hm : X.mg x = some (.ref f)) (hk : PySem.W.keepIn X.K (.ref f) = true) (hb : Binds X.K fd ps ds) (hd : Vals dvs ds) (hx : Passes CX X E)
    (ha : PA X (e :: es) t) (hdb : (x == ("__debug__" : Str)) = false := by decide) (he : starEach (e :: es) X.env = (false, eval e X.env) :: starEach es X.env := by rfl) (hpl : (backTo pos (starEach es X.env)).any (·.1) = false := by rfl) :
    PE X (.Call (.Name x p) (e :: es) [] pos) (tCall sp dvs E t) := by
  intro pins s σ H Q I h
  refine wpAny_Call_Name_kw (ld_glob I hg hm ?_ hdb)
  refine PySem.W.callWith_K (h₀ := X.base) I.ok.mod.kin hk (thn (ha pos pins s σ H _ I h) fun us s1 ⟨vs, H1, I1, r, q⟩ => ⟨I1.kIn, ?_⟩) he hpl
  exact run_fn F hr hb hd hx I1 r q
/-- o.m(e, ..) -/
theorem pe_meth {pl : Sem Bool} (he : PE X o ta) (c : Cls X.K C) (hm : Meth X.K C m f) (F : FnOk X.prog X.w X.K X.mg X.base CX k f fd ps sp) (hr : Room k X.A) (hb : Binds X.K fd ps ds) (hd : Vals dvs ds) (hx : Passes CX X E) (ha : PA X (e :: es) t)
    (hst : starEach (e :: es) X.env = (false, eval e X.env) :: starEach es X.env := by rfl) (hpl : (backTo pos (starEach es X.env)).any (·.1) = false := by rfl)
    (ht : eval (.Call (.Attribute o m apos) (e :: es) [] pos) X.env = (do
      let ov ← eval o X.env
      standAt apos.atName
      let (f, first) ← holding [ov] (getMethod ov m pl)
      callWith pos f first (backTo pos (starEach (e :: es) X.env)) (backToKw pos (keywordEach [] X.env))) := by rfl) :
    PE X (.Call (.Attribute o m apos) (e :: es) [] pos) (tMeth C m sp dvs E ta t) := by
  intro pins s σ H Q I h
  refine PySem.W.methodCall_KW (pl := pl) (thn (he pins s σ H _ I h) fun u s1 ⟨x, H1, I1, rx, a, dx, fs, ex, ea, l, q⟩ => ?_) ht
  subst ex
  obtain rfl : u = Value.ref a := rx
  refine getmeth_ok I1 ea c hm l ?_
  refine PySem.W.callWith_K (first := [.ref a]) (h₀ := X.base) I.ok.mod.kin hm.kp (thn (ha pos pins s1 σ H1 _ I1 q) fun us s2 ⟨vs, H2, I2, r, q2⟩ => ⟨I2.kIn, ?_⟩) hst hpl
  exact run_fn (us := .ref a :: us) (vs := .ref a :: vs) F hr hb hd hx I2 (.cons rfl r) q2
/-- o.m() -/
theorem pe_meth0 {pl : Sem Bool} (he : PE X o ta) (c : Cls X.K C) (hm : Meth X.K C m f) (F : FnOk X.prog X.w X.K X.mg X.base CX k f fd ps sp) (hr : Room k X.A) (hb : Binds X.K fd ps ds) (hd : Vals dvs ds) (hx : Passes CX X E)
    (ht : eval (.Call (.Attribute o m apos) [] [] pos) X.env = (do
      let ov ← eval o X.env
      standAt apos.atName
      let (f, first) ← holding [ov] (getMethod ov m pl)
      callWith pos f first (backTo pos (starEach [] X.env)) (backToKw pos (keywordEach [] X.env))) := by rfl) :
    PE X (.Call (.Attribute o m apos) [] [] pos) (tMeth C m sp dvs E ta tNil) := by
  intro pins s σ H Q I h
  refine PySem.W.methodCall_KW (pl := pl) (thn (he pins s σ H _ I h) fun u s1 ⟨x, H1, I1, rx, a, dx, fs, ex, ea, l, q⟩ => ?_) ht
  subst ex
  obtain rfl : u = Value.ref a := rx
  refine getmeth_ok I1 ea c hm l ?_
  exact PySem.W.callWith_K0 (first := [.ref a]) I1.kIn hm.kp (run_fn (us := [.ref a]) (vs := [.ref a]) F hr hb hd hx I1 (.cons rfl .nil) q)
/-- what a class must have to be made -/
structure Mk (K : PySem.W.Frag) (C f : Addr) : Prop where
  makes : PySem.W.makesIn K C = true
  init : PySem.W.findIn K (.ref C) "__init__" = some (some (.ref f))
  fn : PySem.W.isFn K (.ref f) = true
  kp : PySem.W.keepIn K (.ref C) = true
theorem run_make {pins : List (Addr × Obj)} {σ : St} {H : Hp} {s : Shared} {Q : VK} {us : List Value} {vs : List V} (M : Mk X.K C f) (F : FnOk X.prog X.w X.K X.mg X.base CX k f fd ps sp) (hr : Room (k + 1) X.A) (hb : Binds X.K fd ps ds) (hd : Vals dvs ds)
    (hx : Passes CX X E) (I : Inv X pins σ H s) (r : Vals vs us)
    (h : ∀ x dx, H x = none → H dx = none → dx ≠ x → sp (.ref x :: (vs ++ dvs)) (upd (upd H dx (.own x)) x (.ins C dx [])) (fun v H2 => v = .non ∧ Q (.ref x) H2) E) :
    wpAny (model X.prog X.w) X.A (call (.ref C) us) (EP X pins σ Q) X.xe s := by
  have hq := h (s.heap.objs.size + 1) s.heap.objs.size (I.hok.fresh (Nat.le_succ _)) (I.hok.fresh (Nat.le_refl _)) (Nat.ne_of_lt (Nat.lt_succ_self _))
  have I2 := Inv.made (C := C) I
  have r2 : Vals (V.ref (s.heap.objs.size + 1) :: (vs ++ dvs)) (Value.ref (s.heap.objs.size + 1) :: (us ++ ds)) := .cons rfl (r.append hd)
  have hl : (Value.ref (s.heap.objs.size + 1) :: us ++ ds).length = ps.length := by
    have e := r2.length
    rw [F.len _ _ _ _ hq] at e
    exact e.symm
  refine wpAny_call (make_map (f := f) I.kIn M.makes M.init (beq_iff_eq.mp M.fn) (codeAny_mono (F.run _ X.stack _ _ ⟨Value.ref (s.heap.objs.size + 1) :: us, []⟩ (Value.ref (s.heap.objs.size + 1) :: (us ++ ds)) _ _ E (hr.make C us [])
    (I2.env0.make C us []) (hb _ (Value.ref (s.heap.objs.size + 1) :: us) I2.kIn hl) r2 hq) fun r s' hq' => ?_))
  cases r with
  | error e => exact hx pins σ _ _ e s' I2 hq'
  | ok fl =>
    cases fl with
    | ret u =>
      obtain ⟨v, H', I3, rv, ev, q3⟩ := I2.after hq'
      subst ev
      exact ⟨rv, ⟨V.ref (s.heap.objs.size + 1), H', I3, rfl, q3⟩⟩
    | next => exact False.elim hq'
    | brk => exact False.elim hq'
    | cont => exact False.elim hq'
theorem pe_make (M : Mk X.K C f) (F : FnOk X.prog X.w X.K X.mg X.base CX k f fd ps sp) (hr : Room (k + 1) X.A) (hg : Gl X x) (hm : X.mg x = some (.ref C)) (hb : Binds X.K fd ps ds) (hd : Vals dvs ds) (hx : Passes CX X E)
    (ha : PA X (e :: es) t) (hdb : (x == ("__debug__" : Str)) = false := by decide) (he : starEach (e :: es) X.env = (false, eval e X.env) :: starEach es X.env := by rfl) (hpl : (backTo pos (starEach es X.env)).any (·.1) = false := by rfl) :
    PE X (.Call (.Name x p) (e :: es) [] pos) (tMake C sp dvs E t) := by
  intro pins s σ H Q I h
  refine wpAny_Call_Name_kw (ld_glob I hg hm ?_ hdb)
  refine PySem.W.callWith_K (h₀ := X.base) I.ok.mod.kin M.kp (thn (ha pos pins s σ H _ I h) fun us s1 ⟨vs, H1, I1, r, q⟩ => ⟨I1.kIn, ?_⟩) he hpl
  exact run_make M F hr hb hd hx I1 r q
theorem pe_make0 (M : Mk X.K C f) (F : FnOk X.prog X.w X.K X.mg X.base CX k f fd ps sp) (hr : Room (k + 1) X.A) (hg : Gl X x) (hm : X.mg x = some (.ref C)) (hb : Binds X.K fd ps ds) (hd : Vals dvs ds) (hx : Passes CX X E)
    (hdb : (x == ("__debug__" : Str)) = false := by decide) : PE X (.Call (.Name x p) [] [] pos) (tMake C sp dvs E tNil) := by
  intro pins s σ H Q I h
  refine wpAny_Call_Name_kw (ld_glob I hg hm ?_ hdb)
  exact PySem.W.callWith_K0 I.kIn M.kp (run_make (us := []) M F hr hb hd hx I .nil h)
end
/-- the values of the keywords, from the left -/
def PK (X : Cx) (kws : List Keyword) (t : TA) : Prop :=
  ∀ (pos : Pos) (pins : List (Addr × Obj)) (s : Shared) (σ : St) (H : Hp) (Q : List V → Hp → Prop), Inv X pins σ H s → t σ H Q → wpAny (model X.prog X.w) X.A (evalAll ((backToKw pos (keywordEach kws X.env)).map (·.2))) (AP X pins σ Q) X.xe s
section
variable {X : Cx} {CX : CXT} {k : Nat} {f C : Addr} {fd : FuncData} {ps ks : List Str} {sp : Sp} {E : XK} {x m : Str} {p pos apos kpos : Pos} {e o : Expr} {es : List Expr} {kws : List Keyword} {te ta : TE} {t tk : TA} {nm : Option Str}
theorem pk_nil : PK X [] tNil := fun _ _ _ _ H Q I h => wpAny_evalAll_nil ⟨[], H, I, .nil, h⟩
theorem pk_cons (ha : PE X e te) (hr : PK X kws t) : PK X (⟨nm, e, kpos⟩ :: kws) (tCons te t) := by
  intro pos pins s σ H Q I h
  show wpAny _ _ (evalAll ((do let v ← eval e X.env; standAt pos; pure v) :: (backToKw pos (keywordEach kws X.env)).map (·.2))) _ _ s
  refine wpAny_evalAll_cons (wpAny_bind (thn (ha pins s σ H _ I h) fun u s1 ⟨x, H1, I1, r1, q1⟩ => wpAny_bind (wpAny_standAt (wpAny_pure ?_))))
  exact thn (hr pos pins s1 σ H1 _ I1 q1) fun us s2 ⟨xs, H2, I2, r2, q2⟩ => ⟨x :: xs, H2, I2, .cons r1 r2, q2⟩
variable {g : List Value → List Value → List Value} {gV : List V → List V → List V}
end
/-- names: the parameters first -/
structure FnScope (N P : List Str) (sc : Scope) : Prop where
  kind : sc.kind = .function
  co : sc.isCoroutine = false
  gen : sc.isGenerator = false
  nd : N.Nodup
  pre : N.take P.length = P
  par : ∀ x ∈ P, sc.names.lookup x = some .local ∨ sc.names.lookup x = some .cell
  nofree : ∀ y ∈ sc.names, y.2 ≠ .free
theorem bindL_out {kindOf : Str → Option NameKind} {x : Str} : ∀ {binds : List (Str × Value)} {m : Str → Option Value}, (∀ v, (x, v) ∉ binds) → bindL kindOf binds m x = m x
  | [], _, _ => rfl
  | (n, v) :: r, m, h => by
    unfold bindL
    rw [bindL_out fun w hw => h w (List.mem_cons_of_mem _ hw)]
    split
    · have : x ≠ n := by rintro rfl; exact h v List.mem_cons_self
      simp [this]
    · rfl
theorem bindC_out {kindOf : Str → Option NameKind} {x : Str} : ∀ {binds : List (Str × Value)} {m : Str → Option Value}, (∀ v, (x, v) ∉ binds) → bindC kindOf binds m x = m x
  | [], _, _ => rfl
  | (n, v) :: r, m, h => by
    unfold bindC
    rw [bindC_out fun w hw => h w (List.mem_cons_of_mem _ hw)]
    split
    · rfl
    · have : x ≠ n := by rintro rfl; exact h v List.mem_cons_self
      simp [this]
theorem bindL_get {kindOf : Str → Option NameKind} {x : Str} {v : Value} : ∀ {P : List Str} {vs : List Value} {i : Nat} {m : Str → Option Value}, P.Nodup → P[i]? = some x → vs[i]? = some v → kindOf x = some .local →
    bindL kindOf (P.zip vs) m x = some v
  | [], _, _, _, _, h, _, _ => by simp at h
  | _ :: _, [], _, _, _, _, h, _ => by simp at h
  | p :: P, w :: vs, 0, m, nd, h1, h2, hk => by
    simp at h1 h2; subst h1; subst h2
    show bindL kindOf ((p, w) :: P.zip vs) m p = _
    unfold bindL
    rw [bindL_out fun v hv => (List.nodup_cons.mp nd).1 (List.of_mem_zip hv).1, if_pos hk]
    simp
  | p :: P, w :: vs, i + 1, m, nd, h1, h2, hk => by
    show bindL kindOf ((p, w) :: P.zip vs) m x = _
    unfold bindL
    exact bindL_get (i := i) (List.nodup_cons.mp nd).2 (by simpa using h1) (by simpa using h2) hk
theorem bindC_get {kindOf : Str → Option NameKind} {x : Str} {v : Value} : ∀ {P : List Str} {vs : List Value} {i : Nat} {m : Str → Option Value}, P.Nodup → P[i]? = some x → vs[i]? = some v → kindOf x ≠ some .local →
    bindC kindOf (P.zip vs) m x = some v
  | [], _, _, _, _, h, _, _ => by simp at h
  | _ :: _, [], _, _, _, _, h, _ => by simp at h
  | p :: P, w :: vs, 0, m, nd, h1, h2, hk => by
    simp at h1 h2; subst h1; subst h2
    show bindC kindOf ((p, w) :: P.zip vs) m p = _
    unfold bindC
    rw [bindC_out fun v hv => (List.nodup_cons.mp nd).1 (List.of_mem_zip hv).1, if_neg hk]
    simp
  | p :: P, w :: vs, i + 1, m, nd, h1, h2, hk => by
    show bindC kindOf ((p, w) :: P.zip vs) m x = _
    unfold bindC
    exact bindC_get (i := i) (List.nodup_cons.mp nd).2 (by simpa using h1) (by simpa using h2) hk
/-- the names' values at the entry -/
def start (N : List Str) (vs : List V) : St := vs.map some ++ List.replicate (N.length - vs.length) none
/-- the context of a def's body, at its entry; an exception leaves the frame, then lies as CX says -/
def cxOf (CX : CXT) (P : Program) (w : World) (K : PySem.W.Frag) (mg : Str → Option Value) (base : Heap) (N : List Str) (qual : Str) (scope : Scope) (f : Addr) (cd : Value) (A : Around) (outer : List Env) (s : Shared) (H : Hp) (E : XK) : Cx where
  prog := P
  w := w
  K := K
  mg := mg
  base := base
  A := A.deeper (envOfC qual scope s.heap.objs.size f cd)
  N := N
  s_0 := s
  H_0 := H
  env := envOfC qual scope s.heap.objs.size f cd
  outer := outer
  stack := envOfC qual scope s.heap.objs.size f cd :: outer
  ex := []
  calm := true
  fn := fun _ => true
  pn := []
  xe := fun e s' => wpAny (model P w) (A.deeper (envOfC qual scope s.heap.objs.size f cd)) (leaving (envOfC qual scope s.heap.objs.size f cd) e) (fun _ s'' => CX outer H s E e s'') (fun e' s'' => CX outer H s E e' s'') s'
theorem cell_has {sc : Scope} {n : Nat} {x : Str} (h : sc.names.lookup x = some .cell) : ∃ c, (cellsFrom n sc.names []).lookup x = some c := by
  have q := PySem.W.cellsFrom_some sc.names n [] (.inl h)
  exact Option.isSome_iff_exists.mp q
theorem inv_start {CX : CXT} {P : Program} {w : World} {K : PySem.W.Frag} {mg : Str → Option Value} {base : Heap} {N ps : List Str} {qual : Str} {scope : Scope} {f : Addr} {cd : Value} {A : Around} {outer : List Env} {s s1 : Shared} {H : Hp} {E : XK} {us : List Value} {vs : List V}
    (S : FnScope N ps scope) (hd : A.handled = none) (e0 : Env0 P w K mg base A outer s H) (hl : vs.length = ps.length) (r : Vals vs us)
    (x : InCallC s s.heap.objs.size (bindL (envOfC qual scope s.heap.objs.size f cd).kindOf (ps.zip us) fun _ => none) (cellsFrom (s.heap.objs.size + 1) scope.names []) (bindC (envOfC qual scope s.heap.objs.size f cd).kindOf (ps.zip us) fun _ => none) s1) :
    Inv (cxOf CX P w K mg base N qual scope f cd A outer s H E) [] (start N vs) H s1 := by
  have hpl : ps.length ≤ N.length := by have := congrArg List.length S.pre; rw [List.length_take] at this; omega
  obtain ⟨h1, tk, rfl, hk⟩ := x.done
  have noA : ∀ b : Addr, b ∉ (cxOf CX P w K mg base N qual scope f cd A outer s H E).ex := fun b z => absurd (show b ∈ ([] : List Addr) from z) (by simp)
  refine ⟨⟨e0.mod, S.kind, rfl, rfl, Nat.le_refl _, fun y z c h1 h2 => ?_, fun y hy => ?_, fun y c _ h => ?_, fun _ => hd, Around.frames_deeper e0.frames, .inr ⟨rfl, rfl⟩, fun b z => absurd z (noA b), e0.bs, e0.bsz, fun b _ _ => noA b, fun b z => absurd z (noA b), e0.funs, e0.frf⟩,
    rfl, e0.bare, Un.kept hk, ⟨_, x.toInCall.ns, fun i y v h1 h2 h3 => ?_⟩, fun y c h => ⟨_, x.cell y c h⟩, e0.hok.fresh (Nat.le_refl _), fun y c h => ?_, fun p hp => absurd (show p ∈ ([] : List (Addr × Obj)) from hp) (by simp), e0.hok.kept hk, ?_⟩
  · exact name_of_addr x.apart (PySem.mem_of_lookup h1) (PySem.mem_of_lookup h2)
  · have hy : scope.names.lookup y = some .cell ∨ scope.names.lookup y = some .free := hy
    rcases hy with hy | hy
    · exact cell_has hy
    · exact absurd rfl (S.nofree _ (PySem.mem_of_lookup hy))
  · exact Nat.le_of_lt (x.above y c (PySem.mem_of_lookup h))
  · have hi : i < vs.length := by
      unfold start at h2
      by_cases hi : i < vs.length
      · exact hi
      · rw [List.getElem?_append_right (by simpa using hi)] at h2
        rw [List.getElem?_replicate] at h2
        split at h2 <;> cases h2
    have ha : vs[i]? = some v := by
      unfold start at h2
      rw [List.getElem?_append_left (by simpa using hi), List.getElem?_map] at h2
      cases e : vs[i]? with
      | none => rw [e] at h2; cases h2
      | some a => rw [e] at h2; cases h2; rfl
    obtain ⟨u, hu, rv⟩ := r.get ha
    have hp : ps[i]? = some y := by
      rw [← S.pre, List.getElem?_take_of_lt (by omega)]; exact h1
    have ndP : ps.Nodup := by rw [← S.pre]; exact S.nd.sublist (List.take_sublist _ _)
    refine ⟨u, rv, ?_⟩
    rcases S.par y (List.mem_of_getElem? hp) with k | k
    · exact .inl ⟨k, bindL_get ndP hp hu k⟩
    · obtain ⟨c, e⟩ := cell_has (n := s.heap.objs.size + 1) k
      refine .inr ⟨.inl k, c, e, ?_⟩
      have q := x.cell y c e
      rw [bindC_get ndP hp hu (by show scope.names.lookup y ≠ _; rw [k]; decide)] at q
      exact q
  · exact e0.hok.fresh (Nat.le_of_lt (x.above y c (PySem.mem_of_lookup h)))
  · unfold start
    show _ = N.length
    rw [List.length_append, List.length_map, List.length_replicate]
    omega
/-- THE RULE: a def (or a method) of the text, by its body. The body's reading t is chosen for each entry; it is run at the parameters' values -/
theorem fn_of {CX : CXT} {P : Program} {w : World} {K : PySem.W.Frag} {mg : Str → Option Value} {base : Heap} {k : Nat} {f : Addr} {name qual : Str} {params : Arguments} {body : List Stmt} {scope : Scope} {dV kV doc pm cdv ct oc : Value} {an od : Option Addr}
    {osl : Array (Option Value)} {N ps : List Str} {sp : Sp} (lk : K.lookup f = some ⟨oc, od, .func (PySem.W.fnOf name qual params body scope dV kV doc pm an cdv ct), osl⟩) (hcd : PySem.W.codeIn K cdv qual = true) (S : FnScope N ps scope)
    (len : ∀ vs H Q E, sp vs H Q E → vs.length = ps.length)
    (hbody : ∀ (A : Around) (outer : List Env) (s : Shared) (H : Hp) (vs : List V) (Q : VK) (E : XK), Room k (A.deeper (envOfC qual scope s.heap.objs.size f cdv)) → sp vs H Q E →
      ∃ t, PSs (cxOf CX P w K mg base N qual scope f cdv A outer s H E) body t ∧ t { nx := fun _ H' => Q .non H', rt := Q } (start N vs) H) :
    FnOk P w K mg base CX (k + 1) f (PySem.W.fnOf name qual params body scope dV kV doc pm an cdv ct) ps sp := by
  refine ⟨len, fun A outer s H args us vs Q E hr e0 hb r hsp => ?_⟩
  have hl := len _ _ _ _ hsp
  have KX : K.In s.heap := e0.mod.kin.keeps fun b o e => (e0.bs b o e).1
  have lim : s.heap.NoLimit := e0.mod.nolimit.keeps fun b o e => (e0.bs b o e).1
  have hkind : ∀ y ∈ ps.zip us, scope.names.lookup y.1 = some .local ∨ (scope.names.lookup y.1 = some .cell ∧ ((cellsFrom (s.heap.objs.size + 1) scope.names []).lookup y.1).isSome = true) := fun ⟨n, v⟩ hy => by
    rcases S.par n (List.of_mem_zip hy).1 with q | q
    · exact .inl q
    · exact .inr ⟨q, PySem.W.cellsFrom_some _ _ _ (.inl q)⟩
  refine codeAny_call_function hr.depth (KX _ _ lk) rfl S.co S.gen rfl (PySem.W.codeRec_of KX hcd) (hb _ _ _ _ ?_)
  refine wpAny_newFunctionEnv_cells S.kind hkind fun env he s1 x => ?_
  subst he
  refine ⟨lim.keeps x.toInCall.keep, codeAny_func ?_⟩
  obtain ⟨t, ht, hq⟩ := hbody A outer s H vs Q E (hr.deeper _) hsp
  have I : Inv (cxOf CX P w K mg base N qual scope f cdv A outer s H E) [] (start N vs) H s1 := inv_start S hr.hd e0 hl r x
  refine wpAny_mono (ht [] s1 (start N vs) H _ I hq) (fun fl s' hs => ?_) fun e s' hs => hs
  have fin : ∀ {σ' : St} {H' : Hp} {v : V} {u : Value}, Inv (cxOf CX P w K mg base N qual scope f cdv A outer s H E) [] σ' H' s' → RelV v u → Q v H' → CE outer P w H s Q u s' :=
    fun {σ' H' v u} J rv q => ⟨v, H', J.os, J.bare, J.base, J.hok, rv, q⟩
  cases fl with
  | ret u =>
    obtain ⟨v, σ', H', J, rv, q⟩ := hs
    exact fin J rv q
  | next =>
    obtain ⟨σ', H', J, q⟩ := hs
    exact fin (v := V.non) (u := Value.none) J rfl q
  | brk =>
    obtain ⟨_, _, _, q⟩ := hs
    exact False.elim q
  | cont =>
    obtain ⟨_, _, _, q⟩ := hs
    exact False.elim q
end L2
namespace L2
open PySem PySem.Spec PyProof.Rows
section
variable {X : Cx} {x : Str} {p pos : Pos} {e : Expr} {es : List Expr} {t : TA} {id T : String} {r : List V → Hp → VK → Prop}
def tCB (r : List V → Hp → VK → Prop) (t : TA) : TE := fun σ H Q => t σ H fun vs H1 => r vs H1 Q
/-- f(e, ..), f a built-in function -/
theorem pe_callB (hc : CallR X (.builtin id) r) (hg : Gl X x) (hm : X.mg x = none) (hv : bootBuiltins x = some (.builtin id)) (ha : PA X (e :: es) t) (hn : x ≠ "__name__" := by decide) (hdb : (x == ("__debug__" : Str)) = false := by decide)
    (he : starEach (e :: es) X.env = (false, eval e X.env) :: starEach es X.env := by rfl) (hpl : (backTo pos (starEach es X.env)).any (·.1) = false := by rfl) : PE X (.Call (.Name x p) (e :: es) [] pos) (tCB r t) := by
  intro pins s σ H Q I h
  refine wpAny_Call_Name_kw (ld_blt I hg hm hv ?_ hn hdb)
  exact PyProof.Rows.callWith_builtin1 (thn (ha pos pins s σ H _ I h) fun us s1 ⟨vs, H1, I1, r1, q1⟩ => hc pins s1 σ H1 vs us Q I1 r1 q1) he hpl
/-- T(e, ..), T a built-in type -/
theorem pe_callTy (hc : CallR X (.type T) r) (hg : Gl X x) (hm : X.mg x = none) (hv : bootBuiltins x = some (.type T)) (ha : PA X (e :: es) t) (hn : x ≠ "__name__" := by decide) (hdb : (x == ("__debug__" : Str)) = false := by decide)
    (he : starEach (e :: es) X.env = (false, eval e X.env) :: starEach es X.env := by rfl) (hpl : (backTo pos (starEach es X.env)).any (·.1) = false := by rfl) : PE X (.Call (.Name x p) (e :: es) [] pos) (tCB r t) := by
  intro pins s σ H Q I h
  refine wpAny_Call_Name_kw (ld_blt I hg hm hv ?_ hn hdb)
  exact PyProof.Rows.callWith_type1 (thn (ha pos pins s σ H _ I h) fun us s1 ⟨vs, H1, I1, r1, q1⟩ => hc pins s1 σ H1 vs us Q I1 r1 q1) he hpl
end
end L2
namespace HT
open PySem PyProof.Rows
/-- t < u of tuples of ints -/
def lexLt : List Int → List Int → Bool
  | [], [] => false
  | [], _ :: _ => true
  | _ :: _, [] => false
  | x :: xs, y :: ys => if x = y then lexLt xs ys else decide (x < y)
theorem lexLt_cons (x y : Int) (xs ys : List Int) : lexLt (x :: xs) (y :: ys) = if x = y then lexLt xs ys else decide (x < y) := rfl
theorem lexLt_nil_nil : lexLt [] [] = false := rfl
theorem lexLt_nil_cons (y : Int) (ys : List Int) : lexLt [] (y :: ys) = true := rfl
theorem lexLt_cons_nil (x : Int) (xs : List Int) : lexLt (x :: xs) [] = false := rfl
theorem eqAt_int (A : Around) (s : Shared) (a : Int) (t : Tok) (c : Int) (u : Tok) : ∃ e, SeqAt.EqAt A s (.int a t) (.int c u) e ∧ (e = true ↔ a = c) :=
  ⟨(a == c), SeqAt.EqAt.int_int a t c u, by simp⟩
theorem rcLt_int (A : Around) (s : Shared) (a : Int) (t : Tok) (c : Int) (u : Tok) (prog : Program) (w : World) (E : Value → Shared → Prop) (Q : Value → Shared → Prop) (h : Q (.bool (decide (a < c))) s) :
    wpAny (model prog w) A (richCompare .Lt (.int a t) (.int c u)) Q E s :=
  (PyProof.Rows.lt_int h : wpAny (model prog w) A (compareOp .Lt (.int a t) (.int c u)) Q E s)
section
open PySem.SeqAt
open PySem.AutoSeq1 (wpAny_loadPart')
open PySem.MeetsSeq PySem.MeetsSeq2 PySem.MeetsSeq3
theorem tuple_lt_ints (l b : Addr) (items items2 : Array Value) (n n2 : Nat) (dd dd2 : Option Addr) (sl sl2 : Array (Option Value)) (ns ms : List Int) (hi : IntsAre items.toList ns) (hj : IntsAre items2.toList ms) :
    Meets (Builtin.«tuple.__lt__» ⟨[.ref l, .ref b], []⟩)
      (fun _ R s => s.heap.get? l = some { cls := .type "tuple", dict := dd, data := .seq items n, slots := sl } ∧ s.heap.get? b = some { cls := .type "tuple", dict := dd2, data := .seq items2 n2, slots := sl2 } ∧
        R (.ok (.ret (.bool (lexLt ns ms)))) s) :=
  .of_wp fun prog w A R s h => by
    obtain ⟨hp, g, d, tk, os⟩ := s; obtain ⟨hl, hb, h⟩ := h
    have f2 := AutoSeq1.sub_tuple_tuple
    have z1 : items.size = ns.length := by rw [← hi.length]; simp
    have z2 : items2.size = ms.length := by rw [← hj.length]; simp
    wp_walk using wpAny_loadPart' hl, wpAny_loadPart' hb, wpAny_forIn_list _ (fun rest b s' => b.1 = none ∧ s' = ⟨hp, g, d, tk, os⟩ ∧ ∃ (vs ws : List Value) (ns' ms' : List Int), rest = vs.zip ws ∧
      IntsAre vs ns' ∧ IntsAre ws ms' ∧ ns'.length + items2.size = ms'.length + items.size ∧ R (.ok (.ret (.bool (lexLt ns' ms')))) ⟨hp, g, d, tk, os⟩) _
    case turn =>
      rintro ⟨y, x⟩ rest b s' ⟨hb', rfl, vs, ws, ns', ms', hz, hvi, hwi, hlen, hR⟩
      cases hvi with
      | nil => rw [List.zip_nil_left] at hz; cases hz
      | cons a t hvi' =>
        cases hwi with
        | nil => rw [List.zip_nil_right] at hz; cases hz
        | cons c u hwi' =>
          rw [List.zip_cons_cons] at hz
          injection hz with hyx hrest
          injection hyx with hy hx
          subst hy hx
          rw [lexLt_cons] at hR
          simp only [List.length_cons] at hlen
          obtain ⟨e, he, hiff⟩ := eqAt_int A.in1 ⟨hp, g, d, tk, os⟩ a t c u
          refine wpAny_bind (he prog w _ _ ?_)
          cases e with
          | true =>
            rw [if_pos (hiff.mp rfl)] at hR
            wp_walk
            exact ⟨rfl, rfl, _, _, _, _, hrest, hvi', hwi', by omega, hR⟩
          | false =>
            rw [if_neg (fun q => absurd (hiff.mpr q) Bool.false_ne_true)] at hR
            have hri := rcLt_int A.in1 ⟨hp, g, d, tk, os⟩ a t c u prog w
            wp_walk using hri
            exact ⟨_, rfl, by simpa using hR⟩
    case fin =>
      rintro ⟨b1, b2⟩ s' ⟨hb', rfl, vs, ws, ns', ms', hz, hvi, hwi, hlen, hR⟩
      simp only at hb'
      subst hb'
      have hv : lexLt ns' ms' = decide (items.size < items2.size) := by
        cases hvi with
        | nil =>
          cases hwi with
          | nil =>
            simp only [List.length_nil] at hlen
            rw [lexLt_nil_nil]
            exact (decide_eq_false (by omega)).symm
          | cons c u hw =>
            simp only [List.length_nil, List.length_cons] at hlen
            rw [lexLt_nil_cons]
            exact (decide_eq_true (by omega)).symm
        | cons a t hv =>
          cases hwi with
          | nil =>
            simp only [List.length_nil, List.length_cons] at hlen
            rw [lexLt_cons_nil]
            exact (decide_eq_false (by omega)).symm
          | cons c u hw =>
            rw [List.zip_cons_cons] at hz
            cases hz
      rw [hv] at hR
      wp_walk
      exact ⟨_, rfl, by simpa [Builtin.Tuple.tupleCompareSizes] using hR⟩
    case h =>
      exact ⟨rfl, rfl, items.toList, items2.toList, ns, ms, rfl, hi, hj, by omega, h⟩
end
section
variable {prog : Program} {w : World} {A : Around} {E : Value → Shared → Prop} {s : Shared}
theorem lt_tupInts {l b : Addr} {items items2 : Array Value} {ns ms : List Int} {Q : Value → Shared → Prop} (hl : IsTup s.heap l items) (hb : IsTup s.heap b items2) (hi : IntsAre items.toList ns) (hj : IntsAre items2.toList ms)
    (hu : A.units < cLine) (h : Q (.bool (lexLt ns ms)) s) : wpAny (model prog w) A (compareOp .Lt (.ref l) (.ref b)) Q E s := by
  obtain ⟨⟨cls, dd, data, sl⟩, ho, hc, n, hd⟩ := id hl
  obtain ⟨⟨cls2, dd2, data2, sl2⟩, ho2, hc2, n2, hd2⟩ := id hb
  simp only at hc hd hc2 hd2
  subst hc hd hc2 hd2
  exact richCompare_meets_room (op := .Lt) ⟨_, ho, rfl⟩ ⟨_, ho2, rfl⟩ PySem.F.slot_tuple_lt PySem.F.entry_tuple_lt (PySem.F.args_tuple_lt_2 _ _) (tuple_lt_ints l b items items2 n n2 dd dd2 sl sl2 ns ms hi hj)
    ⟨ho, ho2, show Value.bool (lexLt ns ms) ≠ Value.notImplemented ∧ Q (.bool (lexLt ns ms)) s from ⟨(fun x => nomatch x), h⟩⟩ hu
/-- a slice's bound as a place among n (d where it is left out) -/
def sIx (n d : Nat) : Option Int → Nat
  | none => d
  | some v => if v < 0 then (v + (n : Int)).toNat else min v.toNat n
theorem sIx_nat (n d k : Nat) : sIx n d (some (k : Int)) = min k n := by
  show (if (k : Int) < 0 then ((k : Int) + (n : Int)).toNat else min (k : Int).toNat n) = min k n
  rw [if_neg (by omega), Int.toNat_natCast]
end
end HT
namespace L2
open PySem PySem.Spec PyProof.Rows
abbrev TO := St → Hp → (Option Int → Hp → Prop) → Prop
/-- a slice's part (left out, or an int) -/
def PO (X : Cx) (e : Option Expr) (t : TO) : Prop :=
  ∀ (pins : List (Addr × Obj)) (s : Shared) (σ : St) (H : Hp) (Q : Option Int → Hp → Prop), Inv X pins σ H s → t σ H Q →
    wpAny (model X.prog X.w) X.A (evalPart e X.env) (fun u s' => ∃ o H', Inv X pins σ H' s' ∧ IsPart u o ∧ Q o H') X.xe s
def tNoPart : TO := fun _ H Q => Q none H
def tPart (t : TE) : TO := fun σ H Q => t σ H fun x H1 => ∃ i, x = .int i ∧ Q (some i) H1
section
variable {X : Cx} {e : Expr} {te : TE} {lo hi : Option Expr} {tl th : TO} {pos p2 : Pos}
theorem po_none : PO X none tNoPart := by
  intro pins s σ H Q I h
  rw [evalPart_none]
  exact wpAny_pure ⟨none, H, I, .none, h⟩
theorem po_some (h : PE X e te) : PO X (some e) (tPart te) := by
  intro pins s σ H Q I hw
  rw [evalPart_some]
  refine thn (h pins s σ H _ I hw) fun u s1 ⟨x, H1, I1, r1, q1⟩ => ?_
  obtain ⟨i, rfl, q⟩ := q1
  obtain ⟨t, rfl⟩ := r1
  exact ⟨some i, H1, I1, .int i t, q⟩
/-- what a slice of a value is, by values: the slice object stands at sl -/
def SlR (X : Cx) (r : V → Option Int → Option Int → Hp → VK → Prop) : Prop :=
  ∀ (pins : List (Addr × Obj)) (s : Shared) (σ : St) (H : Hp) (x : V) (v vl vu : Value) (lo hi : Option Int) (sl : Addr) (Q : VK), Inv X pins σ H s → RelV x v → s.heap.IsSliceOf sl vl vu .none → IsPart vl lo → IsPart vu hi → r x lo hi H Q →
    ∃ T id, typeLookup (.type T) "__getitem__" = pure (some (.builtin id)) ∧ s.TypeIs v T ∧ wpAny (model X.prog X.w) X.A (getItem v (.ref sl)) (EP X pins σ Q) X.xe s
def tSl (r : V → Option Int → Option Int → Hp → VK → Prop) (te : TE) (tl th : TO) : TE := fun σ H Q => te σ H fun x H1 => tl σ H1 fun l H2 => th σ H2 fun u H3 => r x l u H3 Q
/-- a[lo:hi], any a -/
theorem pe_slice {r : V → Option Int → Option Int → Hp → VK → Prop} (hr : SlR X r) (he : PE X e te) (hl : PO X lo tl) (hu : PO X hi th) : PE X (.Subscript e (.Slice lo hi none p2) pos) (tSl r te tl th) := by
  intro pins s σ H Q I h
  refine Subscript_ (thn (he pins s σ H _ I h) fun v s1 ⟨x, H1, I1, r1, q1⟩ => ?_)
  refine wpAny_Slice (thn (hl pins s1 σ H1 _ I1 q1) fun vl s2 ⟨l, H2, I2, pl, q2⟩ => thn (hu pins s2 σ H2 _ I2 q2) fun vu s3 ⟨u, H3, I3, pu, q3⟩ => ?_)
  rw [evalPart_none]
  refine wpAny_pure ?_
  have I4 : Inv X pins σ H3 { s3 with heap := s3.heap.push { cls := .type "slice", data := .fields #[vl, vu, .none] } } := I3.kept (t' := s3.toks) fun b ob q => Heap.get?_push_of_some _ q
  obtain ⟨T, id, hT, ht, hg⟩ := hr pins { s3 with heap := s3.heap.push { cls := .type "slice", data := .fields #[vl, vu, .none] } } σ H3 x v vl vu l u s3.heap.objs.size Q I4 r1 (Heap.IsSliceOf.new ..) pl pu q3
  show wpAny (model X.prog X.w) X.A (subscriptTail e (.Slice lo hi none p2) v (.ref s3.heap.objs.size)) (EP X pins σ Q) X.xe { s3 with heap := s3.heap.push { cls := .type "slice", data := .fields #[vl, vu, .none] } }
  exact tail_any (ops := [.ref s3.heap.objs.size, v]) ht hT hg (by with_unfolding_all rfl)
/-- the items of xs[lo:hi] -/
def cutV (xs : List V) (lo hi : Option Int) : List V := (xs.drop (HT.sIx xs.length 0 lo)).take (HT.sIx xs.length xs.length hi - HT.sIx xs.length 0 lo)
theorem cutV_length (xs : List V) (lo hi : Option Int) : (cutV xs lo hi).length ≤ xs.length := by
  unfold cutV
  rw [List.length_take, List.length_drop]
  omega
end
end L2
namespace L2
open PySem PySem.Spec PyProof.Rows
/-- the place that an index of any sign means -/
def ixN (n : Nat) (i : Int) : Option Nat := if 0 ≤ i then (if i < n then some i.toNat else none) else if -(n : Int) ≤ i then some (i + n).toNat else none
def atI {α : Type} (xs : List α) (i : Int) : Option α := (ixN xs.length i).bind fun j => xs[j]?
theorem ixN_seq {n : Nat} {i : Int} {j : Nat} (h : ixN n i = some j) : seqIndex? i n = some j ∧ j < n ∧ -(n : Int) ≤ i ∧ i < n := by
  unfold ixN at h
  by_cases h0 : 0 ≤ i
  · rw [if_pos h0] at h
    by_cases h1 : i < n
    · rw [if_pos h1] at h
      have e : i.toNat = j := Option.some.inj h
      exact ⟨by rw [seqIndex_of h0 h1, e], by omega, by omega, h1⟩
    · rw [if_neg h1] at h; cases h
  · rw [if_neg h0] at h
    by_cases h1 : -(n : Int) ≤ i
    · rw [if_pos h1] at h
      have e : (i + n).toNat = j := Option.some.inj h
      exact ⟨by rw [seqIndex_neg (by omega) h1, e], by omega, h1, by omega⟩
    · rw [if_neg h1] at h; cases h
theorem atI_get {α : Type} {xs : List α} {i : Int} {v : α} (h : atI xs i = some v) : ∃ j, seqIndex? i xs.length = some j ∧ xs[j]? = some v ∧ j < xs.length ∧ -(xs.length : Int) ≤ i ∧ i < xs.length := by
  unfold atI at h
  cases e : ixN xs.length i with
  | none => rw [e] at h; cases h
  | some j =>
    rw [e] at h
    obtain ⟨h1, h2, h3, h4⟩ := ixN_seq e
    exact ⟨j, h1, h, h2, h3, h4⟩
theorem atI_nat {α : Type} {xs : List α} {j : Nat} {v : α} (h : xs[j]? = some v) : atI xs (j : Int) = some v := by
  have hj : j < xs.length := (List.getElem?_eq_some_iff.mp h).1
  have e : ixN xs.length (j : Int) = some j := by
    unfold ixN
    rw [if_pos (by omega), if_pos (by omega)]; simp
  unfold atI; rw [e]; exact h
/-- what stands as an index of a plain subscript -/
def PlainIx (b : Expr) : Prop := ∀ o i, subscripted b false o i = operate [o, i] (getItem o i)
/-- a subscript by values -/
def IxR (X : Cx) (r : R2) : Prop :=
  ∀ (value slice : Expr) (pins : List (Addr × Obj)) (s : Shared) (σ : St) (H : Hp) (x y : V) (v u : Value) (Q : VK), Inv X pins σ H s → RelV x v → RelV y u → r x y H Q →
    subscripted slice false v u = operate [v, u] (getItem v u) → wpAny (model X.prog X.w) X.A (subscriptTail value slice v u) (EP X pins σ Q) X.xe s
/-- a call of a builtin's method by values: the receiver, the arguments -/
def MtR (X : Cx) (id : String) (r : V → List V → Hp → VK → Prop) : Prop :=
  ∀ (pins : List (Addr × Obj)) (s : Shared) (σ : St) (H : Hp) (x : V) (xs : List V) (v : Value) (us : List Value) (Q : VK), Inv X pins σ H s → RelV x v → Vals xs us → r x xs H Q →
    wpAny (model X.prog X.w) X.A (call (.builtin id) (v :: us)) (EP X pins σ Q) X.xe s
section
variable {X : Cx} {a b : Expr} {ta tb : TE} {pos : Pos}
/-- a[b] -/
theorem pe_ix {r : R2} (hr : IxR X r) (ha : PE X a ta) (hb : PE X b tb) (hs : PlainIx b) : PE X (.Subscript a b pos) (tOp r ta tb) := by
  intro pins s σ H Q I h
  exact Subscript_ (binT ha hb I h fun v u s2 x y H2 I2 rx ry q => hr a b pins s2 σ H2 x y v u Q I2 rx ry q (hs _ _))
def rIxL (K : PySem.W.Frag) : R2 := fun x y H Q => ∃ p xs i v, x = .ref p ∧ y = .int i ∧ SqL K H p xs ∧ atI xs i = some v ∧ Q v H
def rIxT (K : PySem.W.Frag) : R2 := fun x y H Q => ∃ p xs i v, x = .ref p ∧ y = .int i ∧ SqT K H p xs ∧ atI xs i = some v ∧ Q v H
theorem ix_list : IxR X (rIxL X.K) := by
  intro value slice pins s σ H x y v u Q I rx ry h hs
  obtain ⟨p, xs, i, z, rfl, rfl, hq, he, q⟩ := h
  cases rx
  obtain ⟨t, rfl⟩ := ry
  obtain ⟨its, r, pl, hz⟩ := I.list hq
  obtain ⟨j, h1, h2, h3, h4, h5⟩ := atI_get he
  obtain ⟨w, ew, rw'⟩ := r.get h2
  have hl := r.length
  have hn := line63
  have fin : EP X pins σ Q w s := ⟨z, H, I, rw', q⟩
  by_cases h0 : 0 ≤ i
  · have hj : i.toNat = j := by
      rw [seqIndex_of h0 h5] at h1
      exact Option.some.inj h1
    exact item_listR pl.isList h0 (by omega) (by rw [hj]; simpa using ew) fin hs
  · have hj : (i + (its.toArray.size : Int)).toNat = j := by
      rw [seqIndex_neg (by omega) h4] at h1
      rw [List.size_toArray, ← hl]
      exact Option.some.inj h1
    exact subscriptTail_builtinR (x := w) pl.isList.typeIs slot_list_getitem.lookup
      (wpAny_getItem_list_neg (Q := fun r s' => r = w ∧ EP X pins σ Q r s') pl.isList (by omega) (by rw [List.size_toArray] <;> omega) (by omega) (by rw [hj]; simpa using ew) ⟨rfl, fin⟩) hs
theorem ix_tup : IxR X (rIxT X.K) := by
  intro value slice pins s σ H x y v u Q I rx ry h hs
  obtain ⟨p, xs, i, z, rfl, rfl, hq, he, q⟩ := h
  cases rx
  obtain ⟨t, rfl⟩ := ry
  obtain ⟨its, r, pl, hz⟩ := I.tuple hq
  obtain ⟨j, h1, h2, h3, h4, h5⟩ := atI_get he
  obtain ⟨w, ew, rw'⟩ := r.get h2
  have hl := r.length
  have hn := line63
  have fin : EP X pins σ Q w s := ⟨z, H, I, rw', q⟩
  exact subscriptTail_builtinR (x := w) pl.typeIs slot_tuple_getitem.lookup
    (getItem_tuple (j := j) (Q := fun r s' => r = w ∧ EP X pins σ Q r s') pl (by omega) (by omega) (by rw [List.size_toArray, ← hl]; exact h1) (by simpa using ew) ⟨rfl, fin⟩) hs
/-- the list's object behind a store -/
theorem mapSeq_set (its : List Value) (n j : Nat) (u : Value) : Obj.mapSeq (·.setIfInBounds j u) { cls := .type "list", data := .seq its.toArray n } = { cls := .type "list", data := .seq (its.set j u).toArray n } := by
  simp [Obj.mapSeq]
theorem Inv.lst {pins : List (Addr × Obj)} {σ : St} {H : Hp} {s : Shared} {p : Addr} {xs : List V} (I : Inv X pins σ H s) (h : H p = some (.lst xs)) :
    ∃ (its : List Value) (n : Nat), Vals xs its ∧ s.heap.get? p = some { cls := .type "list", data := .seq its.toArray n } ∧ xs.length ≤ sizeLine := by
  obtain ⟨z, its, n, r, e⟩ := I.hok p _ h
  exact ⟨its, n, r, e, z⟩
/-- the list at p is written by an update of its object -/
theorem Inv.lstUpd {pins : List (Addr × Obj)} {σ : St} {H : Hp} {s : Shared} {p : Addr} {xs ys : List V} {its its' : List Value} {n n' : Nat} {f : Obj → Obj} (I : Inv X pins σ H s) (h : H p = some (.lst xs))
    (ho : s.heap.get? p = some { cls := .type "list", data := .seq its.toArray n }) (hf : f { cls := .type "list", data := .seq its.toArray n } = { cls := .type "list", data := .seq its'.toArray n' }) (r : Vals ys its') (hz : ys.length ≤ sizeLine) (t : Nat) :
    Inv X pins σ (upd H p (.lst ys)) { s with heap := s.heap.update p f, toks := t } := by
  have e : (s.heap.update p f).get? p = some { cls := .type "list", data := .seq its'.toArray n' } := by
    rw [Heap.get?_update_self f ho (by rw [hf] <;> rfl), hf]
  refine I.write (x := p) (e := p) (by rw [h]; trivial) (.inl rfl) (fun b u hb q => (Heap.get?_update_other _ _ (Ne.symm hb)).trans q) ⟨_, e⟩ ?_
  exact ⟨hz, its', n', r, e⟩
def rSetL : V → V → V → Hp → (Hp → Prop) → Prop := fun o i v H Q => ∃ p xs k j, o = .ref p ∧ i = .int k ∧ H p = some (.lst xs) ∧ ixN xs.length k = some j ∧ Q (upd H p (.lst (xs.set j v)))
theorem set_list : PSet X rSetL := by
  intro pins s σ H o i v ov iv u Q I ro ri rv h
  obtain ⟨p, xs, k, j, rfl, rfl, hp, hj, q⟩ := h
  cases ro
  obtain ⟨t, rfl⟩ := ri
  obtain ⟨its, n, r, ho, hz⟩ := I.lst hp
  obtain ⟨h1, h2, h3, h4⟩ := ixN_seq hj
  have hl := r.length
  have hn := line63
  have I' : Inv X pins σ (upd H p (.lst (xs.set j v))) { s with heap := s.heap.update p (Obj.mapSeq (·.setIfInBounds j u)) } :=
    I.lstUpd hp ho (mapSeq_set its n j u) (r.set rv j) (by rw [List.length_set]; exact hz) s.toks
  by_cases h0 : 0 ≤ k
  · have hk : k.toNat = j := by
      rw [seqIndex_of h0 h4] at h1
      exact Option.some.inj h1
    exact PySem.W.ki_setAt ho h0 (by omega) (by rw [List.size_toArray, ← hl]; exact h4) (by rw [hk]; exact ⟨_, I', q⟩)
  · have hk : (k + (its.toArray.size : Int)).toNat = j := by
      rw [seqIndex_neg (by omega) h3] at h1
      rw [List.size_toArray, ← hl]
      exact Option.some.inj h1
    exact PySem.W.ki_setBack ho (by omega) (by rw [List.size_toArray, ← hl]; exact h3) (by omega) (by rw [hk]; exact ⟨_, I', q⟩)
theorem slice_bounds (lo hi : Option Int) (n : Nat) : (sliceBounds lo hi none n).1 = ((HT.sIx n 0 lo : Nat) : Int) ∧ (sliceBounds lo hi none n).2.1 = ((HT.sIx n n hi : Nat) : Int) ∧ (sliceBounds lo hi none n).2.2 = 1 := by
  refine ⟨?_, ?_, rfl⟩
  · cases lo with
    | none => simp [sliceBounds, HT.sIx]
    | some i =>
      simp only [sliceBounds, HT.sIx, Option.getD_none, show (1 : Int) > 0 by decide, if_true]
      by_cases h : i < 0
      · simp only [h, if_true] <;> omega
      · simp only [h, if_false] <;> omega
  · cases hi with
    | none => simp [sliceBounds, HT.sIx]
    | some i =>
      simp only [sliceBounds, HT.sIx, Option.getD_none, show (1 : Int) > 0 by decide, if_true]
      by_cases h : i < 0
      · simp only [h, if_true] <;> omega
      · simp only [h, if_false] <;> omega
theorem slicePick_cut (its : List Value) (lo hi : Option Int) : slicePick its.toArray lo hi none = ((its.drop (HT.sIx its.length 0 lo)).take (HT.sIx its.length its.length hi - HT.sIx its.length 0 lo)).toArray := by
  obtain ⟨h1, h2, h3⟩ := slice_bounds lo hi its.toArray.size
  unfold slicePick
  rw [h1, h2, h3]
  simp only [sliceRange_one, pick_run, List.size_toArray] <;> rfl
/-- xs[lo:hi] of a list: a new list -/
def rSlL (K : PySem.W.Frag) : V → Option Int → Option Int → Hp → VK → Prop := fun x lo hi H Q => ∃ a xs, x = .ref a ∧ SqL K H a xs ∧ ∀ p, H p = none → Q (.ref p) (upd H p (.lst (cutV xs lo hi)))
theorem sl_list : SlR X (rSlL X.K) := by
  intro pins s σ H x v vl vu lo hi sl Q I rx hs pl pu h
  obtain ⟨a, xs, rfl, hx, q⟩ := h
  cases rx
  obtain ⟨its, r, ht, hz⟩ := I.list hx
  have hlen := r.length
  refine ⟨"list", _, slot_list_getitem.lookup, ht.isList.typeIs, ?_⟩
  refine wpAny_getItem_list_slice ht.isList hs pl pu .none (by simp) ?_ (by rw [List.size_toArray] <;> omega)
  rw [slicePick_cut, ← hlen]
  refine ⟨.ref s.heap.objs.size, _, I.laid (t' := s.toks) (o := .lst (cutV xs lo hi)) (fun b ob q => Heap.get?_push_of_some _ q) (Nat.le_refl _) ?_, rfl, q _ (I.hok.fresh (Nat.le_refl _))⟩
  exact ⟨Nat.le_trans (cutV_length xs lo hi) hz, _, 0, (r.drop (HT.sIx xs.length 0 lo)).take (HT.sIx xs.length xs.length hi - HT.sIx xs.length 0 lo), Heap.get?_push_size _ rfl⟩
def flatV : V → Bool
  | .non => true
  | .bl _ => true
  | .int _ => true
  | .str _ => true
  | _ => false
/-- == of flat values -/
def eqV : V → V → Bool
  | .non, .non => true
  | .bl a, .bl b => a == b
  | .bl a, .int b => (if a then 1 else 0) == b
  | .int a, .bl b => a == (if b then 1 else 0)
  | .int a, .int b => a == b
  | .str a, .str b => a == b
  | _, _ => false
theorem eqAt_V {A : Around} {s : Shared} {y x : V} {u v : Value} (ry : RelV y u) (rx : RelV x v) (fy : flatV y = true) (fx : flatV x = true) : SeqAt.EqAt A s u v (eqV y x) := by
  cases y with
  | non =>
    cases ry
    cases x with
    | non => cases rx; exact SeqAt.EqAt.same _
    | bl b => cases rx; exact SeqAt.EqAt.none_bool b
    | int b => obtain ⟨t, rfl⟩ := rx; exact SeqAt.EqAt.none_int b t
    | str b => obtain ⟨t, rfl⟩ := rx; exact SeqAt.EqAt.none_str b t
    | _ => exact absurd (show false = true from fx) Bool.false_ne_true
  | bl a =>
    cases ry
    cases x with
    | non => cases rx; exact SeqAt.EqAt.bool_none a
    | bl b => cases rx; exact SeqAt.EqAt.bool_bool a b
    | int b => obtain ⟨t, rfl⟩ := rx; exact SeqAt.EqAt.bool_int a b t
    | str b => obtain ⟨t, rfl⟩ := rx; exact SeqAt.EqAt.bool_str a b t
    | _ => exact absurd (show false = true from fx) Bool.false_ne_true
  | int a =>
    obtain ⟨t', rfl⟩ := ry
    cases x with
    | non => cases rx; exact SeqAt.EqAt.int_none a t'
    | bl b => cases rx; exact SeqAt.EqAt.int_bool a t' b
    | int b => obtain ⟨t, rfl⟩ := rx; exact SeqAt.EqAt.int_int a t' b t
    | str b => obtain ⟨t, rfl⟩ := rx; exact SeqAt.EqAt.int_str a t' b t
    | _ => exact absurd (show false = true from fx) Bool.false_ne_true
  | str a =>
    obtain ⟨t', rfl⟩ := ry
    cases x with
    | non => cases rx; exact SeqAt.EqAt.str_none a t'
    | bl b => cases rx; exact SeqAt.EqAt.str_bool a t' b
    | int b => obtain ⟨t, rfl⟩ := rx; exact SeqAt.EqAt.str_int a t' b t
    | str b => obtain ⟨t, rfl⟩ := rx; exact SeqAt.EqAt.str_str a t' b t
    | _ => exact absurd (show false = true from fx) Bool.false_ne_true
  | _ => exact absurd (show false = true from fy) Bool.false_ne_true
/-- the items' answers, read off the values (a value's own answer does not lean on its token) -/
def eqU (x : V) (u : Value) : Bool := match u with
  | .none => eqV .non x
  | .bool b => eqV (.bl b) x
  | .int i _ => eqV (.int i) x
  | .str z _ => eqV (.str z) x
  | _ => false
theorem eqU_of {x y : V} {u : Value} (r : RelV y u) (f : flatV y = true) : eqU x u = eqV y x := by
  cases y with
  | non => cases r; rfl
  | bl b => cases r; rfl
  | int i => obtain ⟨t, rfl⟩ := r; rfl
  | str z => obtain ⟨t, rfl⟩ := r; rfl
  | _ => exact absurd (show false = true from f) Bool.false_ne_true
theorem any_eqU {x : V} : ∀ {xs : List V} {us : List Value}, Vals xs us → xs.all flatV = true → us.any (eqU x) = xs.any fun y => eqV y x
  | _, _, .nil, _ => rfl
  | y :: xs, u :: us, .cons r t, f => by
    rw [List.all_cons, Bool.and_eq_true] at f
    rw [List.any_cons, List.any_cons, eqU_of r f.1, any_eqU t f.2]
theorem mem_eqAt {A : Around} {s : Shared} {x : V} {v : Value} (rx : RelV x v) (fx : flatV x = true) : ∀ {xs : List V} {us : List Value}, Vals xs us → xs.all flatV = true → ∀ u ∈ us, SeqAt.EqAt A s u v (eqU x u)
  | _, _, .nil, _ => fun u hu => by cases hu
  | y :: xs, u :: us, .cons r t, f => fun u' hu => by
    rw [List.all_cons, Bool.and_eq_true] at f
    rcases List.mem_cons.mp hu with rfl | hu
    · rw [eqU_of r f.1]; exact eqAt_V r rx f.1 fx
    · exact mem_eqAt rx fx t f.2 u' hu
def inV (x : V) (xs : List V) : Bool := xs.any fun y => eqV y x
/-- x in a list or tuple of flat items -/
def rIn (K : PySem.W.Frag) (neg : Bool) : R2 := fun x y H Q => ∃ p xs, y = .ref p ∧ (SqL K H p xs ∨ SqT K H p xs) ∧ flatV x = true ∧ xs.all flatV = true ∧ Q (.bl (if neg then !inV x xs else inV x xs)) H
theorem op_in_seq : OpR X (compareOp .In) (rIn X.K false) := by
  intro pins s σ H x y v u Q I rx ry h
  obtain ⟨p, xs, rfl, hq, fx, fs, q⟩ := h
  cases ry
  rcases hq with hq | hq
  · obtain ⟨its, r, pl, hz⟩ := I.list hq
    refine SeqAt.in_listAt (eqU x) pl.isList (fun w hw => mem_eqAt rx fx r fs w (by simpa using hw)) ⟨.bl _, H, I, rfl, ?_⟩
    rw [show its.toArray.any (eqU x) = its.any (eqU x) by simp, any_eqU r fs]
    exact q
  · obtain ⟨its, r, pl, hz⟩ := I.tuple hq
    refine SeqAt.in_tupleAt (eqU x) pl (fun w hw => mem_eqAt rx fx r fs w (by simpa using hw)) ⟨.bl _, H, I, rfl, ?_⟩
    rw [show its.toArray.any (eqU x) = its.any (eqU x) by simp, any_eqU r fs]
    exact q
theorem call_len_seq : CallR X (.builtin "len") (fun xs H Q => ∃ p ys, xs = [.ref p] ∧ (SqL X.K H p ys ∨ SqT X.K H p ys) ∧ Q (.int ys.length) H) := by
  intro pins s σ H xs us Q I r h
  obtain ⟨p, ys, rfl, hq, q⟩ := h
  obtain ⟨u, rfl, rx⟩ := vals1 r
  cases rx
  have hn := line63
  rcases hq with hq | hq
  · obtain ⟨its, r', pl, hz⟩ := I.list hq
    have hlen := r'.length
    exact Calls.call_len_list pl.isList (by simp only [List.size_toArray] <;> omega) ⟨.int ys.length, H, I.tok _, ⟨s.toks + 1, by rw [List.size_toArray, hlen]⟩, q⟩
  · obtain ⟨its, r', pl, hz⟩ := I.tuple hq
    have hlen := r'.length
    exact len_tuple pl (by simp only [List.size_toArray] <;> omega) ⟨.int ys.length, H, I.tok _, ⟨s.toks + 1, by rw [List.size_toArray, hlen]⟩, q⟩
theorem call_list_of : CallR X (.type "list") (fun xs H Q => ∃ p ys, xs = [.ref p] ∧ (SqL X.K H p ys ∨ SqT X.K H p ys) ∧ ∀ l, H l = none → Q (.ref l) (upd H l (.lst ys))) := by
  intro pins s σ H xs us Q I r h
  obtain ⟨p, ys, rfl, hq, q⟩ := h
  obtain ⟨u, rfl, rx⟩ := vals1 r
  cases rx
  have fin : ∀ (its : List Value), Vals ys its → ys.length ≤ sizeLine → ∀ (h' : Heap) (c' : Nat), (∀ b o', s.heap.get? b = some o' → h'.get? b = some o') →
      h'.get? s.heap.objs.size = some { cls := .type "list", dict := none, data := .seq its.toArray c', slots := #[] } → EP X pins σ Q (.ref s.heap.objs.size) { s with heap := h' } := fun its r' hz h' c' kp e =>
    ⟨.ref s.heap.objs.size, _, I.laid (t' := s.toks) kp (Nat.le_refl _) (show ObjOk X.prog X.w _ h' _ (.lst ys) from ⟨hz, its, c', r', e⟩), rfl, q _ (I.hok.fresh (Nat.le_refl _))⟩
  rcases hq with hq | hq
  · obtain ⟨its, r', pl, hz⟩ := I.list hq
    have hlen := r'.length
    obtain ⟨o, ho, hc, n, hd⟩ := pl.isList
    exact call_list_seq p (.inl rfl) ho hc hd (fun h' c' kp e => fin its r' hz h' c' kp e) (by simp only [List.size_toArray] <;> omega)
  · obtain ⟨its, r', pl, hz⟩ := I.tuple hq
    have hlen := r'.length
    obtain ⟨o, ho, hc, n, hd⟩ := pl
    exact call_list_seq p (.inr rfl) ho hc hd (fun h' c' kp e => fin its r' hz h' c' kp e) (by simp only [List.size_toArray] <;> omega)
/-- the value is of that builtin type -/
def tyV (K : PySem.W.Frag) (T : String) (x : V) (H : Hp) : Prop := match x with
  | .str _ => T = "str"
  | .int _ => T = "int"
  | .ref p => (T = "list" ∧ ∃ xs, SqL K H p xs) ∨ (T = "tuple" ∧ ∃ o, K.lookup p = some o ∧ o.cls = .type "tuple" ∧ o.dict = none) ∨
      (T = "dict" ∧ ((∃ kvs, H p = some (.dK kvs)) ∨ ∃ kvs, H p = some (.dT kvs))) ∨ (T = "set" ∧ ∃ S n, H p = some (.set S n))
  | _ => False
theorem tyV_is {pins : List (Addr × Obj)} {σ : St} {H : Hp} {s : Shared} {T : String} {x : V} {v : Value} (I : Inv X pins σ H s) (r : RelV x v) (ty : tyV X.K T x H) :
    s.TypeIs v T ∧ ∀ a, v = .ref a → ∃ ob, s.heap.get? a = some ob ∧ ob.dict = none := by
  cases x with
  | str z =>
    obtain ⟨t, rfl⟩ := r
    cases (show T = "str" from ty)
    exact ⟨typeIs_str s z t, fun _ e => nomatch e⟩
  | int i =>
    obtain ⟨t, rfl⟩ := r
    cases (show T = "int" from ty)
    exact ⟨typeIs_int s i t, fun _ e => nomatch e⟩
  | ref p =>
    cases r
    rcases ty with ⟨rfl, xs, hq⟩ | ⟨rfl, o, hk, hc, hd⟩ | ⟨rfl, hk⟩ | ⟨rfl, S, n, hk⟩
    · obtain ⟨its, _, pl, _⟩ := I.list hq
      refine ⟨pl.isList.typeIs, fun a e => ?_⟩
      cases e
      obtain ⟨o, n, e, c, hd, _⟩ := pl
      exact ⟨o, e, hd⟩
    · refine ⟨⟨o, I.kIn p o hk, hc⟩, fun a e => ?_⟩
      cases e
      exact ⟨o, I.kIn _ o hk, hd⟩
    · have z : ∃ o, s.heap.get? p = some o ∧ o.ExactDict := by
        rcases hk with ⟨kvs, hk⟩ | ⟨kvs, hk⟩
        · obtain ⟨_, _, _, _, o, _, _, e, ex, _⟩ := I.hok p _ hk
          exact ⟨o, e, ex⟩
        · obtain ⟨_, _, _, _, o, _, _, e, ex, _⟩ := I.hok p _ hk
          exact ⟨o, e, ex⟩
      obtain ⟨o, e, ex⟩ := z
      refine ⟨⟨o, e, ex.1⟩, fun a e2 => ?_⟩
      cases e2
      exact ⟨o, e, ex.2.1⟩
    · obtain ⟨o, _, _, _, e, ex, _⟩ := I.hok p _ hk
      refine ⟨⟨o, e, ex.1⟩, fun a e2 => ?_⟩
      cases e2
      exact ⟨o, e, ex.2.1⟩
  | _ => exact False.elim ty
def tBM (K : PySem.W.Frag) (T : String) (r : V → List V → Hp → VK → Prop) (to : TE) (t : TA) : TE := fun σ H Q => to σ H fun x H1 => tyV K T x H1 ∧ t σ H1 fun xs H2 => r x xs H2 Q
variable {o e : Expr} {es : List Expr} {to : TE} {t : TA} {name : Str} {apos cpos : Pos} {T id : String} {r : V → List V → Hp → VK → Prop}
theorem pe_bm (pa : PlainAttrs T) (slot : Slot T name id) (hty : typeOf (.builtin id) = pure (.type "method_descriptor")) (hm : MtR X id r) (ho : PE X o to) (ha : PA X (e :: es) t)
    (hbase : attributeBase o name X.env (eval o X.env) = eval o X.env := by rfl)
    (hfew : ((backTo cpos (starEach (e :: es) X.env)).all (fun x => !x.1) && (backToKw cpos (keywordEach [] X.env)).all (fun x => x.1.isSome)
      && decide ((e :: es).length + ([] : List Keyword).length + (if ([] : List Keyword).isEmpty then 0 else 1) < 30)) = true := by rfl)
    (hline : (apos.endLine == cpos.line) = true := by rfl) (hs : starEach (e :: es) X.env = (false, eval e X.env) :: starEach es X.env := by rfl) (hplain : (backTo cpos (starEach es X.env)).any (·.1) = false := by rfl) :
    PE X (.Call (.Attribute o name apos) (e :: es) [] cpos) (tBM X.K T r to t) := by
  intro pins s σ H Q I h
  refine wpAny_Call_method_late hbase hfew hline rfl (thn (ho pins s σ H _ I h) fun v s1 ⟨x, H1, I1, r1, ty, q1⟩ => ?_)
  obtain ⟨h1, h2⟩ := tyV_is I1 r1 ty
  refine ⟨T, id, pa, slot, hty, h1, h2, ?_⟩
  have hA := ha cpos pins s1 σ H1 _ I1 q1
  rw [hs] at hA ⊢
  refine Calls.callWith_builtin (by show (false || (backTo cpos (starEach es X.env)).any (·.1)) = false; rw [hplain] <;> rfl) (Calls.evalArgs_plain ?_)
  exact thn hA fun us s2 ⟨vs, H2, I2, r2, q2⟩ => hm pins s2 σ H2 x vs v us Q I2 r1 r2 q2
/- xs.append(e), list.index on a module's tuple .. are MtR facts of 06m -/
end
end L2
namespace L2
open PySem PySem.Spec PyProof.Rows
def MtM (X : Cx) (id : String) (r : V → List V → Hp → VK → Prop) : Prop :=
  ∀ (pins : List (Addr × Obj)) (s : Shared) (σ : St) (H : Hp) (x : V) (xs : List V) (v : Value) (us : List Value) (Q : VK), Inv X pins σ H s → RelV x v → Vals xs us → r x xs H Q →
    wpAny (model X.prog X.w) X.A (call (.builtin id) (v :: us)) (EP X pins σ Q) X.xe s
theorem Vals.one : ∀ {x : V} {us : List Value}, Vals [x] us → ∃ u, us = [u] ∧ RelV x u
  | _, _, .cons r .nil => ⟨_, rfl, r⟩
theorem Vals.two : ∀ {x y : V} {us : List Value}, Vals [x, y] us → ∃ u v, us = [u, v] ∧ RelV x u ∧ RelV y v
  | _, _, _, .cons r (.cons q .nil) => ⟨_, _, rfl, r, q⟩
section
variable {X : Cx} {pins : List (Addr × Obj)} {σ : St} {H : Hp} {s : Shared} {l b : Addr} {xs ys zs : List V}
theorem Inv.lset {its its' : List Value} {n : Nat} {f : Array Value → Array Value} {t' : Nat} (I : Inv X pins σ H s) (hH : H l = some (.lst xs))
    (e : s.heap.get? l = some { cls := .type "list", data := .seq its.toArray n }) (hf : f its.toArray = its'.toArray) (hv : Vals ys its') (hz : ys.length ≤ sizeLine) :
    Inv X pins σ (upd H l (.lst ys)) { s with heap := s.heap.update l (Obj.mapSeq f), toks := t' } := by
  have q := PySem.IsL.update e f
  rw [hf] at q
  refine I.write (x := l) (e := l) (by rw [hH]; exact trivial) (.inl rfl) (fun b' u hb hu => (Heap.get?_update_other s.heap (Obj.mapSeq f) (Ne.symm hb)).trans hu) ⟨_, q⟩ ?_
  exact ⟨hz, its', _, hv, q⟩
theorem Inv.lnew {its : List Value} {t' : Nat} (I : Inv X pins σ H s) (hv : Vals ys its) (hz : ys.length ≤ sizeLine) :
    Inv X pins σ (upd H s.heap.objs.size (.lst ys)) { s with heap := s.heap.push { cls := .type "list", data := .seq its.toArray }, toks := t' } :=
  I.laid (fun _ _ q => Heap.get?_push_of_some _ q) (Nat.le_refl _) ⟨hz, its, 0, hv, Heap.get?_push_size _ rfl⟩
theorem Inv.fresh (I : Inv X pins σ H s) : H s.heap.objs.size = none := I.hok.fresh (Nat.le_refl _)
theorem Inv.lstM (I : Inv X pins σ H s) (hH : H l = some (.lst xs)) : xs.length ≤ sizeLine ∧ ∃ (its : List Value) (n : Nat), Vals xs its ∧ xs.length = its.length ∧ s.heap.get? l = some { cls := .type "list", data := .seq its.toArray n } := by
  obtain ⟨z, its, n, r, e⟩ := I.hok l _ hH
  exact ⟨z, its, n, r, r.length, e⟩
theorem notLongL {n : Nat} (h : n ≤ sizeLine) : Builtin.List.listTooLong n = false := by
  unfold Builtin.List.listTooLong
  exact decide_eq_false (by omega)
end
section
variable {X : Cx}
def rAppend : V → List V → Hp → VK → Prop := fun x vs H Q => ∃ l xs y, x = .ref l ∧ vs = [y] ∧ H l = some (.lst xs) ∧ xs.length < sizeLine ∧ Q .non (upd H l (.lst (xs ++ [y])))
theorem mt_append : MtM X "list.append" rAppend := by
  intro pins s σ H x vs v us Q I rx rv h
  obtain ⟨l, xs, y, rfl, rfl, hH, hz, q⟩ := h
  cases rx
  obtain ⟨u, rfl, ru⟩ := rv.one
  obtain ⟨z, its, n, r, hl, e⟩ := I.lstM hH
  refine call_meets F.slot_list_append ⟨_, e, rfl⟩ F.entry_list_append (F.args_list_append_2 _ _) (PySem.list_append l its.toArray n u (by rw [List.size_toArray]; omega)) ⟨e, ?_⟩
  refine ⟨.non, _, I.lset (its' := its ++ [u]) hH e (by simp) (r.append (.cons ru .nil)) ?_, rfl, q⟩
  rw [List.length_append, List.length_singleton]
  omega
def rExtend : V → List V → Hp → VK → Prop := fun x vs H Q => ∃ l b xs zs, x = .ref l ∧ vs = [.ref b] ∧ H l = some (.lst xs) ∧ H b = some (.lst zs) ∧ xs.length + zs.length ≤ sizeLine ∧ Q .non (upd H l (.lst (xs ++ zs)))
theorem mt_extend : MtM X "list.extend" rExtend := by
  intro pins s σ H x vs v us Q I rx rv h
  obtain ⟨l, b, xs, zs, rfl, rfl, hH, hB, hz, q⟩ := h
  cases rx
  obtain ⟨u, rfl, ru⟩ := rv.one
  cases ru
  obtain ⟨z, its, n, r, hl, e⟩ := I.lstM hH
  obtain ⟨z2, its2, n2, r2, hl2, e2⟩ := I.lstM hB
  have hsz : its.toArray.size + its2.toArray.size ≤ sizeLine := by rw [List.size_toArray, List.size_toArray]; omega
  have hlong : ¬ (!its.toArray.isEmpty && Builtin.List.listTooLong (its.toArray.size + its2.toArray.size)) = true := by
    rw [notLongL hsz, Bool.and_false]
    exact Bool.false_ne_true
  refine call_meets F.slot_list_extend ⟨_, e, rfl⟩ F.entry_list_extend (F.args_list_extend_2 _ _)
    (AutoSeq1.list_extend_list_list_0 l its.toArray n b its2.toArray n2 hlong (by rw [List.size_toArray]; omega) (by omega)) ⟨e, e2, ?_⟩
  refine ⟨.non, _, I.lset (its' := its ++ its2) hH e (by simp) (r.append r2) ?_, rfl, q⟩
  rw [List.length_append]
  omega
def rCat : R2 := fun x y H Q => ∃ l b xs zs, x = .ref l ∧ y = .ref b ∧ H l = some (.lst xs) ∧ H b = some (.lst zs) ∧ xs.length + zs.length ≤ sizeLine ∧ ∀ p, H p = none → Q (.ref p) (upd H p (.lst (xs ++ zs)))
theorem op_cat : OpR X (binaryOp .Add) rCat := by
  intro pins s σ H x y v u Q I rx ry h
  obtain ⟨l, b, xs, zs, rfl, rfl, hH, hB, hz, q⟩ := h
  cases rx
  cases ry
  obtain ⟨z, its, n, r, hl, e⟩ := I.lstM hH
  obtain ⟨z2, its2, n2, r2, hl2, e2⟩ := I.lstM hB
  refine PySem.P.add_list e e2 ?_ (by rw [List.size_toArray, List.size_toArray]; omega)
  have ea : its.toArray ++ its2.toArray = (its ++ its2).toArray := by simp
  rw [ea]
  exact ⟨.ref _, _, I.lnew (t' := s.toks) (r.append r2) (by rw [List.length_append]; omega), rfl, q _ I.fresh⟩
end
section
variable {prog : Program} {w : World} {A : Around} {E : Value → Shared → Prop} {s : Shared}
set_option maxRecDepth 100000 in
end
section
variable {X : Cx}
end
end L2
namespace L2
open PySem PySem.Spec PyProof.Rows
theorem Vals.ints : ∀ {ns : List Int} {us : List Value}, Vals (ns.map V.int) us → IntsAre us ns
  | [], us, h => by
    rw [List.map_nil] at h
    cases h
    exact IntsAre.nil
  | n :: ns, us, h => by
    rw [List.map_cons] at h
    cases h with
    | cons r t =>
      obtain ⟨k, rfl⟩ := r
      exact IntsAre.cons n k (Vals.ints t)
theorem Vals.ref1 {a : Addr} {us : List Value} (r : Vals [V.ref a] us) : us = [Value.ref a] := by
  cases r with
  | cons r t =>
    cases t
    cases r
    rfl
section
variable {prog : Program} {w : World} {A : Around} {E : Value → Shared → Prop} {s : Shared} {l : Addr} {its : List Value} {ns : List Int} {Q : Value → Shared → Prop}
theorem sum_raw (hh : A.handled = none) (hl : s.heap.IsList l its.toArray) (hi : IntsAre its ns)
    (h : ∀ h' tk t', (∀ b o, s.heap.get? b = some o → h'.get? b = some o) → Q (.int ns.sum t') { s with heap := h', toks := tk }) : wpAny (model prog w) A (call (.builtin "sum") [.ref l]) Q E s := by
  obtain ⟨xs, e⟩ := hi.allInts.items
  have hn : numsOf (intItems xs).toList = ns := by rw [← e]; exact hi.numsOf
  rw [nums_intItems] at hn
  rw [e] at hl
  refine PySem.sum_intListG hh hl fun h' tk t' hk => ?_
  have := h h' tk t' hk
  rw [preSum_eq, List.take_of_length_le (by simp), hn]; exact this
end
section
variable {X : Cx}
/-- sum(xs) of a list of ints -/
def rSum (K : PySem.W.Frag) : List V → Hp → VK → Prop := fun vs H Q => ∃ (a : Addr) (ns : List Int), vs = [V.ref a] ∧ SqL K H a (ns.map V.int) ∧ Q (.int ns.sum) H
theorem cr_sum (hc : X.calm = true) : CallR X (.builtin "sum") (rSum X.K) := by
  intro pins s σ H vs us Q I r h
  obtain ⟨a, ns, rfl, hs, q⟩ := h
  obtain ⟨its, rv, hl, _⟩ := I.list hs
  rw [Vals.ref1 r]
  exact sum_raw (I.ok.hd hc) hl.isList rv.ints fun h' tk t' hk => ⟨.int _, H, I.kept hk, ⟨_, rfl⟩, q⟩
end
section
variable {X : Cx}
end
section
variable {X : Cx}
end
section
variable {X : Cx}
end
mutual
inductive Dp (K : PySem.W.Frag) (H : Hp) : V → PyData → Prop
  | non : Dp K H .non .none
  | bl (b : Bool) : Dp K H (.bl b) (.bool b)
  | int (i : Int) : Dp K H (.int i) (.int i)
  | str (x : Str) : Dp K H (.str x) (.str x)
  | lst {a : Addr} {xs : List V} {ds : List PyData} : SqL K H a xs → DpAll K H xs ds → Dp K H (.ref a) (.list ds)
  | tup {a : Addr} {xs : List V} {ds : List PyData} : SqT K H a xs → DpAll K H xs ds → Dp K H (.ref a) (.tuple ds)
inductive DpAll (K : PySem.W.Frag) (H : Hp) : List V → List PyData → Prop
  | nil : DpAll K H [] []
  | cons {v : V} {vs : List V} {d : PyData} {ds : List PyData} : Dp K H v d → DpAll K H vs ds → DpAll K H (v :: vs) (d :: ds)
end
section
variable {X : Cx} {pins : List (Addr × Obj)} {σ : St} {H : Hp} {s : Shared}
mutual
theorem Dp.reads (I : Inv X pins σ H s) : ∀ (d : PyData) (v : V) (u : Value), Dp X.K H v d → RelV v u → ∃ as, Reads s.heap u d as
  | .none, _, _, h, r => by
    cases h
    cases r
    exact ⟨_, Reads.none⟩
  | .bool b, _, _, h, r => by
    cases h
    cases r
    exact ⟨_, Reads.bool b⟩
  | .int i, _, _, h, r => by
    cases h
    obtain ⟨t, rfl⟩ := r
    exact ⟨_, Reads.int i t⟩
  | .str x, _, _, h, r => by
    cases h
    obtain ⟨t, rfl⟩ := r
    exact ⟨_, Reads.str x t⟩
  | .list ds, _, _, h, r => by
    cases h with
    | lst hs ha =>
      cases r
      obtain ⟨its, rv, ⟨o, n, ho, hc, _, hd⟩, _⟩ := I.list hs
      obtain ⟨as, hr⟩ := Dp.readsAll I ds _ its ha rv
      exact ⟨_, Reads.list ho hc hd hr⟩
  | .tuple ds, _, _, h, r => by
    cases h with
    | tup hs ha =>
      cases r
      obtain ⟨its, rv, ⟨o, ho, hc, n, hd⟩, _⟩ := I.tuple hs
      obtain ⟨as, hr⟩ := Dp.readsAll I ds _ its ha rv
      exact ⟨_, Reads.tuple ho hc hd hr⟩
  | .dict _, _, _, h, _ => by cases h
theorem Dp.readsAll (I : Inv X pins σ H s) : ∀ (ds : List PyData) (vs : List V) (us : List Value), DpAll X.K H vs ds → Vals vs us → ∃ as, ReadsAll s.heap us ds as
  | [], _, _, h, r => by
    cases h
    cases r
    exact ⟨_, ReadsAll.nil⟩
  | d :: ds, _, _, h, r => by
    cases h with
    | cons h1 h2 =>
      cases r with
      | cons r1 r2 =>
        obtain ⟨as, q1⟩ := Dp.reads I d _ _ h1 r1
        obtain ⟨bs, q2⟩ := Dp.readsAll I ds _ _ h2 r2
        exact ⟨_, ReadsAll.cons q1 q2⟩
end
end
section
variable {X : Cx}
def rNeD (K : PySem.W.Frag) : R2 := fun x y H Q => ∃ d e, Dp K H x d ∧ Dp K H y e ∧ SeqAt.shaped d = true ∧ SeqAt.shaped e = true ∧ Q (.bl (!PyData.eqv d e)) H
theorem op_neD (hu : X.A.units + 64 < cLine) : OpR X (compareOp .NotEq) (rNeD X.K) := by
  intro pins s σ H x y v u Q I rx ry h
  obtain ⟨d, e, hd, he, sd, se, q⟩ := h
  obtain ⟨as, r1⟩ := Dp.reads I d x v hd rx
  obtain ⟨bs, r2⟩ := Dp.reads I e y u he ry
  exact SeqAt.compareNe_shaped r1 r2 sd se hu ⟨.bl _, H, I, rfl, q⟩
end
end L2
namespace L2
open PySem PySem.Spec PyProof.Rows
abbrev CellAt (h : Heap) (c : Addr) (v : Option Value) : Prop := h.IsCell c v
def relS (scope sc : Scope) : Scope :=
  { scope with names := scope.names.map fun (n, k) => if (k == .free && sc.kind == .function && sc.names.lookup n == some .cell) then (n, .cell) else (n, k) }
def cloFrom (cells : List (Str × Addr)) : List (Str × NameKind) → List (Str × Addr) → List (Str × Addr)
  | [], acc => acc
  | (n, k) :: r, acc => if k == .free then cloFrom cells r ((n, (cells.lookup n).getD 0) :: acc) else cloFrom cells r acc
theorem closure_loop (env : Env) (f : Str × NameKind → List (Str × Addr) → Sem (ForInStep (List (Str × Addr))))
    (hf : ∀ n k c, f (n, k) c = if k == .free then (do let a ← cellOf env n; pure (.yield ((n, a) :: c))) else pure (.yield c)) :
    ∀ (names : List (Str × NameKind)) (acc : List (Str × Addr)), (∀ y ∈ names, y.2 = .free → ∃ c, env.cells.lookup y.1 = some c) → forIn names acc f = pure (cloFrom env.cells names acc)
  | [], acc, _ => by rw [List.forIn_nil]; rfl
  | (n, k) :: r, acc, h => by
    rw [List.forIn_cons, hf]
    have ih := fun acc => closure_loop env f hf r acc fun y hy => h y (List.mem_cons_of_mem _ hy)
    unfold cloFrom
    by_cases hk : (k == NameKind.free) = true
    · rw [if_pos hk, if_pos hk]
      obtain ⟨c, hc⟩ := h (n, k) List.mem_cons_self (by simpa using hk)
      have e : cellOf env n = pure c := by unfold cellOf; rw [hc]
      rw [e]
      have e2 : (env.cells.lookup n).getD 0 = c := by rw [hc]; rfl
      rw [e2]
      exact ih _
    · rw [if_neg hk, if_neg hk]
      exact ih _
theorem closure_ok {scope : Scope} {env : Env} (h : ∀ y ∈ scope.names, y.2 = .free → ∃ c, env.cells.lookup y.1 = some c) : closureFor scope env = pure (cloFrom env.cells scope.names []) := by
  simp only [closureFor]
  rw [closure_loop env _ (fun n k c => rfl) scope.names [] h]
  rfl
theorem mem_lookup {α : Type} : ∀ {l : List (Str × α)} {n : Str} {c : α}, (n, c) ∈ l → ∃ c', l.lookup n = some c'
  | (k, v) :: r, n, c, h => by
    rw [List.lookup_cons]
    cases hb : n == k with
    | true => exact ⟨_, rfl⟩
    | false =>
      rcases List.mem_cons.mp h with e | h
      · cases e; simp at hb
      · exact mem_lookup h
theorem cloFrom_mem {cells : List (Str × Addr)} : ∀ {names : List (Str × NameKind)} {acc : List (Str × Addr)} {n : Str} {c : Addr}, (n, c) ∈ cloFrom cells names acc → (n, c) ∈ acc ∨ ((n, .free) ∈ names ∧ c = (cells.lookup n).getD 0)
  | [], _, _, _, h => .inl h
  | (m, k) :: r, acc, n, c, h => by
    unfold cloFrom at h
    split at h
    · rename_i hk
      have hk : k = .free := by simpa using hk
      rcases cloFrom_mem h with h | ⟨h1, h2⟩
      · rcases List.mem_cons.mp h with e | h
        · cases e; exact .inr ⟨hk ▸ List.mem_cons_self, rfl⟩
        · exact .inl h
      · exact .inr ⟨List.mem_cons_of_mem _ h1, h2⟩
    · rcases cloFrom_mem h with h | ⟨h1, h2⟩
      · exact .inl h
      · exact .inr ⟨List.mem_cons_of_mem _ h1, h2⟩
theorem cloFrom_acc {cells : List (Str × Addr)} : ∀ {names : List (Str × NameKind)} {acc : List (Str × Addr)} {p : Str × Addr}, p ∈ acc → p ∈ cloFrom cells names acc
  | [], _, _, h => h
  | (m, k) :: r, acc, p, h => by
    unfold cloFrom
    split
    · exact cloFrom_acc (List.mem_cons_of_mem _ h)
    · exact cloFrom_acc h
theorem cloFrom_has {cells : List (Str × Addr)} : ∀ {names : List (Str × NameKind)} {acc : List (Str × Addr)} {n : Str}, (n, .free) ∈ names → (n, (cells.lookup n).getD 0) ∈ cloFrom cells names acc
  | (m, k) :: r, acc, n, h => by
    unfold cloFrom
    rcases List.mem_cons.mp h with e | h
    · cases e
      exact cloFrom_acc List.mem_cons_self
    · split
      · exact cloFrom_has h
      · exact cloFrom_has h
theorem cells_mem : ∀ {names : List (Str × NameKind)} {h : Heap} {acc : List (Str × Addr)} {x : Str} {c : Addr}, (x, c) ∈ cellsFrom h.objs.size names acc →
    (x, c) ∈ acc ∨ ((x, .cell) ∈ names ∧ h.objs.size ≤ c ∧ CellAt (pushCells h names) c none)
  | [], _, _, _, _, h => .inl h
  | (n, k) :: r, h, acc, x, c, hm => by
    unfold cellsFrom at hm
    unfold pushCells
    split at hm
    · rename_i hk
      rw [if_pos hk]
      have hk : k = .cell := by simpa using hk
      rw [← Heap.size_push h { cls := .type "cell", data := .cell none }] at hm
      rcases cells_mem hm with hm | ⟨h1, h2, h3⟩
      · rcases List.mem_cons.mp hm with e | hm
        · cases e
          exact .inr ⟨hk ▸ List.mem_cons_self, Nat.le_refl _, _, pushCells_keeps r _ _ _ (Heap.get?_push_size _ rfl), rfl⟩
        · exact .inl hm
      · rw [Heap.size_push] at h2
        exact .inr ⟨List.mem_cons_of_mem _ h1, Nat.le_of_succ_le h2, h3⟩
    · rename_i hk
      rw [if_neg hk]
      rcases cells_mem hm with hm | ⟨h1, h2, h3⟩
      · exact .inl hm
      · exact .inr ⟨List.mem_cons_of_mem _ h1, h2, h3⟩
theorem cells_acc : ∀ {names : List (Str × NameKind)} {n : Nat} {acc : List (Str × Addr)} {p : Str × Addr}, p ∈ acc → p ∈ cellsFrom n names acc
  | [], _, _, _, h => h
  | (m, k) :: r, n, acc, p, h => by
    unfold cellsFrom
    split
    · exact cells_acc (List.mem_cons_of_mem _ h)
    · exact cells_acc h
theorem cells_has : ∀ {names : List (Str × NameKind)} {n : Nat} {acc : List (Str × Addr)} {x : Str}, (x, .cell) ∈ names → ∃ c, (x, c) ∈ cellsFrom n names acc
  | (m, k) :: r, n, acc, x, h => by
    unfold cellsFrom
    rcases List.mem_cons.mp h with e | h
    · cases e
      exact ⟨n, cells_acc List.mem_cons_self⟩
    · split
      · exact cells_has h
      · exact cells_has h
theorem cells_inj : ∀ {names : List (Str × NameKind)} {h : Heap} {acc : List (Str × Addr)} {x y : Str} {c : Addr}, (∀ p ∈ acc, p.2 < h.objs.size) → (∀ x y c, (x, c) ∈ acc → (y, c) ∈ acc → x = y) →
    (x, c) ∈ cellsFrom h.objs.size names acc → (y, c) ∈ cellsFrom h.objs.size names acc → x = y
  | [], _, _, _, _, _, _, hi, h1, h2 => hi _ _ _ h1 h2
  | (n, k) :: r, h, acc, x, y, c, hl, hi, h1, h2 => by
    unfold cellsFrom at h1 h2
    split at h1
    · rename_i hk
      rw [if_pos hk] at h2
      rw [← Heap.size_push h { cls := .type "cell", data := .cell none }] at h1 h2
      refine cells_inj (h := h.push _) (fun p hp => ?_) (fun x y c a b => ?_) h1 h2
      · rw [Heap.size_push]
        rcases List.mem_cons.mp hp with rfl | hp
        · exact Nat.lt_succ_self _
        · exact Nat.lt_succ_of_lt (hl p hp)
      · rcases List.mem_cons.mp a with e | a <;> rcases List.mem_cons.mp b with e' | b
        · cases e; cases e'; rfl
        · cases e; exact absurd (hl _ b) (Nat.lt_irrefl _)
        · cases e'; exact absurd (hl _ a) (Nat.lt_irrefl _)
        · exact hi _ _ _ a b
    · rename_i hk
      rw [if_neg hk] at h2
      exact cells_inj hl hi h1 h2
theorem newEnv_comp {M : Model} {A : Around} {E : Value → Shared → Prop} {s : Shared} {scope : Scope} {globals : Addr} {closure : List (Str × Addr)} {qual : Str} {func : Option Addr} {code : Value} {around : Env} {builtins : Addr} {Q : Env → Shared → Prop}
    (h : Q (newEnv scope s.heap.objs.size globals (cellsFrom (s.heap.objs.size + 1) scope.names closure) qual func code (some around) builtins)
      { s with heap := pushCells (s.heap.push { cls := .type "dict", data := .dict #[] }) scope.names }) :
    wpAny M A (newFunctionEnv scope globals closure [] qual func code (some around) builtins) Q E s := by
  simp only [newFunctionEnv, Option.isSome_some, if_true]
  refine wpAny_bind (wpAny_alloc ?_)
  refine wpAny_bind (wpAny_layCells _ (fun n k c => rfl) scope.names closure _ _ ?_)
  rw [show ({ s with heap := s.heap.push { cls := .type "dict", data := .dict #[] } } : Shared).heap.objs.size = s.heap.objs.size + 1 from Heap.size_push ..]
  rw [List.forIn_nil]
  exact wpAny_bind (wpAny_pure (wpAny_pure h))
/-- every name of the written scope, in the scope that runs -/
theorem lookup_relS {sc : Scope} : ∀ {names : List (Str × NameKind)} {x : Str} {k : NameKind},
    (names.map fun (n, k) => if (k == NameKind.free && sc.kind == .function && sc.names.lookup n == some .cell) then (n, NameKind.cell) else (n, k)).lookup x = some k →
    ∃ k', names.lookup x = some k' ∧ (k = k' ∨ (k' = .free ∧ k = .cell))
  | [], _, _, h => by simp at h
  | (n, k₀) :: r, x, k, h => by
    have ih := @lookup_relS sc r x k
    have h' : List.lookup x ((if (k₀ == NameKind.free && sc.kind == .function && sc.names.lookup n == some .cell) = true then (n, NameKind.cell) else (n, k₀)) :: (r.map _)) = some k := h
    cases hx : x == n with
    | true =>
      simp only [List.lookup_cons, hx]
      by_cases hc : (k₀ == NameKind.free && sc.kind == .function && sc.names.lookup n == some .cell) = true
      · rw [if_pos hc] at h'
        simp only [List.lookup_cons, hx] at h'
        cases h'
        simp only [Bool.and_eq_true, beq_iff_eq] at hc
        exact ⟨k₀, rfl, .inr ⟨hc.1.1, rfl⟩⟩
      · rw [if_neg hc] at h'
        simp only [List.lookup_cons, hx] at h'
        cases h'
        exact ⟨_, rfl, .inl rfl⟩
    | false =>
      simp only [List.lookup_cons, hx]
      by_cases hc : (k₀ == NameKind.free && sc.kind == .function && sc.names.lookup n == some .cell) = true
      · rw [if_pos hc] at h'
        simp only [List.lookup_cons, hx] at h'
        exact ih h'
      · rw [if_neg hc] at h'
        simp only [List.lookup_cons, hx] at h'
        exact ih h'
/-- the names of a comprehension's block: its own (with their places in N), or captured -/
structure BlkOk (N : List Str) (sc scope : Scope) (own : List (Str × Nat)) : Prop where
  kind : scope.kind = .function
  uniq : ∀ y ∈ scope.names, scope.names.lookup y.1 = some y.2
  ix : ∀ p ∈ own, N[p.2]? = some p.1
  free : ∀ y ∈ scope.names, y.2 = .free → sc.names.lookup y.1 = some .cell ∨ sc.names.lookup y.1 = some .free
  own : ∀ y ∈ scope.names, y.2 = .local ∨ y.2 = .cell → y.1 ∈ own.map (·.1) ∨ y.1 ∉ N
/-- the slots of the block's own names forgotten -/
def wipe (σ : St) : List Nat → St
  | [] => σ
  | v :: vs => (wipe σ vs).set v none
theorem wipe_length (σ : St) : ∀ vs : List Nat, (wipe σ vs).length = σ.length
  | [] => rfl
  | v :: vs => by unfold wipe; rw [List.length_set, wipe_length σ vs]
theorem wipe_some {σ : St} {i : Nat} {x : V} : ∀ {vs : List Nat}, (wipe σ vs)[i]? = some (some x) → σ[i]? = some (some x) ∧ i ∉ vs
  | [], h => ⟨h, by simp⟩
  | v :: vs, h => by
    unfold wipe at h
    by_cases hi : v = i
    · subst hi
      by_cases hv : v < (wipe σ vs).length
      · rw [List.getElem?_set_self hv] at h; cases h
      · rw [List.getElem?_eq_none (by simpa using hv)] at h; cases h
    · rw [List.getElem?_set_ne hi] at h
      obtain ⟨h1, h2⟩ := wipe_some h
      exact ⟨h1, by simp only [List.mem_cons, not_or]; exact ⟨fun e => hi e.symm, h2⟩⟩
/-- the context of a block that starts at s, its iterator's objects at fp -/
abbrev Cx.blk (X : Cx) (s : Shared) (H : Hp) (scope : Scope) (cenv : Env) (fp : List Addr) : Cx := { X with s_0 := s, H_0 := H, env := cenv, outer := X.stack, ex := fp, fn := fun x => scope.names.lookup x == some .cell, pn := [], xe := fun _ _ => False }
section
variable {X : Cx} {pins : List (Addr × Obj)} {σ : St} {H : Hp} {s : Shared}
theorem block_start {scope : Scope} {own : List (Str × Nat)} {fp : List Addr} (I : Inv X pins σ H s) (ok : BlkOk X.N X.env.scope scope own) (hN : X.N.Nodup) (hfp : ∀ b ∈ fp, FpOk X pins H b ∧ b < s.heap.objs.size) :
    Inv (X.blk s H scope (compEnvC scope (cellsFrom (s.heap.objs.size + 1) scope.names (cloFrom X.env.cells scope.names [])) s.heap.objs.size X.env) fp) [] (wipe σ (own.map (·.2))) H { s with heap := pushCells (s.heap.push { cls := .type "dict", data := .dict #[] }) scope.names } := by
  have hfree : ∀ y ∈ scope.names, y.2 = .free → ∃ c, X.env.cells.lookup y.1 = some c := fun y hy e => by
    rcases ok.free y hy e with k | k
    · exact I.ok.has _ (.inl k)
    · exact I.ok.has _ (.inr k)
  generalize hcenv : compEnvC scope (cellsFrom (s.heap.objs.size + 1) scope.names (cloFrom X.env.cells scope.names [])) s.heap.objs.size X.env = cenv
  have kp : ∀ b o, s.heap.get? b = some o → (pushCells (s.heap.push { cls := .type "dict", data := .dict #[] }) scope.names).get? b = some o := fun b o e => pushCells_keeps _ _ _ _ (Heap.get?_push_of_some _ e)
  have hL : cenv.locals = s.heap.objs.size := by rw [← hcenv]; rfl
  have hcl : cenv.cells = cellsFrom (s.heap.objs.size + 1) scope.names (cloFrom X.env.cells scope.names []) := by rw [← hcenv]; rfl
  have hsc : cenv.scope = relS scope X.env.scope := by rw [← hcenv]; rfl
  rw [← Heap.size_push s.heap { cls := .type "dict", data := .dict #[] }] at hcl
  have cm : ∀ {y c}, (y, c) ∈ cloFrom X.env.cells scope.names [] → X.env.cells.lookup y = some c ∧ c < s.heap.objs.size := fun {y c} hm => by
    rcases cloFrom_mem hm with hm | ⟨h1, rfl⟩
    · cases hm
    · obtain ⟨c, hc⟩ := hfree _ h1 rfl
      rw [hc]
      obtain ⟨w, z⟩ := I.cell _ _ hc
      exact ⟨rfl, z.lt⟩
  have mem : ∀ {y c}, cenv.cells.lookup y = some c → (X.env.cells.lookup y = some c ∧ c < s.heap.objs.size) ∨ (s.heap.objs.size + 1 ≤ c ∧ CellAt (pushCells (s.heap.push { cls := .type "dict", data := .dict #[] }) scope.names) c none) := fun {y c} e => by
    rw [hcl] at e
    rcases cells_mem (PySem.mem_of_lookup e) with hm | ⟨_, h2, h3⟩
    · exact .inl (cm hm)
    · rw [Heap.size_push] at h2; exact .inr ⟨h2, h3⟩
  have look : ∀ {y}, scope.names.lookup y = some .free → ∃ c, cenv.cells.lookup y = some c ∧ X.env.cells.lookup y = some c := fun {y} hl => by
    have hy : (y, NameKind.free) ∈ scope.names := PySem.mem_of_lookup hl
    obtain ⟨c', e'⟩ := mem_lookup (cells_acc (names := scope.names) (n := (s.heap.push { cls := .type "dict", data := .dict #[] }).objs.size) (cloFrom_has (cells := X.env.cells) (acc := []) hy))
    rw [← hcl] at e'
    refine ⟨c', e', ?_⟩
    rw [hcl] at e'
    rcases cells_mem (PySem.mem_of_lookup e') with hm | ⟨h1, _, _⟩
    · exact (cm hm).1
    · have := ok.uniq _ h1
      rw [hl] at this; cases this
  have okB : (X.blk s H scope cenv fp).Ok := by
    refine ⟨I.ok.mod, by show cenv.scope.kind = _; rw [hsc]; exact ok.kind, by show cenv.globals = _; rw [← hcenv]; exact I.ok.glob, by show cenv.builtins = _; rw [← hcenv]; exact I.ok.blt, by show s.heap.objs.size ≤ cenv.locals; rw [hL]; exact Nat.le_refl _,
      fun y z c e1 e2 => ?_, fun y hy => ?_, fun y c z e => ?_, I.ok.hd, I.ok.frames, .inl rfl, fun b hb => ⟨?_, fun y c e z => ?_⟩, I.bs, Nat.le_trans I.ok.bsz I.sz, fun b o e hb => ?_, fun b hb z => ?_, I.stack, I.stkFree⟩
    · have e1 : cenv.cells.lookup y = some c := e1
      have e2 : cenv.cells.lookup z = some c := e2
      rw [hcl] at e1 e2
      refine cells_inj (fun p hp => ?_) (fun y z c a b => I.ok.inj y z c (cm a).1 (cm b).1) (PySem.mem_of_lookup e1) (PySem.mem_of_lookup e2)
      rw [Heap.size_push]
      exact Nat.lt_succ_of_lt (cm (y := p.1) (c := p.2) hp).2
    · show ∃ c, cenv.cells.lookup y = some c
      have key : ∀ k, cenv.kindOf y = some k → (k = .cell ∨ k = .free) → ∃ c, cenv.cells.lookup y = some c := fun k hk hk' => by
        unfold Env.kindOf at hk
        rw [hsc] at hk
        obtain ⟨k', e, r⟩ := lookup_relS hk
        have : k' = .cell ∨ k' = .free := by
          rcases r with rfl | ⟨rfl, _⟩
          · exact hk'
          · exact .inr rfl
        rcases this with rfl | rfl
        · obtain ⟨c, hm⟩ := cells_has (n := (s.heap.push { cls := .type "dict", data := .dict #[] }).objs.size) (acc := cloFrom X.env.cells scope.names []) (PySem.mem_of_lookup e)
          obtain ⟨c', e'⟩ := mem_lookup hm
          exact ⟨c', by rw [hcl]; exact e'⟩
        · obtain ⟨c, h1, _⟩ := look e
          exact ⟨c, h1⟩
      rcases hy with hy | hy
      · exact key _ hy (.inl rfl)
      · exact key _ hy (.inr rfl)
    · have z : (scope.names.lookup y == some NameKind.cell) = true := z
      have z : scope.names.lookup y = some .cell := by simpa using z
      have e : cenv.cells.lookup y = some c := e
      rw [hcl] at e
      rcases cells_mem (PySem.mem_of_lookup e) with hm | ⟨_, h2, _⟩
      · rcases cloFrom_mem hm with hm | ⟨h1, _⟩
        · cases hm
        · have q := ok.uniq _ h1
          rw [z] at q; cases q
      · rw [Heap.size_push] at h2
        exact Nat.le_of_succ_le h2
    · show b ≠ cenv.locals
      rw [hL]; exact Nat.ne_of_lt (hfp b hb).2
    · have e : cenv.cells.lookup y = some c := e
      rcases mem e with ⟨h1, _⟩ | ⟨h1, _⟩
      · exact (hfp b hb).1.2.2.2.2.1 y c h1 z
      · have h2 : s.heap.objs.size + 1 ≤ b := by rw [← z]; exact h1
        exact absurd (Nat.lt_of_lt_of_le (hfp b hb).2 (Nat.le_of_succ_le h2)) (Nat.lt_irrefl _)
    · rcases (hfp b hb).1.2.2.2.1 with z | z
      · exact I.ok.noex b o e z
      · exact absurd (Nat.lt_of_lt_of_le (Heap.lt_size e) (Nat.le_trans I.ok.bsz z)) (Nat.lt_irrefl _)
    · rcases List.mem_cons.mp (I.stkSub b z) with z | z
      · exact (hfp b hb).1.2.1 z
      · exact (hfp b hb).1.2.2.1 z
  refine ⟨okB, rfl, I.bare, Un.kept kp, ⟨fun _ => none, ?_, fun i y av e1 e2 e3 => ?_⟩, fun y c e => ?_, ?_, fun y c e => ?_, fun p hp => ?_, I.hok.kept kp, by rw [wipe_length]; exact I.len⟩
  · show Heap.Ns _ cenv.locals _
    rw [hL]
    exact Heap.Ns.keeps (Heap.Ns.new ..) fun b o e => pushCells_keeps _ _ _ _ e
  · obtain ⟨e2, hne⟩ := wipe_some e2
    have hfr : scope.names.lookup y = some .free ∧ (cenv.kindOf y = some .cell ∨ cenv.kindOf y = some .free) := by
      have key : ∀ k, cenv.scope.names.lookup y = some k → k = .local ∨ k = .cell ∨ k = .free → scope.names.lookup y = some .free ∧ (cenv.kindOf y = some .cell ∨ cenv.kindOf y = some .free) := fun k hk hk' => by
        have hk0 := hk
        rw [hsc] at hk
        obtain ⟨k', e, r⟩ := lookup_relS hk
        have no : ¬ (k' = .local ∨ k' = .cell) := fun hh => by
          rcases ok.own _ (PySem.mem_of_lookup e) hh with e' | e'
          · obtain ⟨p, hp, hpy⟩ := List.mem_map.mp e'
            have e3 := ok.ix p hp
            have : p.1 = y := hpy
            rw [this] at e3
            exact hne (List.mem_map.mpr ⟨p, hp, nodup_ix hN e3 e1⟩)
          · exact e' (List.mem_of_getElem? e1)
        rcases r with rfl | ⟨rfl, rfl⟩
        · rcases hk' with rfl | rfl | rfl
          · exact absurd (.inl rfl) no
          · exact absurd (.inr rfl) no
          · exact ⟨e, .inr hk0⟩
        · exact ⟨e, .inl hk0⟩
      have e3 : Vis cenv.scope y := e3
      rcases e3 with e3 | e3 | e3
      · exact key _ e3 (.inl rfl)
      · exact key _ e3 (.inr (.inl rfl))
      · exact key _ e3 (.inr (.inr rfl))
    obtain ⟨m, hn, hl⟩ := I.loc
    have hvis : Vis X.env.scope y := (ok.free _ (PySem.mem_of_lookup hfr.1) rfl).elim (fun k => .inr (.inl k)) (fun k => .inr (.inr k))
    obtain ⟨w, r, q⟩ := hl i y av e1 e2 hvis
    refine ⟨w, r, .inr ⟨hfr.2, ?_⟩⟩
    obtain ⟨c, h1, h2⟩ := look hfr.1
    rcases q with ⟨k, _⟩ | ⟨_, c', e', z⟩
    · have k : X.env.scope.names.lookup y = some .local := k
      rcases ok.free _ (PySem.mem_of_lookup hfr.1) rfl with k' | k' <;> rw [show X.env.scope.names.lookup y = _ from k'] at k <;> cases k
    · rw [h2] at e'; cases e'
      exact ⟨c, h1, z.keeps kp⟩
  · have e : cenv.cells.lookup y = some c := e
    rcases mem e with ⟨h1, _⟩ | ⟨_, z⟩
    · obtain ⟨w, z⟩ := I.cell y c h1
      exact ⟨w, z.keeps kp⟩
    · exact ⟨_, z⟩
  · show H cenv.locals = none
    rw [hL]; exact I.hok.fresh (Nat.le_refl _)
  · have e : cenv.cells.lookup y = some c := e
    rcases mem e with ⟨h1, _⟩ | ⟨h1, _⟩
    · exact I.freeC y c h1
    · exact I.hok.fresh (Nat.le_of_succ_le h1)
  · exact absurd (show p ∈ ([] : List (Addr × Obj)) ++ [] from hp) (by simp)
/-- an item appended to a tracked list -/
theorem app_ok {E : Value → Shared → Prop} {D : Addr} {xs : List V} {y : V} {v : Value} {Q : Value → Shared → Prop} (I : Inv X pins σ H s) (hD : H D = some (.lst xs)) (hz : xs.length < sizeLine) (r : RelV y v)
    (h : ∀ s', Inv X pins σ (upd H D (.lst (xs ++ [y]))) s' → Q .none s') : wpAny (model X.prog X.w) X.A (call (.builtin "list.append") [.ref D, v]) Q E s := by
  obtain ⟨hz', its, n, ri, e⟩ := I.hok D _ hD
  have hl := ri.length
  refine append_at (hsz := by rw [List.size_toArray]; omega) e fun h' sb ho' => ?_
  refine h { s with heap := h' } (I.write (t' := s.toks) (by rw [hD]; trivial) (.inl rfl) (fun b u hb q => (sb.2 b hb).trans q) ⟨_, ho'⟩ ⟨by rw [List.length_append]; exact hz, its ++ [v], n + 1, ri.append (.cons r .nil), ?_⟩)
  rw [ho']
  simp
/-- a clause's tests -/
def PTs (X : Cx) (ifs : List Expr) (t : TT) : Prop :=
  ∀ (pins : List (Addr × Obj)) (s : Shared) (σ : St) (H : Hp) (Q : Bool → Hp → Prop), Inv X pins σ H s → t σ H Q →
    wpAny (model X.prog X.w) X.A (forIn ifs true fun c r => if r = true then do let ok ← isTrue c X.env (eval c X.env); pure (ForInStep.yield ok) else pure (ForInStep.yield r)) (TP X pins σ Q) X.xe s
def tYes : TT := fun _ H Q => Q true H
theorem pts_nil : PTs X [] tYes := fun _ _ _ H _ I h => wpAny_tests_nil ⟨H, I, h⟩
theorem pts_one {c : Expr} {t : TT} (h : PT X c t) : PTs X [c] t := fun pins s σ H Q I hw => wpAny_tests_one (h pins s σ H Q I hw)
end
theorem thnF {α : Type} {t : Sem α} {Q Q' : α → Shared → Prop} {M : Model} {A : Around} {E : Value → Shared → Prop} {s : Shared} (h : wpAny M A t Q (fun _ _ => False) s) (hQ : ∀ a s, Q a s → Q' a s) : wpAny M A t Q' E s := wpAny_mono h hQ fun _ _ z => False.elim z
/-- the loop of a list comprehension's block, the target of any form (codeAny_compLoop_tests asks a target that no tuple goes to; statement and proof follow it, PyProof/CompMap.lean:41-61, with the step letOwnedTupleGo kept) -/
theorem compLoop_any {prog : Program} {w : World} {A : Around} {R : Result → Shared → Prop} {s : Shared} {elt target iter : Expr} {ifs : List Expr} {scope : Scope} {pos : Pos} {it acc : Value} {env : Env} (I : Nat → Shared → Prop)
    (turn : ∀ n s, I n s → wpAny (model prog w) A (pyNext it) (fun r s₁ => match r with
      | none => R (.ok .next) s₁
      | some v => wpAny (model prog w) A (letOwnedTupleGo target it v) (fun _ s₁' => wpAny (model prog w) A (assign target env v) (fun _ s₂ =>
          wpAny (model prog w) A (forIn ifs true fun c r => if r = true then do let ok ← isTrue c env (eval c env); pure (ForInStep.yield ok) else pure (ForInStep.yield r)) (fun ok s₃ =>
            if ok = true then wpAny (model prog w) A (eval elt env) (fun x s₄ =>
              wpAny (model prog w) A (call (.builtin "list.append") [acc, x]) (fun _ s₅ => ∃ m, m < n ∧ I m s₅) (notedBy (model prog w) A env fun e s' => R (.error e) s') s₄) (notedBy (model prog w) A env fun e s' => R (.error e) s') s₃
            else ∃ m, m < n ∧ I m s₃) (notedBy (model prog w) A env fun e s' => R (.error e) s') s₂) (notedBy (model prog w) A env fun e s' => R (.error e) s') s₁') (notedBy (model prog w) A env fun e s' => R (.error e) s') s₁) (notedBy (model prog w) A env fun e s' => R (.error e) s') s)
    (n : Nat) (h : I n s) :
    codeAny (model prog w) A (.compLoop (.ListComp elt [⟨target, iter, ifs, 0⟩] scope pos) 0 it acc env) R s := by
  refine codeAny_loop rfl I (fun n s hI => ?_) n h
  show wpAny _ A ((compTurn (.ListComp elt [⟨target, iter, ifs, 0⟩] scope pos) 0 it acc env).onRaise (fun x => do noteFrame x env; theTreesLotGoes x)) _ _ s
  refine wpAny_noted ?_
  rw [compTurn_list]
  refine wpAny_bind (wpAny_standAt (wpAny_bind (wpAny_mono (turn n s hI) (fun r s₁ h₁ => ?_) fun _ _ h' => h')))
  cases r with
  | none => exact wpAny_pure h₁
  | some v =>
    refine wpAny_bind (wpAny_mono h₁ (fun _ s₁' h₁' => ?_) fun _ _ h' => h')
    refine wpAny_bind (wpAny_mono h₁' (fun _ s₂ h₂ => wpAny_bind (wpAny_mono h₂ (fun ok s₃ h₃ => ?_) fun _ _ h' => h')) fun _ _ h' => h')
    cases ok with
    | false => exact wpAny_pure ⟨rfl, h₃⟩
    | true =>
      exact wpAny_bind (wpAny_bind (wpAny_mono h₃ (fun x s₄ h₄ => wpAny_bind (wpAny_mono h₄ (fun _ s₅ h₅ => wpAny_pure (wpAny_pure ⟨rfl, h₅⟩)) fun _ _ h' => h')) fun _ _ h' => h'))
section
variable {X : Cx}
/-- [elt for target in iter if ..]: D the new list; W by the turn and a measure, Nx what a turn is to reach -/
def tLc (wi : TI) (g : TG) (tt : TT) (te : TE) (vs : List Nat) : TE := fun σ H Q => wi σ H fun J H1 => ∀ D, H1 D = none → ∃ W : Nat → Nat → Hp → Prop, (∃ m, W 0 m (upd H1 D (.lst []))) ∧ ∀ i m H, W i m H →
  (J.stop i H ∧ Q (.ref D) H) ∨ (J.go i H ∧ ∃ Nx : Hp → Prop, (∀ H', Nx H' → ∃ m', m' < m ∧ W (i + 1) m' H') ∧ ∀ x H', J.yld i H x H' → g x (wipe σ vs) H' fun σ2 H2 => wipe σ2 vs = wipe σ vs ∧ tt σ2 H2 fun b H3 =>
    if b = true then te σ2 H3 fun y H4 => ∃ acc, H4 D = some (.lst acc) ∧ acc.length < sizeLine ∧ Nx (upd H4 D (.lst (acc ++ [y]))) else Nx H3)
theorem lc_core {pins : List (Addr × Obj)} {s : Shared} {σ : St} {H : Hp} {Q : VK} {elt tg iter : Expr} {ifs : List Expr} {scope : Scope} {own : List (Str × Nat)} {pos pos' : Pos} {wi : TI} {g : TG} {tt : TT} {te : TE} {use : Option (Value → Sem Unit)} {Qf : Value → Shared → Prop}
    (hc : X.calm = true) (hN : X.N.Nodup) (I : Inv X pins σ H s) (hi : PI X tg iter wi) (ok : BlkOk X.N X.env.scope scope own)
    (hg : ∀ (s : Shared) (H : Hp) (C : Addr) (cl : List (Str × Addr)) (fp : List Addr), PG (X.blk s H scope (compEnvC scope cl C X.env) fp) tg g) (ht : ∀ (s : Shared) (H : Hp) (C : Addr) (cl : List (Str × Addr)) (fp : List Addr), PTs (X.blk s H scope (compEnvC scope cl C X.env) fp) ifs tt)
    (he : ∀ (s : Shared) (H : Hp) (C : Addr) (cl : List (Str × Addr)) (fp : List Addr), PE (X.blk s H scope (compEnvC scope cl C X.env) fp) elt te) (hs : ∀ x, foldedSetIterable iter X.env x = pure x)
    (h : tLc wi g tt te (own.map (·.2)) σ H Q)
    (hRR : ∀ D C s' m H', Inv X pins σ H' s' → Q (.ref D) H' → s'.heap.Ns C m → FpOk X pins H' C → compPost (model X.prog X.w) X.A X.xe use Qf (.ref D) C (.ok .next) s') :
    wpAny (model X.prog X.w) X.A (comprehension (.ListComp elt [⟨tg, iter, ifs, 0⟩] scope pos) scope X.env pos' (newList []) false (eval iter X.env) use) Qf X.xe s := by
  have hfree : ∀ y ∈ scope.names, y.2 = .free → ∃ c, X.env.cells.lookup y.1 = some c := fun y hy e => by
    rcases ok.free y hy e with k | k
    · exact I.ok.has _ (.inl k)
    · exact I.ok.has _ (.inr k)
  refine wpAny_comprehension_free (use := use) rfl hs (closure_ok hfree) ok.kind (fun y hy e => by rw [ok.uniq y hy, e])
    (thn (hi pins s σ H _ I h) fun xv s1 hx => thn hx fun itv s2 h2 => ?_)
  obtain ⟨it, fp, tn, J, H2, e, I2, T, st2, f2, q⟩ := h2
  subst e
  refine wpAny_newObj_type (newEnv_comp ?_) (by show 0 ≤ sizeLine; decide)
  generalize hD : s2.heap.objs.size = D
  have hDn : H2 D = none := I2.hok.fresh (Nat.le_of_eq hD)
  obtain ⟨W, ⟨m0, w0⟩, turn⟩ := q D hDn
  -- the new list
  generalize hs3 : ({ s2 with heap := s2.heap.push { cls := .type "list", data := .seq ([] : List Value).toArray } } : Shared) = s3
  have I3 : Inv X pins σ (upd H2 D (.lst [])) s3 := by
    rw [← hs3]
    refine I2.laid (t' := s2.toks) (fun b o e => Heap.get?_push_of_some _ e) (Nat.le_of_eq hD) ⟨Nat.zero_le _, [], 0, .nil, ?_⟩
    rw [← hD]
    exact Heap.get?_push_size _ rfl
  have h3 : s3.heap = s2.heap.push { cls := .type "list", data := .seq ([] : List Value).toArray } := by rw [← hs3]
  have sz : ∀ b ∈ fp, b < s2.heap.objs.size := fun b hb => by
    obtain ⟨o, e, _⟩ := T.obj _ _ st2 b hb
    exact Heap.lt_size e
  have f3 : ∀ b ∈ fp, FpOk X pins (upd H2 D (.lst [])) b ∧ b < s3.heap.objs.size := fun b hb => by
    have hlt := sz b hb
    refine ⟨⟨?_, (f2 b hb).2⟩, by rw [h3, Heap.size_push]; exact Nat.lt_succ_of_lt hlt⟩
    rw [upd_ne (by rw [← hD]; exact Nat.ne_of_lt hlt)]
    exact (f2 b hb).1
  have st3 : tn 0 s3.heap := T.keep _ _ _ st2 fun b _ o e => by rw [h3]; exact Heap.get?_push_of_some _ e
  have I4 := block_start I3 ok hN f3
  have pg := hg s3 (upd H2 D (.lst [])) s3.heap.objs.size (cellsFrom (s3.heap.objs.size + 1) scope.names (cloFrom X.env.cells scope.names [])) fp
  have pt := ht s3 (upd H2 D (.lst [])) s3.heap.objs.size (cellsFrom (s3.heap.objs.size + 1) scope.names (cloFrom X.env.cells scope.names [])) fp
  have pe := he s3 (upd H2 D (.lst [])) s3.heap.objs.size (cellsFrom (s3.heap.objs.size + 1) scope.names (cloFrom X.env.cells scope.names [])) fp
  show codeAny _ _ (.compStart (.ListComp elt [⟨tg, iter, ifs, 0⟩] scope pos) 0 (.ref it) (.ref D) (compEnvC scope (cellsFrom (s3.heap.objs.size + 1) scope.names (cloFrom X.env.cells scope.names [])) s3.heap.objs.size X.env)) (compPost (model X.prog X.w) X.A X.xe use Qf (.ref D) s3.heap.objs.size) { s3 with heap := pushCells (s3.heap.push { cls := .type "dict", data := .dict #[] }) scope.names }
  have nfp : ∀ b ∈ fp, (upd H2 D (.lst [])) b = none := fun b hb => (f3 b hb).1.1
  generalize hce : compEnvC scope (cellsFrom (s3.heap.objs.size + 1) scope.names (cloFrom X.env.cells scope.names [])) s3.heap.objs.size X.env = ce at I4 pg pt pe ⊢
  have cL : ce.locals = s3.heap.objs.size := by subst hce; rfl
  generalize hH3 : upd H2 D (.lst []) = H3 at I3 I4 pg pt pe w0 nfp f3
  generalize hs4 : ({ s3 with heap := pushCells (s3.heap.push { cls := .type "dict", data := .dict #[] }) scope.names } : Shared) = s4 at I4 ⊢
  have st4 : tn 0 s4.heap := T.keep _ _ _ st3 fun b _ o e => by rw [← hs4]; exact pushCells_keeps _ _ _ _ (Heap.get?_push_of_some _ e)
  have stat : ∀ {σ' : St} {H' : Hp} {s' : Shared}, Inv (X.blk s3 H3 scope ce fp) [] σ' H' s' → (∀ b ∈ fp, H' b = none) → ∀ b ∈ fp, FpOk (X.blk s3 H3 scope ce fp) [] H' b := fun {σ' H' s'} I' hn b hb =>
    ⟨hn b hb, (I'.ok.exf b hb).1, I'.ok.exfs b hb, .inl hb, fun x c e => (I'.ok.exf b hb).2 x c e, fun p hp => absurd (show p ∈ ([] : List (Addr × Obj)) ++ [] from hp) (by simp)⟩
  have loop : codeAny (model X.prog X.w) X.A (.compLoop (.ListComp elt [⟨tg, iter, ifs, 0⟩] scope pos) 0 (.ref it) (.ref D) ce) (compPost (model X.prog X.w) X.A X.xe use Qf (.ref D) s3.heap.objs.size) s4 := by
    refine compLoop_any (fun n s' => ∃ i H', Inv (X.blk s3 H3 scope ce fp) [] (wipe σ (own.map (·.2))) H' s' ∧ tn i s'.heap ∧ (∀ b ∈ fp, H' b = none) ∧ W i n H') ?_ m0 ⟨0, H3, I4, st4, nfp, w0⟩
    rintro n s5 ⟨i, H5, I5, st5, n5, w5⟩
    rcases turn i n H5 w5 with ⟨stop, qq⟩ | ⟨go, Nx, hNx, step⟩
    · have td := T.done (X.blk s3 H3 scope ce fp) rfl rfl rfl hc i [] s5 _ H5 (fun _ _ => False) I5 (stat I5 n5) st5 stop
      refine thnF td fun r s6 ⟨hr, I6⟩ => ?_
      subst hr
      -- back in the def's context
      have I7 : Inv X pins σ H5 s6 := I3.call' (ch := fp) I6.os I6.base I6.hok I6.bare fun b hb => ⟨(f3 b hb).1.2.2.2.1, (f3 b hb).1.2.1, (f3 b hb).1.2.2.2.2.1, (f3 b hb).1.2.2.2.2.2⟩
      have nC : H5 s3.heap.objs.size = none := by
        have z : H5 ce.locals = none := I6.free
        rw [cL] at z
        exact z
      obtain ⟨m, hn, _⟩ := I6.loc
      have hn : s6.heap.Ns ce.locals m := hn
      rw [cL] at hn
      exact hRR D s3.heap.objs.size s6 m H5 I7 qq hn (I3.fpOk (Nat.le_refl _) nC)
    · have ti := T.item (X.blk s3 H3 scope ce fp) rfl rfl rfl hc i [] s5 _ H5 (fun _ _ => False) I5 (stat I5 n5) st5 go
      refine thnF ti fun r s6 ⟨u, hr, h6⟩ => ?_
      subst hr
      refine thnF h6 fun _ s7 ⟨x, H7, I7, r7, y7, st7, n7⟩ => ?_
      have I7' := I7.pinned (stat I7 n7) (T.obj _ _ st7)
      refine thnF (pg _ s7 _ H7 x u _ I7' r7 (step x H7 y7)) fun _ s8 ⟨σ8, H8, I8, hw8, q8⟩ => ?_
      refine thnF (pt _ s8 σ8 H8 _ I8 q8) fun b s9 ⟨H9, I9, q9⟩ => ?_
      -- the turn's end
      have fin : ∀ {s' : Shared} {H' : Hp}, Inv (X.blk s3 H3 scope ce fp) ([] ++ pinsAt fp s7.heap) σ8 H' s' → Nx H' → ∃ m, m < n ∧ ∃ i H', Inv (X.blk s3 H3 scope ce fp) [] (wipe σ (own.map (·.2))) H' s' ∧ tn i s'.heap ∧ (∀ b ∈ fp, H' b = none) ∧ W i m H' := fun {s' H'} I' nx => by
        obtain ⟨m', hm, w'⟩ := hNx H' nx
        have pin' : ∀ b ∈ fp, ∀ o, s7.heap.get? b = some o → s'.heap.get? b = some o ∧ H' b = none := fun b hb o e =>
          let z := I'.pin (b, o) (List.mem_append_right _ (List.mem_append_right _ (mem_pinsAt hb e)))
          ⟨z.1, z.2.1⟩
        have hl : (wipe σ (own.map (·.2))).length = σ8.length := by rw [← hw8, wipe_length]
        refine ⟨m', hm, i + 1, H', (I'.unpinned (pins := [])).weak hl (fun j v e => ?_), T.keep _ _ _ st7 fun b hb o e => (pin' b hb o e).1, fun b hb => ?_, w'⟩
        · rw [← hw8] at e
          exact (wipe_some e).1
        · obtain ⟨o, e, _⟩ := T.obj _ _ st7 b hb
          exact (pin' b hb o e).2
      cases b with
      | false =>
        simp only [Bool.false_eq_true, if_false] at q9 ⊢
        exact fin I9 q9
      | true =>
        simp only [if_true] at q9 ⊢
        refine thnF (pe _ s9 σ8 H9 _ I9 q9) fun z s10 ⟨yv, H10, I10, r10, acc, hD10, hz10, nx⟩ => ?_
        exact app_ok (X := X.blk s3 H3 scope ce fp) I10 hD10 hz10 r10 fun s11 I11 => fin I11 nx
  exact codeAny_compStart_list loop (T.self X.A 0 _ _ _ st4 loop)
/-- as a value -/
theorem pe_lc {elt tg iter : Expr} {ifs : List Expr} {scope : Scope} {own : List (Str × Nat)} {pos : Pos} {wi : TI} {g : TG} {tt : TT} {te : TE} (hc : X.calm = true) (hN : X.N.Nodup) (hi : PI X tg iter wi) (ok : BlkOk X.N X.env.scope scope own)
    (hg : ∀ (s : Shared) (H : Hp) (C : Addr) (cl : List (Str × Addr)) (fp : List Addr), PG (X.blk s H scope (compEnvC scope cl C X.env) fp) tg g) (ht : ∀ (s : Shared) (H : Hp) (C : Addr) (cl : List (Str × Addr)) (fp : List Addr), PTs (X.blk s H scope (compEnvC scope cl C X.env) fp) ifs tt)
    (he : ∀ (s : Shared) (H : Hp) (C : Addr) (cl : List (Str × Addr)) (fp : List Addr), PE (X.blk s H scope (compEnvC scope cl C X.env) fp) elt te) (hs : ∀ x, foldedSetIterable iter X.env x = pure x := by intro _; rfl) :
    PE X (.ListComp elt [⟨tg, iter, ifs, 0⟩] scope pos) (tLc wi g tt te (own.map (·.2))) := by
  intro pins s σ H Q I h
  rw [eval_ListComp]
  refine lc_core hc hN I hi ok hg ht he hs h fun D C s' m H' I' q hn f => ⟨m, hn, fun h'' sb => ?_⟩
  obtain ⟨f0, f1, f2, f3, f4, f5⟩ := f
  exact ⟨.ref D, H', I'.turned (t' := s'.toks) (fun b o hb e => (sb.2 b hb).trans e) f0 f1 f3 f4 f5, rfl, q⟩
/-- name = [..] on one line, the name a local -/
theorem ps_setLc {i : Nat} {y : Str} {py : Pos} {elt tg iter : Expr} {ifs : List Expr} {scope : Scope} {own : List (Str × Nat)} {pos spos : Pos} {wi : TI} {g : TG} {tt : TT} {te : TE} (hc : X.calm = true) (hN : X.N.Nodup) (hy : X.N[i]? = some y) (hyl : X.env.scope.names.lookup y = some .local)
    (hsw : swapsWith (.ListComp elt [⟨tg, iter, ifs, 0⟩] scope pos) (some (.Name y py)) spos.line X.env = pure true) (hi : PI X tg iter wi) (ok : BlkOk X.N X.env.scope scope own)
    (hg : ∀ (s : Shared) (H : Hp) (C : Addr) (cl : List (Str × Addr)) (fp : List Addr), PG (X.blk s H scope (compEnvC scope cl C X.env) fp) tg g) (ht : ∀ (s : Shared) (H : Hp) (C : Addr) (cl : List (Str × Addr)) (fp : List Addr), PTs (X.blk s H scope (compEnvC scope cl C X.env) fp) ifs tt)
    (he : ∀ (s : Shared) (H : Hp) (C : Addr) (cl : List (Str × Addr)) (fp : List Addr), PE (X.blk s H scope (compEnvC scope cl C X.env) fp) elt te) (hs : ∀ x, foldedSetIterable iter X.env x = pure x := by intro _; rfl) :
    PS X (.Assign [.Name y py] (.ListComp elt [⟨tg, iter, ifs, 0⟩] scope pos) spos) (tAsg (tLc wi g tt te (own.map (·.2))) (gName i)) := by
  intro pins s σ H D I h
  rw [exec_Assign_Name_used _ _ _ _ hsw]
  refine wpAny_bind (wpAny_standAt (wpAny_bind ?_))
  show wpAny _ X.A (do let _ ← comprehension (.ListComp elt [⟨tg, iter, ifs, 0⟩] scope pos) scope X.env (firstIterPos [⟨tg, iter, ifs, 0⟩] pos) (newList []) false (eval iter X.env) (some (assign (.Name y py) X.env))) _ _ s
  have h : tLc wi g tt te (own.map (·.2)) σ H (fun x H1 => gName i x σ H1 D.nx) := h
  refine wpAny_bind (thn (lc_core (Qf := fun _ s' => SP X pins D .next s') hc hN I hi ok hg ht he hs h fun L C s' m H' I' q hn f => ?_) fun _ s' hq => wpAny_pure (wpAny_pure hq))
  show wpAny _ _ (assign (.Name y py) X.env (.ref L)) _ _ _
  refine wpAny_assign_Name (store_ok2 (v := V.ref L) I' hN hy (.inl hyl) rfl (fun s2 I2 ⟨a, sb, ha⟩ => ?_) (.inr hyl))
  obtain ⟨f0, f1, f2, f3, f4, f5⟩ := f
  have haC : C ≠ a := by
    rcases ha with z | z
    · rw [z]; exact f1
    · exact fun e => f4 y a z e.symm
  refine ⟨m, hn.sameBut sb haC, fun h3 sb3 => ?_⟩
  exact ⟨_, H', I2.turned (t' := s2.toks) (fun b o hb e => (sb3.2 b hb).trans e) f0 f1 f3 f4 f5, q⟩
end
/-- over a range: Pv by the turn and the heap (the new list at D within) -/
theorem lc_range {lo : Int} {n : Nat} {g : TG} {tt : TT} {te : TE} {vs : List Nat} {σ : St} {H1 : Hp} {D : Addr} {Qd : Hp → Prop} (Pv : Nat → Hp → Prop) (h0 : Pv 0 (upd H1 D (.lst [])))
    (hs : ∀ i H, i < n → Pv i H → g (.int (lo + i)) (wipe σ vs) H fun σ2 H2 => wipe σ2 vs = wipe σ vs ∧ tt σ2 H2 fun b H3 =>
      if b = true then te σ2 H3 fun y H4 => ∃ acc, H4 D = some (.lst acc) ∧ acc.length < sizeLine ∧ Pv (i + 1) (upd H4 D (.lst (acc ++ [y]))) else Pv (i + 1) H3) (hd : ∀ H, Pv n H → Qd H) :
    ∃ W : Nat → Nat → Hp → Prop, (∃ m, W 0 m (upd H1 D (.lst []))) ∧ ∀ i m H, W i m H →
      ((Itr lo n).stop i H ∧ Qd H) ∨ ((Itr lo n).go i H ∧ ∃ Nx : Hp → Prop, (∀ H', Nx H' → ∃ m', m' < m ∧ W (i + 1) m' H') ∧ ∀ x H', (Itr lo n).yld i H x H' → g x (wipe σ vs) H' fun σ2 H2 => wipe σ2 vs = wipe σ vs ∧ tt σ2 H2 fun b H3 =>
        if b = true then te σ2 H3 fun y H4 => ∃ acc, H4 D = some (.lst acc) ∧ acc.length < sizeLine ∧ Nx (upd H4 D (.lst (acc ++ [y]))) else Nx H3) := by
  refine ⟨fun i m H => m = n - i ∧ i ≤ n ∧ Pv i H, ⟨n, by simp, Nat.zero_le _, h0⟩, ?_⟩
  rintro i m H ⟨rfl, hi, p⟩
  by_cases hlt : i < n
  · refine .inr ⟨hlt, Pv (i + 1), fun H' p' => ⟨n - (i + 1), by omega, rfl, hlt, p'⟩, fun x H' y => ?_⟩
    obtain ⟨e, y⟩ := y
    subst e y
    exact hs i _ hlt p
  · have e : i = n := by omega
    subst e
    exact .inl ⟨Nat.le_refl _, hd H p⟩
/-- over a list that the block leaves as it is -/
theorem lc_list {K : PySem.W.Frag} {a : Addr} {xs : List V} {g : TG} {tt : TT} {te : TE} {vs : List Nat} {σ : St} {H1 : Hp} {D : Addr} {Qd : Hp → Prop} (Pv : Nat → Hp → Prop) (h0 : Pv 0 (upd H1 D (.lst []))) (hl : ∀ i H, i ≤ xs.length → Pv i H → SqL K H a xs)
    (hs : ∀ i x H, xs[i]? = some x → Pv i H → g x (wipe σ vs) H fun σ2 H2 => wipe σ2 vs = wipe σ vs ∧ tt σ2 H2 fun b H3 =>
      if b = true then te σ2 H3 fun y H4 => ∃ acc, H4 D = some (.lst acc) ∧ acc.length < sizeLine ∧ Pv (i + 1) (upd H4 D (.lst (acc ++ [y]))) else Pv (i + 1) H3) (hd : ∀ H, Pv xs.length H → Qd H) :
    ∃ W : Nat → Nat → Hp → Prop, (∃ m, W 0 m (upd H1 D (.lst []))) ∧ ∀ i m H, W i m H →
      ((Itl K a).stop i H ∧ Qd H) ∨ ((Itl K a).go i H ∧ ∃ Nx : Hp → Prop, (∀ H', Nx H' → ∃ m', m' < m ∧ W (i + 1) m' H') ∧ ∀ x H', (Itl K a).yld i H x H' → g x (wipe σ vs) H' fun σ2 H2 => wipe σ2 vs = wipe σ vs ∧ tt σ2 H2 fun b H3 =>
        if b = true then te σ2 H3 fun y H4 => ∃ acc, H4 D = some (.lst acc) ∧ acc.length < sizeLine ∧ Nx (upd H4 D (.lst (acc ++ [y]))) else Nx H3) := by
  refine ⟨fun i m H => m = xs.length - i ∧ i ≤ xs.length ∧ Pv i H, ⟨xs.length, by simp, Nat.zero_le _, h0⟩, ?_⟩
  rintro i m H ⟨rfl, hi, p⟩
  have q := hl i H hi p
  by_cases hlt : i < xs.length
  · refine .inr ⟨⟨xs, xs[i], q, by simp [hlt]⟩, Pv (i + 1), fun H' p' => ⟨xs.length - (i + 1), by omega, rfl, hlt, p'⟩, fun x H' y => ?_⟩
    obtain ⟨e, y⟩ := y
    subst e
    exact hs i x _ (y xs q) p
  · have e : i = xs.length := by omega
    subst e
    exact .inl ⟨⟨xs, q, Nat.le_refl _⟩, hd H p⟩
def blkC (N : List Str) (sc scope : Scope) (own : List (Str × Nat)) : Bool :=
  (match scope.kind with | .function => true | _ => false) && (scope.names.all fun y => decide (scope.names.lookup y.1 = some y.2)) && (own.all fun p => decide (N[p.2]? = some p.1)) &&
    (scope.names.all fun y => match y.2 with
      | .free => (match sc.names.lookup y.1 with | some .cell => true | some .free => true | _ => false)
      | .local => decide (y.1 ∈ own.map (·.1)) || decide (y.1 ∉ N)
      | .cell => decide (y.1 ∈ own.map (·.1)) || decide (y.1 ∉ N)
      | _ => true)
theorem blkOk_by {N : List Str} {sc scope : Scope} {own : List (Str × Nat)} (h : blkC N sc scope own = true) : BlkOk N sc scope own := by
  unfold blkC at h
  simp only [Bool.and_eq_true, List.all_eq_true, decide_eq_true_eq] at h
  obtain ⟨⟨⟨h1, h2⟩, h3⟩, h4⟩ := h
  refine ⟨?_, h2, h3, fun y hy e => ?_, fun y hy e => ?_⟩
  · split at h1
    · assumption
    · cases h1
  · have q := h4 y hy
    simp only [e] at q
    split at q <;> first | exact .inl (by assumption) | exact .inr (by assumption) | cases q
  · have q := h4 y hy
    rcases e with e | e <;> (simp only [e, Bool.or_eq_true, decide_eq_true_eq] at q; exact q)
end L2
namespace L2
open PySem PySem.Spec PyProof.Rows
section
variable {prog : Program} {w : World} {A : Around} {R : Result → Shared → Prop} {s : Shared} {elt t0 i0 t1 i1 : Expr} {ifs0 ifs1 : List Expr} {scope : Scope} {pos : Pos} {it acc : Value} {env : Env}
end
section
variable {X : Cx}
end
end L2
namespace L2
open PySem PySem.Spec PyProof.Rows
section
variable {κ : Type} [DecidableEq κ]
end
section
variable {P : Program} {w : World} {H : Hp} {h : Heap} {a : Addr}
end
section
variable {X : Cx} {pins : List (Addr × Obj)} {σ : St} {H : Hp} {s : Shared} {a : Addr} {y v : V} {u r : Value} {o : Option V} {A : Around} {E : Value → Shared → Prop}
end
section
variable {X : Cx} {pins : List (Addr × Obj)} {σ : St} {H : Hp} {s : Shared} {a : Addr} {kvs : List (Key × V)} {k : Key} {u : Value} {A : Around} {E : Value → Shared → Prop}
end
section
variable {X : Cx} {o i e value : Expr} {pos pos' tpos : Pos} {td ty tv : TE}
end
section
variable {X : Cx} {pos : Pos}
end
section
variable {X : Cx} {pins : List (Addr × Obj)} {σ : St} {H : Hp} {s : Shared} {a : Addr} {y d : V} {u r : Value} {o : Option V} {A : Around} {E : Value → Shared → Prop}
end
section
variable {X : Cx} {o e f : Expr} {apos cpos : Pos} {td ty tx : TE}
end
section
variable {X : Cx} {pins : List (Addr × Obj)} {σ : St} {H : Hp} {s : Shared} {a : Addr} {kvs : List (Key × V)} {A : Around} {E : Value → Shared → Prop}
end
section
variable {X : Cx} {pins : List (Addr × Obj)} {σ : St} {H : Hp} {s : Shared} {a : Addr} {y : V} {u : Value} {A : Around} {E : Value → Shared → Prop}
end
end L2
namespace L2
open PySem PySem.Spec PyProof.Rows
section
variable {prog : Program} {w : World} {A : Around} {E : Value → Shared → Prop}
end
section
variable {X : Cx}
end
end L2
namespace L2
open PySem PySem.Spec PyProof.Rows
theorem boot_reversed5 : bootBuiltins "reversed" = some (.type "reversed") := by decide +kernel
section
variable {X : Cx} {pins : List (Addr × Obj)} {σ : St} {H : Hp} {s : Shared} {h' : Heap}
/-- several records of ours have turned -/
theorem Inv.turnedL {t' : Nat} {ch : List Addr} (I : Inv X pins σ H s) (k : ∀ b o, b ∉ ch → s.heap.get? b = some o → h'.get? b = some o) (hf : ∀ b ∈ ch, FpOk X pins H b) : Inv X pins σ H { s with heap := h', toks := t' } := by
  have nit : ∀ b u, H b = some u → b ∉ ch := fun b u e z => by
    have q := (hf b z).1
    rw [q] at e; cases e
  refine I.step (g' := s.gens) (d' := s.drawn) (ch := ch) (fun b hb => ⟨(hf b hb).2.2.2.1, (hf b hb).2.1, (hf b hb).2.2.2.2.1, (hf b hb).2.2.2.2.2⟩) (fun b o _ _ hc e _ => k b o hc e) (fun b o _ _ hc e _ => ⟨o.slots, k b o hc e⟩)
    (fun _ _ _ _ n => n) (fun b o hc e => ⟨o, k b o hc e⟩) (fun _ _ e => e) (fun _ _ _ e => e) (fun b ps e => ⟨#[], by rw [e]; simp⟩) (fun m hm => ?_) (fun b u e => ?_) I.bare
  · obtain ⟨o, es, ep, ho, r⟩ := hm
    exact ⟨o, es, ep, k _ o (fun z => (hf _ z).2.1 rfl) ho, r⟩
  · refine (I.hok b u e).stay (fun c v hc q => k c v ?_ q) (fun _ q => q) fun _ _ q => q
    rcases hc with z | z
    · rw [z]; exact nit b u e
    · exact nit c _ z
/-- .. and one new object is laid -/
theorem Inv.turnedNew {t' : Nat} {ch : List Addr} {T : Addr} {ob : HO} (I : Inv X pins σ H s) (k : ∀ b o, b ∉ ch → s.heap.get? b = some o → h'.get? b = some o) (hf : ∀ b ∈ ch, FpOk X pins H b) (hT : s.heap.objs.size ≤ T)
    (new : ObjOk X.prog X.w (upd H T ob) h' T ob) : Inv X pins σ (upd H T ob) { s with heap := h', toks := t' } := by
  have hn : H T = none := I.hok.fresh hT
  have nit : ∀ b u, H b = some u → b ∉ ch := fun b u e z => by
    have q := (hf b z).1
    rw [q] at e; cases e
  refine I.step (g' := s.gens) (d' := s.drawn) (ch := ch) (fun b hb => ⟨(hf b hb).2.2.2.1, (hf b hb).2.1, (hf b hb).2.2.2.2.1, (hf b hb).2.2.2.2.2⟩) (fun b o _ _ hc e _ => k b o hc e) (fun b o _ _ hc e _ => ⟨o.slots, k b o hc e⟩)
    (fun b o _ e n => ?_) (fun b o hc e => ⟨o, k b o hc e⟩) (fun b xs e => ?_) (fun b o u e => ?_) (fun b ps e => ⟨#[], ?_⟩) (fun m hm => ?_) (fun b u e => ?_) I.bare
  · rw [upd_ne (Nat.ne_of_lt (Nat.lt_of_lt_of_le (Heap.lt_size e) hT))]; exact n
  · rw [upd_ne (ne_of_none e hn)]; exact e
  · rw [upd_ne (ne_of_none e hn)]; exact e
  · rw [upd_ne (ne_of_none e hn), e]; simp
  · obtain ⟨o, es, ep, ho, r⟩ := hm
    exact ⟨o, es, ep, k _ o (fun z => (hf _ z).2.1 rfl) ho, r⟩
  · by_cases hb : b = T
    · subst hb
      rw [upd_same] at e
      cases e
      exact new
    · rw [upd_ne hb] at e
      refine (I.hok b u e).stay (fun c v hc q => k c v ?_ q) (fun c q => by rw [upd_ne (ne_of_none q hn)]; exact q) fun c xs q => by rw [upd_ne (ne_of_none q hn)]; exact q
      rcases hc with z | z
      · rw [z]; exact nit b u e
      · exact nit c _ z
theorem Inv.lock {d : Addr} {u : HO} (I : Inv X pins σ H s) (h : H d = some u) (mu : Mut (some u)) : ∃ od, Inv X pins σ (upd H d (.frz od u)) s := by
  have x := I.hok d u h
  have ex : ∃ od, s.heap.get? d = some od := by
    cases u with
    | lst xs => obtain ⟨_, _, _, _, e⟩ := x; exact ⟨_, e⟩
    | dK kvs => obtain ⟨_, _, _, _, o, _, _, e, _⟩ := x; exact ⟨o, e⟩
    | dT kvs => obtain ⟨_, _, _, _, o, _, _, e, _⟩ := x; exact ⟨o, e⟩
    | set S n => obtain ⟨o, _, _, _, e, _⟩ := x; exact ⟨o, e⟩
    | ins C dx fs => obtain ⟨_, _, _, e, _⟩ := x; exact ⟨_, e⟩
    | ext φ => obtain ⟨_, ⟨_, e⟩, _⟩ := x; exact ⟨_, e⟩
    | _ => exact False.elim mu
  obtain ⟨od, e⟩ := ex
  have new : ObjOk X.prog X.w (upd H d (.frz od u)) s.heap d (.frz od u) := by
    refine ⟨e, x.stay (fun b v _ q => q) (fun b q => ?_) fun b xs q => ?_⟩
    · rw [upd_ne (fun z => by rw [z, h] at q; cases q; exact mu)]; exact q
    · rw [upd_ne (fun z => by rw [z, h] at q; cases q; exact mu)]; exact q
  exact ⟨od, I.write (x := d) (e := d) (t' := s.toks) (h' := s.heap) (by rw [h]; exact mu) (.inl rfl) (fun b v _ q => q) ⟨od, e⟩ new⟩
theorem Inv.nofrz {d : Addr} {u : HO} (I : Inv X pins σ H s) (h : H d = some u) (mu : Mut (some u)) : ∀ o' u', X.H_0 d ≠ some (.frz o' u') := fun o' u' e => by
  have q := I.base.frzs d o' u' e
  rw [h] at q
  cases q
  exact mu
theorem Inv.unlock {d : Addr} {od : Obj} {u : HO} (I : Inv X pins σ H s) (h : H d = some (.frz od u)) (hn : ∀ o' u', X.H_0 d ≠ some (.frz o' u')) : Inv X pins σ (upd H d u) s := by
  have neH : ∀ b o, H b = some o → (∀ o' u', o ≠ .frz o' u') → b ≠ d := fun b o e hne z => by
    rw [z, h] at e
    cases e
    exact hne _ _ rfl
  have neN : ∀ b, H b = none → b ≠ d := fun b e z => by rw [z, h] at e; cases e
  refine ⟨I.ok, I.os, I.bare, ⟨I.base.keep, I.base.slot, fun b o e n hx => ?_, I.base.there, fun b xs e => ?_, fun b o x e => ?_, fun b ps e => ?_⟩, I.loc, I.cell, ?_, fun x c e => ?_, fun p hp => ?_, fun b o e => ?_, I.len⟩
  · rw [upd_ne (neN b (I.base.free b o e n hx))]; exact I.base.free b o e n hx
  · have q := I.base.tups b xs e
    rw [upd_ne (neH b _ q (fun _ _ z => nomatch z))]; exact q
  · have q := I.base.frzs b o x e
    rw [upd_ne (fun z => by rw [z] at e; exact hn _ _ e)]; exact q
  · obtain ⟨m, q⟩ := I.base.tbls b ps e
    exact ⟨m, by rw [upd_ne (neH b _ q (fun _ _ z => nomatch z))]; exact q⟩
  · rw [upd_ne (neN _ I.free)]; exact I.free
  · rw [upd_ne (neN c (I.freeC x c e))]; exact I.freeC x c e
  · obtain ⟨e, n, r⟩ := I.pin p hp
    exact ⟨e, by rw [upd_ne (neN _ n)]; exact n, r⟩
  · by_cases hb : b = d
    · rw [hb, upd_same] at e
      cases e
      rw [hb]
      obtain ⟨_, x⟩ := I.hok d _ h
      exact x.stay (fun c v _ q => q) (fun c q => by rw [upd_ne (neH c _ q (fun _ _ z => nomatch z))]; exact q) fun c xs q => by rw [upd_ne (neH c _ q (fun _ _ z => nomatch z))]; exact q
    · rw [upd_ne hb] at e
      exact (I.hok b o e).stay (fun c v _ q => q) (fun c q => by rw [upd_ne (neH c _ q (fun _ _ z => nomatch z))]; exact q) fun c xs q => by rw [upd_ne (neH c _ q (fun _ _ z => nomatch z))]; exact q
end
def tLockE (t : TE) : TE := fun σ H Q => ∃ d u, H d = some u ∧ Mut (some u) ∧ ∀ od, t σ (upd H d (.frz od u)) fun v H' => H' d = some (.frz od u) ∧ Q v (upd H' d u)
section
variable {X : Cx}
theorem pe_lock {e : Expr} {t : TE} (h : PE X e t) : PE X e (tLockE t) := by
  intro pins s σ H Q I hw
  obtain ⟨d, u, hd, mu, hw⟩ := hw
  obtain ⟨od, I1⟩ := I.lock hd mu
  refine thn (h pins s σ _ _ I1 (hw od)) fun v s1 ⟨x, H1, I2, r, e2, q⟩ => ?_
  exact ⟨x, _, I2.unlock e2 (I.nofrz hd mu), r, q⟩
theorem pi_one {tg : Expr} {pins : List (Addr × Obj)} {σ : St} {H : Hp} {s : Shared} {R : It → Hp → Prop} {J : It} {tn : Nat → Heap → Prop} {tk : Nat} (I : Inv X pins σ H s) (o : Obj)
    (T : Turn X.prog X.w X.K tg J [s.heap.objs.size] s.heap.objs.size tn) (st : tn 0 (s.heap.push o)) (q : R J H) : PIE X pins σ tg R (.ref s.heap.objs.size) { s with heap := s.heap.push o, toks := tk } := by
  refine ⟨s.heap.objs.size, [s.heap.objs.size], tn, J, H, rfl, I.kept fun b ob e => Heap.get?_push_of_some _ e, T, st, fun b hb => ?_, q⟩
  have e : b = s.heap.objs.size := by simpa using hb
  subst e
  exact I.fpOk (Nat.le_refl _) (I.hok.fresh (Nat.le_refl _))
end
/-- lo, lo + c, .. (n of them) -/
def Itc (lo c : Int) (n : Nat) : It := ⟨fun i _ => i < n, fun i H x H' => H' = H ∧ x = .int (lo + (i : Nat) * c), fun i _ => n ≤ i⟩
theorem turn_rangeC {P : Program} {w : World} {K : PySem.W.Frag} {tg : Expr} (it : Addr) (lo c : Int) (n : Nat) : Turn P w K tg (Itc lo c n) [it] it (fun i h => IsRangeIter h it (lo + (i : Nat) * c) ((n : Int) - (i : Nat)) c) where
  mem := by simp
  obj := fun i h st b hb => by
    have e : b = it := by simpa using hb
    subst e
    exact ⟨_, st, fun v z => nomatch z⟩
  keep := fun i h h' st k => k it (by simp) _ st
  item := by
    intro X hP hw hK hc i pins s σ H E I hf st hg
    subst hP hw hK
    obtain ⟨f0, f1, f2, f3, f4, f5⟩ := hf it (by simp)
    have W := Walks.range (prog := X.prog) (w := X.w) (I.ok.hd hc) it lo c n
    refine W.item i s _ _ hg st fun v h' tk hv st' kk => ?_
    obtain ⟨t, rfl⟩ := hv
    have I1 : Inv X pins σ H { s with heap := h', toks := tk } := I.turned (fun b o hb e => kk b o (by simpa using hb) e) f0 f1 f3 f4 f5
    exact ⟨_, rfl, go_of (s := { s with heap := h', toks := tk }) (n := "range_iterator") st' rfl rfl (by decide) ⟨.int (lo + (i : Nat) * c), H, I1, ⟨t, rfl⟩, ⟨rfl, rfl⟩, st', fun b hb => (hf b hb).1⟩⟩
  done := by
    intro X hP hw hK hc i pins s σ H E I hf st hg
    subst hP hw hK
    obtain ⟨f0, f1, f2, f3, f4, f5⟩ := hf it (by simp)
    exact wpAny_pyNext_range_end (I.ok.hd hc) st (by have : n ≤ i := hg; omega) fun h' eb => ⟨rfl, I.turned (t' := s.toks) (fun b o hb e => eb b o hb e) f0 f1 f3 f4 f5⟩
  self := fun A i s Q E st h => wpAny_pyIter_rangeiter st h
/-- range(i, j, c): small bounds, n items -/
def RgC (i j c : Int) (n : Nat) : Prop := c ≠ 0 ∧ c.natAbs < 1073741824 ∧ Builtin.Range.small i j c = true ∧ Builtin.Range.rangeSize i j c = n
def iRng3 (ta : TA) : TI := fun σ H R => ta σ H fun vs H1 => ∃ (i j c : Int) (n : Nat), vs = [.int i, .int j, .int c] ∧ RgC i j c n ∧ R (Itc i c n) H1
section
variable {X : Cx} {tg : Expr}
theorem pi_range3 {a b c : Expr} {ta : TA} {p pos : Pos} (hg : Gl X "range") (hm : X.mg "range" = none) (ha : PA X [a, b, c] ta)
    (hs : starEach [a, b, c] X.env = (false, eval a X.env) :: starEach [b, c] X.env := by rfl) (hpl : (backTo pos (starEach [b, c] X.env)).any (·.1) = false := by rfl) :
    PI X tg (.Call (.Name "range" p) [a, b, c] [] pos) (iRng3 ta) := by
  intro pins s σ H R I h
  refine Call_ (ld_blt I hg hm boot_range (PyProof.Rows.callWith_type1 (thn (ha pos pins s σ H _ I h) fun us s1 ⟨vs, H1, I1, r1, q1⟩ => ?_) hs hpl))
  obtain ⟨i, j, k, n, e, ⟨c0, c1, c2, c3⟩, q⟩ := q1
  subst e
  cases r1 with
  | cons r rr =>
    cases rr with
    | cons r' rr =>
      cases rr with
      | cons r'' rr =>
        cases rr
        obtain ⟨t, rfl⟩ := r
        obtain ⟨t', rfl⟩ := r'
        obtain ⟨t'', rfl⟩ := r''
        refine call_range_3 c0 ?_ (.inl (PyProof.noPylong_small c1))
        refine wpAny_pyIter_range (IsRange.new ..) c2 ?_
        have I2 : Inv X pins σ H1 { s1 with heap := s1.heap.push { cls := .type "range", data := .fields #[.int i t, .int j t', .int k t''] } } := I1.kept (t' := s1.toks) fun b o e => Heap.get?_push_of_some _ e
        refine pi_one (tk := s1.toks) I2 _ (turn_rangeC _ i k n) ?_ q
        have e1 : i + ((0 : Nat) : Int) * k = i := by simp
        have e2 : (n : Int) - ((0 : Nat) : Int) = Builtin.Range.rangeSize i j k := by rw [c3]; simp
        show IsRangeIter _ _ (i + ((0 : Nat) : Int) * k) ((n : Int) - ((0 : Nat) : Int)) k
        rw [e1, e2]
        exact Heap.get?_push_size _ rfl
end
/-- the list at a (n items at the start, which the loop leaves there), from its end -/
def Itv (K : PySem.W.Frag) (a : Addr) (n : Nat) : It :=
  ⟨fun i H => i < n ∧ ∃ (xs : List V) (x : V), SqL K H a xs ∧ xs[n - 1 - i]? = some x, fun i H x H' => H' = H ∧ ∀ xs, SqL K H a xs → xs[n - 1 - i]? = some x, fun i _ => n ≤ i⟩
theorem turn_rev {P : Program} {w : World} {K : PySem.W.Frag} {tg : Expr} (a it : Addr) (n : Nat) : Turn P w K tg (Itv K a n) [it] it (fun i h => i ≤ n ∧ h.IsRevIter it a ((n : Int) - 1 - (i : Nat))) where
  mem := by simp
  obj := fun i h st b hb => by
    have e : b = it := by simpa using hb
    subst e
    obtain ⟨_, o, e, c, d⟩ := st
    exact ⟨o, e, fun v z => by rw [d] at z; cases z⟩
  keep := fun i h h' st k => ⟨st.1, st.2.at fun o e => k it (by simp) o e⟩
  item := by
    intro X hP hw hK hc i pins s σ H E I hf st hg
    subst hP hw hK
    obtain ⟨hin, xs, x, hq, hx⟩ := hg
    obtain ⟨its, rv, p, hz⟩ := I.list hq
    obtain ⟨u, hu, ru⟩ := rv.get hx
    obtain ⟨f0, f1, f2, f3, f4, f5⟩ := hf it (by simp)
    obtain ⟨_, hit⟩ := st
    have e1 : (n : Int) - 1 - ((i : Nat) : Int) = ((n - 1 - i : Nat) : Int) := by omega
    rw [e1] at hit
    refine wpAny_pyNext_rev_item hit p.isList (x := u) (by simpa using hu) fun h' st' sb => ?_
    have e2 : ((n - 1 - i : Nat) : Int) - 1 = (n : Int) - 1 - ((i + 1 : Nat) : Int) := by omega
    rw [e2] at st'
    have I1 : Inv X pins σ H { s with heap := h' } := I.turned (t' := s.toks) (fun b o hb e => (sb.2 b hb).trans e) f0 f1 f3 f4 f5
    obtain ⟨o, e, c, d⟩ := id st'
    exact ⟨u, rfl, go_of (s := { s with heap := h' }) e c d (by decide) ⟨x, H, I1, ru, ⟨rfl, fun ys hy => by rw [I.list_inj hy hq]; exact hx⟩, ⟨hin, st'⟩, fun b hb => (hf b hb).1⟩⟩
  done := by
    intro X hP hw hK hc i pins s σ H E I hf st hg
    subst hP hw hK
    obtain ⟨f0, f1, f2, f3, f4, f5⟩ := hf it (by simp)
    obtain ⟨hin, hit⟩ := st
    have hge : n ≤ i := hg
    have e1 : (n : Int) - 1 - ((i : Nat) : Int) = -1 := by omega
    rw [e1] at hit
    exact wpAny_pyNext_rev_end (I.ok.hd hc) hit fun h' eb => ⟨rfl, I.turned (t' := s.toks) (fun b o hb e => eb b o hb e) f0 f1 f3 f4 f5⟩
  self := fun A i s Q E st h => wpAny_pyIter_revIter st.2 h
def iRev (K : PySem.W.Frag) (ta : TA) : TI := fun σ H R => ta σ H fun vs H1 => ∃ (a : Addr) (xs : List V), vs = [.ref a] ∧ SqL K H1 a xs ∧ R (Itv K a xs.length) H1
section
variable {X : Cx} {tg : Expr}
theorem pi_reversed {e : Expr} {ta : TA} {p pos : Pos} (hg : Gl X "reversed") (hm : X.mg "reversed" = none) (ha : PA X [e] ta) (hs : starEach [e] X.env = [(false, eval e X.env)] := by rfl) : PI X tg (.Call (.Name "reversed" p) [e] [] pos) (iRev X.K ta) := by
  intro pins s σ H R I h
  refine Call_ (ld_blt I hg hm boot_reversed5 (PyProof.Rows.callWith_type1 (thn (ha pos pins s σ H _ I h) fun us s1 ⟨vs, H1, I1, r1, q1⟩ => ?_) hs rfl))
  obtain ⟨a, xs, e, hq, q⟩ := q1
  subst e
  cases r1 with
  | cons r rr =>
    cases rr
    cases r
    obtain ⟨its, rv, p', hz⟩ := I1.list hq
    have hl := rv.length
    have e1 : ((its.toArray.size : Nat) : Int) - 1 = (xs.length : Int) - 1 - ((0 : Nat) : Int) := by simp only [List.size_toArray]; omega
    refine call_reversed_list p'.isList (wpAny_pyIter_revIter (l := a) (i := ((its.toArray.size : Nat) : Int) - 1) ⟨_, Heap.get?_push_size _ rfl, rfl, rfl⟩ ?_)
    refine pi_one (tk := s1.toks) I1 _ (turn_rev a _ xs.length) ⟨Nat.zero_le _, ?_⟩ q
    rw [← e1]
    exact ⟨_, Heap.get?_push_size _ rfl, rfl, rfl⟩
end
section
variable {prog : Program} {w : World} {A : Around} {E : Value → Shared → Prop} {s : Shared}
end
theorem paired_get {α β : Type} {G : α → β → Prop} {l₁ : List α} {l₂ : List β} (h : Paired G l₁ l₂) : ∀ {i : Nat} {a : α}, l₁[i]? = some a → ∃ b, l₂[i]? = some b ∧ G a b := by
  induction h with
  | nil => intro i a e; simp at e
  | @cons a b l₁ l₂ r t ih =>
    intro i a' e
    cases i with
    | zero =>
      simp only [List.getElem?_cons_zero, Option.some.injEq] at e
      subst e
      exact ⟨b, rfl, r⟩
    | succ j =>
      simp only [List.getElem?_cons_succ] at e ⊢
      exact ih e
section
variable {X : Cx} {pins : List (Addr × Obj)} {σ : St} {H : Hp} {s : Shared} {d : Addr} {o : Obj}
end
section
variable {P : Program} {w : World} {K : PySem.W.Frag} {tg : Expr} {d : Addr} {o : Obj} {es : Array DictEntry} {ep : Nat}
end
section
variable {X : Cx} {tg e : Expr} {td : TE} {apos cpos : Pos}
end
/-- the list at a as it stands at each turn, each item in a new pair -/
def Ite (K : PySem.W.Frag) (a : Addr) : It :=
  ⟨fun i H => ∃ (xs : List V) (x : V), SqL K H a xs ∧ xs[i]? = some x, fun i H v H' => ∃ T x, v = .ref T ∧ H T = none ∧ H' = upd H T (.tup [.int (i : Nat), x]) ∧ ∀ xs, SqL K H a xs → xs[i]? = some x, fun i H => ∃ xs : List V, SqL K H a xs ∧ xs.length ≤ i⟩
theorem turn_enum {P : Program} {w : World} {K : PySem.W.Frag} {elts : List Expr} {kk : Nat} {tpos : Pos} (a e it : Addr) :
    Turn P w K (.Tuple elts kk tpos) (Ite K a) [e, it] e (fun i h => (∃ old, IsEnum h e it ((i : Nat) : Int) old) ∧ h.IsListIter it a i ∧ e ≠ it) where
  mem := by simp
  obj := fun i h st b hb => by
    obtain ⟨⟨old, he⟩, ⟨o, ho, hc, hd⟩, _⟩ := st
    have e' : b = e ∨ b = it := by simpa using hb
    rcases e' with z | z
    · rw [z]; exact ⟨_, he, fun v q => nomatch q⟩
    · rw [z]; exact ⟨o, ho, fun v q => by rw [hd] at q; cases q⟩
  keep := fun i h h' st k => let ⟨⟨old, he⟩, hi, hne⟩ := st; ⟨⟨old, k e (by simp) _ he⟩, hi.at fun o q => k it (by simp) o q, hne⟩
  item := by
    intro X hP hw hK hc i pins s σ H E I hf st hg
    subst hP hw hK
    obtain ⟨⟨old, he⟩, hit, hne⟩ := st
    obtain ⟨xs, x, hq, hx⟩ := hg
    obtain ⟨its, rv, p, hz⟩ := I.list hq
    obtain ⟨u, hu, ru⟩ := rv.get hx
    have hel : e < s.heap.objs.size := Heap.lt_size he
    have hil : it < s.heap.objs.size := by obtain ⟨_, q, _⟩ := hit; exact Heap.lt_size q
    refine wpAny_pyNext_enum_item he hit p.isList (x := u) (by simpa using hu) hne fun h' ho hit' hT hsz hk => ?_
    refine ⟨_, rfl, wpAny_letOwnedTupleGo_enum (s := { s with heap := h', toks := s.toks + 1 }) ho fun h'' he' sb => ?_⟩
    have hT2 : h''.get? s.heap.objs.size = some { cls := .type "tuple", data := .seq #[.int i s.toks, u] } := (sb.2 _ (Nat.ne_of_gt hel)).trans hT
    have new : ObjOk X.prog X.w (upd H s.heap.objs.size (.tup [.int (i : Nat), x])) h'' s.heap.objs.size (.tup [.int (i : Nat), x]) :=
      ⟨by show 2 ≤ sizeLine; decide, [.int i s.toks, u], .cons ⟨_, rfl⟩ (.cons ru .nil), ⟨_, hT2, rfl, _, rfl⟩⟩
    have I1 : Inv X pins σ (upd H s.heap.objs.size (.tup [.int (i : Nat), x])) { s with heap := h'', toks := s.toks + 1 } :=
      I.turnedNew (ch := [e, it]) (fun b ob hb q => (sb.2 b (fun z => hb (by simp [z]))).trans (hk b ob (fun z => hb (by simp [z])) (fun z => hb (by simp [z])) q)) hf (Nat.le_refl _) new
    refine ⟨.ref s.heap.objs.size, _, I1, rfl, ⟨_, x, rfl, I.hok.fresh (Nat.le_refl _), rfl, fun ys hy => by rw [I.list_inj hy hq]; exact hx⟩, ⟨⟨u, ?_⟩, hit'.at fun o q => (sb.2 it (Ne.symm hne)).trans q, hne⟩, fun b hb => ?_⟩
    · have e1 : ((i + 1 : Nat) : Int) = (i : Int) + 1 := by omega
      rw [e1]; exact he'
    · have hb' : b < s.heap.objs.size := by
        have e' : b = e ∨ b = it := by simpa using hb
        rcases e' with z | z
        · rw [z]; exact hel
        · rw [z]; exact hil
      rw [upd_ne (Nat.ne_of_lt hb')]
      exact (hf b hb).1
  done := by
    intro X hP hw hK hc i pins s σ H E I hf st hg
    subst hP hw hK
    obtain ⟨⟨old, he⟩, hit, hne⟩ := st
    obtain ⟨xs, hq, hx⟩ := hg
    obtain ⟨its, rv, p, hz⟩ := I.list hq
    obtain ⟨f0, f1, f2, f3, f4, f5⟩ := hf it (by simp)
    have hl := rv.length
    exact wpAny_pyNext_enum_end (I.ok.hd hc) he hit p.isList (by simp; omega) fun h' eb => ⟨rfl, I.turned (t' := s.toks) (fun b o hb q => eb b o hb q) f0 f1 f3 f4 f5⟩
  self := fun A i s Q E st h => let ⟨⟨_, he⟩, _⟩ := st; wpAny_pyIter_enum he h
def iEnum (K : PySem.W.Frag) (ta : TA) : TI := fun σ H R => ta σ H fun vs H1 => ∃ a xs, vs = [.ref a] ∧ SqL K H1 a xs ∧ R (Ite K a) H1
theorem pi_enum {X : Cx} {e : Expr} {ta : TA} {p pos tpos : Pos} {elts : List Expr} {kk : Nat} (hg : Gl X "enumerate") (hm : X.mg "enumerate" = none) (ha : PA X [e] ta) (hs : starEach [e] X.env = [(false, eval e X.env)] := by rfl) :
    PI X (.Tuple elts kk tpos) (.Call (.Name "enumerate" p) [e] [] pos) (iEnum X.K ta) := by
  intro pins s σ H R I h
  refine Call_ (ld_blt I hg hm boot_enumerate (PyProof.Rows.callWith_type1 (thn (ha pos pins s σ H _ I h) fun us s1 ⟨vs, H1, I1, r1, q1⟩ => ?_) hs rfl))
  obtain ⟨a, xs, ex, hq, q⟩ := q1
  subst ex
  cases r1 with
  | cons r rr =>
    cases rr
    cases r
    obtain ⟨its, rv, p', hz⟩ := I1.list hq
    refine call_enumerate_list p'.isList fun h' he hit hsz hk => wpAny_pyIter_enum he ?_
    have I2 : Inv X pins σ H1 { s1 with heap := h' } := I1.kept (t' := s1.toks) hk
    refine ⟨s1.heap.objs.size + 1, [s1.heap.objs.size + 1, s1.heap.objs.size], _, _, H1, rfl, I2, turn_enum a (s1.heap.objs.size + 1) s1.heap.objs.size, ⟨⟨.none, he⟩, hit, Nat.succ_ne_self _⟩, fun b hb => ?_, q⟩
    have e' : b = s1.heap.objs.size + 1 ∨ b = s1.heap.objs.size := by simpa using hb
    have hle : s1.heap.objs.size ≤ b := by
      rcases e' with z | z
      · rw [z]; exact Nat.le_add_right _ _
      · rw [z]; exact Nat.le_refl _
    exact I1.fpOk hle (I1.hok.fresh hle)
theorem boot_zip5 : bootBuiltins "zip" = some (.type "zip") := by decide +kernel
/-- the lists at a and b as they stand at each turn, the items in new pairs -/
def Itz (K : PySem.W.Frag) (a b : Addr) : It :=
  ⟨fun i H => ∃ (xs ys : List V) (x y : V), SqL K H a xs ∧ SqL K H b ys ∧ xs[i]? = some x ∧ ys[i]? = some y,
    fun i H v H' => ∃ T x y, v = .ref T ∧ H T = none ∧ H' = upd H T (.tup [x, y]) ∧ (∀ xs, SqL K H a xs → xs[i]? = some x) ∧ ∀ ys, SqL K H b ys → ys[i]? = some y,
    fun i H => ∃ xs ys : List V, SqL K H a xs ∧ SqL K H b ys ∧ (xs.length ≤ i ∨ ys.length ≤ i)⟩
theorem turn_zip {P : Program} {w : World} {K : PySem.W.Frag} {elts : List Expr} {kk : Nat} {tpos : Pos} {a b z TI TO i1 i2 : Addr} (D : ZipApart z TI TO i1 i2 a b) :
    Turn P w K (.Tuple elts kk tpos) (Itz K a b) [z, TI, TO, i1, i2] z (fun i h => IsZip h z TI TO .none ∧ IsPair h TI (.ref i1) (.ref i2) ∧ (∃ x y, IsPair h TO x y) ∧ h.IsListIter i1 a i ∧ h.IsListIter i2 b i) where
  mem := by simp
  obj := fun i h st c hc => by
    obtain ⟨hz, hTI, ⟨x, y, hTO⟩, ⟨o1, e1, _, d1⟩, ⟨o2, e2, _, d2⟩⟩ := st
    have e' : c = z ∨ c = TI ∨ c = TO ∨ c = i1 ∨ c = i2 := by simpa using hc
    rcases e' with q | q | q | q | q
    · rw [q]; exact ⟨_, hz, fun v q => nomatch q⟩
    · rw [q]; exact ⟨_, hTI, fun v q => nomatch q⟩
    · rw [q]; exact ⟨_, hTO, fun v q => nomatch q⟩
    · rw [q]; exact ⟨o1, e1, fun v q => by rw [d1] at q; cases q⟩
    · rw [q]; exact ⟨o2, e2, fun v q => by rw [d2] at q; cases q⟩
  keep := fun i h h' st k => by
    obtain ⟨hz, hTI, ⟨x, y, hTO⟩, h1, h2⟩ := st
    exact ⟨k z (by simp) _ hz, k TI (by simp) _ hTI, ⟨x, y, k TO (by simp) _ hTO⟩, h1.at fun o q => k i1 (by simp) o q, h2.at fun o q => k i2 (by simp) o q⟩
  item := by
    intro X hP hw hK hc i pins s σ H E I hf st hg
    subst hP hw hK
    obtain ⟨hz, hTI, ⟨x0, y0, hTO⟩, h1, h2⟩ := st
    obtain ⟨xs, ys, x, y, hqx, hqy, hx, hy⟩ := hg
    obtain ⟨its, rv, p, _⟩ := I.list hqx
    obtain ⟨its2, rv2, p2, _⟩ := I.list hqy
    obtain ⟨u, hu, ru⟩ := rv.get hx
    obtain ⟨u2, hu2, ru2⟩ := rv2.get hy
    have hzl : z < s.heap.objs.size := Heap.lt_size hz
    refine wpAny_pyNext_zip_item D hz hTI hTO h1 h2 p.isList p2.isList (x := u) (y := u2) (by simpa using hu) (by simpa using hu2) fun h' z' TO' h1' h2' hT hsz hk => ?_
    refine ⟨_, rfl, wpAny_letOwnedTupleGo_zip (s := { s with heap := h' }) z' fun h'' z'' sb => ?_⟩
    have hT2 : h''.get? s.heap.objs.size = some { cls := .type "tuple", data := .seq #[u, u2] } := (sb.2 _ (Nat.ne_of_gt hzl)).trans hT
    have new : ObjOk X.prog X.w (upd H s.heap.objs.size (.tup [x, y])) h'' s.heap.objs.size (.tup [x, y]) :=
      ⟨by show 2 ≤ sizeLine; decide, [u, u2], .cons ru (.cons ru2 .nil), ⟨_, hT2, rfl, _, rfl⟩⟩
    have I1 : Inv X pins σ (upd H s.heap.objs.size (.tup [x, y])) { s with heap := h'' } :=
      I.turnedNew (t' := s.toks) (ch := [z, TI, TO, i1, i2]) (fun c o hb q => (sb.2 c (fun q' => hb (by simp [q']))).trans (hk c o (fun q' => hb (by simp [q'])) (fun q' => hb (by simp [q'])) (fun q' => hb (by simp [q'])) (fun q' => hb (by simp [q'])) q)) hf (Nat.le_refl _) new
    refine ⟨.ref s.heap.objs.size, _, I1, rfl, ⟨_, x, y, rfl, I.hok.fresh (Nat.le_refl _), rfl, fun l hl => by rw [I.list_inj hl hqx]; exact hx, fun l hl => by rw [I.list_inj hl hqy]; exact hy⟩, ⟨z'', ?_, ⟨u, u2, ?_⟩, ?_, ?_⟩, fun c hcm => ?_⟩
    · exact (sb.2 _ D.TIz).trans (hk _ _ D.TIz D.TITO D.TIi1 D.TIi2 hTI)
    · exact (sb.2 _ D.TOz).trans TO'
    · exact h1'.at fun o q => (sb.2 _ D.i1z).trans q
    · exact h2'.at fun o q => (sb.2 _ D.i2z).trans q
    · have hlt : c < s.heap.objs.size := by
        have e' : c = z ∨ c = TI ∨ c = TO ∨ c = i1 ∨ c = i2 := by simpa using hcm
        rcases e' with q | q | q | q | q
        · rw [q]; exact hzl
        · rw [q]; exact Heap.lt_size hTI
        · rw [q]; exact Heap.lt_size hTO
        · rw [q]; obtain ⟨_, e1, _⟩ := h1; exact Heap.lt_size e1
        · rw [q]; obtain ⟨_, e2, _⟩ := h2; exact Heap.lt_size e2
      rw [upd_ne (Nat.ne_of_lt hlt)]
      exact (hf c hcm).1
  done := by
    intro X hP hw hK hc i pins s σ H E I hf st hg
    subst hP hw hK
    obtain ⟨hz, hTI, ⟨x0, y0, hTO⟩, h1, h2⟩ := st
    obtain ⟨xs, ys, hqx, hqy, hend⟩ := hg
    obtain ⟨its, rv, p, _⟩ := I.list hqx
    obtain ⟨its2, rv2, p2, _⟩ := I.list hqy
    have l1 := rv.length
    have l2 := rv2.length
    have he : its.toArray[i]? = none ∨ its2.toArray[i]? = none := by
      rcases hend with q | q
      · exact .inl (by simp; omega)
      · exact .inr (by simp; omega)
    exact wpAny_pyNext_zip_end (I.ok.hd hc) D hz hTI hTO h1 h2 p.isList p2.isList he fun h' hk => ⟨rfl, I.turnedL (t' := s.toks) (ch := [z, TI, TO, i1, i2]) (fun c o hb q =>
      hk c o (fun q' => hb (by simp [q'])) (fun q' => hb (by simp [q'])) (fun q' => hb (by simp [q'])) (fun q' => hb (by simp [q'])) q) hf⟩
  self := fun A i s Q E st h => wpAny_pyIter_zip st.1 h
def iZip (K : PySem.W.Frag) (ta : TA) : TI := fun σ H R => ta σ H fun vs H1 => ∃ a b xs ys, vs = [.ref a, .ref b] ∧ SqL K H1 a xs ∧ SqL K H1 b ys ∧ R (Itz K a b) H1
theorem pi_zip {X : Cx} {e e2 : Expr} {ta : TA} {p pos tpos : Pos} {elts : List Expr} {kk : Nat} (hg : Gl X "zip") (hm : X.mg "zip" = none) (ha : PA X [e, e2] ta)
    (hs : starEach [e, e2] X.env = (false, eval e X.env) :: starEach [e2] X.env := by rfl) (hpl : (backTo pos (starEach [e2] X.env)).any (·.1) = false := by rfl) :
    PI X (.Tuple elts kk tpos) (.Call (.Name "zip" p) [e, e2] [] pos) (iZip X.K ta) := by
  intro pins s σ H R I h
  refine Call_ (ld_blt I hg hm boot_zip5 (PyProof.Rows.callWith_type1 (thn (ha pos pins s σ H _ I h) fun us s1 ⟨vs, H1, I1, r1, q1⟩ => ?_) hs hpl))
  obtain ⟨a, b, xs, ys, ex, hqx, hqy, q⟩ := q1
  subst ex
  cases r1 with
  | cons r rr =>
    cases rr with
    | cons r' rr =>
      cases rr
      cases r
      cases r'
      obtain ⟨its, rv, p1, _⟩ := I1.list hqx
      obtain ⟨its2, rv2, p2, _⟩ := I1.list hqy
      have la : a < s1.heap.objs.size := p1.lt
      have lb : b < s1.heap.objs.size := p2.lt
      refine call_zip_2 p1.isList p2.isList fun h' hz hTI hTO h1 h2 hsz hk => wpAny_pyIter_zip hz ?_
      have I2 : Inv X pins σ H1 { s1 with heap := h' } := I1.kept (t' := s1.toks) hk
      refine ⟨s1.heap.objs.size + 4, [s1.heap.objs.size + 4, s1.heap.objs.size + 2, s1.heap.objs.size + 3, s1.heap.objs.size, s1.heap.objs.size + 1], _, _, H1, rfl, I2, turn_zip (PySem.W.ktu_apart s1.heap.objs.size a b la lb), ⟨hz, hTI, ⟨_, _, hTO⟩, h1, h2⟩, fun c hcm => ?_, q⟩
      have e' : c = s1.heap.objs.size + 4 ∨ c = s1.heap.objs.size + 2 ∨ c = s1.heap.objs.size + 3 ∨ c = s1.heap.objs.size ∨ c = s1.heap.objs.size + 1 := by simpa using hcm
      have hle : s1.heap.objs.size ≤ c := by
        rcases e' with z | z | z | z | z
        · rw [z]; exact Nat.le_add_right _ _
        · rw [z]; exact Nat.le_add_right _ _
        · rw [z]; exact Nat.le_add_right _ _
        · rw [z]; exact Nat.le_refl _
        · rw [z]; exact Nat.le_add_right _ _
      exact I1.fpOk hle (I1.hok.fresh hle)
end L2
section 
namespace Bits
open PySem PyProof.Rows
end Bits
end 
section 
namespace TL
open PySem PySem.Builtin PySem.Builtin.Str PySem.StrLaws
end TL
end 
namespace L2
open PySem PySem.Spec PyProof.Rows
section
variable {X : Cx} {pins : List (Addr × Obj)} {σ : St} {H : Hp} {s : Shared} {Q : VK}
end
section
variable {X : Cx}
end
section
variable {X : Cx} {o e : Expr} {to te : TE}
end
end L2
namespace L2
open PySem PySem.Spec PyProof.Rows
section
variable {X : Cx}
end
end L2
namespace Att
open PySem PySem.W PySem.Calls PyProof.Rows
section
variable {prog : Program} {w : World} {A : Around} {E : Value → Shared → Prop} {s : Shared} {K : Frag}
end
end Att
namespace L2
open PySem PySem.Spec PyProof.Rows
end L2
namespace L2
open PySem PySem.Spec PyProof.Rows
end L2
/- THE LAST THEOREM (shape; LID, My.* are yours):
   My.Adr: a structure of the addresses that your layer names (classes, functions); My.Txt K t: a structure (Prop) of the equations over K;
   My.txt_mk : {K} {implicit addresses ..} (e1 : nsIn K mainGlobals "law" = some (some (.ref f))) (e2 : K.lookup f = some ⟨oc, od, .func (fnOf "law" "law" params body scope dV kV doc pm an cdv ct), sl⟩) (e3 : codeIn K cdv "law" = true) .. : ∃ t, My.Txt K t
set_option maxRecDepth 100000 in
set_option maxHeartbeats 0 in
theorem PySem.Challenge.cw_LID_holds : PySem.Challenge.rw_LID.Holds := by
  w_on; o_law; k_head; (case hw => w_witness2)
  k_fill
  refine L2.walk_of (l := PySem.Challenge.rw_LID) (n := 63) (k := 40) (x := "script") (CX := fun w => ..) (sp := fun _ => My.sp_law) rfl (by decide) rfl ⟨rfl, by decide, by decide⟩ (fun w h Y => PySem.W.kIn_of Y) ?F ?S ?C
  case F =>
    intro w mg fa h KX G hmg
    have T : ∃ t, My.Txt (L2.KOf KX) t := by
      dsimp only [L2.KOf]                          -- K must stand as «<heap const> w.params» for k_is
      refine' My.txt_mk ?e1 ?e2 ?e3 ..
      (case e1 => PySem.W.k_is)                    -- in the order: a name -> its address -> its object -> its parts
      (case e2 => PySem.W.k_is)
      ..
    obtain ⟨t, T⟩ := T
    have e0 := hmg.symm.trans (PySem.W.mg_of KX G T.law)
    cases e0                                       -- fa is the law's own address
    exact ⟨_, fun s u => .of_eq rfl, fun base kb nb => My.law_fn T kb nb⟩     -- if «.of_eq rfl» comes too early: refine' ⟨_, ?b, fun base kb nb => My.law_fn T kb nb⟩; exact fun s u => .of_eq rfl
  case S => exact fun w H a ns hl hO hS => ..
  case C => exact ..
(the tactic k_is has no namespace: write k_is) -/
namespace L2
open PySem PySem.Spec PyProof.Rows
/-- the j-th statement of a class's body -/
def inClass (s : Stmt) (j : Nat) : Stmt := match s with
  | .ClassDef _ _ _ body _ _ _ _ _ _ _ => body.getD j (.Pass ⟨0, 0, 0, 0⟩)
  | _ => .Pass ⟨0, 0, 0, 0⟩
def defArgs (s : Stmt) : Arguments := match s with
  | .FunctionDef _ a _ _ _ _ _ _ _ _ => a
  | _ => { posonlyargs := [], args := [], vararg := none, kwonlyargs := [], kw_defaults := [], kwarg := none, defaults := [] }
def defBody (s : Stmt) : List Stmt := match s with
  | .FunctionDef _ _ b _ _ _ _ _ _ _ => b
  | _ => []
def defScope (s : Stmt) : Scope := match s with
  | .FunctionDef _ _ _ _ _ _ sc _ _ _ => sc
  | _ => { kind := .function, names := [], isGenerator := false, isCoroutine := false }
abbrev CX0 : CXT := fun _ _ _ _ _ _ => False
abbrev E0 : XK := fun _ _ _ => False
theorem pass0 {X : Cx} : Passes CX0 X E0 := fun _ _ _ _ _ _ _ h => h.elim
structure Fun (K : PySem.W.Frag) (x qual : Str) (st : Stmt) (f : Addr) (fd : FuncData) : Prop where
  ex : ∃ (oc : Value) (od : Option Addr) (kV doc pm : Value) (an : Option Addr) (cdv ct : Value) (osl : Array (Option Value)),
    fd = PySem.W.fnOf x qual (defArgs st) (defBody st) (defScope st) .none kV doc pm an cdv ct ∧ K.lookup f = some ⟨oc, od, .func fd, osl⟩ ∧ PySem.W.codeIn K cdv qual = true
  kp : PySem.W.keepIn K (.ref f) = true
section
variable {P : Program} {w : World} {K : PySem.W.Frag} {mg : Str → Option Value} {base : Heap}
/-- THE RULE for a def: its body as a term of rules, and the reading of that term -/
theorem Fun.ok {x qual : Str} {st : Stmt} {f : Addr} {fd : FuncData} {N ps : List Str} {k : Nat} {sp : Sp} (F : Fun K x qual st f fd) (S : FnScope N ps (defScope st)) (len : ∀ vs H Q E, sp vs H Q E → vs.length = ps.length)
    (hbody : ∀ (cdv : Value) (A : Around) (outer : List Env) (s : Shared) (H : Hp) (vs : List V) (Q : VK) (E : XK), Room k (A.deeper (envOfC qual (defScope st) s.heap.objs.size f cdv)) → sp vs H Q E →
      ∃ t, PSs (cxOf CX0 P w K mg base N qual (defScope st) f cdv A outer s H E).nox (defBody st) t ∧ t { nx := fun _ H' => Q .non H', rt := Q } (start N vs) H) : FnOk P w K mg base CX0 (k + 1) f fd ps sp := by
  obtain ⟨oc, od, kV, doc, pm, an, cdv, ct, osl, rfl, lk, hcd⟩ := F.ex
  refine fn_of lk hcd S len fun A outer s H vs Q E hr hsp => ?_
  obtain ⟨t, h, q⟩ := hbody cdv A outer s H vs Q E hr hsp
  exact ⟨t, h.nox, q⟩
/-- how its arguments bind (no defaults): h is «fun _ _ _ _ _ _ us hl => match us, hl with | [_, _], _ => rfl», one _ a parameter -/
theorem Fun.binds {x qual : Str} {st : Stmt} {f : Addr} {fd : FuncData} {ps : List Str} (F : Fun K x qual st f fd)
    (h : ∀ (kV doc pm : Value) (an : Option Addr) (cdv ct : Value) (us : List Value), us.length = ps.length → bindArgs (PySem.W.fnOf x qual (defArgs st) (defBody st) (defScope st) .none kV doc pm an cdv ct) ⟨us, []⟩ = pure (ps.zip us)) : Binds K fd ps [] := by
  obtain ⟨oc, od, kV, doc, pm, an, cdv, ct, osl, rfl, lk, hcd⟩ := F.ex
  exact .all (h kV doc pm an cdv ct)
theorem fun_mk {x qual : Str} {st : Stmt} {f : Addr} {oc : Value} {od an : Option Addr} {osl : Array (Option Value)} {kV doc pm cdv ct : Value} (l : K.lookup f = some ⟨oc, od, .func (PySem.W.fnOf x qual (defArgs st) (defBody st) (defScope st) .none kV doc pm an cdv ct), osl⟩)
    (c : PySem.W.codeIn K cdv qual = true) (k : PySem.W.keepIn K (.ref f) = true) : Fun K x qual st f (PySem.W.fnOf x qual (defArgs st) (defBody st) (defScope st) .none kV doc pm an cdv ct) := ⟨⟨oc, od, kV, doc, pm, an, cdv, ct, osl, rfl, l, c⟩, k⟩
end
section
variable {X : Cx}
theorem pv (i : Nat) {x : Str} {pos : Pos} (hN : X.N[i]? = some x := by rfl) (hv : Vis X.env.scope x := by first | exact Or.inl rfl | exact Or.inr (Or.inl rfl) | exact Or.inr (Or.inr rfl)) (hd : (x == ("__debug__" : Str)) = false := by decide)
    (hcd : (x == ("__classdict__" : Str)) = false := by decide) : PE X (.Name x pos) (tVar i) := pe_var hN hv hd hcd
end
theorem iteF {A B : Prop} (h : B) : if false = true then A else B := by
  rw [if_neg Bool.false_ne_true]
  exact h
theorem iteT {A B : Prop} (h : A) : if true = true then A else B := by
  rw [if_pos rfl]
  exact h
theorem ite2 {c A B : Prop} [Decidable c] (h1 : c → A) (h2 : ¬ c → B) : if c then A else B := by
  by_cases h : c
  · rw [if_pos h]
    exact h1 h
  · rw [if_neg h]
    exact h2 h
/-- all that was tracked is as it was -/
def Same (H H' : Hp) : Prop := ∀ b o, H b = some o → H' b = some o
theorem Same.trans {H H1 H2 : Hp} (a : Same H H1) (b : Same H1 H2) : Same H H2 := fun c o h => b c o (a c o h)
theorem Same.free {H H' : Hp} (e : Same H H') {l : Addr} (h : H' l = Option.none) : H l = Option.none := by
  cases q : H l with
  | none => rfl
  | some o =>
    rw [e l o q] at h
    cases h
theorem Same.seq {K : PySem.W.Frag} {H H' : Hp} {a : Addr} {xs : List V} (e : Same H H') (h : SqL K H a xs) : SqL K H' a xs := by
  rcases h with (h | ⟨o, h⟩) | h
  · exact .inl (.inl (e _ _ h))
  · exact .inl (.inr ⟨o, e _ _ h⟩)
  · exact .inr h
section
variable {κ : Type} [DecidableEq κ]
end
theorem at_of {xs : List V} {z : Int} {j : Nat} {v : V} (e : z = (j : Int)) (h : xs[j]? = some v) : atI xs z = some v := by
  rw [e]
  exact atI_nat h
theorem nd_ix {α : Type} {l : List α} (hN : l.Nodup) {i j : Nat} {x : α} (a : l[i]? = some x) (b : l[j]? = some x) : i = j := by
  obtain ⟨h1, e1⟩ := List.getElem?_eq_some_iff.mp a
  obtain ⟨h2, e2⟩ := List.getElem?_eq_some_iff.mp b
  exact (List.getElem_inj hN).mp (e1.trans e2.symm)
/-- a new instance and its __init__ leave all that was tracked as it was -/
theorem Same.made {H H1 : Hp} {x dx C : Addr} (nx : H x = Option.none) (nd : H dx = Option.none) (k : ∀ b o, (upd (upd H dx (.own x)) x (.ins C dx [])) b = some o → b ≠ x → H1 b = some o) : Same H H1 := fun b o e =>
  k b o (by rw [upd_ne (ne_of_none e nx), upd_ne (ne_of_none e nd)]; exact e) (ne_of_none e nx)
end L2
section
set_option Elab.async false
set_option linter.all false
set_option maxRecDepth 100000
set_option maxHeartbeats 2000000
namespace L2
open PySem PySem.Spec PyProof.Rows
open PySem.W (WData Codec OpenSpec Well WellAll ReadsW ReadsAllW)
mutual
/-- x stands for the datum d, lists and tuples all the way -/
inductive Dw (K : PySem.W.Frag) (H : Hp) : V → WData → Prop
  | non : Dw K H .non .none
  | bl (b : Bool) : Dw K H (.bl b) (.bool b)
  | int (i : Int) : Dw K H (.int i) (.int i)
  | str (x : Str) : Dw K H (.str x) (.str x)
  | byt (b : Array UInt8) : Dw K H (.byt b) (.bytes b.toList)
  | lst {a : Addr} {xs : List V} {ds : List WData} : SqL K H a xs → DwAll K H xs ds → Dw K H (.ref a) (.list ds)
  | tup {a : Addr} {xs : List V} {ds : List WData} : SqT K H a xs → DwAll K H xs ds → Dw K H (.ref a) (.tuple ds)
inductive DwAll (K : PySem.W.Frag) (H : Hp) : List V → List WData → Prop
  | nil : DwAll K H [] []
  | cons {v : V} {vs : List V} {d : WData} {ds : List WData} : Dw K H v d → DwAll K H vs ds → DwAll K H (v :: vs) (d :: ds)
end
theorem dw_ints {K : PySem.W.Frag} {H : Hp} : ∀ ns : List Int, DwAll K H (ns.map V.int) (ns.map WData.int)
  | [] => .nil
  | n :: r => .cons (.int n) (dw_ints r)
theorem ints_dw {K : PySem.W.Frag} {H : Hp} : ∀ (ns : List Int) (xs : List V), DwAll K H xs (ns.map WData.int) → xs = ns.map V.int
  | [], xs, h => by
    cases h
    rfl
  | n :: r, xs, h => by
    cases h with
    | cons h1 h2 =>
      cases h1
      rw [ints_dw r _ h2] <;> rfl
section
variable {P : Program} {w : World} {K : PySem.W.Frag} {H : Hp} {h : Heap} {R : PySem.W.WRecords} {cl : Str → Option Addr}
theorem sqL_at {a : Addr} {xs : List V} (hok : HOk P w H h) (KX : K.In h) (q : SqL K H a xs) : ∃ (its : List Value) (o : Obj) (n : Nat), Vals xs its ∧ h.get? a = some o ∧ o.cls = .type "list" ∧ o.data = .seq its.toArray n := by
  rcases q with q | ⟨o, its, n, e, hc, _, hd, _, hv⟩
  · obtain ⟨_, its, n, hv, e⟩ := (show ObjOk P w H h a (.lst xs) from q.ok hok)
    exact ⟨its, _, n, hv, e, rfl, rfl⟩
  · exact ⟨its.toList, o, n, hv, KX _ _ e, hc, by simp [hd]⟩
theorem sqT_at {a : Addr} {xs : List V} (hok : HOk P w H h) (KX : K.In h) (q : SqT K H a xs) : ∃ (its : List Value) (o : Obj) (n : Nat), Vals xs its ∧ h.get? a = some o ∧ o.cls = .type "tuple" ∧ o.data = .seq its.toArray n := by
  rcases q with q | ⟨o, its, n, e, hc, hd, _, hv⟩
  · obtain ⟨_, its, hv, o, e, hc, n, hd⟩ := (show ObjOk P w H h a (.tup xs) from q.ok hok)
    exact ⟨its, o, n, hv, e, hc, hd⟩
  · exact ⟨its.toList, o, n, hv, KX _ _ e, hc, by simp [hd]⟩
mutual
theorem Dw.reads (hok : HOk P w H h) (KX : K.In h) : ∀ (d : WData) (v : V) (u : Value), Dw K H v d → RelV v u → ∃ as, ReadsW R cl h u d as
  | .none, _, _, x, r => by
    cases x
    cases r
    exact ⟨_, ReadsW.none⟩
  | .bool b, _, _, x, r => by
    cases x
    cases r
    exact ⟨_, ReadsW.bool b⟩
  | .int i, _, _, x, r => by
    cases x
    obtain ⟨t, rfl⟩ := r
    exact ⟨_, ReadsW.int i t⟩
  | .str s, _, _, x, r => by
    cases x
    obtain ⟨t, rfl⟩ := r
    exact ⟨_, ReadsW.str s t⟩
  | .bytes b, _, _, x, r => by
    cases x
    obtain ⟨t, rfl⟩ := r
    exact ⟨_, ReadsW.bytes _ t⟩
  | .list ds, _, _, x, r => by
    cases x with
    | lst hs ha =>
      cases r
      obtain ⟨its, o, n, rv, ho, hc, hd⟩ := sqL_at hok KX hs
      obtain ⟨as, hr⟩ := Dw.readsAll hok KX ds _ its ha rv
      exact ⟨_, ReadsW.list ho hc hd hr⟩
  | .tuple ds, _, _, x, r => by
    cases x with
    | tup hs ha =>
      cases r
      obtain ⟨its, o, n, rv, ho, hc, hd⟩ := sqT_at hok KX hs
      obtain ⟨as, hr⟩ := Dw.readsAll hok KX ds _ its ha rv
      exact ⟨_, ReadsW.tuple ho hc hd hr⟩
  | .float _, _, _, x, _ => by cases x
  | .dict _, _, _, x, _ => by cases x
  | .bytearray _, _, _, x, _ => by cases x
  | .set _, _, _, x, _ => by cases x
  | .frozenset _, _, _, x, _ => by cases x
  | .obj _ _, _, _, x, _ => by cases x
theorem Dw.readsAll (hok : HOk P w H h) (KX : K.In h) : ∀ (ds : List WData) (vs : List V) (us : List Value), DwAll K H vs ds → Vals vs us → ∃ as, ReadsAllW R cl h us ds as
  | [], _, _, x, r => by
    cases x
    cases r
    exact ⟨_, ReadsAllW.nil⟩
  | d :: ds, _, _, x, r => by
    cases x with
    | cons h1 h2 =>
      cases r with
      | cons r1 r2 =>
        obtain ⟨as, q1⟩ := Dw.reads hok KX d _ _ h1 r1
        obtain ⟨bs, q2⟩ := Dw.readsAll hok KX ds _ _ h2 r2
        exact ⟨_, ReadsAllW.cons q1 q2⟩
end
end
mutual
/-- data that a codec tells -/
def plW : WData → Bool
  | .none => true
  | .bool _ => true
  | .int _ => true
  | .str _ => true
  | .bytes _ => true
  | .list xs => plWs xs
  | .tuple xs => plWs xs
  | _ => false
def plWs : List WData → Bool
  | [] => true
  | x :: r => plW x && plWs r
end
theorem plWs_map {α : Type} {f : α → WData} (h : ∀ a, plW (f a) = true) : ∀ l : List α, plWs (l.map f) = true
  | [] => rfl
  | x :: r => by
    show (plW (f x) && plWs (r.map f)) = true
    rw [h x, plWs_map h r] <;> rfl
theorem pl_enc : ∀ (c : Codec) (a : c.denote), plW (c.enc a) = true
  | .unit, _ => rfl
  | .bool, _ => rfl
  | .int _ _, _ => rfl
  | .nat _ _, _ => rfl
  | .u8, _ => rfl
  | .bytes _ _, _ => rfl
  | .text _ _ _ _, _ => rfl
  | .list _ _ c, a => plWs_map (fun x => pl_enc c x) a
  | .pair c d, a => by
    show (plW (c.enc a.1) && (plW (d.enc a.2) && true)) = true
    rw [pl_enc c a.1, pl_enc d a.2] <;> rfl
  | .triple c d e, a => by
    show (plW (c.enc a.1) && (plW (d.enc a.2.1) && (plW (e.enc a.2.2) && true))) = true
    rw [pl_enc c a.1, pl_enc d a.2.1, pl_enc e a.2.2] <;> rfl
  | .option c, none => rfl
  | .option c, some x => pl_enc c x
theorem pl_encAll : ∀ (cs : List Codec) (a : Codec.denoteAll cs), plWs (Codec.encAll cs a) = true
  | [], _ => rfl
  | c :: cs, a => by
    show (plW (c.enc a.1) && plWs (Codec.encAll cs a.2)) = true
    rw [pl_enc c a.1, pl_encAll cs a.2] <;> rfl
theorem weight_mem : ∀ {xs : List WData} {d : WData}, d ∈ xs → d.weight ≤ WData.weightAll xs
  | [], d, h => absurd h (by simp)
  | x :: r, d, h => by
    show d.weight ≤ x.weight + 1 + WData.weightAll r
    rcases List.mem_cons.mp h with e | m
    · rw [e]
      omega
    · have z := weight_mem m
      omega
def toV : Value → V
  | .none => .non
  | .bool b => .bl b
  | .int i _ => .int i
  | .str x _ => .str x
  | .bytes b _ => .byt b
  | .ref a => .ref a
  | _ => .non
/-- a value of the arguments, its objects among A -/
def OkU (A : List Addr) : Value → Prop
  | .none => True
  | .bool _ => True
  | .int _ _ => True
  | .str _ _ => True
  | .bytes _ _ => True
  | .ref a => a ∈ A
  | _ => False
theorem OkU.mono {A B : List Addr} (h : ∀ a ∈ A, a ∈ B) : ∀ {u : Value}, OkU A u → OkU B u := fun {u} x => by
  cases u with
  | ref a => exact h a x
  | none => trivial
  | bool b => trivial
  | int i t => trivial
  | str s t => trivial
  | bytes b t => trivial
  | _ => exact False.elim x
theorem relV_toV {A : List Addr} {u : Value} (x : OkU A u) : RelV (toV u) u := by
  cases u with
  | ref a => rfl
  | none => rfl
  | bool b => rfl
  | int i t => exact ⟨t, rfl⟩
  | str s t => exact ⟨t, rfl⟩
  | bytes b t => exact ⟨t, rfl⟩
  | _ => exact False.elim x
theorem vals_toV {A : List Addr} : ∀ {vs : List Value}, (∀ u ∈ vs, OkU A u) → Vals (vs.map toV) vs
  | [], _ => .nil
  | u :: r, h => .cons (relV_toV (h u (List.mem_cons_self ..))) (vals_toV fun x hx => h x (List.mem_cons_of_mem _ hx))
/-- an object of the arguments -/
def ArgOb (h : Heap) (A : List Addr) (a : Addr) : Prop := ∃ vs : List Value, vs.length ≤ sizeLine ∧ (∀ u ∈ vs, OkU A u) ∧
  (h.get? a = some { cls := .type "list", data := .seq vs.toArray } ∨ h.get? a = some { cls := .type "tuple", data := .seq vs.toArray })
theorem ArgOb.mono {h : Heap} {A B : List Addr} {a : Addr} (k : ∀ a ∈ A, a ∈ B) (x : ArgOb h A a) : ArgOb h B a := by
  obtain ⟨vs, h1, h2, h3⟩ := x
  exact ⟨vs, h1, fun u hu => (h2 u hu).mono k, h3⟩
theorem wellAll_len {P : Params} {h : Heap} : ∀ {vs : List Value} {ds : List WData}, WellAll P h vs ds → vs.length = ds.length
  | _, _, .nil => rfl
  | _, _, .cons _ b => by
    show _ + 1 = _ + 1
    rw [wellAll_len b]
theorem well_list {P : Params} {h : Heap} {v : Value} {ds : List WData} (x : Well P h v (.list ds)) : ∃ (a : Addr) (vs : List Value), v = .ref a ∧ h.get? a = some { cls := .type "list", data := .seq vs.toArray } ∧ WellAll P h vs ds := by
  cases x with
  | list ho hall => exact ⟨_, _, rfl, ho, hall⟩
theorem well_tuple {P : Params} {h : Heap} {v : Value} {ds : List WData} (x : Well P h v (.tuple ds)) : ∃ (a : Addr) (vs : List Value), v = .ref a ∧ h.get? a = some { cls := .type "tuple", data := .seq vs.toArray } ∧ WellAll P h vs ds := by
  cases x with
  | tuple ho hall => exact ⟨_, _, rfl, ho, hall⟩
theorem well_cons {P : Params} {h : Heap} {us : List Value} {d : WData} {ds : List WData} (x : WellAll P h us (d :: ds)) : ∃ (v : Value) (vs : List Value), us = v :: vs ∧ Well P h v d ∧ WellAll P h vs ds := by
  cases x with
  | cons a b => exact ⟨_, _, rfl, a, b⟩
theorem line_of {n : Nat} (h : n ≤ 1048576) : n ≤ sizeLine := Nat.le_trans h (by decide)
section
variable {P : Params} {h : Heap}
mutual
theorem area_one : ∀ (d : WData) (v : Value), Well P h v d → plW d = true → d.weight ≤ 1048576 → ∃ A : List Addr, OkU A v ∧ ∀ a ∈ A, ArgOb h A a
  | .none, _, x, _, _ => by
    cases x
    exact ⟨[], trivial, fun a m => absurd m (by simp)⟩
  | .bool b, _, x, _, _ => by
    cases x
    exact ⟨[], trivial, fun a m => absurd m (by simp)⟩
  | .int i, _, x, _, _ => by
    cases x
    exact ⟨[], trivial, fun a m => absurd m (by simp)⟩
  | .str s, _, x, _, _ => by
    cases x
    exact ⟨[], trivial, fun a m => absurd m (by simp)⟩
  | .bytes b, _, x, _, _ => by
    cases x
    exact ⟨[], trivial, fun a m => absurd m (by simp)⟩
  | .list ds, _, x, p, z => by
    obtain ⟨a, vs, rfl, ho, hall⟩ := well_list x
    have z2 : WData.weightAll ds ≤ 1048576 := z
    obtain ⟨A, h1, h2⟩ := area_all ds _ hall p fun d hd => Nat.le_trans (weight_mem hd) z2
    have k : ∀ b ∈ A, b ∈ a :: A := fun b hb => List.mem_cons_of_mem _ hb
    refine ⟨a :: A, List.mem_cons_self .., fun b hb => ?_⟩
    rcases List.mem_cons.mp hb with e | m
    · rw [e]
      exact ⟨vs, line_of (by rw [wellAll_len hall]; exact Nat.le_trans (PySem.W.length_le_weightAllW ds) z2), fun u hu => (h1 u hu).mono k, .inl ho⟩
    · exact (h2 b m).mono k
  | .tuple ds, _, x, p, z => by
    obtain ⟨a, vs, rfl, ho, hall⟩ := well_tuple x
    have z2 : WData.weightAll ds ≤ 1048576 := z
    obtain ⟨A, h1, h2⟩ := area_all ds _ hall p fun d hd => Nat.le_trans (weight_mem hd) z2
    have k : ∀ b ∈ A, b ∈ a :: A := fun b hb => List.mem_cons_of_mem _ hb
    refine ⟨a :: A, List.mem_cons_self .., fun b hb => ?_⟩
    rcases List.mem_cons.mp hb with e | m
    · rw [e]
      exact ⟨vs, line_of (by rw [wellAll_len hall]; exact Nat.le_trans (PySem.W.length_le_weightAllW ds) z2), fun u hu => (h1 u hu).mono k, .inr ho⟩
    · exact (h2 b m).mono k
  | .float _, _, _, p, _ => Bool.noConfusion (show false = true from p)
  | .dict _, _, _, p, _ => Bool.noConfusion (show false = true from p)
  | .bytearray _, _, _, p, _ => Bool.noConfusion (show false = true from p)
  | .set _, _, _, p, _ => Bool.noConfusion (show false = true from p)
  | .frozenset _, _, _, p, _ => Bool.noConfusion (show false = true from p)
  | .obj _ _, _, _, p, _ => Bool.noConfusion (show false = true from p)
theorem area_all : ∀ (ds : List WData) (vs : List Value), WellAll P h vs ds → plWs ds = true → (∀ d ∈ ds, d.weight ≤ 1048576) → ∃ A : List Addr, (∀ u ∈ vs, OkU A u) ∧ ∀ a ∈ A, ArgOb h A a
  | [], _, x, _, _ => by
    cases x
    exact ⟨[], fun u m => absurd m (by simp), fun a m => absurd m (by simp)⟩
  | d :: ds, _, x, p, z => by
    obtain ⟨v, vs, rfl, x1, x2⟩ := well_cons x
    have q : plW d = true ∧ plWs ds = true := Bool.and_eq_true_iff.mp p
    obtain ⟨A, a1, a2⟩ := area_one d v x1 q.1 (z d (List.mem_cons_self ..))
    obtain ⟨B, b1, b2⟩ := area_all ds vs x2 q.2 fun e he => z e (List.mem_cons_of_mem _ he)
    have kA : ∀ b ∈ A, b ∈ A ++ B := fun b hb => List.mem_append.mpr (.inl hb)
    have kB : ∀ b ∈ B, b ∈ A ++ B := fun b hb => List.mem_append.mpr (.inr hb)
    refine ⟨A ++ B, fun u hu => ?_, fun b hb => ?_⟩
    · rcases List.mem_cons.mp hu with e | m
      · rw [e]
        exact a1.mono kA
      · exact (b1 u m).mono kB
    · rcases List.mem_append.mp hb with m | m
      · exact (a2 b m).mono kA
      · exact (b2 b m).mono kB
end
end
/-- what is tracked of an argument's object -/
def hoOf (o : Obj) : Option HO := match o.data with
  | .seq vs _ => if (o.cls == Value.type "list") = true then some (.frz o (.lst (vs.toList.map toV))) else some (.frz o (.tup (vs.toList.map toV)))
  | _ => none
def argH (K : PySem.W.Frag) (h : Heap) (A : List Addr) : Hp := fun b => if b ∈ A then (if (K.lookup b).isNone = true then (h.get? b).bind hoOf else none) else none
/-- nothing is tracked but what is known to the object -/
def OnlyF (H : Hp) : Prop := ∀ b, H b = none ∨ ∃ o u, H b = some (.frz o u)
theorem hoOf_lst (vs : List Value) : hoOf { cls := .type "list", data := .seq vs.toArray } = some (.frz { cls := .type "list", data := .seq vs.toArray } (.lst (vs.map toV))) := by
  show (if (Value.type "list" == Value.type "list") = true then some (HO.frz { cls := .type "list", data := .seq vs.toArray } (.lst (vs.toArray.toList.map toV))) else some (HO.frz { cls := .type "list", data := .seq vs.toArray } (.tup (vs.toArray.toList.map toV)))) = _
  rw [if_pos (beq_self_eq_true _)]
theorem hoOf_tup (vs : List Value) : hoOf { cls := .type "tuple", data := .seq vs.toArray } = some (.frz { cls := .type "tuple", data := .seq vs.toArray } (.tup (vs.map toV))) := by
  show (if (Value.type "tuple" == Value.type "list") = true then some (HO.frz { cls := .type "tuple", data := .seq vs.toArray } (.lst (vs.toArray.toList.map toV))) else some (HO.frz { cls := .type "tuple", data := .seq vs.toArray } (.tup (vs.toArray.toList.map toV)))) = _
  rw [if_neg (by decide)]
section
variable {P : Program} {w : World} {K : PySem.W.Frag} {h : Heap} {A : List Addr}
theorem argH_at {b : Addr} {o : Obj} (hb : b ∈ A) (hk : K.lookup b = none) (e : h.get? b = some o) : argH K h A b = hoOf o := by
  unfold argH
  rw [if_pos hb, hk, if_pos (show (none : Option Obj).isNone = true from rfl), e] <;> rfl
theorem of_argH {b : Addr} {u : HO} (q : argH K h A b = some u) : b ∈ A ∧ K.lookup b = none := by
  unfold argH at q
  by_cases hb : b ∈ A
  · rw [if_pos hb] at q
    cases hk : K.lookup b with
    | none => exact ⟨hb, rfl⟩
    | some o =>
      rw [hk, if_neg (by simp)] at q
      cases q
  · rw [if_neg hb] at q
    cases q
/-- what stands tracked -/
theorem argH_is (ar : ∀ a ∈ A, ArgOb h A a) {b : Addr} {u : HO} (q : argH K h A b = some u) : K.lookup b = none ∧ ∃ vs : List Value, vs.length ≤ sizeLine ∧ (∀ u ∈ vs, OkU A u) ∧
    ((h.get? b = some { cls := .type "list", data := .seq vs.toArray } ∧ u = .frz { cls := .type "list", data := .seq vs.toArray } (.lst (vs.map toV))) ∨
     (h.get? b = some { cls := .type "tuple", data := .seq vs.toArray } ∧ u = .frz { cls := .type "tuple", data := .seq vs.toArray } (.tup (vs.map toV)))) := by
  obtain ⟨hb, hk⟩ := of_argH q
  obtain ⟨vs, h1, h2, h3⟩ := ar b hb
  refine ⟨hk, vs, h1, h2, ?_⟩
  rcases h3 with e | e
  · rw [argH_at hb hk e, hoOf_lst] at q
    exact .inl ⟨e, (Option.some.inj q).symm⟩
  · rw [argH_at hb hk e, hoOf_tup] at q
    exact .inr ⟨e, (Option.some.inj q).symm⟩
theorem argH_only (ar : ∀ a ∈ A, ArgOb h A a) : OnlyF (argH K h A) := fun b => by
  cases q : argH K h A b with
  | none => exact .inl rfl
  | some u =>
    obtain ⟨_, vs, _, _, ⟨_, e⟩ | ⟨_, e⟩⟩ := argH_is ar q
    · exact .inr ⟨_, _, by rw [e]⟩
    · exact .inr ⟨_, _, by rw [e]⟩
theorem argH_ok (ar : ∀ a ∈ A, ArgOb h A a) : HOk P w (argH K h A) h := fun b u q => by
  obtain ⟨_, vs, h1, h2, ⟨e, rfl⟩ | ⟨e, rfl⟩⟩ := argH_is ar q
  · exact ⟨e, by rw [List.length_map]; exact h1, vs, _, vals_toV h2, e⟩
  · exact ⟨e, by rw [List.length_map]; exact h1, vs, vals_toV h2, _, e, rfl, _, rfl⟩
theorem seq_inj {c c' : Value} {vs us : List Value} (e : (some { cls := c, data := .seq vs.toArray } : Option Obj) = some { cls := c', data := .seq us.toArray }) : c = c' ∧ vs = us := by
  have e1 := Option.some.inj e
  have e2 : c = c' := congrArg Obj.cls e1
  have e3 : Data.seq vs.toArray = Data.seq us.toArray := congrArg Obj.data e1
  injection e3 with e4
  refine ⟨e2, ?_⟩
  have e5 := congrArg Array.toList e4
  simpa using e5
/-- a list argument -/
theorem argL (KX : K.In h) (ar : ∀ a ∈ A, ArgOb h A a) {a : Addr} {vs : List Value} (ha : a ∈ A) (e : h.get? a = some { cls := .type "list", data := .seq vs.toArray }) : (∀ u ∈ vs, OkU A u) ∧ SqL K (argH K h A) a (vs.map toV) := by
  obtain ⟨us, h1, h2, h3⟩ := ar a ha
  have hu : us = vs := by
    rcases h3 with q | q
    · rw [e] at q
      exact (seq_inj q).2.symm
    · rw [e] at q
      exact absurd (Value.type.inj (seq_inj q).1) (by decide)
  subst hu
  refine ⟨h2, ?_⟩
  cases hk : K.lookup a with
  | none => exact .inl (.inr ⟨_, by rw [argH_at ha hk e, hoOf_lst]⟩)
  | some o =>
    have e2 := KX a o hk
    rw [e] at e2
    obtain rfl := Option.some.inj e2
    exact .inr ⟨_, us.toArray, _, hk, rfl, rfl, rfl, by rw [List.size_toArray]; exact h1, by simpa using vals_toV h2⟩
theorem argT (KX : K.In h) (ar : ∀ a ∈ A, ArgOb h A a) {a : Addr} {vs : List Value} (ha : a ∈ A) (e : h.get? a = some { cls := .type "tuple", data := .seq vs.toArray }) : (∀ u ∈ vs, OkU A u) ∧ SqT K (argH K h A) a (vs.map toV) := by
  obtain ⟨us, h1, h2, h3⟩ := ar a ha
  have hu : us = vs := by
    rcases h3 with q | q
    · rw [e] at q
      exact absurd (Value.type.inj (seq_inj q).1) (by decide)
    · rw [e] at q
      exact (seq_inj q).2.symm
  subst hu
  refine ⟨h2, ?_⟩
  cases hk : K.lookup a with
  | none => exact .inl (.inr ⟨_, by rw [argH_at ha hk e, hoOf_tup]⟩)
  | some o =>
    have e2 := KX a o hk
    rw [e] at e2
    obtain rfl := Option.some.inj e2
    exact .inr ⟨_, us.toArray, _, hk, rfl, rfl, by rw [List.size_toArray]; exact h1, by simpa using vals_toV h2⟩
mutual
theorem dw_one {Pm : Params} (KX : K.In h) (ar : ∀ a ∈ A, ArgOb h A a) : ∀ (d : WData) (v : Value), Well Pm h v d → plW d = true → OkU A v → Dw K (argH K h A) (toV v) d
  | .none, _, x, _, _ => by
    cases x
    exact .non
  | .bool b, _, x, _, _ => by
    cases x
    exact .bl b
  | .int i, _, x, _, _ => by
    cases x
    exact .int i
  | .str s, _, x, _, _ => by
    cases x
    exact .str s
  | .bytes b, _, x, _, _ => by
    cases x
    have z := Dw.byt (K := K) (H := argH K h A) b.toArray
    exact z
  | .list ds, _, x, p, hu => by
    obtain ⟨a, vs, rfl, ho, hall⟩ := well_list x
    obtain ⟨h2, hs⟩ := argL KX ar hu ho
    exact .lst hs (dw_all KX ar ds _ hall p h2)
  | .tuple ds, _, x, p, hu => by
    obtain ⟨a, vs, rfl, ho, hall⟩ := well_tuple x
    obtain ⟨h2, hs⟩ := argT KX ar hu ho
    exact .tup hs (dw_all KX ar ds _ hall p h2)
  | .float _, _, _, p, _ => Bool.noConfusion (show false = true from p)
  | .dict _, _, _, p, _ => Bool.noConfusion (show false = true from p)
  | .bytearray _, _, _, p, _ => Bool.noConfusion (show false = true from p)
  | .set _, _, _, p, _ => Bool.noConfusion (show false = true from p)
  | .frozenset _, _, _, p, _ => Bool.noConfusion (show false = true from p)
  | .obj _ _, _, _, p, _ => Bool.noConfusion (show false = true from p)
theorem dw_all {Pm : Params} (KX : K.In h) (ar : ∀ a ∈ A, ArgOb h A a) : ∀ (ds : List WData) (vs : List Value), WellAll Pm h vs ds → plWs ds = true → (∀ u ∈ vs, OkU A u) → DwAll K (argH K h A) (vs.map toV) ds
  | [], _, x, _, _ => by
    cases x
    exact .nil
  | d :: ds, _, x, p, hu => by
    obtain ⟨v, vs, rfl, x1, x2⟩ := well_cons x
    have q : plW d = true ∧ plWs ds = true := Bool.and_eq_true_iff.mp p
    exact .cons (dw_one KX ar d v x1 q.1 (hu _ (List.mem_cons_self ..))) (dw_all KX ar ds vs x2 q.2 fun u m => hu u (List.mem_cons_of_mem _ m))
end
end
theorem spec_call {P : Program} {w : World} {K : PySem.W.Frag} {mg mb : Str → Option Value} {CX : CXT} {k : Nat} {fa : Addr} {fd : FuncData} {ps : List Str} {sp : Sp} {s₁ : Shared} {vals : List Value} {ds : List WData} {R : PySem.W.WRecords} {cl : Str → Option Addr} {d0 : WData}
    (KX : K.In s₁.heap) (hns : s₁.heap.Ns mainGlobals mg) (hb : s₁.heap.Ns builtinsNs mb) (hbb : ∀ x : Str, x ≠ "__name__" → mb x = bootBuiltins x) (hlim : s₁.heap.NoLimit) (hg : s₁.gens = #[])
    (hwl : WellAll w.params s₁.heap vals ds) (hpl : plWs ds = true) (hwt : ∀ d ∈ ds, d.weight ≤ 1048576) (hr : Room k callerA)
    (F : ∀ base : Heap, K.In base → base.Ns mainGlobals mg → FnOk P w K mg base CX k fa fd ps sp) (hbind : ∀ (s : Shared) (us : List Value), us.length = ps.length → BindsTo s fd ⟨us, []⟩ (ps.zip us)) (hlen : ds.length = ps.length)
    (hsp : ∀ (H : Hp) (xs : List V), OnlyF H → DwAll K H xs ds → sp xs H (fun v H' => Dw K H' v d0) fun _ _ _ => False)
    (hCX : ∀ H e s', CX [] H s₁ (fun _ _ _ => False) e s' → False) :
    codeAny (model P w) callerA (.call (.ref fa) ⟨vals, []⟩) (fun r s' => ∃ u as, r = .ok (.ret u) ∧ ReadsW R cl s'.heap u d0 as ∧ OldK s₁.heap s'.heap ∧ s'.os = s₁.os ∧ AllBare s'.gens) s₁ := by
  obtain ⟨A, ho, ar⟩ := area_all ds vals hwl hpl hwt
  have hO : OnlyF (argH K s₁.heap A) := argH_only ar
  have hok : HOk P w (argH K s₁.heap A) s₁.heap := argH_ok ar
  have hS := dw_all KX ar ds vals hwl hpl ho
  have hV := vals_toV ho
  have hK : ∀ b u, argH K s₁.heap A b = some u → K.lookup b = none := fun b u q => (argH_is ar q).1
  have noA : ∀ {b : Addr} {o : Obj} {es : Array DictEntry} {ep : Nat}, s₁.heap.get? b = some o → o.data = .dict es ep → argH K s₁.heap A b = none := fun {b o es ep} e d => by
    cases q : argH K s₁.heap A b with
    | none => rfl
    | some u =>
      obtain ⟨_, vs, _, _, ⟨e2, _⟩ | ⟨e2, _⟩⟩ := argH_is ar q
      · rw [e2] at e
        cases e
        have d' : Data.seq vs.toArray _ = Data.dict es ep := d
        cases d'
      · rw [e2] at e
        cases e
        have d' : Data.seq vs.toArray _ = Data.dict es ep := d
        cases d'
  generalize argH K s₁.heap A = H at hO hok hS hK noA
  have base_of : ∀ {b : Addr} {o : Obj}, s₁.heap.get? b = some o → H b = none → (hidT s₁.heap H).get? b = some o := fun e n => hidT_get e n
  have nsK : ∀ {b : Addr} {m : Str → Option Value}, s₁.heap.Ns b m → (hidT s₁.heap H).Ns b m := fun {b m} ⟨o, es, ep, e, d, r⟩ => ⟨o, es, ep, base_of e (noA e d), d, r⟩
  have nK : ∀ b o, K.lookup b = some o → H b = none := fun b o e => by
    cases q : H b with
    | none => rfl
    | some u =>
      rw [hK b u q] at e
      cases e
  have hKb : K.In (hidT s₁.heap H) := fun b o e => base_of (KX b o e) (nK b o e)
  have hM : Mod K mg (hidT s₁.heap H) := ⟨hKb, nsK hns, ⟨mb, nsK hb, hbb⟩, let ⟨mc, h1, h2⟩ := hlim; ⟨mc, nsK h1, h2⟩⟩
  have e0 : Env0 P w K mg (hidT s₁.heap H) callerA [] s₁ H := ⟨rfl, hM, fun b o e => of_hidT e, Nat.le_of_eq (hidT_size _ _), trivial, fun b hb => absurd (show b ∈ ([] : List Addr) from hb) (by simp), hok, .of_eq hg⟩
  have hl : vals.length = ps.length := by rw [wellAll_len hwl]; exact hlen
  refine codeAny_mono ((F _ hKb (nsK hns)).run callerA [] s₁ H ⟨vals, []⟩ vals (vals.map toV) _ _ hr e0 (hbind s₁ vals hl) hV (hsp H _ hO hS)) fun r s' x => ?_
  cases r with
  | error e => exact (hCX H e s' x).elim
  | ok fl =>
    cases fl with
    | next => exact False.elim x
    | brk => exact False.elim x
    | cont => exact False.elim x
    | ret u =>
      obtain ⟨v, H', os, bare, un, hok', r', q⟩ := x
      have kept : ∀ b o, s₁.heap.get? b = some o → s'.heap.get? b = some o := fun b o e => by
        cases q2 : H b with
        | none => exact un.keep b o e q2 (by intro z; exact absurd (show b ∈ ([] : List Addr) from z) (by simp)) (by simp)
        | some u2 =>
          rcases hO b with z | ⟨ob, u3, z⟩
          · rw [q2] at z
            cases z
          · have z2 := un.frzs b ob _ z
            obtain ⟨e1, _⟩ := hok b _ z
            obtain ⟨e2, _⟩ := hok' b _ z2
            rw [e] at e1
            cases e1
            exact e2
      have KX' : K.In s'.heap := fun b o e => kept b o (KX b o e)
      obtain ⟨as, hrd⟩ := Dw.reads (R := R) (cl := cl) hok' KX' d0 v u q r'
      exact ⟨u, as, rfl, hrd, OldK.of_keep kept, os, bare⟩
theorem layable_weight {ds : List WData} (h : WData.layableAll ds = true) : ∀ d ∈ ds, d.weight ≤ 1048576 := fun d hd =>
  (PySem.W.layableW_iff.mp (List.all_eq_true.mp h d hd)).2.2
theorem encAll_len : ∀ (cs : List Codec) (a : Codec.denoteAll cs), (Codec.encAll cs a).length = cs.length
  | [], _ => rfl
  | c :: cs, a => by
    show (Codec.encAll cs a.2).length + 1 = cs.length + 1
    rw [encAll_len cs a.2]
/-- the goal that k_headS leaves (case hc), from the promise of the row's def: whatever the arguments that the codecs let and the row asks for, the def gives what stands for enc (f ..) -/
theorem walk_spec {r : OpenSpec} {k : Nat} {q : Program} {loose : List Str} {XP : (Str → Option Value) → Heap → Prop} {YP : World → Heap → Prop} {d : DefRec} {K : Params → PySem.W.Frag} {CX : World → CXT} {ps : List Str} {sp : World → Sp}
    (hwell : r.wellSaid = true) (hdf : d.params.defaults = []) (hlen : r.args.length = ps.length) (hr : Room k callerA)
    (hY : ∀ (w : World) (h : Heap), YP w h → (K w.params).In h)
    (F : ∀ (w : World) (mg : Str → Option Value) (fa : Addr) (h : Heap), YP w h → (K w.params).In h → h.Ns mainGlobals mg → mg d.name = some (.ref fa) →
      ∃ fd : FuncData, (∀ (s : Shared) (us : List Value), us.length = ps.length → BindsTo s fd ⟨us, []⟩ (ps.zip us)) ∧
        ∀ base : Heap, (K w.params).In base → base.Ns mainGlobals mg → FnOk r.prog w (K w.params) mg base (CX w) k fa fd ps (sp w))
    (hsp : ∀ (w : World) (H : Hp) (xs : List V) (a : Codec.denoteAll r.args), OnlyF H → Codec.withinAll r.args a = true → Codec.app r.args r.asked a = true → DwAll (K w.params) H xs (Codec.encAll r.args a) →
      sp w xs H (fun v H' => Dw (K w.params) H' v (r.ret.enc (Codec.app r.args r.f a))) fun _ _ _ => False)
    (hCX : ∀ (w : World) (H : Hp) (s : Shared) (e : Value) (s' : Shared), CX w [] H s (fun _ _ _ => False) e s' → False) :
    PySem.W.WalkOS q loose XP YP r d [] (fun f vs => PySem.call f vs) := by
  intro w s_0 s₁ mg mb G Y fa o pm cd doc dV kV ho hd hcd hD hmg hg args vals as hpre hlay hrd hwl hlo
  obtain ⟨a, e1, e2⟩ := PySem.W.os_pre_some hpre
  obtain ⟨e3, hwi⟩ := Codec.encAll_of_decAll r.args args a e1
  subst e3
  have KX := hY w _ Y
  obtain ⟨fd, hb, hF⟩ := F w mg fa _ Y KX G.T.g hmg
  refine PySem.W.enter_call (codeAny_mono (spec_call (R := []) (cl := classAt s_0.heap) (d0 := r.ret.enc (Codec.app r.args r.f a)) KX G.T.g G.T.b G.T.builtins G.T.nolimit hg hwl (pl_encAll _ _) (layable_weight hlay) hr hF hb (by rw [encAll_len]; exact hlen)
    (fun H xs hO hS => hsp w H xs a hO hwi e2 hS) fun H e s' => hCX w H s₁ e s') fun r' s' hq => ?_)
  obtain ⟨u, as', rfl, h1, h2, h3, h4⟩ := hq
  exact ⟨.inl ⟨u, _, as', rfl, fun _ => rfl, h1, (OpenSpec.post_iff hwell hwi _ _).mpr rfl, fun z => Bool.noConfusion (show false = true from z)⟩, h2, h3, h4⟩
/-- the same where the promise hangs on the written part alone -/
theorem walk_specK {r : OpenSpec} {k : Nat} {q : Program} {loose : List Str} {XP : (Str → Option Value) → Heap → Prop} {YP : World → Heap → Prop} {d : DefRec} {K : Params → PySem.W.Frag} {CX : CXT} {ps : List Str} {sp : PySem.W.Frag → Sp}
    (hwell : r.wellSaid = true) (hdf : d.params.defaults = []) (hlen : r.args.length = ps.length) (hr : Room k callerA)
    (hY : ∀ (w : World) (h : Heap), YP w h → (K w.params).In h)
    (F : ∀ (w : World) (mg : Str → Option Value) (fa : Addr) (h : Heap), YP w h → (K w.params).In h → h.Ns mainGlobals mg → mg d.name = some (.ref fa) →
      ∃ fd : FuncData, (∀ (s : Shared) (us : List Value), us.length = ps.length → BindsTo s fd ⟨us, []⟩ (ps.zip us)) ∧
        ∀ base : Heap, (K w.params).In base → base.Ns mainGlobals mg → FnOk r.prog w (K w.params) mg base CX k fa fd ps (sp (K w.params)))
    (hsp : ∀ (K : PySem.W.Frag) (H : Hp) (xs : List V) (a : Codec.denoteAll r.args), OnlyF H → Codec.withinAll r.args a = true → Codec.app r.args r.asked a = true → DwAll K H xs (Codec.encAll r.args a) →
      sp K xs H (fun v H' => Dw K H' v (r.ret.enc (Codec.app r.args r.f a))) fun _ _ _ => False)
    (hCX : ∀ (H : Hp) (s : Shared) (e : Value) (s' : Shared), CX [] H s (fun _ _ _ => False) e s' → False) :
    PySem.W.WalkOS q loose XP YP r d [] (fun f vs => PySem.call f vs) :=
  walk_spec (K := K) (CX := fun _ => CX) (sp := fun w => sp (K w.params)) hwell hdf hlen hr hY F (fun w H xs a h1 h2 h3 h4 => hsp (K w.params) H xs a h1 h2 h3 h4) fun _ H s e s' => hCX H s e s'
end L2
-- rests on (row put in by the clerk, for the bench that shows a file only what it spells): KE.SpHead KE.OsShapes
end

section
set_option Elab.async false
namespace Sett
open CbAcc
def pr (p : Pay) : Nat × Nat := (p.from_, p.to_)
def net1 (p : Pay) (i : Nat) : Int := (if p.from_ = i then (p.units : Int) else 0) - (if p.to_ = i then (p.units : Int) else 0)
/-- what payments do to the position of i -/
def net : List Pay → Nat → Int
  | [], _ => 0
  | p :: l, i => net1 p i + net l i
theorem net_append : ∀ (l m : List Pay) (i : Nat), net (l ++ m) i = net l i + net m i
  | [], m, i => by simp [net]
  | p :: l, m, i => by
    show net1 p i + net (l ++ m) i = net1 p i + net l i + net m i
    rw [net_append l m i]; omega
theorem net_perm {l m : List Pay} (h : l.Perm m) (i : Nat) : net l i = net m i := by
  induction h with
  | nil => rfl
  | cons x _ ih => show net1 x i + _ = net1 x i + _; rw [ih]
  | swap x y l => show net1 y i + (net1 x i + net l i) = net1 x i + (net1 y i + net l i); omega
  | trans _ _ ih1 ih2 => exact ih1.trans ih2
structure Pre (ps : List Int) (l : List Pay) : Prop where
  dir : ∀ p ∈ l, ps.getD p.from_ 0 < 0 ∧ 0 < ps.getD p.to_ 0 ∧ 1 ≤ p.units
  zero : ∀ i, ps.getD i 0 + net l i = 0
structure Fit (ps : List Int) (l : List Pay) : Prop extends Pre ps l where
  nd : (l.map pr).Nodup
theorem lt_of_getD_ne {ps : List Int} {i : Nat} (h : ps.getD i 0 ≠ 0) : i < ps.length := by
  by_cases c : i < ps.length
  · exact c
  · exfalso; apply h; rw [List.getD_eq_getElem?_getD, List.getElem?_eq_none (by omega)]; rfl
theorem getD_set (ps : List Int) (i j : Nat) (v : Int) (hi : i < ps.length) : (ps.set i v).getD j 0 = if i = j then v else ps.getD j 0 := by
  rw [List.getD_eq_getElem?_getD, List.getD_eq_getElem?_getD, List.getElem?_set]
  split
  · simp_all
  · rfl
/-! ### merging -/
theorem merge_in (p : Pay) : ∀ (l : List Pay), (l.map pr).Nodup → ∃ m : List Pay, (m.map pr).Nodup ∧ m.length ≤ l.length + 1 ∧ (∀ i, net m i = net1 p i + net l i) ∧ (∀ q ∈ m, (q ∈ l ∨ (pr q = pr p ∧ p.units ≤ q.units))) ∧ (∀ x ∈ m.map pr, x = pr p ∨ x ∈ l.map pr)
  | [], _ => ⟨[p], by simp, by simp, fun i => by simp [net], by simp, by simp⟩
  | q :: l, h => by
    by_cases e : pr q = pr p
    · refine ⟨⟨p.from_, p.to_, p.units + q.units⟩ :: l, ?_, ?_, ?_, ?_, ?_⟩
      · rw [List.map_cons] at h ⊢
        have e2 : pr (⟨p.from_, p.to_, p.units + q.units⟩ : Pay) = pr q := by rw [e]; rfl
        rw [e2]; exact h
      · simp
      · intro i
        have e1 : q.from_ = p.from_ := congrArg Prod.fst e
        have e2 : q.to_ = p.to_ := congrArg Prod.snd e
        show net1 ⟨p.from_, p.to_, p.units + q.units⟩ i + net l i = net1 p i + (net1 q i + net l i)
        unfold net1
        rw [e1, e2]
        simp only []
        split <;> split <;> omega
      · intro r hr
        rcases List.mem_cons.mp hr with rfl | hr
        · exact .inr ⟨rfl, by show p.units ≤ p.units + q.units; omega⟩
        · exact .inl (List.mem_cons_of_mem _ hr)
      · intro x hx
        rw [List.map_cons] at hx
        rcases List.mem_cons.mp hx with rfl | hx
        · exact .inl rfl
        · exact .inr (by rw [List.map_cons]; exact List.mem_cons_of_mem _ hx)
    · rw [List.map_cons, List.nodup_cons] at h
      obtain ⟨m, m1, m2, m3, m4, m5⟩ := merge_in p l h.2
      refine ⟨q :: m, ?_, ?_, ?_, ?_, ?_⟩
      · rw [List.map_cons, List.nodup_cons]
        refine ⟨fun hq => ?_, m1⟩
        rcases m5 _ hq with c | c
        · exact e c
        · exact h.1 c
      · simp only [List.length_cons]; omega
      · intro i
        show net1 q i + net m i = net1 p i + (net1 q i + net l i)
        rw [m3]; omega
      · intro r hr
        rcases List.mem_cons.mp hr with rfl | hr
        · exact .inl (List.mem_cons_self ..)
        · rcases m4 r hr with c | c
          · exact .inl (List.mem_cons_of_mem _ c)
          · exact .inr c
      · intro x hx
        rw [List.map_cons] at hx ⊢
        rcases List.mem_cons.mp hx with rfl | hx
        · exact .inr (List.mem_cons_self ..)
        · rcases m5 x hx with c | c
          · exact .inl c
          · exact .inr (List.mem_cons_of_mem _ c)
theorem merged (ps : List Int) : ∀ (l : List Pay), (∀ p ∈ l, ps.getD p.from_ 0 < 0 ∧ 0 < ps.getD p.to_ 0 ∧ 1 ≤ p.units) → ∃ m : List Pay, (m.map pr).Nodup ∧ m.length ≤ l.length ∧ (∀ i, net m i = net l i) ∧ (∀ p ∈ m, ps.getD p.from_ 0 < 0 ∧ 0 < ps.getD p.to_ 0 ∧ 1 ≤ p.units)
  | [], _ => ⟨[], by simp, by simp, fun _ => rfl, by simp⟩
  | p :: l, h => by
    obtain ⟨m, m1, m2, m3, m4⟩ := merged ps l fun q hq => h q (List.mem_cons_of_mem _ hq)
    obtain ⟨n, n1, n2, n3, n4, _⟩ := merge_in p m m1
    refine ⟨n, n1, by simp only [List.length_cons]; omega, fun i => ?_, fun q hq => ?_⟩
    · rw [n3, m3]; rfl
    · rcases n4 q hq with c | ⟨c, cu⟩
      · exact m4 q c
      · obtain ⟨a, b, d⟩ := h p (List.mem_cons_self ..)
        have e1 : q.from_ = p.from_ := congrArg Prod.fst c
        have e2 : q.to_ = p.to_ := congrArg Prod.snd c
        rw [e1, e2]
        exact ⟨a, b, by omega⟩
theorem Pre.fit {ps : List Int} {l : List Pay} (h : Pre ps l) : ∃ m, Fit ps m ∧ m.length ≤ l.length := by
  obtain ⟨m, m1, m2, m3, m4⟩ := merged ps l h.dir
  exact ⟨m, ⟨⟨m4, fun i => by rw [m3]; exact h.zero i⟩, m1⟩, m2⟩
/-! ### greedy -/
theorem sum_set : ∀ (ps : List Int) (i : Nat) (v : Int), i < ps.length → (ps.set i v).sum = ps.sum - ps.getD i 0 + v
  | [], _, _, h => by simp at h
  | x :: ps, 0, v, _ => by simp; omega
  | x :: ps, i + 1, v, h => by
    have ih := sum_set ps i v (by simpa using h)
    simp only [List.set_cons_succ, List.sum_cons, List.getD_cons_succ]
    omega
theorem count_set (ps : List Int) (i : Nat) (v : Int) (h : i < ps.length) : (ps.set i v).countP (· != 0) = ps.countP (· != 0) - (if ps.getD i 0 != 0 then 1 else 0) + (if v != 0 then 1 else 0) := by
  rw [List.countP_set h]
  have e : ps.getD i 0 = ps[i] := by rw [List.getD_eq_getElem?_getD, List.getElem?_eq_getElem h]; rfl
  rw [e]
theorem count_pos {ps : List Int} {i : Nat} (h : ps.getD i 0 ≠ 0) : 0 < ps.countP (· != 0) := by
  have hi := lt_of_getD_ne h
  apply List.countP_pos_iff.mpr
  refine ⟨ps[i], List.getElem_mem hi, ?_⟩
  have e : ps.getD i 0 = ps[i] := by rw [List.getD_eq_getElem?_getD, List.getElem?_eq_getElem hi]; rfl
  rw [e] at h
  simpa using h
theorem neg_of : ∀ (ps : List Int), (∀ i, 0 ≤ ps.getD i 0) → 0 ≤ ps.sum ∧ (ps.sum = 0 → ∀ i, ps.getD i 0 = 0)
  | [], _ => ⟨by simp, fun _ i => by simp⟩
  | x :: ps, h => by
    have h0 : 0 ≤ x := by simpa using h 0
    obtain ⟨a, b⟩ := neg_of ps fun i => by simpa using h (i + 1)
    refine ⟨by simp; omega, fun e i => ?_⟩
    rw [List.sum_cons] at e
    match i with
    | 0 => show x = 0; omega
    | i + 1 => simpa using b (by omega) i
theorem pos_of : ∀ (ps : List Int), (∀ i, ps.getD i 0 ≤ 0) → ps.sum ≤ 0 ∧ (ps.sum = 0 → ∀ i, ps.getD i 0 = 0)
  | [], _ => ⟨by simp, fun _ i => by simp⟩
  | x :: ps, h => by
    have h0 : x ≤ 0 := by simpa using h 0
    obtain ⟨a, b⟩ := pos_of ps fun i => by simpa using h (i + 1)
    refine ⟨by simp; omega, fun e i => ?_⟩
    rw [List.sum_cons] at e
    match i with
    | 0 => show x = 0; omega
    | i + 1 => simpa using b (by omega) i
theorem both_signs {ps : List Int} (hs : ps.sum = 0) {k : Nat} (hk : ps.getD k 0 ≠ 0) : (∃ i, ps.getD i 0 < 0) ∧ ∃ j, 0 < ps.getD j 0 := by
  constructor
  · apply Classical.byContradiction
    intro c
    exact hk ((neg_of ps fun i => by
      by_cases d : ps.getD i 0 < 0
      · exact absurd ⟨i, d⟩ c
      · omega).2 hs k)
  · apply Classical.byContradiction
    intro c
    exact hk ((pos_of ps fun i => by
      by_cases d : 0 < ps.getD i 0
      · exact absurd ⟨i, d⟩ c
      · omega).2 hs k)
theorem greedy : ∀ (n : Nat) (ps : List Int), ps.countP (· != 0) ≤ n → ps.sum = 0 → ∃ l, Pre ps l ∧ l.length ≤ ps.countP (· != 0) - 1
  | n, ps, hn, hs => by
    by_cases z : ∀ i, ps.getD i 0 = 0
    · exact ⟨[], ⟨by simp, fun i => by rw [z i]; rfl⟩, by simp⟩
    · obtain ⟨k, hk⟩ := Classical.not_forall.mp z
      obtain ⟨⟨i, hi⟩, j, hj⟩ := both_signs hs hk
      have li := lt_of_getD_ne (ps := ps) (i := i) (by omega)
      have lj := lt_of_getD_ne (ps := ps) (i := j) (by omega)
      have ij : i ≠ j := fun e => by rw [e] at hi; omega
      cases n with
      | zero => have := count_pos hk; omega
      | succ n =>
      -- the payment
      obtain ⟨u, hu1, hu2, hu3, hu4⟩ : ∃ u : Nat, 1 ≤ u ∧ (u : Int) ≤ -ps.getD i 0 ∧ (u : Int) ≤ ps.getD j 0 ∧ ((u : Int) = -ps.getD i 0 ∨ (u : Int) = ps.getD j 0) := by
        by_cases c : -ps.getD i 0 ≤ ps.getD j 0
        · exact ⟨(-ps.getD i 0).toNat, by omega, by omega, by omega, .inl (by omega)⟩
        · exact ⟨(ps.getD j 0).toNat, by omega, by omega, by omega, .inr (by omega)⟩
      let qs := (ps.set i (ps.getD i 0 + u)).set j (ps.getD j 0 - u)
      have g : ∀ k, qs.getD k 0 = if j = k then ps.getD j 0 - u else if i = k then ps.getD i 0 + u else ps.getD k 0 := fun k => by
        show ((ps.set i (ps.getD i 0 + u)).set j (ps.getD j 0 - u)).getD k 0 = _
        rw [getD_set _ _ _ _ (by rw [List.length_set]; exact lj), getD_set _ _ _ _ li]
      have hsq : qs.sum = 0 := by
        show ((ps.set i (ps.getD i 0 + u)).set j (ps.getD j 0 - u)).sum = 0
        rw [sum_set _ _ _ (by rw [List.length_set]; exact lj), sum_set _ _ _ li, getD_set _ _ _ _ li, if_neg ij, hs]
        omega
      have hc : qs.countP (· != 0) + 1 ≤ ps.countP (· != 0) ∧ (qs.countP (· != 0) = 0 → 2 ≤ ps.countP (· != 0)) := by
        have e1 := count_set ps i (ps.getD i 0 + u) li
        have e2 := count_set (ps.set i (ps.getD i 0 + u)) j (ps.getD j 0 - u) (by rw [List.length_set]; exact lj)
        rw [getD_set _ _ _ _ li, if_neg ij] at e2
        have p1 := count_pos (ps := ps) (i := i) (by omega)
        have p2 := count_pos (ps := ps.set i (ps.getD i 0 + u)) (i := j) (by rw [getD_set _ _ _ _ li, if_neg ij]; omega)
        have q1 : (ps.getD i 0 != 0) = true := bne_iff_ne.mpr (by omega)
        have q2 : (ps.getD j 0 != 0) = true := bne_iff_ne.mpr (by omega)
        rw [q1, if_pos rfl] at e1
        rw [q2, if_pos rfl] at e2
        show ((ps.set i (ps.getD i 0 + u)).set j (ps.getD j 0 - u)).countP (· != 0) + 1 ≤ _ ∧ (((ps.set i (ps.getD i 0 + u)).set j (ps.getD j 0 - u)).countP (· != 0) = 0 → _)
        rw [e2]
        by_cases c1 : ps.getD i 0 + (u : Int) = 0
        · rw [c1] at e1 p2 ⊢
          simp only [bne_self_eq_false, Bool.false_eq_true, if_false] at e1
          by_cases c2 : ps.getD j 0 - (u : Int) = 0
          · rw [c2]
            simp only [bne_self_eq_false, Bool.false_eq_true, if_false]
            omega
          · have q3 : (ps.getD j 0 - (u : Int) != 0) = true := bne_iff_ne.mpr c2
            rw [q3, if_pos rfl]
            omega
        · have c2 : ps.getD j 0 - (u : Int) = 0 := by omega
          have q3 : (ps.getD i 0 + (u : Int) != 0) = true := bne_iff_ne.mpr c1
          rw [q3, if_pos rfl] at e1
          have p3 := count_pos (ps := qs) (i := i) (by rw [g, if_neg (fun e => ij e.symm), if_pos rfl]; exact c1)
          have e3 : qs.countP (· != 0) = _ := e2
          rw [e3] at p3
          rw [c2] at p3 ⊢
          simp only [bne_self_eq_false, Bool.false_eq_true, if_false] at p3
          simp only [bne_self_eq_false, Bool.false_eq_true, if_false]
          omega
      obtain ⟨l, hl, hlen⟩ := greedy n qs (by omega) hsq
      refine ⟨⟨i, j, u⟩ :: l, ⟨?_, ?_⟩, ?_⟩
      · intro p hp
        rcases List.mem_cons.mp hp with rfl | hp
        · exact ⟨hi, hj, hu1⟩
        · obtain ⟨a, b, c⟩ := hl.dir p hp
          rw [g] at a b
          refine ⟨?_, ?_, c⟩
          · by_cases x1 : j = p.from_
            · rw [if_pos x1] at a; omega
            · rw [if_neg x1] at a
              by_cases x2 : i = p.from_
              · rw [← x2]; exact hi
              · rw [if_neg x2] at a; exact a
          · by_cases x1 : j = p.to_
            · rw [← x1]; exact hj
            · rw [if_neg x1] at b
              by_cases x2 : i = p.to_
              · rw [if_pos x2] at b; omega
              · rw [if_neg x2] at b; exact b
      · intro k
        have z := hl.zero k
        rw [g] at z
        show ps.getD k 0 + (((if i = k then (u : Int) else 0) - (if j = k then (u : Int) else 0)) + net l k) = 0
        by_cases x1 : j = k
        · subst x1
          rw [if_pos rfl] at z ⊢
          rw [if_neg ij]
          omega
        · rw [if_neg x1] at z ⊢
          by_cases x2 : i = k
          · subst x2
            rw [if_pos rfl] at z ⊢
            omega
          · rw [if_neg x2] at z ⊢
            omega
      · show l.length + 1 ≤ _
        omega
end Sett
end
section
set_option Elab.async false
namespace Sett
open CbAcc
def tch (x : Nat × Nat) (i : Nat) : Nat := if x.1 = i ∨ x.2 = i then 1 else 0
theorem ends_cons (x : Nat × Nat) (l : List (Nat × Nat)) (i : Nat) : endsAt (x :: l) i = tch x i + endsAt l i := by
  unfold endsAt tch
  rw [List.filter_cons]
  by_cases h : x.1 = i ∨ x.2 = i
  · have e : (x.1 == i || x.2 == i) = true := by simpa using h
    rw [if_pos e, if_pos h, List.length_cons, Nat.add_comm]
  · have e : ¬ (x.1 == i || x.2 == i) = true := by simpa using h
    rw [if_neg e, if_neg h, Nat.zero_add]
theorem ends_perm {l m : List (Nat × Nat)} (h : l.Perm m) (i : Nat) : endsAt l i = endsAt m i := (h.filter _).length_eq
theorem net_untouched : ∀ (l : List Pay) (i : Nat), endsAt (l.map pr) i = 0 → net l i = 0
  | [], _, _ => rfl
  | p :: l, i, h => by
    rw [List.map_cons, ends_cons] at h
    have e := net_untouched l i (by omega)
    show net1 p i + net l i = 0
    have : tch (pr p) i = 0 := by omega
    by_cases c : p.from_ = i ∨ p.to_ = i
    · have q : tch (pr p) i = 1 := if_pos c
      omega
    · unfold net1
      rw [if_neg (fun z => c (.inl z)), if_neg (fun z => c (.inr z)), e]
      rfl
theorem perm_of_mem {α : Type} [DecidableEq α] {x : α} {l : List α} (h : x ∈ l) : ∃ r, l.Perm (x :: r) := ⟨l.erase x, List.perm_cons_erase h⟩
theorem solve_sound : ∀ (f : Nat) (l : List (Nat × Nat)) (qs : List Int) (r : List Pay), l.Nodup → (∀ x ∈ l, x.1 ≠ x.2 ∧ x.1 < qs.length ∧ x.2 < qs.length) → solve f l qs = some r →
    (r.map pr).Perm l ∧ (∀ p ∈ r, 1 ≤ p.units) ∧ ∀ i, qs.getD i 0 + net r i = 0 := by
  have zero : ∀ (qs : List Int), qs.all (fun (z : Int) => z == 0) = true → ∀ i, qs.getD i 0 + net [] i = 0 := fun qs h i => by
    rw [List.all_eq_true] at h
    show qs.getD i 0 + 0 = 0
    by_cases c : i < qs.length
    · have e : qs.getD i 0 = qs[i] := by rw [List.getD_eq_getElem?_getD, List.getElem?_eq_getElem c]; rfl
      have := h _ (List.getElem_mem c)
      rw [e]
      simpa using this
    · rw [List.getD_eq_getElem?_getD, List.getElem?_eq_none (by omega)]; rfl
  intro f
  induction f with
  | zero =>
    intro l qs r _ _ h
    unfold solve at h
    split at h
    · rename_i c
      cases h
      rw [c.1]
      exact ⟨.nil, by simp, zero qs c.2⟩
    · cases h
  | succ f ih =>
    intro l qs r hnd hin h
    unfold solve at h
    split at h
    · rename_i c
      split at h
      · rename_i d
        cases h
        rw [c]
        exact ⟨.nil, by simp, zero qs d⟩
      · cases h
    · rename_i c
      split at h
      · cases h
      · rename_i x hx
        have hm : x ∈ l := List.mem_of_find?_eq_some hx
        obtain ⟨hne, l1, l2⟩ := hin x hm
        simp only [] at h
        generalize hU : (if endsAt l x.1 = 1 then -qs.getD x.1 0 else qs.getD x.2 0) = u at h
        by_cases hu : u < 1
        · rw [if_pos hu] at h; cases h
        · rw [if_neg hu] at h
          cases e : solve f (l.filter fun y => y != x) ((qs.set x.1 (qs.getD x.1 0 + u)).set x.2 (qs.getD x.2 0 - u)) with
          | none => rw [e] at h; cases h
          | some r1 =>
            rw [e] at h
            cases h
            obtain ⟨a, b, d⟩ := ih _ _ r1 (hnd.filter _) (fun y hy => by
              rw [List.length_set, List.length_set]
              exact hin y (List.mem_filter.mp hy).1) e
            refine ⟨?_, ?_, ?_⟩
            · obtain ⟨l', hl'⟩ := perm_of_mem hm
              have nd' := (hl'.nodup_iff.mp hnd)
              rw [List.nodup_cons] at nd'
              have q : (l.filter fun y => y != x).Perm l' := by
                refine (hl'.filter _).trans ?_
                rw [List.filter_cons, if_neg (by simp), List.filter_eq_self.mpr]
                intro y hy
                refine bne_iff_ne.mpr fun z => ?_
                rw [z] at hy
                exact nd'.1 hy
              rw [List.map_cons]
              exact ((a.trans q).cons _).trans hl'.symm
            · intro p hp
              rcases List.mem_cons.mp hp with rfl | hp
              · show 1 ≤ u.toNat; omega
              · exact b p hp
            · intro i
              have z := d i
              rw [getD_set _ _ _ _ (by rw [List.length_set]; exact l2), getD_set _ _ _ _ l1] at z
              show qs.getD i 0 + (((if x.1 = i then ((u.toNat : Nat) : Int) else 0) - (if x.2 = i then ((u.toNat : Nat) : Int) else 0)) + net r1 i) = 0
              have eu : ((u.toNat : Nat) : Int) = u := by omega
              rw [eu]
              by_cases x2 : x.2 = i
              · subst x2
                rw [if_pos rfl] at z ⊢
                rw [if_neg hne]
                omega
              · rw [if_neg x2] at z ⊢
                by_cases x1 : x.1 = i
                · subst x1
                  rw [if_pos rfl] at z ⊢
                  omega
                · rw [if_neg x1] at z ⊢
                  omega
def Leafy (r : List Pay) : Prop := ∀ r0 r1 : List Pay, r.Perm (r0 ++ r1) → r0 ≠ [] → ∃ p ∈ r0, endsAt (r0.map pr) p.from_ = 1 ∨ endsAt (r0.map pr) p.to_ = 1
theorem solve_complete : ∀ (f : Nat) (l : List (Nat × Nat)) (qs : List Int) (r : List Pay), l.Nodup → l.length ≤ f → (∀ x ∈ l, x.1 ≠ x.2 ∧ x.1 < qs.length ∧ x.2 < qs.length) →
    (r.map pr).Perm l → (∀ p ∈ r, 1 ≤ p.units) → (∀ i, qs.getD i 0 + net r i = 0) → Leafy r → ∃ r', solve f l qs = some r' ∧ r'.Perm r := by
  have zero : ∀ (qs : List Int), (∀ i, qs.getD i 0 + net [] i = 0) → qs.all (fun (z : Int) => z == 0) = true := fun qs h => by
    rw [List.all_eq_true]
    intro x hx
    obtain ⟨i, hi, e⟩ := List.getElem_of_mem hx
    have q := h i
    rw [List.getD_eq_getElem?_getD, List.getElem?_eq_getElem hi, e] at q
    have q2 : x + 0 = 0 := q
    exact beq_iff_eq.mpr (by omega)
  intro f
  induction f with
  | zero =>
    intro l qs r _ hl _ hp _ hz _
    have el : l = [] := List.length_eq_zero_iff.mp (by omega)
    subst el
    have er : r = [] := List.map_eq_nil_iff.mp hp.eq_nil
    subst er
    exact ⟨[], by unfold solve; rw [if_pos ⟨rfl, zero qs hz⟩], .refl _⟩
  | succ f ih =>
    intro l qs r hnd hl hin hp hu hz hL
    by_cases el : l = []
    · subst el
      have er : r = [] := List.map_eq_nil_iff.mp hp.eq_nil
      subst er
      exact ⟨[], by unfold solve; rw [if_pos rfl, if_pos (zero qs hz)], .refl _⟩
    · have ner : r ≠ [] := fun e => by
        subst e
        exact el (hp.symm.eq_nil)
      have hs : (l.find? fun (x : Nat × Nat) => endsAt l x.1 == 1 || endsAt l x.2 == 1).isSome = true := by
        rw [List.find?_isSome]
        obtain ⟨p, pm, pl⟩ := hL r [] (by rw [List.append_nil]) ner
        rw [ends_perm hp, ends_perm hp] at pl
        exact ⟨pr p, hp.mem_iff.mp (List.mem_map_of_mem pm), by simpa [pr] using pl⟩
      obtain ⟨x, hx⟩ := Option.isSome_iff_exists.mp hs
      have hm : x ∈ l := List.mem_of_find?_eq_some hx
      have hleaf := List.find?_some hx
      obtain ⟨hne, l1, l2⟩ := hin x hm
      obtain ⟨p, pm, ep⟩ := List.mem_map.mp (hp.mem_iff.mpr hm)
      obtain ⟨r1, hr1⟩ := perm_of_mem pm
      have hp1 : (pr p :: r1.map pr).Perm l := ((hr1.map pr).symm).trans hp
      have nd1 := hp1.nodup_iff.mpr hnd
      rw [List.nodup_cons] at nd1
      have e1 : p.from_ = x.1 := congrArg Prod.fst ep
      have e2 : p.to_ = x.2 := congrArg Prod.snd ep
      have ends : ∀ i, endsAt l i = tch x i + endsAt (r1.map pr) i := fun i => by rw [← ends_perm hp1, ends_cons, ep]
      have hzn : ∀ i, qs.getD i 0 + (net1 p i + net r1 i) = 0 := fun i => by
        have := hz i
        rw [net_perm hr1] at this
        exact this
      have eu : (if endsAt l x.1 = 1 then -(qs.getD x.1 0) else qs.getD x.2 0) = (p.units : Int) := by
        by_cases c : endsAt l x.1 = 1
        · rw [if_pos c]
          have h0 : endsAt (r1.map pr) x.1 = 0 := by
            rw [ends] at c
            unfold tch at c
            rw [if_pos (.inl rfl)] at c
            omega
          have h1 := net_untouched _ _ h0
          have h2 := hzn x.1
          rw [h1] at h2
          unfold net1 at h2
          rw [if_pos e1, if_neg (by rw [e2]; exact fun z => hne z.symm)] at h2
          omega
        · rw [if_neg c]
          have c2 : endsAt l x.2 = 1 := by
            have : endsAt l x.1 = 1 ∨ endsAt l x.2 = 1 := by simpa using hleaf
            rcases this with h | h
            · exact absurd h c
            · exact h
          have h0 : endsAt (r1.map pr) x.2 = 0 := by
            rw [ends] at c2
            unfold tch at c2
            rw [if_pos (.inr rfl)] at c2
            omega
          have h1 := net_untouched _ _ h0
          have h2 := hzn x.2
          rw [h1] at h2
          unfold net1 at h2
          rw [if_pos e2, if_neg (by rw [e1]; exact hne)] at h2
          omega
      have pu := hu p pm
      have hq : (l.filter fun (y : Nat × Nat) => y != x).Perm (r1.map pr) := by
        refine (hp1.symm.filter _).trans ?_
        rw [List.filter_cons, if_neg (by rw [ep]; simp), List.filter_eq_self.mpr]
        intro y hy
        refine bne_iff_ne.mpr fun z => ?_
        rw [z, ← ep] at hy
        exact nd1.1 hy
      obtain ⟨r', s1, s2⟩ := ih (l.filter fun y => y != x) ((qs.set x.1 (qs.getD x.1 0 + p.units)).set x.2 (qs.getD x.2 0 - p.units)) r1 (hnd.filter _)
        (by
          rw [hq.length_eq]
          have := hp1.length_eq
          rw [List.length_cons] at this
          omega)
        (fun y hy => by
          rw [List.length_set, List.length_set]
          exact hin y (List.mem_filter.mp hy).1)
        hq.symm (fun q hq => hu q (hr1.mem_iff.mpr (List.mem_cons_of_mem _ hq)))
        (fun i => by
          have z := hzn i
          rw [getD_set _ _ _ _ (by rw [List.length_set]; exact l2), getD_set _ _ _ _ l1]
          unfold net1 at z
          rw [e1, e2] at z
          by_cases x2 : x.2 = i
          · subst x2
            rw [if_pos rfl]
            rw [if_neg hne, if_pos rfl] at z
            omega
          · rw [if_neg x2] at z ⊢
            by_cases x1 : x.1 = i
            · subst x1
              rw [if_pos rfl] at z ⊢
              omega
            · rw [if_neg x1] at z ⊢
              omega)
        (fun r0 r2 h hne0 => hL r0 (p :: r2) (hr1.trans ((h.cons p).trans List.perm_middle.symm)) hne0)
      refine ⟨p :: r', ?_, (s2.cons p).trans hr1.symm⟩
      unfold solve
      rw [if_neg el, hx]
      simp only []
      rw [eu, if_neg (by omega), s1]
      show some (_ :: r') = some (p :: r')
      rw [← e1, ← e2]
      rfl
/-! ### few payments: leaves -/
theorem sum_if (u : Int) : ∀ (n a : Nat), ((List.range n).map fun i => if a = i then u else 0).sum = if a < n then u else 0
  | 0, a => by simp
  | n + 1, a => by
    rw [List.range_succ, List.map_append, List.sum_append, sum_if u n a]
    simp only [List.map_cons, List.map_nil, List.sum_cons, List.sum_nil]
    by_cases c : a < n
    · rw [if_pos c, if_neg (by omega), if_pos (by omega)]; omega
    · rw [if_neg c]
      by_cases d : a = n
      · rw [if_pos d, if_pos (by omega)]; omega
      · rw [if_neg d, if_neg (by omega)]; omega
theorem sum_add (l : List Nat) (f g : Nat → Int) : (l.map fun i => f i + g i).sum = (l.map f).sum + (l.map g).sum := by
  induction l with
  | nil => rfl
  | cons x l ih => simp only [List.map_cons, List.sum_cons, ih]; omega
theorem sum_neg (l : List Nat) (f : Nat → Int) : (l.map fun i => -f i).sum = -(l.map f).sum := by
  induction l with
  | nil => rfl
  | cons x l ih => simp only [List.map_cons, List.sum_cons, ih]; omega
theorem sum_net (n : Nat) : ∀ (r : List Pay), (∀ p ∈ r, p.from_ < n ∧ p.to_ < n) → ((List.range n).map fun i => net r i).sum = 0
  | [], _ => by
    show ((List.range n).map fun _ => (0 : Int)).sum = 0
    generalize List.range n = l
    induction l with
    | nil => rfl
    | cons x l ih => simp only [List.map_cons, List.sum_cons, ih]; rfl
  | p :: r, h => by
    show ((List.range n).map fun i => net1 p i + net r i).sum = 0
    rw [sum_add, sum_net n r fun q hq => h q (List.mem_cons_of_mem _ hq)]
    unfold net1
    obtain ⟨a, b⟩ := h p (List.mem_cons_self ..)
    have e := sum_add (List.range n) (fun i => if p.from_ = i then (p.units : Int) else 0) (fun i => -(if p.to_ = i then (p.units : Int) else 0))
    rw [sum_neg, sum_if, sum_if, if_pos a, if_pos b] at e
    have e2 : (fun i => (if p.from_ = i then (p.units : Int) else 0) - (if p.to_ = i then (p.units : Int) else 0)) = fun i => (if p.from_ = i then (p.units : Int) else 0) + -(if p.to_ = i then (p.units : Int) else 0) := by
      funext i; omega
    rw [e2, e]
    omega
theorem sumN_if : ∀ (n a : Nat), ((List.range n).map fun i => if a = i then 1 else 0).sum = if a < n then 1 else 0
  | 0, a => by simp
  | n + 1, a => by
    rw [List.range_succ, List.map_append, List.sum_append, sumN_if n a]
    simp only [List.map_cons, List.map_nil, List.sum_cons, List.sum_nil]
    by_cases c : a < n
    · rw [if_pos c, if_neg (by omega), if_pos (by omega)]; rfl
    · rw [if_neg c]
      by_cases d : a = n
      · rw [if_pos d, if_pos (by omega)]; rfl
      · rw [if_neg d, if_neg (by omega)]; rfl
theorem sumN_add (l : List Nat) (f g : Nat → Nat) : (l.map fun i => f i + g i).sum = (l.map f).sum + (l.map g).sum := by
  induction l with
  | nil => rfl
  | cons x l ih => simp only [List.map_cons, List.sum_cons, ih]; omega
theorem sum_ends (n : Nat) : ∀ (L : List (Nat × Nat)), (∀ x ∈ L, x.1 ≠ x.2 ∧ x.1 < n ∧ x.2 < n) → ((List.range n).map fun i => endsAt L i).sum = 2 * L.length
  | [], _ => by
    show ((List.range n).map fun _ => 0).sum = 0
    generalize List.range n = l
    induction l with
    | nil => rfl
    | cons x l ih => simp only [List.map_cons, List.sum_cons, ih]
  | x :: L, h => by
    obtain ⟨c, a, b⟩ := h x (List.mem_cons_self ..)
    have e : (fun i => endsAt (x :: L) i) = fun i => ((if x.1 = i then 1 else 0) + (if x.2 = i then 1 else 0)) + endsAt L i := by
      funext i
      rw [ends_cons]
      unfold tch
      by_cases x1 : x.1 = i
      · rw [if_pos (.inl x1), if_pos x1, if_neg (by rw [← x1]; exact fun z => c z.symm)]
      · rw [if_neg x1]
        by_cases x2 : x.2 = i
        · rw [if_pos (.inr x2), if_pos x2]
        · rw [if_neg x2, if_neg (fun z => z.elim x1 x2)]
    rw [e, sumN_add, sumN_add, sumN_if, sumN_if, if_pos a, if_pos b, sum_ends n L fun y hy => h y (List.mem_cons_of_mem _ hy), List.length_cons]
    omega
theorem count_two (p : Nat → Bool) (g : Nat → Nat) : ∀ (l : List Nat), (∀ i ∈ l, p i = true → 2 ≤ g i) → 2 * l.countP p ≤ (l.map g).sum
  | [], _ => by simp
  | x :: l, h => by
    have ih := count_two p g l fun i hi => h i (List.mem_cons_of_mem _ hi)
    rw [List.countP_cons, List.map_cons, List.sum_cons]
    by_cases c : p x = true
    · have := h x (List.mem_cons_self ..) c
      rw [if_pos c]; omega
    · rw [if_neg c]; omega
theorem net_pos : ∀ (r : List Pay) (i : Nat), 0 < net r i → ∃ p ∈ r, p.from_ = i
  | [], _, h => by exact absurd h (by show ¬ (0 : Int) < 0; omega)
  | p :: r, i, h => by
    by_cases c : p.from_ = i
    · exact ⟨p, List.mem_cons_self .., c⟩
    · have h' : 0 < net1 p i + net r i := h
      unfold net1 at h'
      rw [if_neg c] at h'
      obtain ⟨q, a, b⟩ := net_pos r i (by
        by_cases d : p.to_ = i
        · rw [if_pos d] at h'; omega
        · rw [if_neg d] at h'; omega)
      exact ⟨q, List.mem_cons_of_mem _ a, b⟩
theorem net_neg : ∀ (r : List Pay) (i : Nat), net r i < 0 → ∃ p ∈ r, p.to_ = i
  | [], _, h => by exact absurd h (by show ¬ (0 : Int) < 0; omega)
  | p :: r, i, h => by
    by_cases c : p.to_ = i
    · exact ⟨p, List.mem_cons_self .., c⟩
    · have h' : net1 p i + net r i < 0 := h
      unfold net1 at h'
      rw [if_neg c] at h'
      obtain ⟨q, a, b⟩ := net_neg r i (by
        by_cases d : p.from_ = i
        · rw [if_pos d] at h'; omega
        · rw [if_neg d] at h'; omega)
      exact ⟨q, List.mem_cons_of_mem _ a, b⟩
theorem Pre.bounds {ps : List Int} {r : List Pay} (h : Pre ps r) : ∀ p ∈ r, p.from_ ≠ p.to_ ∧ p.from_ < ps.length ∧ p.to_ < ps.length := fun p hp => by
  obtain ⟨a, b, _⟩ := h.dir p hp
  exact ⟨fun e => by rw [e] at a; omega, lt_of_getD_ne (by omega), lt_of_getD_ne (by omega)⟩
theorem leafy_of_min {ps : List Int} {r : List Pay} (h : Fit ps r) (hmin : ∀ m, Fit ps m → r.length ≤ m.length) : Leafy r := by
  intro r0 r1 hp hne
  apply Classical.byContradiction
  intro hc
  have hb : ∀ p ∈ r0, p.from_ ≠ p.to_ ∧ p.from_ < ps.length ∧ p.to_ < ps.length := fun p hp0 => h.toPre.bounds p (hp.mem_iff.mpr (List.mem_append_left _ hp0))
  have hd : ∀ p ∈ r0, ps.getD p.from_ 0 < 0 ∧ 0 < ps.getD p.to_ 0 ∧ 1 ≤ p.units := fun p hp0 => h.dir p (hp.mem_iff.mpr (List.mem_append_left _ hp0))
  have two : ∀ i, net r0 i ≠ 0 → 2 ≤ endsAt (r0.map pr) i := fun i hi => by
    have h0 : endsAt (r0.map pr) i ≠ 0 := fun e => hi (net_untouched _ _ e)
    have h1 : endsAt (r0.map pr) i ≠ 1 := fun e => by
      rcases Int.lt_or_gt_of_ne hi with c | c
      · obtain ⟨p, a, b⟩ := net_neg r0 i c
        exact hc ⟨p, a, .inr (by rw [b]; exact e)⟩
      · obtain ⟨p, a, b⟩ := net_pos r0 i c
        exact hc ⟨p, a, .inl (by rw [b]; exact e)⟩
    omega
  let qs := (List.range ps.length).map fun i => -net r0 i
  have gq : ∀ i, qs.getD i 0 = -net r0 i := fun i => by
    show ((List.range ps.length).map fun i => -net r0 i).getD i 0 = _
    by_cases c : i < ps.length
    · rw [List.getD_eq_getElem?_getD, List.getElem?_map, List.getElem?_range c]; rfl
    · rw [List.getD_eq_getElem?_getD, List.getElem?_eq_none (by simp; omega)]
      have : net r0 i = 0 := by
        apply Classical.byContradiction
        intro hi
        rcases Int.lt_or_gt_of_ne hi with d | d
        · obtain ⟨p, a, b⟩ := net_neg r0 i d
          have := (hb p a).2.2; omega
        · obtain ⟨p, a, b⟩ := net_pos r0 i d
          have := (hb p a).2.1; omega
      rw [this]; rfl
  have hs : qs.sum = 0 := by
    show ((List.range ps.length).map fun i => -net r0 i).sum = 0
    rw [sum_neg, sum_net _ _ fun p hp0 => (hb p hp0).2]; rfl
  have hcount : 2 * qs.countP (· != 0) ≤ 2 * r0.length := by
    have e1 : qs.countP (· != 0) = (List.range ps.length).countP ((fun z : Int => z != 0) ∘ fun i => -net r0 i) := List.countP_map
    have e2 := sum_ends ps.length (r0.map pr) (fun x hx => by
      obtain ⟨p, a, rfl⟩ := List.mem_map.mp hx
      exact hb p a)
    rw [List.length_map] at e2
    rw [e1, ← e2]
    refine count_two _ _ _ fun i _ hi => two i ?_
    have : (-net r0 i != 0) = true := hi
    have := bne_iff_ne.mp this
    omega
  obtain ⟨l0, hl0, hlen⟩ := greedy _ qs (Nat.le_refl _) hs
  have hpos : 0 < r0.length := List.length_pos_iff.mpr hne
  have P : Pre ps (l0 ++ r1) := by
    refine ⟨fun p hp0 => ?_, fun i => ?_⟩
    · rcases List.mem_append.mp hp0 with c | c
      · obtain ⟨a, b, d⟩ := hl0.dir p c
        rw [gq] at a b
        obtain ⟨q1, m1, f1⟩ := net_pos r0 p.from_ (by omega)
        obtain ⟨q2, m2, f2⟩ := net_neg r0 p.to_ (by omega)
        exact ⟨by rw [← f1]; exact (hd q1 m1).1, by rw [← f2]; exact (hd q2 m2).2.1, d⟩
      · exact h.dir p (hp.mem_iff.mpr (List.mem_append_right _ c))
    · have a := hl0.zero i
      have b := h.zero i
      rw [gq] at a
      rw [net_perm hp, net_append] at b
      rw [net_append]
      omega
  obtain ⟨m, fm, lm⟩ := P.fit
  have := hmin m fm
  have e := hp.length_eq
  rw [List.length_append] at e lm
  omega
end Sett
end
section
set_option Elab.async false
namespace Sett
open CbAcc
/-- strictly in order: by from, then by to -/
def Ord (l : List Pay) : Prop := l.Pairwise fun x y => x.before y = true
def bef (x y : Nat × Nat) : Prop := x.1 < y.1 ∨ (x.1 = y.1 ∧ x.2 < y.2)
theorem before_iff {x y : Pay} : x.before y = true ↔ bef (pr x) (pr y) := by
  unfold Pay.before bef pr
  simp
theorem mem_setsOf {α : Type} : ∀ (n : Nat) (l s : List α), s ∈ setsOf n l ↔ s.Sublist l ∧ s.length = n
  | 0, l, s => by
    unfold setsOf
    rw [List.mem_singleton]
    constructor
    · rintro rfl; exact ⟨List.nil_sublist _, rfl⟩
    · rintro ⟨_, h⟩; exact List.length_eq_zero_iff.mp h
  | n + 1, [], s => by
    unfold setsOf
    constructor
    · intro h; cases h
    · rintro ⟨h1, h2⟩
      have := List.sublist_nil.mp h1
      subst this
      cases h2
  | n + 1, x :: l, s => by
    unfold setsOf
    rw [List.mem_append, List.mem_map, mem_setsOf (n + 1) l s]
    constructor
    · rintro (⟨t, h, rfl⟩ | ⟨h1, h2⟩)
      · obtain ⟨a, b⟩ := (mem_setsOf n l t).mp h
        exact ⟨a.cons_cons x, by rw [List.length_cons, b]⟩
      · exact ⟨h1.cons x, h2⟩
    · rintro ⟨h1, h2⟩
      cases h1 with
      | cons _ h => exact .inr ⟨h, h2⟩
      | cons_cons _ h => exact .inl ⟨_, (mem_setsOf n l _).mpr ⟨h, by simpa using h2⟩, rfl⟩
theorem mem_open {ps : List Int} {i : Nat} : i ∈ open_ ps ↔ ps.getD i 0 ≠ 0 := by
  unfold open_
  rw [List.mem_filter, List.mem_range, bne_iff_ne]
  exact ⟨fun h => h.2, fun h => ⟨lt_of_getD_ne h, h⟩⟩
theorem mem_pairs {ps : List Int} {x : Nat × Nat} : x ∈ pairsOf ps ↔ ps.getD x.1 0 < 0 ∧ 0 < ps.getD x.2 0 := by
  unfold pairsOf
  rw [List.mem_flatMap]
  constructor
  · rintro ⟨i, _, h⟩
    obtain ⟨j, _, e⟩ := List.mem_filterMap.mp h
    split at e
    · rename_i c
      cases e
      exact c
    · cases e
  · rintro ⟨a, b⟩
    refine ⟨x.1, mem_open.mpr (by omega), List.mem_filterMap.mpr ⟨x.2, mem_open.mpr (by omega), ?_⟩⟩
    rw [if_pos ⟨a, b⟩]
theorem open_sorted (ps : List Int) : (open_ ps).Pairwise (· < ·) := List.Pairwise.filter _ List.pairwise_lt_range
theorem pairs_sorted (ps : List Int) : (pairsOf ps).Pairwise bef := by
  unfold pairsOf
  rw [List.pairwise_flatMap]
  refine ⟨fun i _ => ?_, ?_⟩
  · rw [List.pairwise_filterMap]
    refine (open_sorted ps).imp fun {a b} h x hx y hy => ?_
    split at hx
    · cases hx
      split at hy
      · cases hy
        exact .inr ⟨rfl, h⟩
      · cases hy
    · cases hx
  · refine (open_sorted ps).imp fun {a b} h x hx y hy => ?_
    obtain ⟨j, _, e⟩ := List.mem_filterMap.mp hx
    obtain ⟨j', _, e'⟩ := List.mem_filterMap.mp hy
    split at e
    · cases e
      split at e'
      · cases e'
        exact .inl h
      · cases e'
    · cases e
theorem bef_irrefl (x : Nat × Nat) : ¬ bef x x := by unfold bef; omega
theorem bef_trans {x y z : Nat × Nat} (h : bef x y) (g : bef y z) : bef x z := by unfold bef at *; omega
theorem bef_tri (x y : Nat × Nat) : bef x y ∨ x = y ∨ bef y x := by
  unfold bef
  have : x = y ↔ x.1 = y.1 ∧ x.2 = y.2 := Prod.ext_iff
  rw [this]
  omega
theorem sub_of_sorted : ∀ (b a : List (Nat × Nat)), a.Pairwise bef → b.Pairwise bef → (∀ x ∈ a, x ∈ b) → a.Sublist b
  | _, [], _, _, _ => List.nil_sublist _
  | [], x :: a, _, _, h => by have := h x (List.mem_cons_self ..); cases this
  | y :: b, x :: a, ha, hb, h => by
    rw [List.pairwise_cons] at ha hb
    by_cases e : x = y
    · subst e
      refine (sub_of_sorted b a ha.2 hb.2 fun z hz => ?_).cons_cons x
      rcases List.mem_cons.mp (h z (List.mem_cons_of_mem _ hz)) with c | c
      · exact absurd (ha.1 z hz) (by rw [c]; exact bef_irrefl x)
      · exact c
    · refine List.Sublist.cons y (sub_of_sorted b (x :: a) (List.pairwise_cons.mpr ha) hb.2 fun z hz => ?_)
      rcases List.mem_cons.mp (h z hz) with c | c
      · exfalso
        have hx : x ∈ b := by
          rcases List.mem_cons.mp (h x (List.mem_cons_self ..)) with d | d
          · exact absurd d e
          · exact d
        have h1 := hb.1 x hx
        rcases List.mem_cons.mp hz with d | d
        · exact e (by rw [← d, c])
        · have h2 := ha.1 z d
          rw [c] at h2
          exact bef_irrefl _ (bef_trans h1 h2)
      · exact c
theorem Ord.pairs {l : List Pay} (h : Ord l) : (l.map pr).Pairwise bef := by
  rw [List.pairwise_map]
  exact h.imp fun {a b} h => before_iff.mp h
theorem nodup_of_sorted {l : List (Nat × Nat)} (h : l.Pairwise bef) : l.Nodup := h.imp fun {a b} h e => by rw [e] at h; exact bef_irrefl _ h
theorem inOrder_perm (l : List Pay) : (inOrder l).Perm l := List.mergeSort_perm _ _
theorem inOrder_ord {l : List Pay} (h : (l.map pr).Nodup) : Ord (inOrder l) := by
  have s : (inOrder l).Pairwise fun x y => (!y.before x) = true := by
    refine List.pairwise_mergeSort (fun a b c h1 h2 => ?_) (fun a b => ?_) l
    · have n1 : ¬ bef (pr b) (pr a) := fun z => by rw [before_iff.mpr z] at h1; cases h1
      have n2 : ¬ bef (pr c) (pr b) := fun z => by rw [before_iff.mpr z] at h2; cases h2
      have n3 : ¬ bef (pr c) (pr a) := fun z => by unfold bef at *; omega
      cases e : c.before a with
      | false => rfl
      | true => exact absurd (before_iff.mp e) n3
    · cases e : b.before a with
      | false => rfl
      | true =>
        cases e' : a.before b with
        | false => rfl
        | true =>
          exact absurd (bef_trans (before_iff.mp e) (before_iff.mp e')) (bef_irrefl _)
  have nd : ((inOrder l).map pr).Nodup := ((inOrder_perm l).map pr).nodup_iff.mpr h
  unfold List.Nodup at nd
  rw [List.pairwise_map] at nd
  refine List.Pairwise.imp₂ (fun a b h1 h2 => ?_) s nd
  refine before_iff.mpr ?_
  rcases bef_tri (pr a) (pr b) with c | c | c
  · exact c
  · exact absurd c h2
  · rw [before_iff.mpr c] at h1; cases h1
theorem ord_unique {l m : List Pay} (h : l.Perm m) (hl : Ord l) (hm : Ord m) : l = m := by
  refine List.Perm.eq_of_pairwise (le := fun x y : Pay => x.before y = true) (fun a b _ _ h1 h2 => ?_) hl hm h
  exact absurd (bef_trans (before_iff.mp h1) (before_iff.mp h2)) (bef_irrefl _)
theorem settledBy_sound {ps : List Int} {k : Nat} {l : List Pay} (h : l ∈ settledBy ps k) : Fit ps l ∧ Ord l ∧ l.length = k := by
  unfold settledBy at h
  obtain ⟨s, hs, e⟩ := List.mem_filterMap.mp h
  obtain ⟨sub, len⟩ := (mem_setsOf _ _ _).mp hs
  cases c : solve k s ps with
  | none => rw [c] at e; cases e
  | some r =>
    rw [c] at e
    cases e
    have nd := nodup_of_sorted ((pairs_sorted ps).sublist sub)
    obtain ⟨a, b, d⟩ := solve_sound k s ps r nd (fun x hx => by
      obtain ⟨p, q⟩ := mem_pairs.mp (sub.subset hx)
      exact ⟨fun e => by rw [e] at p; omega, lt_of_getD_ne (by omega), lt_of_getD_ne (by omega)⟩) c
    have ndr : (r.map pr).Nodup := a.nodup_iff.mpr nd
    refine ⟨⟨⟨fun p hp => ?_, fun i => ?_⟩, ?_⟩, inOrder_ord ndr, ?_⟩
    · have hp := (inOrder_perm r).mem_iff.mp hp
      obtain ⟨x, y⟩ := mem_pairs.mp (sub.subset (a.mem_iff.mp (List.mem_map_of_mem (f := pr) hp)))
      exact ⟨x, y, b p hp⟩
    · rw [net_perm (inOrder_perm r)]; exact d i
    · exact ((inOrder_perm r).map pr).nodup_iff.mpr ndr
    · rw [(inOrder_perm r).length_eq, ← len, ← a.length_eq, List.length_map]
theorem settledBy_complete {ps : List Int} {l : List Pay} (h : Fit ps l) (ho : Ord l) (hmin : ∀ m, Fit ps m → l.length ≤ m.length) : l ∈ settledBy ps l.length := by
  have sub : (l.map pr).Sublist (pairsOf ps) := sub_of_sorted _ _ ho.pairs (pairs_sorted ps) fun x hx => by
    obtain ⟨p, hp, rfl⟩ := List.mem_map.mp hx
    exact mem_pairs.mpr ⟨(h.dir p hp).1, (h.dir p hp).2.1⟩
  obtain ⟨r, e, hr⟩ := solve_complete l.length (l.map pr) ps l h.nd (by rw [List.length_map]; exact Nat.le_refl _) (fun x hx => by
      obtain ⟨p, hp, rfl⟩ := List.mem_map.mp hx
      exact h.toPre.bounds p hp) (.refl _) (fun p hp => (h.dir p hp).2.2) h.zero (leafy_of_min h hmin)
  unfold settledBy
  refine List.mem_filterMap.mpr ⟨l.map pr, (mem_setsOf _ _ _).mpr ⟨sub, List.length_map ..⟩, ?_⟩
  rw [e]
  have nd : (r.map pr).Nodup := (hr.map pr).nodup_iff.mpr h.nd
  exact congrArg some (ord_unique ((inOrder_perm r).trans hr) (inOrder_ord nd) ho)
/-! ### the order of settlements -/
theorem pay_ext {x y : Pay} (h : pr x = pr y) (h2 : x.units = y.units) : x = y := by
  cases x; cases y
  have e1 := congrArg Prod.fst h
  have e2 := congrArg Prod.snd h
  simp only [pr] at e1 e2 h2
  rw [e1, e2, h2]
theorem lesser_cons {x y : Pay} {l m : List Pay} : lesser (x :: l) (y :: m) = true ↔ bef (pr x) (pr y) ∨ (pr x = pr y ∧ (x.units < y.units ∨ (x.units = y.units ∧ lesser l m = true))) := by
  rw [lesser]
  simp only [Bool.or_eq_true, Bool.and_eq_true, beq_iff_eq, decide_eq_true_eq, before_iff]
  have : pr x = pr y ↔ x.from_ = y.from_ ∧ x.to_ = y.to_ := Prod.ext_iff
  rw [this]
  constructor
  · rintro (h | ⟨a, b, c⟩)
    · exact .inl h
    · exact .inr ⟨⟨a, b⟩, c⟩
  · rintro (h | ⟨⟨a, b⟩, c⟩)
    · exact .inl h
    · exact .inr ⟨a, b, c⟩
theorem lesser_irrefl : ∀ (l : List Pay), lesser l l = false
  | [] => rfl
  | x :: l => by
    cases e : lesser (x :: l) (x :: l) with
    | false => rfl
    | true =>
      rcases lesser_cons.mp e with c | ⟨_, c | ⟨_, c⟩⟩
      · exact absurd c (bef_irrefl _)
      · omega
      · rw [lesser_irrefl l] at c; cases c
theorem lesser_trans : ∀ {l m n : List Pay}, lesser l m = true → lesser m n = true → lesser l n = true
  | x :: l, y :: m, z :: n, h, g => by
    rw [lesser_cons] at h g ⊢
    rcases h with h | ⟨h, h1 | ⟨h1, h2⟩⟩ <;> rcases g with g | ⟨g, g1 | ⟨g1, g2⟩⟩
    · exact .inl (bef_trans h g)
    · exact .inl (by rw [← g]; exact h)
    · exact .inl (by rw [← g]; exact h)
    · exact .inl (by rw [h]; exact g)
    · exact .inr ⟨h.trans g, .inl (by omega)⟩
    · exact .inr ⟨h.trans g, .inl (by omega)⟩
    · exact .inl (by rw [h]; exact g)
    · exact .inr ⟨h.trans g, .inl (by omega)⟩
    · exact .inr ⟨h.trans g, .inr ⟨h1.trans g1, lesser_trans h2 g2⟩⟩
  | [], _, _, h, _ => by cases h
  | _ :: _, [], _, h, _ => by cases h
  | _ :: _, _ :: _, [], _, g => by cases g
theorem lesser_tri : ∀ (l m : List Pay), l.length = m.length → l = m ∨ lesser l m = true ∨ lesser m l = true
  | [], [], _ => .inl rfl
  | [], _ :: _, h => by cases h
  | _ :: _, [], h => by cases h
  | x :: l, y :: m, h => by
    rw [lesser_cons, lesser_cons]
    rcases bef_tri (pr x) (pr y) with c | c | c
    · exact .inr (.inl (.inl c))
    · rcases Nat.lt_trichotomy x.units y.units with d | d | d
      · exact .inr (.inl (.inr ⟨c, .inl d⟩))
      · rcases lesser_tri l m (by simpa using h) with e | e | e
        · exact .inl (by rw [e, pay_ext c d])
        · exact .inr (.inl (.inr ⟨c, .inr ⟨d, e⟩⟩))
        · exact .inr (.inr (.inr ⟨c.symm, .inr ⟨d.symm, e⟩⟩))
      · exact .inr (.inr (.inr ⟨c.symm, .inl d⟩))
    · exact .inr (.inr (.inl c))
def best (r : List (List Pay)) (x : List Pay) : List Pay := r.foldl (fun (a b : List Pay) => if lesser b a = true then b else a) x
theorem fold_min (k : Nat) : ∀ (r : List (List Pay)) (x : List Pay), (∀ m ∈ x :: r, m.length = k) → best r x ∈ x :: r ∧ ∀ m ∈ x :: r, m = best r x ∨ lesser (best r x) m = true
  | [], x, _ => ⟨List.mem_cons_self .., fun m hm => by
      rcases List.mem_cons.mp hm with rfl | h
      · exact .inl rfl
      · cases h⟩
  | y :: r, x, hk => by
    have hx := hk x (List.mem_cons_self ..)
    have hy := hk y (List.mem_cons_of_mem _ (List.mem_cons_self ..))
    have hr : ∀ m ∈ r, m.length = k := fun m hm => hk m (List.mem_cons_of_mem _ (List.mem_cons_of_mem _ hm))
    have step : best (y :: r) x = best r (if lesser y x = true then y else x) := rfl
    rw [step]
    by_cases c : lesser y x = true
    · rw [if_pos c]
      obtain ⟨a, b⟩ := fold_min k r y fun m hm => by
        rcases List.mem_cons.mp hm with rfl | h
        · exact hy
        · exact hr m h
      refine ⟨List.mem_cons_of_mem _ a, fun m hm => ?_⟩
      rcases List.mem_cons.mp hm with rfl | h
      · rcases b y (List.mem_cons_self ..) with e | e
        · exact .inr (by rw [← e]; exact c)
        · exact .inr (lesser_trans e c)
      · exact b m h
    · rw [if_neg c]
      obtain ⟨a, b⟩ := fold_min k r x fun m hm => by
        rcases List.mem_cons.mp hm with rfl | h
        · exact hx
        · exact hr m h
      refine ⟨?_, fun m hm => ?_⟩
      · rcases List.mem_cons.mp a with h | h
        · rw [h]; exact List.mem_cons_self ..
        · exact List.mem_cons_of_mem _ (List.mem_cons_of_mem _ h)
      · rcases List.mem_cons.mp hm with rfl | h
        · exact b m (List.mem_cons_self ..)
        · rcases List.mem_cons.mp h with rfl | h
          · rcases lesser_tri m x (hy.trans hx.symm) with q | q | q
            · rw [q]; exact b x (List.mem_cons_self ..)
            · exact absurd q c
            · rcases b x (List.mem_cons_self ..) with e | e
              · exact .inr (by rw [← e]; exact q)
              · exact .inr (lesser_trans e q)
          · exact b m (List.mem_cons_of_mem _ h)
theorem exists_min {p : Nat → Prop} (h : ∃ n, p n) : ∃ n, p n ∧ ∀ m, p m → n ≤ m := by
  obtain ⟨n, hn⟩ := h
  induction n using Nat.strongRecOn with
  | _ n ih =>
    by_cases c : ∃ m, p m ∧ m < n
    · obtain ⟨m, a, b⟩ := c
      exact ih m b a
    · exact ⟨n, hn, fun m hm => Nat.le_of_not_lt fun z => c ⟨m, hm, z⟩⟩
theorem count_open (ps : List Int) : (open_ ps).length = ps.countP (· != 0) := by
  have e : ps = (List.range ps.length).map fun i => ps.getD i 0 := by
    apply List.ext_getElem?
    intro i
    rw [List.getElem?_map]
    by_cases c : i < ps.length
    · rw [List.getElem?_range c, List.getElem?_eq_getElem c]
      show some ps[i] = some (ps.getD i 0)
      rw [List.getD_eq_getElem?_getD, List.getElem?_eq_getElem c]; rfl
    · rw [List.getElem?_eq_none (by omega), List.getElem?_eq_none (by simp; omega)]; rfl
  have e2 : ps.countP (· != 0) = (List.range ps.length).countP ((fun z : Int => z != 0) ∘ fun i => ps.getD i 0) := by
    conv => lhs; rw [e]
    exact List.countP_map
  rw [e2]
  exact List.countP_eq_length_filter.symm
/-- **The settlement told**: it settles, in order, by the fewest, before every other. -/
structure Least (ps : List Int) (l : List Pay) : Prop where
  fit : Fit ps l
  ord : Ord l
  few : ∀ m, Fit ps m → l.length ≤ m.length
  fst : ∀ m, Fit ps m → Ord m → m.length = l.length → m = l ∨ lesser l m = true
theorem Least.unique {ps : List Int} {l m : List Pay} (h : Least ps l) (g : Least ps m) : l = m := by
  have e : l.length = m.length := Nat.le_antisymm (h.few m g.fit) (g.few l h.fit)
  rcases h.fst m g.fit g.ord e.symm with q | q
  · exact q.symm
  · rcases g.fst l h.fit h.ord e with r | r
    · exact r
    · have := lesser_trans q r
      rw [lesser_irrefl] at this
      cases this
theorem settle_least {ps : List Int} (hs : ps.sum = 0) : Least ps (settle ps) := by
  obtain ⟨l0, p0, len0⟩ := greedy _ ps (Nat.le_refl _) hs
  obtain ⟨m0, f0, lm0⟩ := p0.fit
  obtain ⟨k, ⟨l, fl, ll⟩, hk⟩ := exists_min (p := fun n => ∃ m, Fit ps m ∧ m.length = n) ⟨_, m0, f0, rfl⟩
  have few : ∀ m, Fit ps m → k ≤ m.length := fun m fm => hk _ ⟨m, fm, rfl⟩
  have kle : k ≤ ps.length := by
    have h1 := few m0 f0
    have h2 : ps.countP (· != 0) ≤ ps.length := List.countP_le_length
    omega
  -- an ordered one
  have fo : Fit ps (inOrder l) := ⟨⟨fun p hp => fl.dir p ((inOrder_perm l).mem_iff.mp hp), fun i => by rw [net_perm (inOrder_perm l)]; exact fl.zero i⟩, ((inOrder_perm l).map pr).nodup_iff.mpr fl.nd⟩
  have lo : (inOrder l).length = k := by rw [(inOrder_perm l).length_eq, ll]
  have hin := settledBy_complete fo (inOrder_ord fl.nd) fun m fm => by rw [lo]; exact few m fm
  rw [lo] at hin
  have none_below : ∀ j, j < k → settledBy ps j = [] := fun j hj => by
    apply List.eq_nil_iff_forall_not_mem.mpr
    intro m hm
    obtain ⟨a, _, c⟩ := settledBy_sound hm
    have := few m a
    omega
  obtain ⟨x, r, hxr⟩ : ∃ x r, settledBy ps k = x :: r := by
    cases e : settledBy ps k with
    | nil => rw [e] at hin; cases hin
    | cons x r => exact ⟨x, r, rfl⟩
  have es : settle ps = best r x := by
    unfold settle
    have : ((List.range (ps.length + 1)).findSome? fun (k : Nat) => match settledBy ps k with
      | [] => none
      | x :: r => some (r.foldl (fun (a b : List Pay) => if lesser b a = true then b else a) x)) = some (best r x) := by
      rw [List.findSome?_eq_some_iff]
      refine ⟨List.range k, k, (List.range' (k + 1) (ps.length - k)), ?_, ?_, ?_⟩
      · rw [List.range_eq_range', List.range_eq_range', ← List.range'_succ]
        have := List.range'_append_1 (s := 0) (m := k) (n := ps.length - k + 1)
        rw [Nat.zero_add] at this
        rw [this]
        congr 1
        omega
      · rw [hxr]; rfl
      · intro j hj
        rw [none_below j (List.mem_range.mp hj)]
    split
    · rename_i q e
      exact Option.some.inj (e.symm.trans this)
    · rename_i e
      have := e.symm.trans this
      cases this
  obtain ⟨bm, bl⟩ := fold_min k r x fun m hm => (settledBy_sound (by rw [hxr]; exact hm)).2.2
  rw [← hxr, ← es] at bm
  obtain ⟨sf, so, sl⟩ := settledBy_sound bm
  refine ⟨sf, so, fun m fm => by rw [sl]; exact few m fm, fun m fm om lm => ?_⟩
  have hm := settledBy_complete fm om fun q fq => by rw [lm, sl]; exact few q fq
  rw [lm, sl, hxr] at hm
  rw [es]
  exact bl m hm
theorem settle_eq {ps : List Int} {l : List Pay} (hs : ps.sum = 0) (h : Least ps l) : settle ps = l := (settle_least hs).unique h
end Sett
end
section
set_option Elab.async false
namespace Sett
open CbAcc
/-! ### payments in turn -/
def uOf (left : List Int) (p o : Nat) : Int := if left.getD o 0 < -(left.getD p 0) then left.getD o 0 else -(left.getD p 0)
def leftOf (left : List Int) (p o : Nat) : List Int := (left.set p (left.getD p 0 + uOf left p o)).set o (left.getD o 0 - uOf left p o)
def nw : Nat → List Int → List Nat → List Nat → List Pay
  | 0, _, _, _ => []
  | _ + 1, _, [], _ => []
  | f + 1, left, p :: π, ρ => if left.getD p 0 < 0 then (match ρ with
      | [] => []
      | o :: ρ' => ⟨p, o, (uOf left p o).toNat⟩ :: nw f (leftOf left p o) (p :: π) (if left.getD o 0 - uOf left p o = 0 then ρ' else o :: ρ'))
    else nw f left π ρ
theorem nw_nil (f : Nat) (left : List Int) (ρ : List Nat) : nw f left [] ρ = [] := by cases f <;> rfl
theorem nw_pop {f : Nat} {left : List Int} {p : Nat} {π ρ : List Nat} (h : ¬ left.getD p 0 < 0) : nw (f + 1) left (p :: π) ρ = nw f left π ρ := by
  show (if _ then _ else _) = _
  rw [if_neg h]
theorem nw_pay {f : Nat} {left : List Int} {p o : Nat} {π ρ : List Nat} (h : left.getD p 0 < 0) :
    nw (f + 1) left (p :: π) (o :: ρ) = ⟨p, o, (uOf left p o).toNat⟩ :: nw f (leftOf left p o) (p :: π) (if left.getD o 0 - uOf left p o = 0 then ρ else o :: ρ) := by
  show (if _ then _ else _) = _
  rw [if_pos h]
structure Ok (left : List Int) (π ρ : List Nat) : Prop where
  neg : ∀ i, left.getD i 0 < 0 → i ∈ π
  pos : ∀ i, 0 < left.getD i 0 → i ∈ ρ
  pin : ∀ p ∈ π, left.getD p 0 ≤ 0
  oin : ∀ o ∈ ρ, 0 < left.getD o 0
  ndp : π.Nodup
  ndo : ρ.Nodup
  sum : left.sum = 0
theorem Ok.some {left : List Int} {p : Nat} {π ρ : List Nat} (h : Ok left π ρ) (hp : left.getD p 0 < 0) : ∃ o ρ', ρ = o :: ρ' := by
  obtain ⟨_, j, hj⟩ := both_signs h.sum (k := p) (by omega)
  have m := h.pos j hj
  match ρ, m with
  | o :: ρ', _ => exact ⟨o, ρ', rfl⟩
theorem Ok.pop {left : List Int} {p : Nat} {π ρ : List Nat} (h : Ok left (p :: π) ρ) (hp : ¬ left.getD p 0 < 0) : Ok left π ρ where
  neg i hi := by
    rcases List.mem_cons.mp (h.neg i hi) with e | e
    · rw [e] at hi; exact absurd hi hp
    · exact e
  pos := h.pos
  pin q hq := h.pin q (List.mem_cons_of_mem _ hq)
  oin := h.oin
  ndp := (List.nodup_cons.mp h.ndp).2
  ndo := h.ndo
  sum := h.sum
theorem leftOf_at {left : List Int} {p o : Nat} (hp : left.getD p 0 < 0) (ho : 0 < left.getD o 0) (i : Nat) :
    (leftOf left p o).getD i 0 = if o = i then left.getD o 0 - uOf left p o else if p = i then left.getD p 0 + uOf left p o else left.getD i 0 := by
  have lp : p < left.length := lt_of_getD_ne (by omega)
  have lo : o < left.length := lt_of_getD_ne (by omega)
  unfold leftOf
  rw [getD_set _ _ _ _ (by rw [List.length_set]; exact lo), getD_set _ _ _ _ lp]
theorem uOf_le {left : List Int} {p o : Nat} (hp : left.getD p 0 < 0) (ho : 0 < left.getD o 0) : 1 ≤ uOf left p o ∧ uOf left p o ≤ left.getD o 0 ∧ uOf left p o ≤ -(left.getD p 0) ∧ (uOf left p o = left.getD o 0 ∨ uOf left p o = -(left.getD p 0)) := by
  unfold uOf
  split <;> omega
theorem Ok.pay {left : List Int} {p o : Nat} {π ρ : List Nat} (h : Ok left (p :: π) (o :: ρ)) (hp : left.getD p 0 < 0) : Ok (leftOf left p o) (p :: π) (if left.getD o 0 - uOf left p o = 0 then ρ else o :: ρ) := by
  have ho := h.oin o (List.mem_cons_self ..)
  obtain ⟨u1, u2, u3, u4⟩ := uOf_le hp ho
  have hpo : p ≠ o := fun e => by rw [e] at hp; omega
  have at_ := leftOf_at hp ho
  have nd := List.nodup_cons.mp h.ndo
  refine ⟨fun i hi => ?_, fun i hi => ?_, fun q hq => ?_, fun q hq => ?_, h.ndp, ?_, ?_⟩
  · rw [at_] at hi
    split at hi
    · omega
    · split at hi
      · next e => rw [← e]; exact List.mem_cons_self ..
      · exact h.neg i hi
  · rw [at_] at hi
    split at hi
    · next e =>
      rw [if_neg (by omega), ← e]; exact List.mem_cons_self ..
    · next e =>
      split at hi
      · omega
      · have m := h.pos i hi
        rcases List.mem_cons.mp m with c | c
        · exact absurd c.symm e
        · split
          · exact c
          · exact List.mem_cons_of_mem _ c
  · have hq' := h.pin q hq
    rw [at_]
    split
    · next e => rw [← e] at hq'; omega
    · split
      · omega
      · exact hq'
  · rw [at_]
    by_cases z : left.getD o 0 - uOf left p o = 0
    · rw [if_pos z] at hq
      have hq' := h.oin q (List.mem_cons_of_mem _ hq)
      rw [if_neg (fun e => by rw [← e] at hq; exact nd.1 hq), if_neg (fun e => by rw [← e] at hq'; omega)]
      exact hq'
    · rw [if_neg z] at hq
      have hq' := h.oin q hq
      split
      · omega
      · rw [if_neg (fun e => by rw [← e] at hq'; omega)]
        exact hq'
  · split
    · exact nd.2
    · exact h.ndo
  · have lp : p < left.length := lt_of_getD_ne (by omega)
    have lo : o < left.length := lt_of_getD_ne (by omega)
    unfold leftOf
    rw [sum_set _ _ _ (by rw [List.length_set]; exact lo), sum_set _ _ _ lp, getD_set _ _ _ _ lp, if_neg hpo, h.sum]
    omega
theorem bne0 {x : Int} (h : x ≠ 0) : (x != 0) = true := by simpa using h
theorem leftOf_count {left : List Int} {p o : Nat} (hp : left.getD p 0 < 0) (ho : 0 < left.getD o 0) : (leftOf left p o).countP (· != 0) + 1 ≤ left.countP (· != 0) := by
  obtain ⟨u1, u2, u3, u4⟩ := uOf_le hp ho
  have hpo : p ≠ o := fun e => by rw [e] at hp; omega
  have lp : p < left.length := lt_of_getD_ne (by omega)
  have lo : o < left.length := lt_of_getD_ne (by omega)
  have e1 : (left.set p (left.getD p 0 + uOf left p o)).getD o 0 = left.getD o 0 := by rw [getD_set _ _ _ _ lp, if_neg hpo]
  have c0 : 0 < left.countP (· != 0) := count_pos (i := p) (by omega)
  have c1 : 0 < (left.set p (left.getD p 0 + uOf left p o)).countP (· != 0) := count_pos (i := o) (by omega)
  unfold leftOf
  rw [count_set _ _ _ (by rw [List.length_set]; exact lo), e1, if_pos (bne0 (by omega))]
  rw [count_set _ _ _ lp, if_pos (bne0 (by omega))] at c1 ⊢
  by_cases a : left.getD p 0 + uOf left p o = 0
  · rw [a] at c1 ⊢
    rw [if_neg (by simp)] at c1 ⊢
    split <;> omega
  · have b : left.getD o 0 - uOf left p o = 0 := by omega
    rw [b]
    rw [if_pos (bne0 a)] at c1 ⊢
    rw [if_neg (by simp)]
    omega
theorem leftOf_len (left : List Int) (p o : Nat) : (leftOf left p o).length = left.length := by unfold leftOf; rw [List.length_set, List.length_set]
theorem nw_ok : ∀ (f : Nat) (left : List Int) (π ρ : List Nat), Ok left π ρ → left.countP (· != 0) + π.length ≤ f → Fit left (nw f left π ρ) ∧ ∀ q ∈ nw f left π ρ, q.to_ ∈ ρ := by
  have zero : ∀ (left : List Int) (ρ : List Nat), Ok left [] ρ → ∀ i, left.getD i 0 = 0 := fun left ρ h => (neg_of left fun i => by
    apply Classical.byContradiction
    intro c
    have := h.neg i (by omega)
    cases this).2 h.sum
  intro f
  induction f with
  | zero =>
    intro left π ρ h hf
    match π, h, hf with
    | [], h, _ =>
      rw [nw_nil]
      refine ⟨⟨⟨fun q hq => (by cases hq), fun i => ?_⟩, List.nodup_nil⟩, fun q hq => (by cases hq)⟩
      rw [zero left ρ h i]; rfl
    | p :: π, h, hf => simp at hf
  | succ f ih =>
    intro left π ρ h hf
    match π, h, hf with
    | [], h, _ =>
      rw [nw_nil]
      refine ⟨⟨⟨fun q hq => (by cases hq), fun i => ?_⟩, List.nodup_nil⟩, fun q hq => (by cases hq)⟩
      rw [zero left ρ h i]; rfl
    | p :: π, h, hf =>
      rw [List.length_cons] at hf
      by_cases hp : left.getD p 0 < 0
      · obtain ⟨o, ρ', rfl⟩ := h.some hp
        have ho := h.oin o (List.mem_cons_self ..)
        obtain ⟨u1, u2, u3, u4⟩ := uOf_le hp ho
        have hpo : p ≠ o := fun e => by rw [e] at hp; omega
        have at_ := leftOf_at hp ho
        have cc := leftOf_count hp ho
        obtain ⟨F, M⟩ := ih (leftOf left p o) (p :: π) _ (h.pay hp) (by rw [List.length_cons]; omega)
        rw [nw_pay hp]
        generalize hr : nw f (leftOf left p o) (p :: π) (if left.getD o 0 - uOf left p o = 0 then ρ' else o :: ρ') = r at F M
        refine ⟨⟨⟨fun q hq => ?_, fun i => ?_⟩, ?_⟩, fun q hq => ?_⟩
        · rcases List.mem_cons.mp hq with e | e
          · subst e
            exact ⟨hp, ho, by show 1 ≤ (uOf left p o).toNat; omega⟩
          · obtain ⟨d1, d2, d3⟩ := F.dir q e
            rw [at_] at d1 d2
            refine ⟨?_, ?_, d3⟩
            · split at d1
              · omega
              · split at d1
                · next e => rw [← e]; exact hp
                · exact d1
            · split at d2
              · next e => rw [← e]; exact ho
              · split at d2
                · omega
                · exact d2
        · have z := F.zero i
          rw [at_] at z
          show left.getD i 0 + (net1 ⟨p, o, (uOf left p o).toNat⟩ i + net r i) = 0
          unfold net1
          show left.getD i 0 + ((if p = i then ((uOf left p o).toNat : Int) else 0) - (if o = i then ((uOf left p o).toNat : Int) else 0) + net r i) = 0
          rw [Int.toNat_of_nonneg (by omega)]
          by_cases e1 : o = i
          · rw [if_pos e1] at z ⊢
            rw [if_neg (fun e => hpo (e.trans e1.symm)), ← e1]
            rw [← e1] at z
            omega
          · rw [if_neg e1] at z ⊢
            by_cases e2 : p = i
            · rw [if_pos e2] at z ⊢
              rw [← e2] at z ⊢
              omega
            · rw [if_neg e2] at z ⊢
              omega
        · rw [List.map_cons, List.nodup_cons]
          refine ⟨fun m => ?_, F.nd⟩
          obtain ⟨q, hq, e⟩ := List.mem_map.mp m
          have e1 : q.from_ = p := congrArg Prod.fst e
          have e2 : q.to_ = o := congrArg Prod.snd e
          obtain ⟨d1, d2, d3⟩ := F.dir q hq
          rw [e1, at_, if_neg (fun e => hpo e.symm), if_pos rfl] at d1
          rw [e2, at_, if_pos rfl] at d2
          omega
        · rcases List.mem_cons.mp hq with e | e
          · subst e
            exact List.mem_cons_self ..
          · have m := M q e
            split at m
            · exact List.mem_cons_of_mem _ m
            · exact m
      · rw [nw_pop hp]
        exact ih left π ρ (h.pop hp) (by omega)
theorem nw_len {ps : List Int} {l : List Pay} (h : ∀ m, Fit ps m → l.length ≤ m.length) (hs : ps.sum = 0) : l.length ≤ ps.countP (· != 0) := by
  obtain ⟨m, hm, hl⟩ := greedy _ ps (Nat.le_refl _) hs
  obtain ⟨m', hm', hl'⟩ := hm.fit
  have := h m' hm'
  omega
/-! ### a staircase of payments is paid in turn -/
def stair : Nat → List Nat → List Nat → List (Nat × Nat) → Bool
  | n + 1, p :: π, o :: ρ, E => E.contains (p, o) && (if (E.erase (p, o)).any (fun x => x.1 == p) then (if (E.erase (p, o)).any (fun x => x.2 == o) then false else stair n (p :: π) ρ (E.erase (p, o)))
    else if (E.erase (p, o)).any (fun x => x.2 == o) then stair n π (o :: ρ) (E.erase (p, o)) else stair n π ρ (E.erase (p, o)))
  | _, [], [], E => E.isEmpty
  | _, _, _, _ => false
theorem net_at_to {o : Nat} : ∀ {l : List Pay}, (∀ q ∈ l, q.from_ ≠ o) → net l o ≤ 0 ∧ ((∀ q ∈ l, 1 ≤ q.units) → (∃ q ∈ l, q.to_ = o) → net l o ≤ -1) ∧ ((∀ q ∈ l, q.to_ ≠ o) → net l o = 0)
  | [], _ => ⟨by simp [net], fun _ ⟨q, hq, _⟩ => (by cases hq), fun _ => rfl⟩
  | p :: l, h => by
    obtain ⟨i1, i2, i3⟩ := net_at_to (o := o) (l := l) fun q hq => h q (List.mem_cons_of_mem _ hq)
    have hp := h p (List.mem_cons_self ..)
    have e : net (p :: l) o = net1 p o + net l o := rfl
    have e1 : net1 p o = - (if p.to_ = o then (p.units : Int) else 0) := by unfold net1; rw [if_neg hp]; omega
    rw [e, e1]
    refine ⟨by split <;> omega, fun hu ⟨q, hq, hqo⟩ => ?_, fun ht => ?_⟩
    · rcases List.mem_cons.mp hq with c | c
      · subst c
        rw [if_pos hqo]
        have := hu q (List.mem_cons_self ..)
        omega
      · have := i2 (fun q hq => hu q (List.mem_cons_of_mem _ hq)) ⟨q, c, hqo⟩
        split <;> omega
    · rw [if_neg (ht p (List.mem_cons_self ..)), i3 fun q hq => ht q (List.mem_cons_of_mem _ hq)]
      rfl
theorem net_at_from {o : Nat} : ∀ {l : List Pay}, (∀ q ∈ l, q.to_ ≠ o) → 0 ≤ net l o ∧ ((∀ q ∈ l, 1 ≤ q.units) → (∃ q ∈ l, q.from_ = o) → 1 ≤ net l o) ∧ ((∀ q ∈ l, q.from_ ≠ o) → net l o = 0)
  | [], _ => ⟨by simp [net], fun _ ⟨q, hq, _⟩ => (by cases hq), fun _ => rfl⟩
  | p :: l, h => by
    obtain ⟨i1, i2, i3⟩ := net_at_from (o := o) (l := l) fun q hq => h q (List.mem_cons_of_mem _ hq)
    have hp := h p (List.mem_cons_self ..)
    have e : net (p :: l) o = net1 p o + net l o := rfl
    have e1 : net1 p o = (if p.from_ = o then (p.units : Int) else 0) := by unfold net1; rw [if_neg hp]; omega
    rw [e, e1]
    refine ⟨by split <;> omega, fun hu ⟨q, hq, hqo⟩ => ?_, fun ht => ?_⟩
    · rcases List.mem_cons.mp hq with c | c
      · subst c
        rw [if_pos hqo]
        have := hu q (List.mem_cons_self ..)
        omega
      · have := i2 (fun q hq => hu q (List.mem_cons_of_mem _ hq)) ⟨q, c, hqo⟩
        split <;> omega
    · rw [if_neg (ht p (List.mem_cons_self ..)), i3 fun q hq => ht q (List.mem_cons_of_mem _ hq)]
      rfl
theorem stair_nw : ∀ (n : Nat) (π ρ : List Nat) (E : List (Nat × Nat)) (l : List Pay) (left : List Int) (f : Nat), stair n π ρ E = true → (l.map pr).Perm E → E.Nodup → Pre left l → l.length + π.length ≤ f → (nw f left π ρ).Perm l := by
  intro n
  induction n with
  | zero =>
    intro π ρ E l left f hs hE hn hl hf
    match π, ρ, hs with
    | [], [], hs =>
      have e : E = [] := List.isEmpty_iff.mp hs
      subst e
      have e2 : l = [] := by
        have := hE.length_eq
        rw [List.length_map] at this
        exact List.length_eq_zero_iff.mp this
      rw [nw_nil, e2]
  | succ n ih =>
    intro π ρ E l left f hs hE hn hl hf
    match π, ρ, hs, hf with
    | [], [], hs, hf =>
      have e : E = [] := List.isEmpty_iff.mp hs
      subst e
      have e2 : l = [] := by
        have := hE.length_eq
        rw [List.length_map] at this
        exact List.length_eq_zero_iff.mp this
      rw [nw_nil, e2]
    | p :: π, o :: ρ, hs, hf =>
      have hs' : (E.contains (p, o) && (if (E.erase (p, o)).any (fun x => x.1 == p) then (if (E.erase (p, o)).any (fun x => x.2 == o) then false else stair n (p :: π) ρ (E.erase (p, o)))
    else if (E.erase (p, o)).any (fun x => x.2 == o) then stair n π (o :: ρ) (E.erase (p, o)) else stair n π ρ (E.erase (p, o)))) = true := hs
      rw [Bool.and_eq_true] at hs'
      obtain ⟨h1, h2⟩ := hs'
      have mE : (p, o) ∈ E := List.contains_iff_mem.mp h1
      obtain ⟨x, hx, ex⟩ := List.mem_map.mp (hE.mem_iff.mpr mE)
      obtain ⟨l', hl'⟩ := perm_of_mem hx
      have ex1 : x.from_ = p := congrArg Prod.fst ex
      have ex2 : x.to_ = o := congrArg Prod.snd ex
      have hE' : (l'.map pr).Perm (E.erase (p, o)) := by
        have a := (hl'.map pr).symm.trans hE
        rw [List.map_cons, ex] at a
        have b := a.erase (p, o)
        rw [List.erase_cons_head] at b
        exact b
      have hn' : (E.erase (p, o)).Nodup := hn.erase _
      have fromE : ∀ q ∈ l', pr q ∈ E.erase (p, o) := fun q hq => hE'.mem_iff.mp (List.mem_map_of_mem hq)
      obtain ⟨dp, do_, du⟩ := hl.dir x hx
      rw [ex1] at dp
      rw [ex2] at do_
      have dir' : ∀ q ∈ l', left.getD q.from_ 0 < 0 ∧ 0 < left.getD q.to_ 0 ∧ 1 ≤ q.units := fun q hq => hl.dir q (hl'.mem_iff.mpr (List.mem_cons_of_mem _ hq))
      have hpo : p ≠ o := fun e => by rw [e] at dp; omega
      have zero : ∀ i, left.getD i 0 + (net1 x i + net l' i) = 0 := fun i => by
        have z := hl.zero i
        rw [net_perm hl' i] at z
        exact z
      have n1p : net1 x p = x.units := by unfold net1; rw [ex1, ex2, if_pos rfl, if_neg (fun e => hpo e.symm)]; omega
      have n1o : net1 x o = -(x.units : Int) := by unfold net1; rw [ex1, ex2, if_pos rfl, if_neg hpo]; omega
      have zp := zero p
      have zo := zero o
      rw [n1p] at zp
      rw [n1o] at zo
      obtain ⟨a1, a2, a3⟩ := net_at_from (o := p) (l := l') fun q hq e => by have := (dir' q hq).2.1; rw [e] at this; omega
      obtain ⟨b1, b2, b3⟩ := net_at_to (o := o) (l := l') fun q hq e => by have := (dir' q hq).1; rw [e] at this; omega
      have hu1 : ∀ q ∈ l', 1 ≤ q.units := fun q hq => (dir' q hq).2.2
      have anyp : (E.erase (p, o)).any (fun x => x.1 == p) = true ↔ ∃ q ∈ l', q.from_ = p := by
        rw [List.any_eq_true]
        constructor
        · rintro ⟨y, hy, e⟩
          obtain ⟨q, hq, e2⟩ := List.mem_map.mp (hE'.mem_iff.mpr hy)
          exact ⟨q, hq, by rw [← e2] at e; exact eq_of_beq e⟩
        · rintro ⟨q, hq, e⟩
          exact ⟨pr q, fromE q hq, by show (q.from_ == p) = true; rw [e]; exact beq_self_eq_true p⟩
      have anyo : (E.erase (p, o)).any (fun x => x.2 == o) = true ↔ ∃ q ∈ l', q.to_ = o := by
        rw [List.any_eq_true]
        constructor
        · rintro ⟨y, hy, e⟩
          obtain ⟨q, hq, e2⟩ := List.mem_map.mp (hE'.mem_iff.mpr hy)
          exact ⟨q, hq, by rw [← e2] at e; exact eq_of_beq e⟩
        · rintro ⟨q, hq, e⟩
          exact ⟨pr q, fromE q hq, by show (q.to_ == o) = true; rw [e]; exact beq_self_eq_true o⟩
      have ll : l.length = l'.length + 1 := hl'.length_eq
      obtain ⟨f, rfl⟩ : ∃ g, f = g + 1 := ⟨f - 1, by rw [List.length_cons] at hf; omega⟩
      rw [List.length_cons] at hf
      rw [nw_pay dp]
      have hx0 : ∀ u : Int, u = (x.units : Int) → (⟨p, o, u.toNat⟩ : Pay) = x := fun u e => by
        cases x
        simp only at ex1 ex2 e
        subst ex1 ex2 e
        simp
      have fit' : uOf left p o = x.units → Pre (leftOf left p o) l' := fun hu => by
        have at_ := leftOf_at dp do_
        refine ⟨fun q hq => ?_, fun i => ?_⟩
        · obtain ⟨d1, d2, d3⟩ := dir' q hq
          rw [at_, at_]
          refine ⟨?_, ?_, d3⟩
          · rw [if_neg (fun e => by rw [← e] at d1; omega)]
            split
            · next e => have := a2 hu1 ⟨q, hq, e.symm⟩; omega
            · exact d1
          · split
            · next e => have := b2 hu1 ⟨q, hq, e.symm⟩; omega
            · rw [if_neg (fun e => by rw [← e] at d2; omega)]
              exact d2
        · rw [at_]
          have z := zero i
          split
          · next e => rw [← e]; omega
          · next e =>
            split
            · next e2 => rw [← e2]; omega
            · next e2 =>
              have : net1 x i = 0 := by unfold net1; rw [ex1, ex2, if_neg e2, if_neg e]; rfl
              omega
      by_cases cp : (E.erase (p, o)).any (fun x => x.1 == p) = true
      · rw [if_pos cp] at h2
        by_cases co : (E.erase (p, o)).any (fun x => x.2 == o) = true
        · rw [if_pos co] at h2; cases h2
        · rw [if_neg co] at h2
          have e1 := a2 hu1 (anyp.mp cp)
          have e2 := b3 fun q hq e => co (anyo.mpr ⟨q, hq, e⟩)
          have hu : uOf left p o = x.units := by unfold uOf; split <;> omega
          rw [hx0 _ hu, if_pos (by omega)]
          refine (List.Perm.cons x ?_).trans hl'.symm
          exact ih (p :: π) ρ _ l' _ f h2 hE' hn' (fit' hu) (by rw [List.length_cons]; omega)
      · rw [if_neg cp] at h2
        have e1 := a3 fun q hq e => cp (anyp.mpr ⟨q, hq, e⟩)
        have at_p : (leftOf left p o).getD p 0 = left.getD p 0 + uOf left p o := by rw [leftOf_at dp do_, if_neg (fun e => hpo e.symm), if_pos rfl]
        by_cases co : (E.erase (p, o)).any (fun x => x.2 == o) = true
        · rw [if_pos co] at h2
          have e2 := b2 hu1 (anyo.mp co)
          have hu : uOf left p o = x.units := by unfold uOf; split <;> omega
          rw [hx0 _ hu, if_neg (by omega)]
          refine (List.Perm.cons x ?_).trans hl'.symm
          obtain ⟨f, rfl⟩ : ∃ g, f = g + 1 := ⟨f - 1, by omega⟩
          rw [nw_pop (by omega)]
          exact ih π (o :: ρ) _ l' _ f h2 hE' hn' (fit' hu) (by omega)
        · rw [if_neg co] at h2
          have e2 := b3 fun q hq e => co (anyo.mpr ⟨q, hq, e⟩)
          have hu : uOf left p o = x.units := by unfold uOf; split <;> omega
          rw [hx0 _ hu, if_pos (by omega)]
          refine (List.Perm.cons x ?_).trans hl'.symm
          obtain ⟨f, rfl⟩ : ∃ g, f = g + 1 := ⟨f - 1, by omega⟩
          rw [nw_pop (by omega)]
          exact ih π ρ _ l' _ f h2 hE' hn' (fit' hu) (by omega)
end Sett
end
section
set_option Elab.async false
set_option maxRecDepth 100000
namespace Sett
open CbAcc
/-! ### all orders -/
def insAll (c : Nat) (o : List Nat) : List (List Nat) := (List.range (o.length + 1)).map fun k => o.take k ++ [c] ++ o.drop k
def ordersOf (P : List Nat) : List (List Nat) := P.foldl (fun found c => found.flatMap (insAll c)) [[]]
theorem mem_insAll {c : Nat} {o x : List Nat} : x ∈ insAll c o ↔ ∃ k, k ≤ o.length ∧ x = o.take k ++ [c] ++ o.drop k := by
  unfold insAll
  rw [List.mem_map]
  constructor
  · rintro ⟨k, hk, rfl⟩
    exact ⟨k, by have := List.mem_range.mp hk; omega, rfl⟩
  · rintro ⟨k, hk, rfl⟩
    exact ⟨k, List.mem_range.mpr (by omega), rfl⟩
theorem mem_step {c : Nat} {found : List (List Nat)} {P : List Nat} (h : ∀ x, x ∈ found ↔ x.Perm P) (x : List Nat) : x ∈ found.flatMap (insAll c) ↔ x.Perm (P ++ [c]) := by
  rw [List.mem_flatMap]
  constructor
  · rintro ⟨o, ho, hx⟩
    obtain ⟨k, _, rfl⟩ := mem_insAll.mp hx
    have p := (h o).mp ho
    have e : (o.take k ++ [c] ++ o.drop k).Perm (o.take k ++ o.drop k ++ [c]) := by
      rw [List.append_assoc, List.append_assoc]
      exact List.Perm.append_left _ List.perm_append_comm
    rw [List.take_append_drop] at e
    exact e.trans (p.append_right _)
  · intro p
    have m : c ∈ x := p.mem_iff.mpr (by simp)
    obtain ⟨a, b, rfl⟩ := List.append_of_mem m
    have q : (a ++ b).Perm P := by
      have e : (a ++ c :: b).Perm (c :: (a ++ b)) := List.perm_middle
      have e2 : (P ++ [c]).Perm (c :: P) := List.perm_append_singleton c P
      exact (List.perm_cons c).mp ((e.symm.trans p).trans e2)
    refine ⟨a ++ b, (h _).mpr q, mem_insAll.mpr ⟨a.length, by rw [List.length_append]; omega, ?_⟩⟩
    rw [List.take_left', List.drop_left'] <;> simp
theorem mem_foldl : ∀ (P Q : List Nat) (found : List (List Nat)), (∀ x, x ∈ found ↔ x.Perm Q) → ∀ x, x ∈ P.foldl (fun found c => found.flatMap (insAll c)) found ↔ x.Perm (Q ++ P)
  | [], Q, found, h, x => by rw [List.append_nil]; exact h x
  | c :: P, Q, found, h, x => by
    rw [List.foldl_cons, show Q ++ c :: P = (Q ++ [c]) ++ P by simp]
    exact mem_foldl P (Q ++ [c]) _ (mem_step h) x
theorem mem_orders {P x : List Nat} : x ∈ ordersOf P ↔ x.Perm P := by
  have := mem_foldl P [] [[]] (fun x => by simp) x
  rw [List.nil_append] at this
  exact this
/-! ### forests of at most 6 are staircases -/
def subs {α : Type} : List α → List (List α)
  | [] => [[]]
  | x :: l => subs l ++ (subs l).map (x :: ·)
theorem mem_subs {α : Type} : ∀ {l s : List α}, s.Sublist l → s ∈ subs l
  | [], s, h => by rw [List.sublist_nil.mp h]; exact List.mem_singleton.mpr rfl
  | x :: l, s, h => by
    show s ∈ subs l ++ (subs l).map (x :: ·)
    cases h with
    | cons _ h => exact List.mem_append_left _ (mem_subs h)
    | cons_cons _ h => exact List.mem_append_right _ (List.mem_map_of_mem (mem_subs h))
def grid (a b : Nat) : List (Nat × Nat) := (List.range a).flatMap fun i => (List.range b).map fun j => (i, j)
def leafE (E : List (Nat × Nat)) (x : Nat × Nat) : Bool := (E.filter fun y => y.1 == x.1).length == 1 || (E.filter fun y => y.2 == x.2).length == 1
def peel : Nat → List (Nat × Nat) → Bool
  | 0, E => E.isEmpty
  | n + 1, E => E.isEmpty || (match E.find? (leafE E) with
    | none => false
    | some x => peel n (E.erase x))
def cover (a b : Nat) (E : List (Nat × Nat)) : Bool := ((List.range a).all fun i => E.any fun x => x.1 == i) && ((List.range b).all fun j => E.any fun x => x.2 == j)
def fine (a b : Nat) : Bool := (subs (grid a b)).all fun E => !cover a b E || (!peel E.length E || (ordersOf (List.range a)).any fun π => (ordersOf (List.range b)).any fun ρ => stair E.length π ρ E)
theorem fine_all : ((List.range 7).all fun a => (List.range 7).all fun b => if a + b ≤ 6 then fine a b else true) = true := by decide +kernel
theorem fine_of {a b : Nat} (h : a + b ≤ 6) : fine a b = true := by
  have e := List.all_eq_true.mp (List.all_eq_true.mp fine_all a (List.mem_range.mpr (by omega))) b (List.mem_range.mpr (by omega))
  rw [if_pos h] at e
  exact e
end Sett
end
section
set_option Elab.async false
namespace Sett
open CbAcc
/-! ### names put for places -/
theorem le_sum : ∀ {P : List Nat} {x : Nat}, x ∈ P → x ≤ P.sum
  | y :: P, x, h => by
    rw [List.sum_cons]
    rcases List.mem_cons.mp h with e | e
    · omega
    · have := le_sum e; omega
def nameOf (P : List Nat) (i : Nat) : Nat := if h : i < P.length then P[i] else P.sum + 1 + i
theorem nameOf_in {P : List Nat} {i : Nat} (h : i < P.length) : nameOf P i = P[i] := dif_pos h
theorem nameOf_inj {P : List Nat} (hn : P.Nodup) {i j : Nat} (e : nameOf P i = nameOf P j) : i = j := by
  unfold nameOf at e
  split at e
  · next hi =>
    split at e
    · next hj =>
      rcases Nat.lt_trichotomy i j with c | c | c
      · exact absurd e (List.pairwise_iff_getElem.mp hn i j hi hj c)
      · exact c
      · exact absurd e.symm (List.pairwise_iff_getElem.mp hn j i hj hi c)
    · have := le_sum (List.getElem_mem hi); omega
  · split at e
    · next hj => have := le_sum (List.getElem_mem hj); omega
    · omega
theorem names_range (P : List Nat) : (List.range P.length).map (nameOf P) = P := by
  apply List.ext_getElem
  · simp
  · intro i h1 h2
    rw [List.getElem_map, List.getElem_range, nameOf_in h2]
theorem map_erase' {α β : Type} [BEq α] [LawfulBEq α] [BEq β] [LawfulBEq β] {g : α → β} (inj : ∀ {x y}, g x = g y → x = y) (x : α) : ∀ (l : List α), (l.map g).erase (g x) = (l.erase x).map g
  | [] => rfl
  | y :: l => by
    rw [List.map_cons, List.erase_cons, List.erase_cons]
    by_cases c : (y == x) = true
    · have e := eq_of_beq c
      subst e; simp
    · rw [if_neg (fun e => c (by rw [inj (eq_of_beq e)]; exact beq_self_eq_true x)), if_neg c, List.map_cons, map_erase' inj x l]
section
variable {P O : List Nat} (hP : P.Nodup) (hO : O.Nodup)
def gOf (P O : List Nat) (x : Nat × Nat) : Nat × Nat := (nameOf P x.1, nameOf O x.2)
include hP hO in
theorem gOf_inj {x y : Nat × Nat} (e : gOf P O x = gOf P O y) : x = y := by
  have e1 := nameOf_inj hP (congrArg Prod.fst e)
  have e2 := nameOf_inj hO (congrArg Prod.snd e)
  exact Prod.ext e1 e2
include hP in
theorem any_fst (p : Nat) (E : List (Nat × Nat)) : (E.map (gOf P O)).any (fun x => x.1 == nameOf P p) = E.any (fun x => x.1 == p) := by
  rw [List.any_map]
  congr 1
  funext x
  show (nameOf P x.1 == nameOf P p) = (x.1 == p)
  by_cases c : x.1 = p
  · rw [c]; simp
  · rw [beq_eq_false_iff_ne.mpr c, beq_eq_false_iff_ne.mpr (fun e => c (nameOf_inj hP e))]
include hO in
theorem any_snd (o : Nat) (E : List (Nat × Nat)) : (E.map (gOf P O)).any (fun x => x.2 == nameOf O o) = E.any (fun x => x.2 == o) := by
  rw [List.any_map]
  congr 1
  funext x
  show (nameOf O x.2 == nameOf O o) = (x.2 == o)
  by_cases c : x.2 = o
  · rw [c]; simp
  · rw [beq_eq_false_iff_ne.mpr c, beq_eq_false_iff_ne.mpr (fun e => c (nameOf_inj hO e))]
include hP hO in
theorem stair_map : ∀ (n : Nat) (π ρ : List Nat) (E : List (Nat × Nat)), stair n (π.map (nameOf P)) (ρ.map (nameOf O)) (E.map (gOf P O)) = stair n π ρ E := by
  intro n
  induction n with
  | zero =>
    intro π ρ E
    cases π <;> cases ρ <;> cases E <;> rfl
  | succ n ih =>
    intro π ρ E
    match π, ρ with
    | [], [] => cases E <;> rfl
    | [], o :: ρ => rfl
    | p :: π, [] => rfl
    | p :: π, o :: ρ =>
      have e1 : (E.map (gOf P O)).contains (nameOf P p, nameOf O o) = E.contains (p, o) := by
        rw [Bool.eq_iff_iff, List.contains_iff_mem, List.contains_iff_mem, List.mem_map]
        constructor
        · rintro ⟨x, hx, e⟩
          have := gOf_inj hP hO (x := x) (y := (p, o)) e
          rw [← this]; exact hx
        · exact fun h => ⟨(p, o), h, rfl⟩
      have e2 : (E.map (gOf P O)).erase (nameOf P p, nameOf O o) = (E.erase (p, o)).map (gOf P O) := map_erase' (g := gOf P O) (fun e => gOf_inj hP hO e) (p, o) E
      show ((E.map (gOf P O)).contains (nameOf P p, nameOf O o) && (if ((E.map (gOf P O)).erase (nameOf P p, nameOf O o)).any (fun x => x.1 == nameOf P p) then (if ((E.map (gOf P O)).erase (nameOf P p, nameOf O o)).any (fun x => x.2 == nameOf O o) then false else stair n ((p :: π).map (nameOf P)) (ρ.map (nameOf O)) ((E.map (gOf P O)).erase (nameOf P p, nameOf O o)))
        else if ((E.map (gOf P O)).erase (nameOf P p, nameOf O o)).any (fun x => x.2 == nameOf O o) then stair n (π.map (nameOf P)) ((o :: ρ).map (nameOf O)) ((E.map (gOf P O)).erase (nameOf P p, nameOf O o)) else stair n (π.map (nameOf P)) (ρ.map (nameOf O)) ((E.map (gOf P O)).erase (nameOf P p, nameOf O o)))) = _
      rw [e1, e2, any_fst hP, any_snd hO, ih, ih, ih]
      rfl
end
theorem count_fst {l : List Pay} {E : List (Nat × Nat)} {P O : List Nat} (hP : P.Nodup) (hE : (l.map pr).Perm (E.map (gOf P O))) (i : Nat) (h : ∀ q ∈ l, q.to_ ≠ nameOf P i) : endsAt (l.map pr) (nameOf P i) = (E.filter fun y => y.1 == i).length := by
  unfold endsAt
  rw [(hE.filter _).length_eq, List.filter_map, List.length_map]
  congr 1
  apply List.filter_congr
  intro x hx
  show ((nameOf P x.1 == nameOf P i) || (nameOf O x.2 == nameOf P i)) = (x.1 == i)
  have n2 : nameOf O x.2 ≠ nameOf P i := by
    obtain ⟨q, hq, e⟩ := List.mem_map.mp (hE.mem_iff.mpr (List.mem_map_of_mem hx))
    have e2 : q.to_ = nameOf O x.2 := congrArg Prod.snd e
    rw [← e2]; exact h q hq
  rw [beq_eq_false_iff_ne.mpr n2, Bool.or_false]
  by_cases c : x.1 = i
  · rw [c]; simp
  · rw [beq_eq_false_iff_ne.mpr c, beq_eq_false_iff_ne.mpr (fun e => c (nameOf_inj hP e))]
theorem count_snd {l : List Pay} {E : List (Nat × Nat)} {P O : List Nat} (hO : O.Nodup) (hE : (l.map pr).Perm (E.map (gOf P O))) (i : Nat) (h : ∀ q ∈ l, q.from_ ≠ nameOf O i) : endsAt (l.map pr) (nameOf O i) = (E.filter fun y => y.2 == i).length := by
  unfold endsAt
  rw [(hE.filter _).length_eq, List.filter_map, List.length_map]
  congr 1
  apply List.filter_congr
  intro x hx
  show ((nameOf P x.1 == nameOf O i) || (nameOf O x.2 == nameOf O i)) = (x.2 == i)
  have n2 : nameOf P x.1 ≠ nameOf O i := by
    obtain ⟨q, hq, e⟩ := List.mem_map.mp (hE.mem_iff.mpr (List.mem_map_of_mem hx))
    have e2 : q.from_ = nameOf P x.1 := congrArg Prod.fst e
    rw [← e2]; exact h q hq
  rw [beq_eq_false_iff_ne.mpr n2, Bool.false_or]
  by_cases c : x.2 = i
  · rw [c]; simp
  · rw [beq_eq_false_iff_ne.mpr c, beq_eq_false_iff_ne.mpr (fun e => c (nameOf_inj hO e))]
theorem peel_of {l : List Pay} {P O : List Nat} (hP : P.Nodup) (hO : O.Nodup) (hL : Leafy l) (hft : ∀ p ∈ l, ∀ q ∈ l, p.from_ ≠ q.to_) : ∀ (n : Nat) (E : List (Nat × Nat)) (l1 l2 : List Pay), E.length ≤ n → l.Perm (l1 ++ l2) → (l1.map pr).Perm (E.map (gOf P O)) → peel n E = true := by
  intro n
  induction n with
  | zero =>
    intro E l1 l2 hn _ _
    rw [List.length_eq_zero_iff.mp (Nat.le_zero.mp hn)]
    rfl
  | succ n ih =>
    intro E l1 l2 hn hl hE
    show (E.isEmpty || (match E.find? (leafE E) with | none => false | some x => peel n (E.erase x))) = true
    by_cases c : E = []
    · rw [c]; rfl
    rw [Bool.or_eq_true]
    right
    have ne : l1 ≠ [] := fun e => by
      rw [e] at hE
      have := hE.length_eq
      simp at this
      exact c (List.length_eq_zero_iff.mp this.symm)
    have inl : ∀ q ∈ l1, q ∈ l := fun q hq => hl.mem_iff.mpr (List.mem_append_left _ hq)
    obtain ⟨p, hp, hd⟩ := hL l1 l2 hl ne
    obtain ⟨x, hx, ex⟩ := List.mem_map.mp (hE.mem_iff.mp (List.mem_map_of_mem hp))
    have e1 : nameOf P x.1 = p.from_ := congrArg Prod.fst ex
    have e2 : nameOf O x.2 = p.to_ := congrArg Prod.snd ex
    have lx : leafE E x = true := by
      unfold leafE
      rw [← count_fst hP hE x.1 (fun q hq e => hft p (inl p hp) q (inl q hq) (by rw [← e1]; exact e.symm)), ← count_snd hO hE x.2 (fun q hq e => hft q (inl q hq) p (inl p hp) (by rw [← e2]; exact e)), e1, e2]
      rcases hd with d | d
      · rw [d]; rfl
      · rw [d, Bool.or_comm]; rfl
    cases hf : E.find? (leafE E) with
    | none => exact absurd lx (List.find?_eq_none.mp hf x hx)
    | some y =>
      have my := List.mem_of_find?_eq_some hf
      obtain ⟨q, hq, eq⟩ := List.mem_map.mp (hE.mem_iff.mpr (List.mem_map_of_mem my))
      obtain ⟨r, hr⟩ := perm_of_mem hq
      refine ih (E.erase y) r (q :: l2) ?_ ?_ ?_
      · have := List.length_erase_of_mem my
        omega
      · refine hl.trans ((hr.append_right l2).trans ?_)
        exact List.perm_middle.symm
      · have a := (hr.map pr).symm.trans hE
        rw [List.map_cons, eq] at a
        have b := a.erase (gOf P O y)
        rw [List.erase_cons_head, map_erase' (g := gOf P O) (fun e => gOf_inj hP hO e)] at b
        exact b
theorem nodup_map_of {α β : Type} {g : α → β} (inj : ∀ {x y}, g x = g y → x = y) {l : List α} (h : l.Nodup) : (l.map g).Nodup := by
  refine List.Pairwise.map g (R := (· ≠ ·)) (fun a b n e => n (inj e)) h
theorem grid_nodup (a b : Nat) : (grid a b).Nodup := by
  unfold grid
  refine List.pairwise_flatMap.mpr ⟨fun i _ => nodup_map_of (fun e => by injection e) List.nodup_range, ?_⟩
  refine List.Pairwise.imp ?_ (List.nodup_range (n := a))
  intro i j ne x h1 y h2 e
  obtain ⟨u, _, rfl⟩ := List.mem_map.mp h1
  obtain ⟨v, _, e2⟩ := List.mem_map.mp h2
  rw [← e2] at e
  injection e with e _
  exact ne e
theorem mem_grid {a b : Nat} {x : Nat × Nat} : x ∈ grid a b ↔ x.1 < a ∧ x.2 < b := by
  unfold grid
  rw [List.mem_flatMap]
  constructor
  · rintro ⟨i, hi, h⟩
    obtain ⟨j, hj, rfl⟩ := List.mem_map.mp h
    exact ⟨List.mem_range.mp hi, List.mem_range.mp hj⟩
  · rintro ⟨h1, h2⟩
    exact ⟨x.1, List.mem_range.mpr h1, List.mem_map.mpr ⟨x.2, List.mem_range.mpr h2, rfl⟩⟩
/-- **Whatever can be told is paid in turn**, of at most 6. -/
theorem in_turn {ps : List Int} {l : List Pay} {P O : List Nat} (h : Fit ps l) (hmin : ∀ m, Fit ps m → l.length ≤ m.length) (hP : P.Nodup) (hO : O.Nodup) (mP : ∀ i, i ∈ P ↔ ps.getD i 0 < 0) (mO : ∀ i, i ∈ O ↔ 0 < ps.getD i 0) (h6 : P.length + O.length ≤ 6) (f : Nat) (hf : l.length + P.length ≤ f) :
    ∃ π ρ, π.Perm P ∧ ρ.Perm O ∧ (nw f ps π ρ).Perm l := by
  have hft : ∀ p ∈ l, ∀ q ∈ l, p.from_ ≠ q.to_ := fun p hp q hq e => by
    have a := (h.dir p hp).1
    have b := (h.dir q hq).2.1
    rw [e] at a
    omega
  let E := (grid P.length O.length).filter fun x => decide (gOf P O x ∈ l.map pr)
  have hE0 : E.Sublist (grid P.length O.length) := List.filter_sublist
  have nE : E.Nodup := (grid_nodup _ _).sublist hE0
  have nG : (E.map (gOf P O)).Nodup := nodup_map_of (fun e => gOf_inj hP hO e) nE
  have place : ∀ q ∈ l, ∃ x ∈ E, gOf P O x = pr q := fun q hq => by
    obtain ⟨d1, d2, _⟩ := h.dir q hq
    obtain ⟨i, hi, ei⟩ := List.getElem_of_mem ((mP _).mpr d1)
    obtain ⟨j, hj, ej⟩ := List.getElem_of_mem ((mO _).mpr d2)
    have e : gOf P O (i, j) = pr q := by
      show (nameOf P i, nameOf O j) = (q.from_, q.to_)
      rw [nameOf_in hi, nameOf_in hj, ei, ej]
    exact ⟨(i, j), List.mem_filter.mpr ⟨mem_grid.mpr ⟨hi, hj⟩, decide_eq_true (by rw [e]; exact List.mem_map_of_mem hq)⟩, e⟩
  have pE : (l.map pr).Perm (E.map (gOf P O)) := (List.perm_ext_iff_of_nodup h.nd nG).mpr fun y => by
    constructor
    · intro m
      obtain ⟨q, hq, rfl⟩ := List.mem_map.mp m
      obtain ⟨x, hx, e⟩ := place q hq
      exact List.mem_map.mpr ⟨x, hx, e⟩
    · intro m
      obtain ⟨x, hx, rfl⟩ := List.mem_map.mp m
      exact of_decide_eq_true (List.mem_filter.mp hx).2
  have pl : peel E.length E = true := peel_of hP hO (leafy_of_min h hmin) hft E.length E l [] (Nat.le_refl _) (by rw [List.append_nil]) pE
  have cv : cover P.length O.length E = true := by
    unfold cover
    rw [Bool.and_eq_true, List.all_eq_true, List.all_eq_true]
    refine ⟨fun i hi => ?_, fun j hj => ?_⟩
    · have hi := List.mem_range.mp hi
      have n := (mP _).mp (List.getElem_mem hi)
      obtain ⟨q, hq, e⟩ := net_pos l P[i] (by have := h.zero P[i]; omega)
      obtain ⟨x, hx, ex⟩ := place q hq
      rw [List.any_eq_true]
      refine ⟨x, hx, beq_iff_eq.mpr (nameOf_inj hP ?_)⟩
      rw [nameOf_in hi, ← e]
      exact congrArg Prod.fst ex
    · have hj := List.mem_range.mp hj
      have n := (mO _).mp (List.getElem_mem hj)
      obtain ⟨q, hq, e⟩ := net_neg l O[j] (by have := h.zero O[j]; omega)
      obtain ⟨x, hx, ex⟩ := place q hq
      rw [List.any_eq_true]
      refine ⟨x, hx, beq_iff_eq.mpr (nameOf_inj hO ?_)⟩
      rw [nameOf_in hj, ← e]
      exact congrArg Prod.snd ex
  have fe := List.all_eq_true.mp (fine_of h6) E (mem_subs hE0)
  rw [cv, pl, Bool.not_true, Bool.false_or, Bool.false_or, List.any_eq_true] at fe
  obtain ⟨π, hπ, fe⟩ := fe
  rw [List.any_eq_true] at fe
  obtain ⟨ρ, hρ, st⟩ := fe
  have p1 := (mem_orders.mp hπ).map (nameOf P)
  have p2 := (mem_orders.mp hρ).map (nameOf O)
  rw [names_range] at p1 p2
  refine ⟨_, _, p1, p2, stair_nw E.length _ _ _ l ps f ((stair_map hP hO _ _ _ _).trans st) pE nG h.toPre (by rw [p1.length_eq]; exact hf)⟩
def payersOf (ps : List Int) : List Nat := (List.range ps.length).filter fun i => decide (ps.getD i 0 < 0)
def owedOf (ps : List Int) : List Nat := (List.range ps.length).filter fun i => decide (0 < ps.getD i 0)
def foundOf (ps : List Int) : List (List Pay) := (ordersOf (payersOf ps)).flatMap fun π => (ordersOf (owedOf ps)).map fun ρ => inOrder (nw (ps.length + π.length) ps π ρ)
theorem mem_payers {ps : List Int} {i : Nat} : i ∈ payersOf ps ↔ ps.getD i 0 < 0 := by
  unfold payersOf
  rw [List.mem_filter, List.mem_range, decide_eq_true_eq]
  exact ⟨fun h => h.2, fun h => ⟨lt_of_getD_ne (by omega), h⟩⟩
theorem mem_owed {ps : List Int} {i : Nat} : i ∈ owedOf ps ↔ 0 < ps.getD i 0 := by
  unfold owedOf
  rw [List.mem_filter, List.mem_range, decide_eq_true_eq]
  exact ⟨fun h => h.2, fun h => ⟨lt_of_getD_ne (by omega), h⟩⟩
theorem payers_nodup (ps : List Int) : (payersOf ps).Nodup := List.nodup_range.sublist List.filter_sublist
theorem owed_nodup (ps : List Int) : (owedOf ps).Nodup := List.nodup_range.sublist List.filter_sublist
theorem two_filters {α : Type} (p q : α → Bool) (h : ∀ x, p x = true → q x = true → False) : ∀ l : List α, (l.filter p).length + (l.filter q).length ≤ l.length
  | [] => Nat.le_refl _
  | x :: l => by
    have ih := two_filters p q h l
    rw [List.filter_cons, List.filter_cons, List.length_cons]
    by_cases c : p x = true
    · rw [if_pos c, if_neg (fun d => h x c d), List.length_cons]; omega
    · rw [if_neg c]
      split
      · rw [List.length_cons]; omega
      · omega
theorem both_len (ps : List Int) : (payersOf ps).length + (owedOf ps).length ≤ ps.length := by
  have := two_filters (fun i => decide (ps.getD i 0 < 0)) (fun i => decide (0 < ps.getD i 0)) (fun i a b => by
    have := of_decide_eq_true a
    have := of_decide_eq_true b
    omega) (List.range ps.length)
  rw [List.length_range] at this
  exact this
theorem okStart {ps : List Int} (hs : ps.sum = 0) {π ρ : List Nat} (hπ : π.Perm (payersOf ps)) (hρ : ρ.Perm (owedOf ps)) : Ok ps π ρ where
  neg i hi := hπ.mem_iff.mpr (mem_payers.mpr hi)
  pos i hi := hρ.mem_iff.mpr (mem_owed.mpr hi)
  pin p hp := by have := mem_payers.mp (hπ.mem_iff.mp hp); omega
  oin o ho := mem_owed.mp (hρ.mem_iff.mp ho)
  ndp := hπ.nodup_iff.mpr (payers_nodup ps)
  ndo := hρ.nodup_iff.mpr (owed_nodup ps)
  sum := hs
theorem count_le (ps : List Int) : ps.countP (· != 0) ≤ ps.length := List.countP_le_length
theorem found_fit {ps : List Int} (hs : ps.sum = 0) {r : List Pay} (h : r ∈ foundOf ps) : Fit ps r ∧ Ord r := by
  unfold foundOf at h
  obtain ⟨π, hπ, h⟩ := List.mem_flatMap.mp h
  obtain ⟨ρ, hρ, rfl⟩ := List.mem_map.mp h
  have F := (nw_ok (ps.length + π.length) ps π ρ (okStart hs (mem_orders.mp hπ) (mem_orders.mp hρ)) (by have := count_le ps; omega)).1
  have pm := inOrder_perm (nw (ps.length + π.length) ps π ρ)
  exact ⟨⟨⟨fun q hq => F.dir q (pm.mem_iff.mp hq), fun i => by rw [net_perm pm]; exact F.zero i⟩, (pm.map pr).nodup_iff.mpr F.nd⟩, inOrder_ord F.nd⟩
theorem found_settle {ps : List Int} (hs : ps.sum = 0) (h6 : ps.length ≤ 6) : settle ps ∈ foundOf ps := by
  have L := settle_least hs
  have ln := nw_len L.few hs
  obtain ⟨π, ρ, h1, h2, h3⟩ := in_turn L.fit L.few (payers_nodup ps) (owed_nodup ps) (fun i => mem_payers) (fun i => mem_owed) (by have := both_len ps; omega) (ps.length + (payersOf ps).length) (by have := count_le ps; omega)
  unfold foundOf
  refine List.mem_flatMap.mpr ⟨π, mem_orders.mpr h1, List.mem_map.mpr ⟨ρ, mem_orders.mpr h2, ?_⟩⟩
  rw [h1.length_eq]
  have nd : ((nw (ps.length + (payersOf ps).length) ps π ρ).map pr).Nodup := (h3.map pr).nodup_iff.mpr L.fit.nd
  exact ord_unique ((inOrder_perm _).trans h3) (inOrder_ord nd) L.ord
/-- the program's key -/
def keyLt (m r : List Pay) : Bool := decide (m.length < r.length) || (decide (m.length = r.length) && lesser m r)
/-- **The one of the least key is the settlement told.** -/
theorem pick_eq {ps : List Int} (hs : ps.sum = 0) (h6 : ps.length ≤ 6) {r : List Pay} (h : r ∈ foundOf ps) (hm : ∀ m ∈ foundOf ps, keyLt m r = false) : r = settle ps := by
  have L := settle_least hs
  obtain ⟨F, O⟩ := found_fit hs h
  have k := hm _ (found_settle hs h6)
  unfold keyLt at k
  rw [Bool.or_eq_false_iff] at k
  obtain ⟨k1, k2⟩ := k
  have k1 := of_decide_eq_false k1
  have le := L.few r F
  have e : (settle ps).length = r.length := by omega
  rw [decide_eq_true e, Bool.true_and] at k2
  rcases L.fst r F O e.symm with q | q
  · exact q
  · rw [q] at k2; cases k2
end Sett
end
section
set_option Elab.async false
namespace Sett
open CbAcc
/-! ### partings -/
def partsOf (xs : List Int) : List (List Int × List Int) := xs.foldl (fun found v => found.flatMap fun p => [(p.1 ++ [v], p.2), (p.1, p.2 ++ [v])]) [([], [])]
theorem mem_parts0 : ∀ (xs : List Int) (found : List (List Int × List Int)) (q : List Int × List Int), q ∈ xs.foldl (fun found v => found.flatMap fun p => [(p.1 ++ [v], p.2), (p.1, p.2 ++ [v])]) found ↔
    ∃ p ∈ found, ∃ L : List (Int × Bool), L.map Prod.fst = xs ∧ q = (p.1 ++ (L.filter fun x => x.2).map Prod.fst, p.2 ++ (L.filter fun x => !x.2).map Prod.fst)
  | [], found, q => by
    constructor
    · intro h
      exact ⟨q, h, [], rfl, by simp⟩
    · rintro ⟨p, hp, L, hL, e⟩
      have : L = [] := List.map_eq_nil_iff.mp hL
      subst this
      rw [e]
      simpa using hp
  | v :: xs, found, q => by
    rw [List.foldl_cons, mem_parts0 xs _ q]
    constructor
    · rintro ⟨p, hp, L, hL, e⟩
      obtain ⟨p0, hp0, hp⟩ := List.mem_flatMap.mp hp
      rcases List.mem_cons.mp hp with c | c
      · subst c
        exact ⟨p0, hp0, (v, true) :: L, by simp [hL], by rw [e]; simp⟩
      · rw [List.mem_singleton] at c
        subst c
        exact ⟨p0, hp0, (v, false) :: L, by simp [hL], by rw [e]; simp⟩
    · rintro ⟨p, hp, L, hL, e⟩
      match L, hL with
      | (w, b) :: L, hL =>
        rw [List.map_cons] at hL
        injection hL with h1 h2
        simp only at h1
        subst h1
        cases b with
        | true => exact ⟨(p.1 ++ [w], p.2), List.mem_flatMap.mpr ⟨p, hp, by simp⟩, L, h2, by rw [e]; simp⟩
        | false => exact ⟨(p.1, p.2 ++ [w]), List.mem_flatMap.mpr ⟨p, hp, by simp⟩, L, h2, by rw [e]; simp⟩
theorem mem_parts {xs : List Int} {q : List Int × List Int} : q ∈ partsOf xs ↔ ∃ L : List (Int × Bool), L.map Prod.fst = xs ∧ q = ((L.filter fun x => x.2).map Prod.fst, (L.filter fun x => !x.2).map Prod.fst) := by
  unfold partsOf
  rw [mem_parts0]
  constructor
  · rintro ⟨p, hp, L, hL, e⟩
    rw [List.mem_singleton] at hp
    subst hp
    exact ⟨L, hL, by rw [e]; simp⟩
  · rintro ⟨L, hL, e⟩
    exact ⟨_, List.mem_singleton.mpr rfl, L, hL, by rw [e]; simp⟩
/-! ### the program's count -/
def mgStep (f : List Int → Int) (x : Int) (m : Int) (p : List Int × List Int) : Int := if x + p.1.sum = 0 then (if 1 + f p.2 > m then 1 + f p.2 else m) else m
def mg : Nat → List Int → Int
  | 0, _ => 0
  | f + 1, ps => match ps.filter (· != 0) with
    | [] => 0
    | x :: xs => (partsOf xs).foldl (mgStep (mg f) x) 1
theorem fold_ge (f : List Int → Int) (x : Int) : ∀ (l : List (List Int × List Int)) (m : Int), m ≤ l.foldl (mgStep f x) m ∧ ∀ p ∈ l, x + p.1.sum = 0 → 1 + f p.2 ≤ l.foldl (mgStep f x) m
  | [], m => ⟨Int.le_refl _, fun p hp => by cases hp⟩
  | q :: l, m => by
    obtain ⟨h1, h2⟩ := fold_ge f x l (mgStep f x m q)
    rw [List.foldl_cons]
    have s1 : m ≤ mgStep f x m q := by unfold mgStep; split <;> (try split) <;> omega
    refine ⟨Int.le_trans s1 h1, fun p hp e => ?_⟩
    rcases List.mem_cons.mp hp with c | c
    · subst c
      refine Int.le_trans ?_ h1
      unfold mgStep
      rw [if_pos e]
      split <;> omega
    · exact h2 p c e
theorem fold_is (f : List Int → Int) (x : Int) : ∀ (l : List (List Int × List Int)) (m : Int), l.foldl (mgStep f x) m = m ∨ ∃ p ∈ l, x + p.1.sum = 0 ∧ l.foldl (mgStep f x) m = 1 + f p.2
  | [], m => .inl rfl
  | q :: l, m => by
    rw [List.foldl_cons]
    rcases fold_is f x l (mgStep f x m q) with h | ⟨p, hp, e, h⟩
    · rw [h]
      unfold mgStep
      split
      · next e =>
        split
        · exact .inr ⟨q, List.mem_cons_self .., e, rfl⟩
        · exact .inl rfl
      · exact .inl rfl
    · exact .inr ⟨p, List.mem_cons_of_mem _ hp, e, h⟩
theorem mg_filter (f : Nat) (ps : List Int) : mg f (ps.filter (· != 0)) = mg f ps := by
  cases f with
  | zero => rfl
  | succ f =>
    show (match (ps.filter (· != 0)).filter (· != 0) with | [] => 0 | x :: xs => (partsOf xs).foldl (mgStep (mg f) x) 1) = (match ps.filter (· != 0) with | [] => 0 | x :: xs => (partsOf xs).foldl (mgStep (mg f) x) 1)
    rw [List.filter_filter]
    simp only [Bool.and_self]
/-! ### at least as many as a colouring has -/
def cls (L : List (Int × Nat)) (c : Nat) : Int := (L.map fun x => if x.2 = c then x.1 else 0).sum
theorem cls_filter (c : Nat) : ∀ (L : List (Int × Nat)), cls (L.filter fun x => x.1 != 0) c = cls L c
  | [] => rfl
  | x :: L => by
    have ih := cls_filter c L
    have e : cls (x :: L) c = (if x.2 = c then x.1 else 0) + cls L c := rfl
    rw [List.filter_cons, e]
    by_cases h : x.1 = 0
    · rw [if_neg (by simp [h]), ih, h]
      split <;> omega
    · rw [if_pos (by simpa using h)]
      show (if x.2 = c then x.1 else 0) + cls (L.filter fun x => x.1 != 0) c = _
      rw [ih]
theorem cls_self (c : Nat) : ∀ (L : List (Int × Nat)), ((L.filter fun x => x.2 == c).map Prod.fst).sum = cls L c
  | [] => rfl
  | x :: L => by
    have ih := cls_self c L
    have e : cls (x :: L) c = (if x.2 = c then x.1 else 0) + cls L c := rfl
    rw [List.filter_cons, e]
    by_cases h : x.2 = c
    · rw [if_pos (by simpa using h), if_pos h, List.map_cons, List.sum_cons, ih]
    · rw [if_neg (by simpa using h), if_neg h, ih]; omega
theorem cls_other {c c0 : Nat} (hc : c ≠ c0) : ∀ (L : List (Int × Nat)), cls (L.filter fun x => !(x.2 == c0)) c = cls L c
  | [] => rfl
  | x :: L => by
    have ih := cls_other hc L
    have e : cls (x :: L) c = (if x.2 = c then x.1 else 0) + cls L c := rfl
    rw [List.filter_cons, e]
    by_cases h : x.2 = c0
    · rw [if_neg (by simp [h]), ih, if_neg (fun e => hc (e.symm.trans h))]; omega
    · rw [if_pos (by simpa using h)]
      show (if x.2 = c then x.1 else 0) + cls (L.filter fun x => !(x.2 == c0)) c = _
      rw [ih]
theorem cls_same (c : Nat) : ∀ (L : List (Int × Nat)), cls (L.filter fun x => !(x.2 == c)) c = 0
  | [] => rfl
  | x :: L => by
    have ih := cls_same c L
    rw [List.filter_cons]
    by_cases h : x.2 = c
    · rw [if_neg (by simp [h]), ih]
    · rw [if_pos (by simpa using h)]
      show (if x.2 = c then x.1 else 0) + cls (L.filter fun x => !(x.2 == c)) c = _
      rw [ih, if_neg h]; rfl
theorem mg_ge : ∀ (f : Nat) (L : List (Int × Nat)) (cs : List Nat), L.length < f → cs.Nodup → (∀ c ∈ cs, ∃ x ∈ L, x.2 = c ∧ x.1 ≠ 0) → (∀ c, cls L c = 0) → (cs.length : Int) ≤ mg f (L.map Prod.fst)
  | 0, L, cs, h, _, _, _ => by omega
  | f + 1, L, cs, h, hn, hc, hz => by
    have ef : (L.map Prod.fst).filter (· != 0) = (L.filter fun x => x.1 != 0).map Prod.fst := by rw [List.filter_map]; rfl
    show (cs.length : Int) ≤ (match (L.map Prod.fst).filter (· != 0) with | [] => 0 | x :: xs => (partsOf xs).foldl (mgStep (mg f) x) 1)
    rw [ef]
    have hz' : ∀ c, cls (L.filter fun x => x.1 != 0) c = 0 := fun c => by rw [cls_filter]; exact hz c
    have hc' : ∀ c ∈ cs, ∃ x ∈ L.filter (fun x => x.1 != 0), x.2 = c ∧ x.1 ≠ 0 := fun c m => by
      obtain ⟨x, hx, e1, e2⟩ := hc c m
      exact ⟨x, List.mem_filter.mpr ⟨hx, by simpa using e2⟩, e1, e2⟩
    have hl : (L.filter fun x => x.1 != 0).length ≤ L.length := List.length_filter_le _ _
    generalize L.filter (fun x => x.1 != 0) = M at hz' hc' hl
    match M with
    | [] =>
      match cs, hc' with
      | [], _ => exact Int.le_refl _
      | c :: cs, hc' => obtain ⟨x, hx, _⟩ := hc' c (List.mem_cons_self ..); cases hx
    | (x, c0) :: M =>
      rw [List.length_cons] at hl
      show (cs.length : Int) ≤ (partsOf (M.map Prod.fst)).foldl (mgStep (mg f) x) 1
      have mem : ((M.filter fun y => y.2 == c0).map Prod.fst, (M.filter fun y => !(y.2 == c0)).map Prod.fst) ∈ partsOf (M.map Prod.fst) := by
        refine mem_parts.mpr ⟨M.map fun y => (y.1, y.2 == c0), by rw [List.map_map]; rfl, ?_⟩
        rw [List.filter_map, List.filter_map, List.map_map, List.map_map]
        rfl
      have z0 : x + ((M.filter fun y => y.2 == c0).map Prod.fst).sum = 0 := by
        rw [cls_self]
        have := hz' c0
        have e : cls ((x, c0) :: M) c0 = (if c0 = c0 then x else 0) + cls M c0 := rfl
        rw [e, if_pos rfl] at this
        exact this
      have g := (fold_ge (mg f) x (partsOf (M.map Prod.fst)) 1).2 _ mem z0
      have l2 : (M.filter fun y => !(y.2 == c0)).length ≤ M.length := List.length_filter_le _ _
      have ih := mg_ge f (M.filter fun y => !(y.2 == c0)) (cs.erase c0) (by omega) (hn.erase _) (fun c m => by
        have m1 := (List.Nodup.mem_erase_iff hn).mp m
        obtain ⟨y, hy, e1, e2⟩ := hc' c m1.2
        rcases List.mem_cons.mp hy with q | q
        · rw [q] at e1; exact absurd e1.symm m1.1
        · exact ⟨y, List.mem_filter.mpr ⟨q, by rw [e1, beq_eq_false_iff_ne.mpr m1.1]; rfl⟩, e1, e2⟩) (fun c => by
        by_cases q : c = c0
        · subst q; exact cls_same c M
        · rw [cls_other q]
          have := hz' c
          have e : cls ((x, c0) :: M) c = (if c0 = c then x else 0) + cls M c := rfl
          rw [e, if_neg (fun e => q e.symm)] at this
          omega)
      have le : cs.length ≤ (cs.erase c0).length + 1 := by
        rw [List.length_erase]
        split <;> omega
      have g2 : 1 + mg f ((M.filter fun y => !(y.2 == c0)).map Prod.fst) ≤ (partsOf (M.map Prod.fst)).foldl (mgStep (mg f) x) 1 := g
      omega
/-! ### at most as many as spare a payment each -/
theorem lift (ps : List Int) : ∀ (L : List (Int × Bool)), L.map Prod.fst = ps.filter (· != 0) → ∃ M : List (Int × Bool), M.map Prod.fst = ps ∧ M.filter (fun x => x.1 != 0) = L := by
  induction ps with
  | nil =>
    intro L h
    have : L = [] := List.map_eq_nil_iff.mp h
    exact ⟨[], rfl, this.symm⟩
  | cons x ps ih =>
    intro L h
    rw [List.filter_cons] at h
    by_cases c : x = 0
    · rw [if_neg (by simp [c])] at h
      obtain ⟨M, h1, h2⟩ := ih L h
      exact ⟨(x, true) :: M, by rw [List.map_cons, h1], by rw [List.filter_cons, if_neg (by simp [c]), h2]⟩
    · rw [if_pos (by simpa using c)] at h
      match L, h with
      | (y, b) :: L, h =>
        rw [List.map_cons] at h
        injection h with e1 e2
        simp only at e1
        subst e1
        obtain ⟨M, h1, h2⟩ := ih L e2
        exact ⟨(y, b) :: M, by rw [List.map_cons, h1], by rw [List.filter_cons, if_pos (by simpa using c), h2]⟩
def halfT (M : List (Int × Bool)) : List Int := M.map fun x => if x.2 = true then x.1 else 0
def halfF (M : List (Int × Bool)) : List Int := M.map fun x => if x.2 = true then 0 else x.1
theorem nz_zero {x : Int} {b : Bool} {M : List (Int × Bool)} (c : x = 0) : ((x, b) :: M).filter (fun x => x.1 != 0) = M.filter fun x => x.1 != 0 := by rw [List.filter_cons, if_neg (by simp [c])]
theorem nz_cons {x : Int} {b : Bool} {M : List (Int × Bool)} (c : ¬ x = 0) : ((x, b) :: M).filter (fun x => x.1 != 0) = (x, b) :: M.filter fun x => x.1 != 0 := by rw [List.filter_cons, if_pos (by simpa using c)]
theorem half_sum : ∀ (M : List (Int × Bool)), (halfT M).sum + (halfF M).sum = (M.map Prod.fst).sum ∧ (halfT M).sum = (((M.filter fun x => x.1 != 0).filter fun x => x.2).map Prod.fst).sum
  | [] => ⟨rfl, rfl⟩
  | (x, b) :: M => by
    obtain ⟨h1, h2⟩ := half_sum M
    have e1 : (halfT ((x, b) :: M)).sum = (if b = true then x else 0) + (halfT M).sum := rfl
    have e2 : (halfF ((x, b) :: M)).sum = (if b = true then 0 else x) + (halfF M).sum := rfl
    have e3 : (((x, b) :: M).map Prod.fst).sum = x + (M.map Prod.fst).sum := rfl
    refine ⟨by rw [e1, e2, e3]; split <;> omega, ?_⟩
    rw [e1, h2]
    by_cases c : x = 0
    · rw [nz_zero c, c]
      split <;> omega
    · rw [nz_cons c]
      cases b with
      | true => rfl
      | false =>
        show (0 : Int) + _ = (((M.filter fun x => x.1 != 0).filter fun x => x.2).map Prod.fst).sum
        omega
theorem half_filter : ∀ (M : List (Int × Bool)), (halfF M).filter (· != 0) = ((M.filter fun x => x.1 != 0).filter fun x => !x.2).map Prod.fst
  | [] => rfl
  | (x, b) :: M => by
    have ih := half_filter M
    cases b with
    | true =>
      have e2 : halfF ((x, true) :: M) = 0 :: halfF M := rfl
      rw [e2, List.filter_cons, if_neg (by decide), ih]
      by_cases c : x = 0
      · rw [nz_zero c]
      · rw [nz_cons c]; rfl
    | false =>
      have e2 : halfF ((x, false) :: M) = x :: halfF M := rfl
      rw [e2, List.filter_cons, ih]
      by_cases c : x = 0
      · rw [nz_zero c, if_neg (by simp [c])]
      · rw [nz_cons c, if_pos (by simpa using c)]; rfl
theorem half_count : ∀ (M : List (Int × Bool)), (halfT M).countP (· != 0) + (halfF M).countP (· != 0) = (M.map Prod.fst).countP (· != 0)
  | [] => rfl
  | (x, b) :: M => by
    have ih := half_count M
    have e1 : halfT ((x, b) :: M) = (if b = true then x else 0) :: halfT M := rfl
    have e2 : halfF ((x, b) :: M) = (if b = true then 0 else x) :: halfF M := rfl
    rw [e1, e2, List.map_cons, List.countP_cons, List.countP_cons, List.countP_cons]
    cases b with
    | true =>
      show (halfT M).countP (· != 0) + (if (x != 0) = true then 1 else 0) + ((halfF M).countP (· != 0) + (if ((0 : Int) != 0) = true then 1 else 0)) = (M.map Prod.fst).countP (· != 0) + (if (x != 0) = true then 1 else 0)
      rw [if_neg (show ¬ (((0 : Int) != 0) = true) by decide)]
      omega
    | false =>
      show (halfT M).countP (· != 0) + (if ((0 : Int) != 0) = true then 1 else 0) + ((halfF M).countP (· != 0) + (if (x != 0) = true then 1 else 0)) = (M.map Prod.fst).countP (· != 0) + (if (x != 0) = true then 1 else 0)
      rw [if_neg (show ¬ (((0 : Int) != 0) = true) by decide)]
      omega
theorem half_at (M : List (Int × Bool)) (i : Nat) : ((halfT M).getD i 0 = (M.map Prod.fst).getD i 0 ∧ (halfF M).getD i 0 = 0) ∨ ((halfT M).getD i 0 = 0 ∧ (halfF M).getD i 0 = (M.map Prod.fst).getD i 0) := by
  unfold halfT halfF
  rw [List.getD_eq_getElem?_getD, List.getD_eq_getElem?_getD, List.getD_eq_getElem?_getD, List.getElem?_map, List.getElem?_map, List.getElem?_map]
  cases M[i]? with
  | none => exact .inl ⟨rfl, rfl⟩
  | some x =>
    obtain ⟨x, b⟩ := x
    cases b with
    | true => exact .inl ⟨rfl, rfl⟩
    | false => exact .inr ⟨rfl, rfl⟩
theorem mg_le : ∀ (f : Nat) (ps : List Int), ps.sum = 0 → ∃ l, Pre ps l ∧ (l.length : Int) + mg f ps ≤ (ps.countP (· != 0) : Nat)
  | 0, ps, hs => by
    obtain ⟨l, h1, h2⟩ := greedy _ ps (Nat.le_refl _) hs
    exact ⟨l, h1, by show (l.length : Int) + 0 ≤ _; omega⟩
  | f + 1, ps, hs => by
    obtain ⟨l0, g1, g2⟩ := greedy _ ps (Nat.le_refl _) hs
    have em : mg (f + 1) ps = (match ps.filter (· != 0) with | [] => 0 | x :: xs => (partsOf xs).foldl (mgStep (mg f) x) 1) := rfl
    have ec : ps.countP (· != 0) = (ps.filter (· != 0)).length := List.countP_eq_length_filter
    cases hu : ps.filter (· != 0) with
    | nil =>
      rw [hu] at em ec
      exact ⟨l0, g1, by rw [em]; simp at ec; show (l0.length : Int) + 0 ≤ _; omega⟩
    | cons x xs =>
      rw [hu] at em ec
      rw [List.length_cons] at ec
      rcases fold_is (mg f) x (partsOf xs) 1 with h | ⟨p, hp, e, h⟩
      · refine ⟨l0, g1, ?_⟩
        rw [em]
        show (l0.length : Int) + (partsOf xs).foldl (mgStep (mg f) x) 1 ≤ _
        rw [h]
        omega
      · obtain ⟨L, hL, eL⟩ := mem_parts.mp hp
        obtain ⟨M, h1, h2⟩ := lift ps ((x, true) :: L) (by rw [List.map_cons, hL, hu])
        obtain ⟨s1, s2⟩ := half_sum M
        have fF := half_filter M
        have cM := half_count M
        rw [h1] at s1 cM
        rw [h2, List.filter_cons, if_pos rfl, List.map_cons, List.sum_cons] at s2
        rw [h2, List.filter_cons, if_neg (by simp)] at fF
        have p1 : p.1 = (L.filter fun x => x.2).map Prod.fst := congrArg Prod.fst eL
        have p2 : p.2 = (L.filter fun x => !x.2).map Prod.fst := congrArg Prod.snd eL
        rw [p1] at e
        have sT : (halfT M).sum = 0 := by rw [s2]; exact e
        have sF : (halfF M).sum = 0 := by omega
        obtain ⟨la, a1, a2⟩ := greedy _ (halfT M) (Nat.le_refl _) sT
        obtain ⟨lb, b1, b2⟩ := mg_le f (halfF M) sF
        rw [← mg_filter, fF, ← p2] at b2
        have at_ := half_at M
        rw [h1] at at_
        have cT : 0 < (halfT M).countP (· != 0) := by
          have m : (x, true) ∈ M := (List.mem_filter.mp (show (x, true) ∈ M.filter (fun x => x.1 != 0) by rw [h2]; exact List.mem_cons_self ..)).1
          have n : (x != 0) = true := (List.mem_filter.mp (show (x, true) ∈ M.filter (fun x => x.1 != 0) by rw [h2]; exact List.mem_cons_self ..)).2
          refine List.countP_pos_iff.mpr ⟨x, List.mem_map.mpr ⟨(x, true), m, rfl⟩, n⟩
        refine ⟨la ++ lb, ⟨fun q hq => ?_, fun i => ?_⟩, ?_⟩
        · rcases List.mem_append.mp hq with c | c
          · obtain ⟨d1, d2, d3⟩ := a1.dir q c
            refine ⟨?_, ?_, d3⟩
            · rcases at_ q.from_ with k | k <;> omega
            · rcases at_ q.to_ with k | k <;> omega
          · obtain ⟨d1, d2, d3⟩ := b1.dir q c
            refine ⟨?_, ?_, d3⟩
            · rcases at_ q.from_ with k | k <;> omega
            · rcases at_ q.to_ with k | k <;> omega
        · rw [net_append]
          have z1 := a1.zero i
          have z2 := b1.zero i
          rcases at_ i with k | k <;> omega
        · rw [em]
          show ((la ++ lb).length : Int) + (partsOf xs).foldl (mgStep (mg f) x) 1 ≤ _
          rw [h, List.length_append]
          omega
end Sett
end
section
set_option Elab.async false
namespace Sett
open CbAcc
def clsP (n : Nat) (ps : List Int) (col : Nat → Nat) (c : Nat) : Int := ((List.range n).map fun i => if col i = c then ps.getD i 0 else 0).sum
theorem cls_two {n v w : Nat} {ps ps' : List Int} {col col' : Nat → Nat} {c : Nat} {α β : Int} (hv : v < n) (hw : w < n) (hab : α + β = 0)
    (h : ∀ i, (if col i = c then ps.getD i 0 else 0) = (if col' i = c then ps'.getD i 0 else 0) + ((if v = i then α else 0) + (if w = i then β else 0))) : clsP n ps col c = clsP n ps' col' c := by
  unfold clsP
  have e : (List.range n).map (fun i => if col i = c then ps.getD i 0 else 0) = (List.range n).map fun i => (if col' i = c then ps'.getD i 0 else 0) + ((if v = i then α else 0) + (if w = i then β else 0)) := List.map_congr_left fun i _ => h i
  rw [e, sum_add, sum_add, sum_if, sum_if, if_pos hv, if_pos hw]
  omega
theorem fresh (n : Nat) (col : Nat → Nat) : ∃ k, ∀ i, i < n → col i < k := by
  induction n with
  | zero => exact ⟨0, fun i h => by omega⟩
  | succ n ih =>
    obtain ⟨k, hk⟩ := ih
    refine ⟨max k (col n + 1), fun i hi => ?_⟩
    by_cases e : i = n
    · rw [e]; omega
    · have := hk i (by omega); omega
/-- A settlement's pieces, as colours. -/
theorem colours (n : Nat) : ∀ (k : Nat) (l : List Pay) (ps : List Int), l.length = k → ps.length = n → Leafy l → (∀ p ∈ l, p.from_ ≠ p.to_ ∧ p.from_ < n ∧ p.to_ < n ∧ 1 ≤ p.units) → (∀ i, ps.getD i 0 + net l i = 0) →
    ∃ (col : Nat → Nat) (cs : List Nat), cs.Nodup ∧ ps.countP (· != 0) ≤ cs.length + l.length ∧ (∀ c ∈ cs, ∃ i, col i = c ∧ ps.getD i 0 ≠ 0) ∧ ∀ c, clsP n ps col c = 0 := by
  intro k
  induction k with
  | zero =>
    intro l ps hk hn hL hb hz
    have e : l = [] := List.length_eq_zero_iff.mp hk
    subst e
    have z : ∀ i, ps.getD i 0 = 0 := fun i => by have := hz i; simp [net] at this; simpa using this
    refine ⟨fun _ => 0, [], List.nodup_nil, ?_, fun c hc => (by cases hc), fun c => ?_⟩
    · rw [show ps.countP (· != 0) = 0 from List.countP_eq_zero.mpr fun x hx => ?_]
      · simp
      · obtain ⟨i, hi, rfl⟩ := List.getElem_of_mem hx
        have := z i
        rw [List.getD_eq_getElem?_getD, List.getElem?_eq_getElem hi] at this
        simpa using this
    · unfold clsP
      have : (List.range n).map (fun i => if (0 : Nat) = c then ps.getD i 0 else 0) = (List.range n).map fun i => if n = i then (0 : Int) else 0 := List.map_congr_left fun i _ => by rw [z i]; split <;> split <;> rfl
      rw [this, sum_if]
      split <;> rfl
  | succ k ih =>
    intro l ps hk hn hL hb hz
    obtain ⟨p, hp, hd⟩ := hL l [] (by rw [List.append_nil]) (fun e => by rw [e] at hk; cases hk)
    obtain ⟨l', hl'⟩ := perm_of_mem hp
    obtain ⟨ft, fn, tn, pu⟩ := hb p hp
    have ll : l'.length = k := by have := hl'.length_eq; rw [List.length_cons] at this; omega
    have ne1 : ∀ i, endsAt (l.map pr) i = tch (pr p) i + endsAt (l'.map pr) i := fun i => by rw [ends_perm (hl'.map pr) i, List.map_cons, ends_cons]
    have hL' : Leafy l' := fun r0 r1 h n0 => hL r0 (p :: r1) (hl'.trans ((h.cons p).trans List.perm_middle.symm)) n0
    have hb' : ∀ q ∈ l', q.from_ ≠ q.to_ ∧ q.from_ < n ∧ q.to_ < n ∧ 1 ≤ q.units := fun q hq => hb q (hl'.mem_iff.mpr (List.mem_cons_of_mem _ hq))
    have hz' : ∀ i, ps.getD i 0 + (net1 p i + net l' i) = 0 := fun i => by
      have := hz i
      rw [net_perm hl' i] at this
      exact this
    -- the leaf v and its other w
    obtain ⟨v, w, hvw, hv, hw, e1, e2, e3, hv0⟩ : ∃ v w, v ≠ w ∧ v < n ∧ w < n ∧ net1 p w = - net1 p v ∧ (∀ i, i ≠ v → i ≠ w → net1 p i = 0) ∧ net l' v = 0 ∧ net1 p v ≠ 0 := by
      have n1f : net1 p p.from_ = p.units := by unfold net1; rw [if_pos rfl, if_neg (fun e => ft e.symm)]; omega
      have n1t : net1 p p.to_ = -(p.units : Int) := by unfold net1; rw [if_pos rfl, if_neg ft]; omega
      have n1o : ∀ i, i ≠ p.from_ → i ≠ p.to_ → net1 p i = 0 := fun i a b => by unfold net1; rw [if_neg (fun e => a e.symm), if_neg (fun e => b e.symm)]; rfl
      rcases hd with d | d
      · refine ⟨p.from_, p.to_, ft, fn, tn, by rw [n1f, n1t], fun i a b => n1o i a b, net_untouched l' _ ?_, by rw [n1f]; omega⟩
        have := ne1 p.from_
        have t : tch (pr p) p.from_ = 1 := by unfold tch; rw [if_pos (.inl rfl)]
        omega
      · refine ⟨p.to_, p.from_, fun e => ft e.symm, tn, fn, by rw [n1f, n1t]; omega, fun i a b => n1o i b a, net_untouched l' _ ?_, by rw [n1t]; omega⟩
        have := ne1 p.to_
        have t : tch (pr p) p.to_ = 1 := by unfold tch; rw [if_pos (.inr rfl)]
        omega
    have zv := hz' v
    have zw := hz' w
    let a := ps.getD v 0
    let b := ps.getD w 0
    let ps' := (ps.set v 0).set w (ps.getD w 0 + ps.getD v 0)
    have hps' : ∀ i, ps'.getD i 0 = if w = i then ps.getD w 0 + ps.getD v 0 else if v = i then 0 else ps.getD i 0 := fun i => by
      show ((ps.set v 0).set w (ps.getD w 0 + ps.getD v 0)).getD i 0 = _
      rw [getD_set _ _ _ _ (by rw [List.length_set, hn]; exact hw), getD_set _ _ _ _ (by rw [hn]; exact hv)]
    obtain ⟨col, cs, nd, cnt, occ, zero⟩ := ih l' ps' ll (by show ((ps.set v 0).set w _).length = n; rw [List.length_set, List.length_set, hn]) hL' hb' (fun i => by
      rw [hps']
      have z := hz' i
      by_cases q1 : w = i
      · rw [if_pos q1]; rw [← q1]; omega
      · rw [if_neg q1]
        by_cases q2 : v = i
        · rw [if_pos q2, ← q2, e3]; rfl
        · rw [if_neg q2]
          have := e2 i (fun e => q2 e.symm) (fun e => q1 e.symm)
          omega)
    have av : ps.getD v 0 ≠ 0 := by omega
    have cv : ps'.countP (· != 0) = ps.countP (· != 0) - 1 - (if ps.getD w 0 != 0 then 1 else 0) + (if ps.getD w 0 + ps.getD v 0 != 0 then 1 else 0) := by
      show ((ps.set v 0).set w (ps.getD w 0 + ps.getD v 0)).countP (· != 0) = _
      rw [count_set _ _ _ (by rw [List.length_set, hn]; exact hw), count_set _ _ _ (by rw [hn]; exact hv), getD_set _ _ _ _ (by rw [hn]; exact hv), if_neg hvw, if_pos (bne0 av), if_neg (show ¬ (((0 : Int) != 0) = true) by decide)]
      omega
    have c0 : 0 < ps.countP (· != 0) := count_pos av
    by_cases s : ps.getD w 0 + ps.getD v 0 = 0
    · have bw : ps.getD w 0 ≠ 0 := by omega
      rw [if_pos (bne0 bw), s, if_neg (show ¬ (((0 : Int) != 0) = true) by decide)] at cv
      obtain ⟨k0, hk0⟩ := fresh n col
      obtain ⟨col2, cv2, cw2, co2⟩ : ∃ col2 : Nat → Nat, col2 v = k0 ∧ col2 w = k0 ∧ ∀ i, i ≠ v → i ≠ w → col2 i = col i := ⟨fun i => if i = v ∨ i = w then k0 else col i, if_pos (.inl rfl), if_pos (.inr rfl), fun i a b => if_neg (fun e => e.elim a b)⟩
      have lps : ps'.length = n := by show ((ps.set v 0).set w _).length = n; rw [List.length_set, List.length_set, hn]
      refine ⟨col2, k0 :: cs, List.nodup_cons.mpr ⟨fun m => ?_, nd⟩, ?_, fun c hc => ?_, fun c => ?_⟩
      · obtain ⟨i, h1, h2⟩ := occ k0 m
        have : i < n := by
          have := lt_of_getD_ne h2
          rw [lps] at this
          exact this
        have := hk0 i this
        omega
      · rw [List.length_cons]; omega
      · rcases List.mem_cons.mp hc with q | q
        · exact ⟨v, cv2.trans q.symm, av⟩
        · obtain ⟨i, h1, h2⟩ := occ c q
          rw [hps'] at h2
          by_cases q1 : w = i
          · rw [if_pos q1] at h2; exact absurd s h2
          · rw [if_neg q1] at h2
            by_cases q2 : v = i
            · rw [if_pos q2] at h2; exact absurd rfl h2
            · rw [if_neg q2] at h2
              exact ⟨i, (co2 i (fun e => q2 e.symm) (fun e => q1 e.symm)).trans h1, h2⟩
      · rw [← zero c]
        by_cases q : k0 = c
        · -- the new colour
          have e : clsP n ps col2 c = clsP n [] col c := by
            refine cls_two (α := ps.getD v 0) (β := ps.getD w 0) hv hw (by omega) fun i => ?_
            have z0 : (([] : List Int).getD i 0) = 0 := by simp
            rw [z0, ite_self]
            by_cases q1 : v = i
            · subst q1
              rw [cv2, if_pos q, if_pos rfl, if_neg (fun e => hvw e.symm)]; omega
            · by_cases q2 : w = i
              · subst q2
                rw [cw2, if_pos q, if_neg q1, if_pos rfl]; omega
              · rw [if_neg q1, if_neg q2, co2 i (fun e => q1 e.symm) (fun e => q2 e.symm)]
                by_cases li : i < n
                · rw [if_neg (by have := hk0 i li; omega)]
                  rfl
                · have z : ps.getD i 0 = 0 := Classical.byContradiction fun h => li (by rw [← hn]; exact lt_of_getD_ne h)
                  rw [z, ite_self]; rfl
          rw [e]
          refine (cls_two (ps' := []) (col' := col) (α := 0) (β := 0) hv hw rfl fun i => ?_).symm
          have z0 : (([] : List Int).getD i 0) = 0 := by simp
          rw [z0, ite_self, ite_self, ite_self]
          by_cases li : i < n
          · rw [if_neg (by have := hk0 i li; omega)]; rfl
          · have z : ps'.getD i 0 = 0 := Classical.byContradiction fun h => li (by
              have := lt_of_getD_ne h
              rw [lps] at this
              exact this)
            rw [z, ite_self]; rfl
        · refine cls_two (α := 0) (β := 0) hv hw rfl fun i => ?_
          rw [ite_self, ite_self, hps']
          by_cases q1 : w = i
          · subst q1
            rw [cw2, if_neg q, if_pos rfl, s, ite_self]; rfl
          · rw [if_neg q1]
            by_cases q2 : v = i
            · subst q2
              rw [cv2, if_neg q, if_pos rfl, ite_self]; rfl
            · rw [if_neg q2, co2 i (fun e => q2 e.symm) (fun e => q1 e.symm)]; omega
    · rw [if_pos (bne0 s)] at cv
      obtain ⟨col2, cv2, co2⟩ : ∃ col2 : Nat → Nat, col2 v = col w ∧ ∀ i, i ≠ v → col2 i = col i := ⟨fun i => if i = v then col w else col i, if_pos rfl, fun i a => if_neg a⟩
      refine ⟨col2, cs, nd, ?_, fun c hc => ?_, fun c => ?_⟩
      · have : l.length = l'.length + 1 := by omega
        split at cv <;> omega
      · obtain ⟨i, h1, h2⟩ := occ c hc
        rw [hps'] at h2
        by_cases q1 : w = i
        · exact ⟨v, by rw [cv2, q1]; exact h1, av⟩
        · rw [if_neg q1] at h2
          by_cases q2 : v = i
          · rw [if_pos q2] at h2; exact absurd rfl h2
          · rw [if_neg q2] at h2
            exact ⟨i, (co2 i (fun e => q2 e.symm)).trans h1, h2⟩
      · rw [← zero c]
        have cw : col2 w = col w := co2 w (fun e => hvw e.symm)
        by_cases q : col w = c
        · refine cls_two (α := ps.getD v 0) (β := -(ps.getD v 0)) hv hw (by omega) fun i => ?_
          rw [hps']
          by_cases q1 : w = i
          · subst q1
            rw [cw, if_pos q, if_pos q, if_pos rfl, if_neg hvw, if_pos rfl]; omega
          · by_cases q2 : v = i
            · subst q2
              rw [cv2, if_pos q, if_neg q1, if_pos rfl, ite_self, if_pos rfl, if_neg q1]; omega
            · rw [co2 i (fun e => q2 e.symm), if_neg q1, if_neg q2, if_neg q2, if_neg q1]; omega
        · refine cls_two (α := 0) (β := 0) hv hw rfl fun i => ?_
          rw [ite_self, ite_self, hps']
          by_cases q1 : w = i
          · subst q1
            rw [cw, if_neg q, if_neg q]; rfl
          · by_cases q2 : v = i
            · subst q2
              rw [cv2, if_neg q, if_neg q1, if_pos rfl, ite_self]; rfl
            · rw [co2 i (fun e => q2 e.symm), if_neg q1, if_neg q2]; omega
theorem mg_eq {ps : List Int} {f : Nat} (hs : ps.sum = 0) (hf : ps.length < f) : mg f ps = (groups ps : Nat) := by
  have L := settle_least hs
  obtain ⟨l, h1, h2⟩ := mg_le f ps hs
  obtain ⟨m, m1, m2⟩ := h1.fit
  have few := L.few m m1
  obtain ⟨col, cs, nd, cnt, occ, zero⟩ := colours ps.length _ (settle ps) ps rfl rfl (leafy_of_min L.fit L.few) (fun p hp => by
    obtain ⟨a, b, c⟩ := L.fit.toPre.bounds p hp
    exact ⟨a, b, c, (L.fit.dir p hp).2.2⟩) L.fit.zero
  have g := mg_ge f ((List.range ps.length).map fun i => (ps.getD i 0, col i)) cs (by rw [List.length_map, List.length_range]; exact hf) nd (fun c hc => by
    obtain ⟨i, a, b⟩ := occ c hc
    exact ⟨(ps.getD i 0, col i), List.mem_map.mpr ⟨i, List.mem_range.mpr (lt_of_getD_ne b), rfl⟩, a, b⟩) (fun c => by
    have := zero c
    unfold clsP at this
    unfold cls
    rw [List.map_map]
    exact this)
  have e : ((List.range ps.length).map fun i => (ps.getD i 0, col i)).map Prod.fst = ps := by
    rw [List.map_map]
    apply List.ext_getElem
    · simp
    · intro i h1 h2
      rw [List.getElem_map, List.getElem_range]
      show ps.getD i 0 = _
      rw [List.getD_eq_getElem?_getD, List.getElem?_eq_getElem h2]; rfl
  rw [e] at g
  unfold groups
  rw [count_open]
  omega
end Sett
end
section
set_option Elab.async false
set_option linter.all false
set_option maxRecDepth 100000
set_option maxHeartbeats 2000000
namespace Ew
open PySem PySem.Spec PyProof.Rows L2
open PySem.W (Codec)
def top (i : Nat) : Stmt := PySem.Challenge.pw_evenwires_s01_answers.main.body.getD i (.Pass ⟨0, 0, 0, 0⟩)
/-- a new list comes out; what was there stays -/
def giveL (ys : List V) (H : Hp) (Q : VK) : Prop := ∀ (H' : Hp) (p : Addr), Same H H' → H p = none → H' p = some (.lst ys) → Q (.ref p) H'
/-- a value comes out; what was there stays -/
def giveV (v : V) (H : Hp) (Q : VK) : Prop := ∀ H' : Hp, Same H H' → Q v H'
theorem Same.rfl' (H : Hp) : Same H H := fun _ _ h => h
theorem Same.new {H : Hp} {p : Addr} {o : HO} (h : H p = none) : Same H (upd H p o) := fun b q e => by
  rw [upd_ne (ne_of_none e h)]; exact e
structure Def (K : PySem.W.Frag) (mg : Str → Option Value) (x : Str) (st : Stmt) (f : Addr) (fd : FuncData) (ps : List Str) : Prop where
  fn : Fun K x x st f fd
  bd : Binds K fd ps []
  gl : mg x = some (.ref f)
/-- what the program's text finds of Python's own names, and its own numbers -/
structure Txt (mg : Str → Option Value) : Prop where
  len : mg "len" = none
  range : mg "range" = none
  sum : mg "sum" = none
  enum : mg "enumerate" = none
  zip : mg "zip" = none
  abs : mg "abs" = none
  list : mg "list" = none
  mCharge : ∃ t, mg "MOST_CHARGE" = some (.int 1099511627776 t)
  mComp : ∃ t, mg "MOST_COMPANIES" = some (.int 6 t)
  mWeight : ∃ t, mg "MOST_WEIGHT" = some (.int 65535 t)
theorem lc_rangeC {lo c : Int} {n : Nat} {g : TG} {tt : TT} {te : TE} {vs : List Nat} {σ : L2.St} {H1 : Hp} {D : Addr} {Qd : Hp → Prop} (Pv : Nat → Hp → Prop) (h0 : Pv 0 (upd H1 D (.lst [])))
    (hs : ∀ i H, i < n → Pv i H → g (.int (lo + (i : Nat) * c)) (wipe σ vs) H fun σ2 H2 => wipe σ2 vs = wipe σ vs ∧ tt σ2 H2 fun b H3 =>
      if b = true then te σ2 H3 fun y H4 => ∃ acc, H4 D = some (.lst acc) ∧ acc.length < sizeLine ∧ Pv (i + 1) (upd H4 D (.lst (acc ++ [y]))) else Pv (i + 1) H3) (hd : ∀ H, Pv n H → Qd H) :
    ∃ W : Nat → Nat → Hp → Prop, (∃ m, W 0 m (upd H1 D (.lst []))) ∧ ∀ i m H, W i m H →
      ((Itc lo c n).stop i H ∧ Qd H) ∨ ((Itc lo c n).go i H ∧ ∃ Nx : Hp → Prop, (∀ H', Nx H' → ∃ m', m' < m ∧ W (i + 1) m' H') ∧ ∀ x H', (Itc lo c n).yld i H x H' → g x (wipe σ vs) H' fun σ2 H2 => wipe σ2 vs = wipe σ vs ∧ tt σ2 H2 fun b H3 =>
        if b = true then te σ2 H3 fun y H4 => ∃ acc, H4 D = some (.lst acc) ∧ acc.length < sizeLine ∧ Nx (upd H4 D (.lst (acc ++ [y]))) else Nx H3) := by
  refine ⟨fun i m H => m = n - i ∧ i ≤ n ∧ Pv i H, ⟨n, by simp, Nat.zero_le _, h0⟩, ?_⟩
  rintro i m H ⟨rfl, hi, p⟩
  by_cases hlt : i < n
  · refine .inr ⟨hlt, Pv (i + 1), fun H' p' => ⟨n - (i + 1), by omega, rfl, hlt, p'⟩, fun x H' y => ?_⟩
    obtain ⟨e, y⟩ := y
    subst e y
    exact hs i _ hlt p
  · have e : i = n := by omega
    subst e
    exact .inl ⟨Nat.le_refl _, hd H p⟩
theorem upd_upd {H : Hp} {p : Addr} {o o' : HO} : upd (upd H p o) p o' = upd H p o' := by
  funext b
  unfold upd
  split <;> rfl
theorem take_snoc {α : Type} : ∀ {l : List α} {i : Nat} {x : α}, l[i]? = some x → l.take (i + 1) = l.take i ++ [x]
  | [], i, x, h => by simp at h
  | a :: l, 0, x, h => by
    have e : a = x := Option.some.inj h
    subst e
    rfl
  | a :: l, i + 1, x, h => by
    have ih := take_snoc (l := l) (i := i) (x := x) h
    show a :: l.take (i + 1) = a :: l.take i ++ [x]
    rw [ih]
    rfl
theorem lc_push {H : Hp} {D : Addr} {ys : List V} {i : Nat} {y : V} (h : ys[i]? = some y) : upd (upd H D (.lst (ys.take i))) D (.lst (ys.take i ++ [y])) = upd H D (.lst (ys.take (i + 1))) := by
  rw [upd_upd, take_snoc h]
theorem take_lt {ys : List V} {i : Nat} (h : ys.length ≤ 1000000) : (ys.take i).length < sizeLine := by
  rw [List.length_take]
  exact Nat.lt_of_le_of_lt (Nat.min_le_right _ _) (Nat.lt_of_le_of_lt h (by decide))
theorem rangeC_two (a n : Nat) (ha : a ≤ 1) (hn : n ≤ 19000) : RgC (a : Int) (n : Int) 2 ((n + 1 - a) / 2) := by
  have e : Builtin.Range.rangeSize (a : Int) (n : Int) 2 = (((n + 1 - a) / 2 : Nat) : Int) := by
    unfold Builtin.Range.rangeSize
    rw [if_pos (by decide)]
    split <;> omega
  refine ⟨by decide, by decide, ?_, e⟩
  have fl : ∀ i : Int, -(2 ^ 63) ≤ i → i < 2 ^ 63 → Builtin.Range.rangeFitsLong i = true := fun i h1 h2 => by
    unfold Builtin.Range.rangeFitsLong
    rw [decide_eq_true h1, decide_eq_true h2]
    rfl
  unfold Builtin.Range.small
  rw [e, fl _ (by omega) (by omega), fl (n : Int) (by omega) (by omega), fl 2 (by omega) (by omega), fl _ (by omega) (by omega), if_pos (by decide), fl _ (by omega) (by omega), Bool.or_true]
  rfl
theorem getD_some {ns : List Int} {i : Nat} (h : i < ns.length) : ns[i]? = some (ns.getD i 0) := by
  rw [List.getD_eq_getElem?_getD, List.getElem?_eq_getElem h]
  rfl
theorem ints_at {ns : List Int} {i : Nat} (h : i < ns.length) : (ns.map V.int)[i]? = some (V.int (ns.getD i 0)) := by
  rw [List.getElem?_map, getD_some h]
  rfl
theorem for_enum {K : PySem.W.Frag} {a : Addr} {xs : List V} {g : TG} {tb : TS} {D : Ends} {σ : L2.St} {H : Hp} (Pv : Nat → L2.St → Hp → Prop) (h0 : Pv 0 σ H) (hl : ∀ i σ H, i ≤ xs.length → Pv i σ H → SqL K H a xs)
    (hs : ∀ i x σ H T, xs[i]? = some x → Pv i σ H → H T = none → g (.ref T) σ (upd H T (.tup [.int (i : Nat), x])) fun σ2 H2 => tb { D with nx := Pv (i + 1), ct := Pv (i + 1), bk := D.nx } σ2 H2) (hd : ∀ σ H, Pv xs.length σ H → D.nx σ H) :
    ∃ W : Nat → Nat → L2.St → Hp → Prop, (∃ m, W 0 m σ H) ∧ ∀ i m σ H, W i m σ H →
      ((Ite K a).stop i H ∧ D.nx σ H) ∨ ((Ite K a).go i H ∧ ∃ N : L2.St → Hp → Prop, (∀ σ' H', N σ' H' → ∃ m', m' < m ∧ W (i + 1) m' σ' H') ∧ ∀ x H', (Ite K a).yld i H x H' → g x σ H' fun σ2 H2 => tb { D with nx := N, ct := N, bk := D.nx } σ2 H2) := by
  refine ⟨fun i m σ H => m = xs.length - i ∧ i ≤ xs.length ∧ Pv i σ H, ⟨xs.length, by simp, Nat.zero_le _, h0⟩, ?_⟩
  rintro i m σ H ⟨rfl, hi, p⟩
  have q := hl i σ H hi p
  by_cases hlt : i < xs.length
  · refine .inr ⟨⟨xs, xs[i], q, by simp [hlt]⟩, Pv (i + 1), fun σ' H' p' => ⟨xs.length - (i + 1), by omega, rfl, hlt, p'⟩, fun x H' y => ?_⟩
    obtain ⟨T, x', e1, e2, e3, e4⟩ := y
    subst e1 e3
    exact hs i x' σ _ T (e4 xs q) p e2
  · have e : i = xs.length := by omega
    subst e
    exact .inl ⟨⟨xs, q, Nat.le_refl _⟩, hd σ H p⟩
theorem for_zip {K : PySem.W.Frag} {a b : Addr} {xs ys : List V} {g : TG} {tb : TS} {D : Ends} {σ : L2.St} {H : Hp} (Pv : Nat → L2.St → Hp → Prop) (hxy : xs.length = ys.length) (h0 : Pv 0 σ H) (hl : ∀ i σ H, i ≤ xs.length → Pv i σ H → SqL K H a xs ∧ SqL K H b ys)
    (hs : ∀ i x y σ H T, xs[i]? = some x → ys[i]? = some y → Pv i σ H → H T = none → g (.ref T) σ (upd H T (.tup [x, y])) fun σ2 H2 => tb { D with nx := Pv (i + 1), ct := Pv (i + 1), bk := D.nx } σ2 H2) (hd : ∀ σ H, Pv xs.length σ H → D.nx σ H) :
    ∃ W : Nat → Nat → L2.St → Hp → Prop, (∃ m, W 0 m σ H) ∧ ∀ i m σ H, W i m σ H →
      ((Itz K a b).stop i H ∧ D.nx σ H) ∨ ((Itz K a b).go i H ∧ ∃ N : L2.St → Hp → Prop, (∀ σ' H', N σ' H' → ∃ m', m' < m ∧ W (i + 1) m' σ' H') ∧ ∀ x H', (Itz K a b).yld i H x H' → g x σ H' fun σ2 H2 => tb { D with nx := N, ct := N, bk := D.nx } σ2 H2) := by
  refine ⟨fun i m σ H => m = xs.length - i ∧ i ≤ xs.length ∧ Pv i σ H, ⟨xs.length, by simp, Nat.zero_le _, h0⟩, ?_⟩
  rintro i m σ H ⟨rfl, hi, p⟩
  have q := hl i σ H hi p
  by_cases hlt : i < xs.length
  · refine .inr ⟨⟨xs, ys, xs[i], ys[i]'(by omega), q.1, q.2, by simp [hlt], by simp⟩, Pv (i + 1), fun σ' H' p' => ⟨xs.length - (i + 1), by omega, rfl, hlt, p'⟩, fun x H' y => ?_⟩
    obtain ⟨T, x', y', e1, e2, e3, e4, e5⟩ := y
    subst e1 e3
    exact hs i x' y' σ _ T (e4 xs q.1) (e5 ys q.2) p e2
  · have e : i = xs.length := by omega
    subst e
    exact .inl ⟨⟨xs, ys, q.1, q.2, .inl (Nat.le_refl _)⟩, hd σ H p⟩
/-- an item of a list of ints -/
theorem int_at {ns : List Int} {i : Nat} {y : V} (h : (ns.map V.int)[i]? = some y) : ∃ z, ns[i]? = some z ∧ y = V.int z := by
  rw [List.getElem?_map] at h
  cases e : ns[i]? with
  | none => rw [e] at h; cases h
  | some z => rw [e] at h; exact ⟨z, rfl, (Option.some.inj h).symm⟩
theorem inV_int (z : Int) (ns : List Int) : inV (V.int z) (ns.map V.int) = decide (z ∈ ns) := by
  induction ns with
  | nil => rfl
  | cons x ns ih =>
    show (eqV (V.int x) (V.int z) || inV (V.int z) (ns.map V.int)) = _
    rw [ih]
    have e : eqV (V.int x) (V.int z) = decide (x = z) := rfl
    rw [e]
    by_cases c : x = z
    · subst c; simp
    · rw [decide_eq_false c, Bool.false_or]
      by_cases d : z ∈ ns
      · rw [decide_eq_true d, decide_eq_true (List.mem_cons_of_mem _ d)]
      · rw [decide_eq_false d, decide_eq_false (fun m => (List.mem_cons.mp m).elim (fun e => c e.symm) d)]
theorem flat_ints (ns : List Int) : (ns.map V.int).all flatV = true := by
  rw [List.all_eq_true]
  intro x hx
  obtain ⟨z, _, rfl⟩ := List.mem_map.mp hx
  rfl
theorem eqI {i j : Int} : decide (V.int i = V.int j) = true ↔ i = j := by
  rw [decide_eq_true_eq]
  exact ⟨fun h => by injection h, fun h => by rw [h]⟩
theorem neI {i j : Int} : (!decide (V.int i = V.int j)) = true ↔ i ≠ j := by
  by_cases c : i = j
  · subst c; simp
  · rw [decide_eq_false (fun h => c (by injection h))]; simp [c]
end Ew
end
section
set_option Elab.async false
set_option linter.all false
set_option maxRecDepth 100000
set_option maxHeartbeats 2000000
namespace Ew
open PySem PySem.Spec PyProof.Rows L2
def firsts (ns : List Int) : List Int := (List.range ((ns.length + 1) / 2)).map fun i => ns.getD (2 * i) 0
def seconds (ns : List Int) : List Int := (List.range (ns.length / 2)).map fun i => ns.getD (2 * i + 1) 0
abbrev sFirsts : Stmt := top 15
abbrev sSeconds : Stmt := top 16
def spFirsts (K : PySem.W.Frag) : Sp := fun vs H Q _ => ∃ (a : Addr) (ns : List Int), vs = [.ref a] ∧ SqL K H a (ns.map V.int) ∧ ns.length ≤ 19000 ∧ giveL ((firsts ns).map V.int) H Q
def spSeconds (K : PySem.W.Frag) : Sp := fun vs H Q _ => ∃ (a : Addr) (ns : List Int), vs = [.ref a] ∧ SqL K H a (ns.map V.int) ∧ ns.length ≤ 19000 ∧ giveL ((seconds ns).map V.int) H Q
section
variable {P : Program} {w : World} {K : PySem.W.Frag} {mg : Str → Option Value} {base : Heap}
theorem scFirsts : FnScope ["row", "k"] ["row"] (defScope sFirsts) := ⟨rfl, rfl, rfl, by decide +kernel, rfl, by decide +kernel, by decide +kernel⟩
theorem ok_firsts {f : Addr} {fd : FuncData} (F : Fun K "companies_of" "companies_of" sFirsts f fd) (T : Txt mg) : FnOk P w K mg base CX0 1 f fd ["row"] (spFirsts K) := by
  refine F.ok scFirsts (fun vs H Q E h => ?_) (fun cdv A outer s H vs Q E hr h => ?_)
  · obtain ⟨a, ns, rfl, _⟩ := h
    rfl
  · obtain ⟨a, ns, rfl, hS, hlen, k⟩ := h
    refine ⟨_, pss_one (ps_ret (pe_lc rfl scFirsts.nd (pi_range3 rfl T.range (pa_cons pe_int (pa_cons (pe_callB call_len_seq (by rfl) T.len PySem.boot_len (pa_cons (pv 0) pa_nil)) (pa_cons pe_int pa_nil))))
      (by exact blkOk_by (N := ["row", "k"]) (sc := defScope sFirsts) (own := [("k", 1)]) (by decide +kernel)) (fun _ _ _ _ _ => pg_name (i := 1) scFirsts.nd rfl (Or.inl rfl)) (fun _ _ _ _ _ => pts_nil) (fun _ _ _ _ _ => pe_ix (show IxR _ (rIxL K) from ix_list) (pv 0) (pv 1) (fun _ _ => rfl)))), ?_⟩
    refine ⟨_, rfl, a, _, rfl, .inl hS, 0, _, 2, _, rfl, (by rw [List.length_map]; exact rangeC_two 0 ns.length (by omega) hlen), fun D hD => ?_⟩
    refine lc_rangeC (fun i H' => H' = upd H D (.lst (((firsts ns).map V.int).take i))) (by rw [List.take_zero]) ?_ ?_
    · rintro i H' hi rfl
      have hi2 : 2 * i < ns.length := by omega
      have hf : ((firsts ns).map V.int)[i]? = some (V.int (ns.getD (2 * i) 0)) := by
        unfold firsts
        rw [List.getElem?_map, List.getElem?_map, List.getElem?_range (by omega)]
        rfl
      refine ⟨rfl, ⟨_, rfl, _, rfl, a, _, _, V.int (ns.getD (2 * i) 0), rfl, rfl, (Same.new hD).seq hS, at_of (j := 2 * i) (by omega) (ints_at hi2), _, upd_same, take_lt ?_, ?_⟩⟩
      · rw [List.length_map, firsts, List.length_map, List.length_range]; omega
      · exact lc_push hf
    · rintro H' rfl
      refine k _ D (Same.new hD) hD ?_
      rw [upd_same, List.take_of_length_le]
      rw [List.length_map, firsts, List.length_map, List.length_range]
      omega
theorem scSeconds : FnScope ["row", "k"] ["row"] (defScope sSeconds) := ⟨rfl, rfl, rfl, by decide +kernel, rfl, by decide +kernel, by decide +kernel⟩
theorem ok_seconds {f : Addr} {fd : FuncData} (F : Fun K "weights_of" "weights_of" sSeconds f fd) (T : Txt mg) : FnOk P w K mg base CX0 1 f fd ["row"] (spSeconds K) := by
  refine F.ok scSeconds (fun vs H Q E h => ?_) (fun cdv A outer s H vs Q E hr h => ?_)
  · obtain ⟨a, ns, rfl, _⟩ := h
    rfl
  · obtain ⟨a, ns, rfl, hS, hlen, k⟩ := h
    refine ⟨_, pss_one (ps_ret (pe_lc rfl scSeconds.nd (pi_range3 rfl T.range (pa_cons pe_int (pa_cons (pe_callB call_len_seq (by rfl) T.len PySem.boot_len (pa_cons (pv 0) pa_nil)) (pa_cons pe_int pa_nil))))
      (by exact blkOk_by (N := ["row", "k"]) (sc := defScope sSeconds) (own := [("k", 1)]) (by decide +kernel)) (fun _ _ _ _ _ => pg_name (i := 1) scSeconds.nd rfl (Or.inl rfl)) (fun _ _ _ _ _ => pts_nil) (fun _ _ _ _ _ => pe_ix (show IxR _ (rIxL K) from ix_list) (pv 0) (pv 1) (fun _ _ => rfl)))), ?_⟩
    refine ⟨_, rfl, a, _, rfl, .inl hS, 1, _, 2, _, rfl, (by rw [List.length_map]; exact rangeC_two 1 ns.length (by omega) hlen), fun D hD => ?_⟩
    refine lc_rangeC (fun i H' => H' = upd H D (.lst (((seconds ns).map V.int).take i))) (by rw [List.take_zero]) ?_ ?_
    · rintro i H' hi rfl
      have hi2 : 2 * i + 1 < ns.length := by omega
      have hf : ((seconds ns).map V.int)[i]? = some (V.int (ns.getD (2 * i + 1) 0)) := by
        unfold seconds
        rw [List.getElem?_map, List.getElem?_map, List.getElem?_range (by omega)]
        rfl
      refine ⟨rfl, ⟨_, rfl, _, rfl, a, _, _, V.int (ns.getD (2 * i + 1) 0), rfl, rfl, (Same.new hD).seq hS, at_of (j := 2 * i + 1) (by omega) (ints_at hi2), _, upd_same, take_lt ?_, ?_⟩⟩
      · rw [List.length_map, seconds, List.length_map, List.length_range]; omega
      · exact lc_push hf
    · rintro H' rfl
      refine k _ D (Same.new hD) hD ?_
      rw [upd_same, List.take_of_length_le]
      rw [List.length_map, seconds, List.length_map, List.length_range]
      omega
end
end Ew
end
section
set_option Elab.async false
set_option linter.all false
set_option maxRecDepth 100000
set_option maxHeartbeats 2000000
namespace Ew
open PySem PySem.Spec PyProof.Rows L2
abbrev sAreC : Stmt := top 18
abbrev sAreW : Stmt := top 19
def okCs (ns : List Int) : Bool := ns.all (fun c => decide (c < 6)) && decide ns.Nodup
def okWs (ns : List Int) : Bool := ns.all fun c => decide (1 ≤ c) && decide (c ≤ 65535)
def spAreC (K : PySem.W.Frag) : Sp := fun vs H Q _ => ∃ (a : Addr) (ns : List Int), vs = [.ref a] ∧ SqL K H a (ns.map V.int) ∧ ns.length ≤ 19000 ∧ giveV (.bl (okCs ns)) H Q
def spAreW (K : PySem.W.Frag) : Sp := fun vs H Q _ => ∃ (a : Addr) (ns : List Int), vs = [.ref a] ∧ SqL K H a (ns.map V.int) ∧ ns.length ≤ 19000 ∧ giveV (.bl (okWs ns)) H Q
theorem okCs_big {ns : List Int} {z : Int} (h : z ∈ ns) (hz : 6 ≤ z) : okCs ns = false := by
  unfold okCs
  cases e : ns.all (fun c => decide (c < 6)) with
  | false => rfl
  | true =>
    have := of_decide_eq_true (List.all_eq_true.mp e z h)
    omega
theorem okCs_dup {ns : List Int} {z : Int} {i : Nat} (h : ns[i]? = some z) (hz : z ∈ ns.take i) : okCs ns = false := by
  unfold okCs
  have : ¬ ns.Nodup := fun nd => by
    obtain ⟨j, hj, e⟩ := List.getElem_of_mem hz
    rw [List.length_take] at hj
    have e2 : ns[j]? = some z := by
      rw [List.getElem_take] at e
      rw [← e]
      exact List.getElem?_eq_getElem (by omega)
    have := nd_ix nd h e2
    omega
  rw [decide_eq_false this, Bool.and_false]
theorem okCs_snoc {ns : List Int} {z : Int} (h : okCs ns = true) (h6 : z < 6) (hz : z ∉ ns) : okCs (ns ++ [z]) = true := by
  unfold okCs at *
  rw [Bool.and_eq_true, decide_eq_true_eq] at *
  refine ⟨?_, ?_⟩
  · rw [List.all_append, h.1, Bool.true_and]
    simp [h6]
  · rw [List.nodup_append]
    refine ⟨h.2, by simp, fun a ha b hb e => ?_⟩
    rw [List.mem_singleton] at hb
    rw [e, hb] at ha
    exact hz ha
section
variable {P : Program} {w : World} {K : PySem.W.Frag} {mg : Str → Option Value} {base : Heap}
theorem scAreC : FnScope ["companies", "seen", "company"] ["companies"] (defScope sAreC) := ⟨rfl, rfl, rfl, by decide +kernel, rfl, by decide +kernel, by decide +kernel⟩
theorem ok_areC {f : Addr} {fd : FuncData} (F : Fun K "are_companies" "are_companies" sAreC f fd) (T : Txt mg) : FnOk P w K mg base CX0 1 f fd ["companies"] (spAreC K) := by
  obtain ⟨tC6, hC6⟩ := T.mComp
  refine F.ok scAreC (fun vs H Q E h => ?_) (fun cdv A outer s H vs Q E hr h => ?_)
  · obtain ⟨a, ns, rfl, _⟩ := h
    rfl
  · obtain ⟨a, ns, rfl, hS, hlen, k⟩ := h
    refine ⟨_, pss_cons (ps_set (i := 1) scAreC.nd rfl (Or.inl rfl) (pe_lst pa_nil))
      (pss_cons (ps_for PassesOwn.never rfl (pi_list (pv 0)) (pg_name (i := 2) scAreC.nd rfl (Or.inl rfl))
        (pss_cons (ps_if (PW.pt (pw_or (pt_cmpR op_ge (pv 2) (pe_glob (v := .int 6) rfl hC6 ⟨_, rfl⟩) (nomark _)) (pw_or1 (pt_cmpR op_in_seq (pv 2) (pv 1) (by rfl))))) (pss_one (ps_ret pe_bl)) pss_nil)
        (pss_one (ps_expr (pe_bm PySem.F.plainAttrs_list PySem.F.slot_list_append PySem.F.type_list_append mt_append (pv 1) (pa_cons (pv 2) pa_nil))))))
      (pss_one (ps_ret pe_bl))), ?_⟩
    refine ⟨Nat.zero_le _, fun q hq => ?_⟩
    refine ⟨_, rfl, a, rfl, ⟨_, (Same.new hq).seq hS⟩, for_list (K := K) (a := a) (xs := ns.map V.int)
      (fun i σ H' => ∃ v : Option V, σ = [some (.ref a), some (.ref q), v] ∧ H' = upd H q (.lst ((ns.take i).map V.int)) ∧ okCs (ns.take i) = true)
      ⟨none, rfl, by simp, by rfl⟩ (fun i σ H' _ ⟨_, _, e, _⟩ => by rw [e]; exact (Same.new hq).seq hS) ?_ ?_⟩
    · rintro i y σ H' hi ⟨v, rfl, rfl, hok⟩
      obtain ⟨z, hz, rfl⟩ := int_at hi
      have ht := take_snoc hz
      have hzm : z ∈ ns := List.mem_of_getElem? hz
      refine ⟨_, rfl, _, _, rfl, rfl, _, rfl, ite2 (fun h6 => ?_) (fun h6 => ?_)⟩
      · -- too great
        have e := k _ (Same.new (o := .lst ((ns.take i).map V.int)) hq)
        rw [okCs_big hzm (of_decide_eq_true h6)] at e
        exact iteT e
      · refine ⟨_, rfl, _, rfl, q, _, rfl, .inl (SqL.of upd_same), rfl, flat_ints _, _, rfl, ite2 (fun hin => ?_) (fun hin => ?_)⟩
        · have e := k _ (Same.new (o := .lst ((ns.take i).map V.int)) hq)
          rw [okCs_dup hz (of_decide_eq_true (by rw [← inV_int]; exact hin))] at e
          exact e
        · refine ⟨_, rfl, .inl ⟨rfl, _, SqL.of upd_same⟩, _, rfl, q, _, _, rfl, rfl, upd_same, ?_, _, rfl, ?_, ?_⟩
          · rw [List.map_take]; exact take_lt (by rw [List.length_map]; omega)
          · rw [upd_upd, ht, List.map_append]; rfl
          · rw [ht]
            refine okCs_snoc hok (by have : ¬ 6 ≤ z := fun c => h6 (decide_eq_true c); omega) fun c => hin ?_
            show inV _ _ = true
            rw [inV_int, decide_eq_true c]
    · rintro σ H' ⟨v, rfl, rfl, hok⟩
      rw [List.length_map, List.take_length] at hok
      have e := k _ (Same.new (o := .lst ((ns.take (ns.map V.int).length).map V.int)) hq)
      rw [hok] at e
      exact e
theorem okWs_bad {ns : List Int} {z : Int} (h : z ∈ ns) (hz : z < 1 ∨ 65535 < z) : okWs ns = false := by
  cases e : okWs ns with
  | false => rfl
  | true =>
    have := List.all_eq_true.mp e z h
    rw [Bool.and_eq_true, decide_eq_true_eq, decide_eq_true_eq] at this
    omega
theorem scAreW : FnScope ["weights", "weight"] ["weights"] (defScope sAreW) := ⟨rfl, rfl, rfl, by decide +kernel, rfl, by decide +kernel, by decide +kernel⟩
theorem ok_areW {f : Addr} {fd : FuncData} (F : Fun K "are_weights" "are_weights" sAreW f fd) (T : Txt mg) : FnOk P w K mg base CX0 1 f fd ["weights"] (spAreW K) := by
  obtain ⟨tW, hW⟩ := T.mWeight
  refine F.ok scAreW (fun vs H Q E h => ?_) (fun cdv A outer s H vs Q E hr h => ?_)
  · obtain ⟨a, ns, rfl, _⟩ := h
    rfl
  · obtain ⟨a, ns, rfl, hS, hlen, k⟩ := h
    refine ⟨_, pss_cons (ps_for PassesOwn.never rfl (pi_list (pv 0)) (pg_name (i := 1) scAreW.nd rfl (Or.inl rfl))
        (pss_one (ps_if (PW.pt (pw_or (pt_cmpR op_lt (pv 1) pe_int (nomark _)) (pw_or1 (pt_cmpR op_gt (pv 1) (pe_glob (v := .int 65535) rfl hW ⟨_, rfl⟩) (nomark _))))) (pss_one (ps_ret pe_bl)) pss_nil)))
      (pss_one (ps_ret pe_bl)), ?_⟩
    refine ⟨_, rfl, a, rfl, ⟨_, hS⟩, for_list (K := K) (a := a) (xs := ns.map V.int)
      (fun i σ H' => ∃ v : Option V, σ = [some (.ref a), v] ∧ H' = H ∧ okWs (ns.take i) = true)
      ⟨none, rfl, rfl, by rfl⟩ (fun i σ H' _ ⟨_, _, e, _⟩ => by rw [e]; exact hS) ?_ ?_⟩
    · rintro i y σ H' hi ⟨v, rfl, rfl, hok⟩
      obtain ⟨z, hz, rfl⟩ := int_at hi
      have hzm : z ∈ ns := List.mem_of_getElem? hz
      have e := k _ (Same.rfl' H')
      refine ⟨_, rfl, _, _, rfl, rfl, _, rfl, ite2 (fun h1 => ?_) (fun h1 => ?_)⟩
      · rw [okWs_bad hzm (.inl (of_decide_eq_true h1))] at e
        exact iteT e
      · refine ⟨_, rfl, _, _, rfl, rfl, _, rfl, ite2 (fun h2 => ?_) (fun h2 => ?_)⟩
        · rw [okWs_bad hzm (.inr (of_decide_eq_true h2))] at e
          exact e
        · refine ⟨_, rfl, rfl, ?_⟩
          rw [take_snoc hz]
          unfold okWs at hok ⊢
          rw [List.all_append, hok]
          have g1 : 1 ≤ z := by have : ¬ z < 1 := fun c => h1 (decide_eq_true c); omega
          have g2 : z ≤ 65535 := by have : ¬ 65535 < z := fun c => h2 (decide_eq_true c); omega
          simp [g1, g2]
    · rintro σ H' ⟨v, rfl, rfl, hok⟩
      rw [List.length_map, List.take_length] at hok
      have e := k _ (Same.rfl' H')
      rw [hok] at e
      exact e
end
end Ew
end
section
set_option Elab.async false
set_option linter.all false
set_option maxRecDepth 100000
set_option maxHeartbeats 2000000
namespace Ew
open PySem PySem.Spec PyProof.Rows L2
abbrev sShared : Stmt := top 20
abbrev sAhead : Stmt := top 21
def isAhead (rs : List Int) (j i : Nat) : Bool := decide (rs.getD j 0 < rs.getD i 0) || (rs.getD j 0 == rs.getD i 0 && decide (i < j))
def aheadTo (rs : List Int) (j n : Nat) : Nat := ((List.range n).filter (isAhead rs j)).length
def aheadI (rs : List Int) (j : Nat) : Nat := aheadTo rs j rs.length
theorem aheadTo_succ (rs : List Int) (j n : Nat) : aheadTo rs j (n + 1) = aheadTo rs j n + if isAhead rs j n = true then 1 else 0 := by
  unfold aheadTo
  rw [List.range_succ, List.filter_append, List.length_append, List.filter_cons]
  split <;> rfl
def partsI (c : Int) (ws : List Int) : List Int := ws.map fun w => c * w / ws.sum
def restsI (c : Int) (ws : List Int) : List Int := ws.map fun w => c * w % ws.sum
def sharesI (c : Int) (ws : List Int) : List Int := (List.range ws.length).map fun i => (partsI c ws).getD i 0 + if ((aheadI (restsI c ws) i : Nat) : Int) < c - (partsI c ws).sum then 1 else 0
def spAhead (K : PySem.W.Frag) : Sp := fun vs H Q _ => ∃ (a : Addr) (ns : List Int) (j : Nat), vs = [.ref a, .int (j : Nat)] ∧ SqL K H a (ns.map V.int) ∧ j < ns.length ∧ giveV (.int (aheadI ns j : Nat)) H Q
def spShared (K : PySem.W.Frag) : Sp := fun vs H Q _ => ∃ (c : Int) (a : Addr) (ws : List Int), vs = [.int c, .ref a] ∧ SqL K H a (ws.map V.int) ∧ (0 ≤ c ∧ c ≤ 1099511627776) ∧ ws.length ≤ 6 ∧ 0 < ws.sum ∧ ws.sum < 1073741824 ∧ giveL ((sharesI c ws).map V.int) H Q
section
variable {P : Program} {w : World} {K : PySem.W.Frag} {mg : Str → Option Value} {base : Heap}
theorem scAhead : FnScope ["rests", "place", "ahead", "other", "rest"] ["rests", "place"] (defScope sAhead) := ⟨rfl, rfl, rfl, by decide +kernel, rfl, by decide +kernel, by decide +kernel⟩
theorem ok_ahead {f : Addr} {fd : FuncData} (F : Fun K "how_many_ahead" "how_many_ahead" sAhead f fd) (T : Txt mg) : FnOk P w K mg base CX0 1 f fd ["rests", "place"] (spAhead K) := by
  refine F.ok scAhead (fun vs H Q E h => ?_) (fun cdv A outer s H vs Q E hr h => ?_)
  · obtain ⟨a, ns, j, rfl, _⟩ := h
    rfl
  · obtain ⟨a, ns, j, rfl, hS, hj, k⟩ := h
    refine ⟨_, pss_cons (ps_set (i := 2) scAhead.nd rfl (Or.inl rfl) pe_int)
      (pss_cons (ps_for PassesOwn.never rfl (pi_enum rfl T.enum (pa_cons (pv 0) pa_nil)) (pg_tup rfl (pgs_cons (pg_name (i := 3) scAhead.nd rfl (Or.inl rfl)) (pgs_cons (pg_name (i := 4) scAhead.nd rfl (Or.inl rfl)) pgs_nil)))
        (pss_one (ps_if (PW.pt (pw_or (pt_cmpR op_gt (pv 4) (pe_ix ix_list (pv 0) (pv 1) (fun _ _ => rfl)) (nomark _))
            (pw_or1 (PW.pt (pw_and (pt_cmpR op_eq (pv 4) (pe_ix ix_list (pv 0) (pv 1) (fun _ _ => rfl)) (nomark _)) (pw_and1 (pt_cmpR op_lt (pv 3) (pv 1) (nomark _))))))))
          (pss_one (ps_set (i := 2) scAhead.nd rfl (Or.inl rfl) (pe_op op_add (pv 2) pe_int))) pss_nil)))
      (pss_one (ps_ret (pv 2)))), ?_⟩
    refine ⟨_, rfl, a, _, rfl, hS, for_enum (K := K) (a := a) (xs := ns.map V.int)
      (fun i σ H' => ∃ v3 v4 : Option V, σ = [some (.ref a), some (.int (j : Nat)), some (.int (aheadTo ns j i : Nat)), v3, v4] ∧ Same H H')
      ⟨none, none, rfl, Same.rfl' H⟩ (fun i σ H' _ ⟨_, _, _, e⟩ => e.seq hS) ?_ ?_⟩
    · rintro i y σ H' T' hi ⟨v3, v4, rfl, hs'⟩ hT
      obtain ⟨z, hz, rfl⟩ := int_at hi
      have hs2 : Same H (upd H' T' (.tup [.int (i : Nat), .int z])) := hs'.trans (Same.new hT)
      have ez : ns.getD i 0 = z := by rw [List.getD_eq_getElem?_getD, hz]; rfl
      have step := aheadTo_succ ns j i
      unfold isAhead at step
      rw [ez] at step
      have item := at_of (xs := ns.map V.int) (j := j) rfl (ints_at hj)
      refine ⟨T', _, rfl, SqT.of upd_same, rfl, _, _, rfl, _, _, rfl, rfl, ?_⟩
      refine ⟨_, rfl, _, rfl, _, rfl, a, _, _, _, rfl, rfl, hs2.seq hS, item, _, _, rfl, rfl, _, rfl, ite2 (fun h1 => ?_) (fun h1 => ?_)⟩
      · refine iteT ⟨_, rfl, _, _, rfl, rfl, some (.int (i : Nat)), some (.int z), ?_, hs2⟩
        have : (decide (ns.getD j 0 < z) || (ns.getD j 0 == z && decide (i < j))) = true := by
          rw [show decide (ns.getD j 0 < z) = true from h1]; rfl
        rw [if_pos this] at step
        rw [step]
        rfl
      · refine ⟨_, rfl, _, rfl, _, rfl, a, _, _, _, rfl, rfl, hs2.seq hS, item, rfl, _, rfl, ite2 (fun h2 => ?_) (fun h2 => ?_)⟩
        · have e2 : z = ns.getD j 0 := by have := of_decide_eq_true h2; injection this
          refine ⟨_, rfl, _, rfl, _, _, rfl, rfl, _, rfl, ite2 (fun h3 => ?_) (fun h3 => ?_)⟩
          · refine ⟨_, rfl, _, _, rfl, rfl, some (.int (i : Nat)), some (.int z), ?_, hs2⟩
            have h3' : i < j := by have := of_decide_eq_true h3; omega
            rw [if_pos (by rw [← e2, decide_eq_true h3']; simp)] at step
            rw [step]
            rfl
          · refine ⟨some (.int (i : Nat)), some (.int z), ?_, hs2⟩
            have h3' : ¬ i < j := fun c => h3 (decide_eq_true (by omega))
            rw [if_neg (by rw [← e2, decide_eq_false h3']; simp)] at step
            rw [step]
            rfl
        · refine iteF ⟨some (.int (i : Nat)), some (.int z), ?_, hs2⟩
          have n1 : ¬ ns.getD j 0 < z := fun c => h1 (decide_eq_true c)
          have n2 : ¬ ns.getD j 0 = z := fun c => h2 (decide_eq_true (by rw [c]))
          rw [if_neg (by rw [decide_eq_false n1, beq_eq_false_iff_ne.mpr n2]; simp)] at step
          rw [step]
          rfl
    · rintro σ H' ⟨v3, v4, rfl, hs'⟩
      refine ⟨_, rfl, ?_⟩
      rw [List.length_map]
      exact k _ hs'
end
end Ew
end
section
set_option Elab.async false
set_option linter.all false
set_option maxRecDepth 100000
set_option maxHeartbeats 2000000
namespace Ew
open PySem PySem.Spec PyProof.Rows L2
section
variable {P : Program} {w : World} {K : PySem.W.Frag} {mg : Str → Option Value} {base : Heap}
theorem scShared : FnScope ["charge", "weights", "together", "whole_parts", "rests", "left_over", "units", "place", "whole_part", "weight"] ["charge", "weights"] (defScope sShared) := ⟨rfl, rfl, rfl, by decide +kernel, rfl, by decide +kernel, by decide +kernel⟩
theorem ok_shared {f fA : Addr} {fd fdA : FuncData} (F : Fun K "shared" "shared" sShared f fd) (T : Txt mg) (DA : Def K mg "how_many_ahead" sAhead fA fdA ["rests", "place"]) : FnOk P w K mg base CX0 2 f fd ["charge", "weights"] (spShared K) := by
  have GA : FnOk P w K mg base CX0 1 fA fdA ["rests", "place"] (spAhead K) := ok_ahead DA.fn T
  refine F.ok scShared (fun vs H Q E h => ?_) (fun cdv A outer s H vs Q E hr h => ?_)
  · obtain ⟨c, a, ws, rfl, _⟩ := h
    rfl
  · obtain ⟨c, a, ws, rfl, hS, hc, hlen, hs0, hs1, k⟩ := h
    refine ⟨_, pss_cons (ps_set (i := 2) scShared.nd rfl (Or.inr rfl) (pe_callB (cr_sum rfl) (by rfl) T.sum PyProof.Rows.boot_sum (pa_cons (pv 1) pa_nil)))
      (pss_cons (ps_setLc (i := 3) rfl scShared.nd rfl rfl rfl (pi_list (pv 1)) (by exact blkOk_by (N := ["charge", "weights", "together", "whole_parts", "rests", "left_over", "units", "place", "whole_part", "weight"]) (sc := defScope sShared) (own := [("weight", 9)]) (by decide +kernel))
          (fun _ _ _ _ _ => pg_name (i := 9) scShared.nd rfl (Or.inl rfl)) (fun _ _ _ _ _ => pts_nil) (fun _ _ _ _ _ => pe_op op_fdiv (pe_op op_mul (pv 0) (pv 9)) (pv 2)))
      (pss_cons (ps_setLc (i := 4) rfl scShared.nd rfl rfl rfl (pi_list (pv 1)) (by exact blkOk_by (N := ["charge", "weights", "together", "whole_parts", "rests", "left_over", "units", "place", "whole_part", "weight"]) (sc := defScope sShared) (own := [("weight", 9)]) (by decide +kernel))
          (fun _ _ _ _ _ => pg_name (i := 9) scShared.nd rfl (Or.inl rfl)) (fun _ _ _ _ _ => pts_nil) (fun _ _ _ _ _ => pe_op op_mod (pe_op op_mul (pv 0) (pv 9)) (pv 2)))
      (pss_cons (ps_set (i := 5) scShared.nd rfl (Or.inl rfl) (pe_op op_sub (pv 0) (pe_callB (cr_sum rfl) (by rfl) T.sum PyProof.Rows.boot_sum (pa_cons (pv 3) pa_nil))))
      (pss_cons (ps_set (i := 6) scShared.nd rfl (Or.inl rfl) (pe_lst pa_nil))
      (pss_cons (ps_for PassesOwn.never rfl (pi_enum rfl T.enum (pa_cons (pv 3) pa_nil)) (pg_tup rfl (pgs_cons (pg_name (i := 7) scShared.nd rfl (Or.inl rfl)) (pgs_cons (pg_name (i := 8) scShared.nd rfl (Or.inl rfl)) pgs_nil)))
        (pss_one (ps_if (pt_cmpR op_lt (pe_call GA hr rfl DA.gl DA.fn.kp DA.bd .nil pass0 (pa_cons (pv 4) (pa_cons (pv 7) pa_nil))) (pv 5) (nomark _))
          (pss_one (ps_expr (pe_bm PySem.F.plainAttrs_list PySem.F.slot_list_append PySem.F.type_list_append mt_append (pv 6) (pa_cons (pe_op op_add (pv 8) pe_int) pa_nil))))
          (pss_one (ps_expr (pe_bm PySem.F.plainAttrs_list PySem.F.slot_list_append PySem.F.type_list_append mt_append (pv 6) (pa_cons (pv 8) pa_nil)))))))
      (pss_one (ps_ret (pv 6)))))))), ?_⟩
    refine ⟨_, rfl, a, ws, rfl, hS, ?_⟩
    -- whole_parts
    refine ⟨_, rfl, a, rfl, ⟨_, hS⟩, fun D1 hD1 => lc_list (K := K) (xs := ws.map V.int) (fun i H' => H' = upd H D1 (.lst (((partsI c ws).map V.int).take i))) (by rw [List.take_zero]) (fun i H' _ e => by rw [e]; exact (Same.new hD1).seq hS) ?_ ?_⟩
    · rintro i y H' hi rfl
      obtain ⟨z, hz, rfl⟩ := int_at hi
      refine ⟨rfl, ⟨_, rfl, _, rfl, _, _, rfl, rfl, .inl ⟨by omega, by omega⟩, _, rfl, _, _, rfl, rfl, ⟨hs0, hs1⟩, _, upd_same, take_lt ?_, ?_⟩⟩
      · rw [List.length_map, partsI, List.length_map]; omega
      · refine lc_push ?_
        rw [partsI, List.map_map, List.getElem?_map, hz]
        rfl
    rintro H1 rfl
    rw [List.take_of_length_le (by rw [List.length_map, List.length_map, partsI, List.length_map]; omega)]
    have s1 := Same.new (o := .lst ((partsI c ws).map V.int)) hD1
    generalize hH1 : upd H D1 (.lst ((partsI c ws).map V.int)) = H1 at s1
    have d1 : H1 D1 = some (.lst ((partsI c ws).map V.int)) := by rw [← hH1]; exact upd_same
    -- rests
    refine ⟨_, rfl, a, rfl, ⟨_, s1.seq hS⟩, fun D2 hD2 => lc_list (K := K) (xs := ws.map V.int) (fun i H' => H' = upd H1 D2 (.lst (((restsI c ws).map V.int).take i))) (by rw [List.take_zero]) (fun i H' _ e => by rw [e]; exact (Same.new hD2).seq (s1.seq hS)) ?_ ?_⟩
    · rintro i y H' hi rfl
      obtain ⟨z, hz, rfl⟩ := int_at hi
      refine ⟨rfl, ⟨_, rfl, _, rfl, _, _, rfl, rfl, .inl ⟨by omega, by omega⟩, _, rfl, _, _, rfl, rfl, hs0, _, upd_same, take_lt ?_, ?_⟩⟩
      · rw [List.length_map, restsI, List.length_map]; omega
      · refine lc_push ?_
        rw [restsI, List.map_map, List.getElem?_map, hz]
        rfl
    rintro H2 rfl
    rw [List.take_of_length_le (by rw [List.length_map, List.length_map, restsI, List.length_map]; omega)]
    have s2 := Same.new (o := .lst ((restsI c ws).map V.int)) hD2
    generalize hH2 : upd H1 D2 (.lst ((restsI c ws).map V.int)) = H2 at s2
    have d2 : H2 D2 = some (.lst ((restsI c ws).map V.int)) := by rw [← hH2]; exact upd_same
    have d12 := s2 _ _ d1
    -- left_over, units
    refine ⟨_, rfl, _, rfl, D1, partsI c ws, rfl, SqL.of d12, _, _, rfl, rfl, Nat.zero_le _, fun q hq => ?_⟩
    have s3 := Same.new (o := .lst []) hq
    have hql : ∀ {b o}, H2 b = some o → b ≠ q := fun e => ne_of_none e hq
    have ss : Same H H2 := s1.trans s2
    have lp : (partsI c ws).length = ws.length := by rw [partsI, List.length_map]
    have lr : (restsI c ws).length = ws.length := by rw [restsI, List.length_map]
    refine ⟨_, rfl, D1, _, rfl, SqL.of (s3 _ _ d12), for_enum (K := K) (a := D1) (xs := (partsI c ws).map V.int)
      (fun i σ H' => ∃ v7 v8 : Option V, σ = [some (.int c), some (.ref a), some (.int ws.sum), some (.ref D1), some (.ref D2), some (.int (c - (partsI c ws).sum)), some (.ref q), v7, v8, none] ∧ Same H2 H' ∧ H' q = some (.lst (((sharesI c ws).map V.int).take i)))
      ⟨none, none, rfl, s3, by rw [upd_same, List.take_zero]⟩ (fun i σ H' _ ⟨_, _, _, e, _⟩ => SqL.of (e _ _ d12)) ?_ ?_⟩
    · rintro i y σ H' T' hi ⟨v7, v8, rfl, s4, hqq⟩ hT
      obtain ⟨z, hz, rfl⟩ := int_at hi
      have li : i < ws.length := by
        have := (List.getElem?_eq_some_iff.mp hz).1
        omega
      have ez : (partsI c ws).getD i 0 = z := by rw [List.getD_eq_getElem?_getD, hz]; rfl
      have hsh : ((sharesI c ws).map V.int)[i]? = some (V.int (z + if ((aheadI (restsI c ws) i : Nat) : Int) < c - (partsI c ws).sum then 1 else 0)) := by
        unfold sharesI
        rw [List.map_map, List.getElem?_map, List.getElem?_range li, ← ez]
        rfl
      have s5 : Same H' (upd H' T' (.tup [.int (i : Nat), .int z])) := Same.new hT
      refine ⟨T', _, rfl, SqT.of upd_same, rfl, _, _, rfl, _, _, rfl, rfl, ?_⟩
      refine ⟨_, rfl, _, rfl, D2, restsI c ws, i, rfl, SqL.of (s5 _ _ (s4 _ _ d2)), by omega, fun H5 s6 => ?_⟩
      have s7 : Same H2 H5 := s4.trans (s5.trans s6)
      have hq5 := s6 _ _ (s5 _ _ hqq)
      refine ⟨_, rfl, _, _, rfl, rfl, _, rfl, ite2 (fun h1 => ?_) (fun h1 => ?_)⟩
      · rw [if_pos (of_decide_eq_true h1)] at hsh
        refine ⟨_, rfl, .inl ⟨rfl, _, SqL.of hq5⟩, _, rfl, _, _, rfl, rfl, q, _, _, rfl, rfl, hq5, take_lt ?_, some (.int (i : Nat)), some (.int z), rfl, fun b o e => ?_, ?_⟩
        · rw [List.length_map, sharesI, List.length_map, List.length_range]; omega
        · rw [upd_ne (hql e)]; exact s7 _ _ e
        · rw [upd_same, take_snoc hsh]
      · rw [if_neg (fun z => h1 (decide_eq_true z)), Int.add_zero] at hsh
        refine ⟨_, rfl, .inl ⟨rfl, _, SqL.of hq5⟩, _, rfl, q, _, _, rfl, rfl, hq5, take_lt ?_, some (.int (i : Nat)), some (.int z), rfl, fun b o e => ?_, ?_⟩
        · rw [List.length_map, sharesI, List.length_map, List.length_range]; omega
        · rw [upd_ne (hql e)]; exact s7 _ _ e
        · rw [upd_same, take_snoc hsh]
    · rintro σ H' ⟨v7, v8, rfl, s4, hqq⟩
      refine ⟨_, rfl, ?_⟩
      rw [List.take_of_length_le (by rw [List.length_map, List.length_map, sharesI, List.length_map, List.length_range]; omega)] at hqq
      exact k _ q (ss.trans s4) (ss.free hq) hqq
end
end Ew
end
section
set_option Elab.async false
set_option linter.all false
set_option maxRecDepth 100000
set_option maxHeartbeats 2000000
namespace Ew
open PySem PySem.Spec PyProof.Rows L2
abbrev sCan : Stmt := top 17
def canShare (c : Int) (ns : List Int) : Bool := decide (c ≤ 1099511627776) && (decide (ns.length % 2 = 0 ∧ ns.length ≠ 0 ∧ ns.length ≤ 12) && (okCs (firsts ns) && okWs (seconds ns)))
def spCan (K : PySem.W.Frag) : Sp := fun vs H Q _ => ∃ (c : Int) (a : Addr) (ns : List Int), vs = [.int c, .ref a] ∧ SqL K H a (ns.map V.int) ∧ ns.length ≤ 19000 ∧ giveV (.bl (canShare c ns)) H Q
section
variable {P : Program} {w : World} {K : PySem.W.Frag} {mg : Str → Option Value} {base : Heap}
theorem scCan : FnScope ["charge", "row"] ["charge", "row"] (defScope sCan) := ⟨rfl, rfl, rfl, by decide +kernel, rfl, by decide +kernel, by decide +kernel⟩
theorem ok_can {f f1 f2 f3 f4 : Addr} {fd fd1 fd2 fd3 fd4 : FuncData} (F : Fun K "can_be_shared" "can_be_shared" sCan f fd) (T : Txt mg)
    (D1 : Def K mg "companies_of" sFirsts f1 fd1 ["row"]) (D2 : Def K mg "weights_of" sSeconds f2 fd2 ["row"]) (D3 : Def K mg "are_companies" sAreC f3 fd3 ["companies"]) (D4 : Def K mg "are_weights" sAreW f4 fd4 ["weights"]) :
    FnOk P w K mg base CX0 2 f fd ["charge", "row"] (spCan K) := by
  have G1 : FnOk P w K mg base CX0 1 f1 fd1 ["row"] (spFirsts K) := ok_firsts D1.fn T
  have G2 : FnOk P w K mg base CX0 1 f2 fd2 ["row"] (spSeconds K) := ok_seconds D2.fn T
  have G3 : FnOk P w K mg base CX0 1 f3 fd3 ["companies"] (spAreC K) := ok_areC D3.fn T
  have G4 : FnOk P w K mg base CX0 1 f4 fd4 ["weights"] (spAreW K) := ok_areW D4.fn T
  obtain ⟨t1, h1⟩ := T.mCharge
  obtain ⟨t2, h2⟩ := T.mComp
  refine F.ok scCan (fun vs H Q E h => ?_) (fun cdv A outer s H vs Q E hr h => ?_)
  · obtain ⟨c, a, ws, rfl, _⟩ := h
    rfl
  · obtain ⟨c, a, ns, rfl, hS, hlen, k⟩ := h
    refine ⟨_, pss_cons (ps_if (pt_cmpR op_gt (pv 0) (pe_glob (v := .int 1099511627776) rfl h1 ⟨_, rfl⟩) (nomark _)) (pss_one (ps_ret pe_bl)) pss_nil)
      (pss_cons (ps_if (PW.pt (pw_or (pt_cmpR op_ne (pe_op op_mod (pe_callB call_len_seq (by rfl) T.len PySem.boot_len (pa_cons (pv 1) pa_nil)) pe_int) pe_int (nomark _))
          (pw_or (pt_cmpR op_eq (pe_callB call_len_seq (by rfl) T.len PySem.boot_len (pa_cons (pv 1) pa_nil)) pe_int (nomark _))
          (pw_or1 (pt_cmpR op_gt (pe_callB call_len_seq (by rfl) T.len PySem.boot_len (pa_cons (pv 1) pa_nil)) (pe_op op_mul pe_int (pe_glob (v := .int 6) rfl h2 ⟨_, rfl⟩)) (nomark _))))))
        (pss_one (ps_ret pe_bl)) pss_nil)
      (pss_one (ps_ret (pe_and (pe_call G3 hr rfl D3.gl D3.fn.kp D3.bd .nil pass0 (pa_cons (pe_call G1 hr rfl D1.gl D1.fn.kp D1.bd .nil pass0 (pa_cons (pv 1) pa_nil)) pa_nil))
        (pe_one (pe_call G4 hr rfl D4.gl D4.fn.kp D4.bd .nil pass0 (pa_cons (pe_call G2 hr rfl D2.gl D2.fn.kp D2.bd .nil pass0 (pa_cons (pv 1) pa_nil)) pa_nil))))))), ?_⟩
    have no : canShare c ns = false → Q (.bl false) H := fun e => by
      have z := k _ (Same.rfl' H)
      rw [e] at z
      exact z
    have ll : ((ns.map V.int).length : Int) = (ns.length : Int) := by rw [List.length_map]
    refine ⟨_, rfl, _, _, rfl, rfl, _, rfl, ite2 (fun c1 => ?_) (fun c1 => ?_)⟩
    · refine no ?_
      have := of_decide_eq_true c1
      unfold canShare
      rw [decide_eq_false (by omega)]
      rfl
    have c1' : c ≤ 1099511627776 := by
      have : ¬ (1099511627776 < c) := fun z => c1 (decide_eq_true z)
      omega
    have bad : ¬ (ns.length % 2 = 0 ∧ ns.length ≠ 0 ∧ ns.length ≤ 12) → canShare c ns = false := fun z => by
      unfold canShare
      rw [decide_eq_false z, Bool.false_and, Bool.and_false]
    refine ⟨_, rfl, a, _, rfl, .inl hS, _, _, rfl, rfl, (by show (0 : Int) < 2; decide), rfl, _, rfl, ite2 (fun c2 => ?_) (fun c2 => ?_)⟩
    · refine iteT (no (bad ?_))
      have := neI.mp (show (!decide (V.int (((ns.map V.int).length : Int) % 2) = V.int 0)) = true from c2)
      omega
    have c2' : ns.length % 2 = 0 := by
      apply Classical.byContradiction
      intro e
      exact c2 (neI.mpr (show ((ns.map V.int).length : Int) % 2 ≠ 0 by omega))
    refine ⟨_, rfl, a, _, rfl, .inl hS, rfl, _, rfl, ite2 (fun c3 => ?_) (fun c3 => ?_)⟩
    · refine iteT (no (bad ?_))
      have c3' := of_decide_eq_true c3
      rw [ll] at c3'
      injection c3' with c3'
      omega
    have c3' : ns.length ≠ 0 := fun z => c3 (decide_eq_true (by rw [ll, z]; rfl))
    refine ⟨_, rfl, a, _, rfl, .inl hS, _, _, rfl, rfl, .inl ⟨by decide, by decide⟩, _, _, rfl, rfl, _, rfl, ite2 (fun c4 => ?_) (fun c4 => ?_)⟩
    · refine no (bad ?_)
      have := of_decide_eq_true c4
      omega
    have c4' : ns.length ≤ 12 := by
      have : ¬ ((2 : Int) * 6 < ((ns.map V.int).length : Int)) := fun z => c4 (decide_eq_true z)
      omega
    have fin : canShare c ns = (okCs (firsts ns) && okWs (seconds ns)) := by
      unfold canShare
      rw [decide_eq_true c1', decide_eq_true ⟨c2', c3', c4'⟩]
      rfl
    have lf : (firsts ns).length ≤ 19000 := by rw [firsts, List.length_map, List.length_range]; omega
    have lsn : (seconds ns).length ≤ 19000 := by rw [seconds, List.length_map, List.length_range]; omega
    refine ⟨_, rfl, a, ns, rfl, hS, hlen, fun H1 p1 s1 n1 e1 => ?_⟩
    refine ⟨p1, _, rfl, SqL.of e1, lf, fun H2 s2 => ?_⟩
    refine ⟨_, rfl, ite2 (fun c5 => ?_) (fun c5 => ?_)⟩
    · refine ⟨_, rfl, a, ns, rfl, (s1.trans s2).seq hS, hlen, fun H3 p3 s3 n3 e3 => ?_⟩
      refine ⟨p3, _, rfl, SqL.of e3, lsn, fun H4 s4 => ?_⟩
      have z := k _ (((s1.trans s2).trans s3).trans s4)
      rw [fin, c5, Bool.true_and] at z
      exact z
    · have z := k _ (s1.trans s2)
      rw [fin, Bool.eq_false_iff.mpr c5, Bool.false_and] at z
      exact z
end
end Ew
end
section
set_option Elab.async false
set_option linter.all false
set_option maxRecDepth 100000
set_option maxHeartbeats 2000000
namespace Ew
open PySem PySem.Spec PyProof.Rows L2
abbrev cAcc : Stmt := top 3
abbrev sAInit : Stmt := inClass cAcc 0
abbrev sAPos : Stmt := inClass cAcc 1
abbrev sAFour : Stmt := inClass cAcc 2
abbrev sAWc : Stmt := inClass cAcc 3
abbrev sAWg : Stmt := inClass cAcc 4
abbrev sAWp : Stmt := inClass cAcc 5
abbrev sABd : Stmt := inClass cAcc 6
/-- a company's numbers: collected, got, paid -/
structure A3 where
  c : Int
  g : Int
  p : Int
def A3.pos (x : A3) : Int := x.g - x.c + x.p
def af (x : A3) : List (Str × V) := putF "paid" (.int x.p) (putF "got" (.int x.g) (putF "collected" (.int x.c) []))
theorem af_c (x : A3) : (af x).lookup ("collected" : Str) = some (.int x.c) := by
  unfold af
  rw [lookup_putF, if_neg (by decide), lookup_putF, if_neg (by decide), lookup_putF, if_pos rfl]
theorem af_g (x : A3) : (af x).lookup ("got" : Str) = some (.int x.g) := by
  unfold af
  rw [lookup_putF, if_neg (by decide), lookup_putF, if_pos rfl]
theorem af_p (x : A3) : (af x).lookup ("paid" : Str) = some (.int x.p) := by
  unfold af
  rw [lookup_putF, if_pos rfl]
theorem af_no (x : A3) {m : Str} (h1 : ¬ m = "collected") (h2 : ¬ m = "got") (h3 : ¬ m = "paid") : (af x).lookup m = none := by
  unfold af
  rw [lookup_putF, if_neg h3, lookup_putF, if_neg h2, lookup_putF, if_neg h1]
  all_goals rfl
/-- an Account with these numbers stands at a -/
def AccAt (C : Addr) (H : Hp) (a : Addr) (x : A3) : Prop := ∃ dx, H a = some (.ins C dx (af x))
theorem AccAt.same {C : Addr} {H H' : Hp} {a : Addr} {x : A3} (h : AccAt C H a x) (s : Same H H') : AccAt C H' a x := by
  obtain ⟨dx, e⟩ := h
  exact ⟨dx, s _ _ e⟩
/-- all but b is as it was -/
def Keep (b : Addr) (H H' : Hp) : Prop := ∀ c o, H c = some o → c ≠ b → H' c = some o
structure TA (K : PySem.W.Frag) (mg : Str → Option Value) (C : Addr) : Prop where
  cl : Cls K C
  nC : NoAttr K C "collected"
  nG : NoAttr K C "got"
  nP : NoAttr K C "paid"
  gl : mg "Account" = some (.ref C)
  bound : ∃ t, mg "BOUND" = some (.int 1125899906842624 t)
/-- a method of the text -/
structure Mth (K : PySem.W.Frag) (C : Addr) (m qual : Str) (st : Stmt) (f : Addr) (fd : FuncData) (ps : List Str) : Prop where
  fn : Fun K m qual st f fd
  bd : Binds K fd ps []
  mt : Meth K C m f
structure MkI (K : PySem.W.Frag) (C : Addr) (qual : Str) (st : Stmt) (f : Addr) (fd : FuncData) (ps : List Str) : Prop where
  fn : Fun K "__init__" qual st f fd
  bd : Binds K fd ps []
  mak : Mk K C f
/-- a new account comes out -/
def giveA (C : Addr) (x : A3) (H : Hp) (Q : VK) : Prop := ∀ (H' : Hp) (p : Addr), Same H H' → AccAt C H' p x → Q (.ref p) H'
def spAInit (C : Addr) : Sp := fun vs H Q _ => ∃ (p dx : Addr) (x : A3), vs = [.ref p, .int x.c, .int x.g, .int x.p] ∧ H p = some (.ins C dx []) ∧ ∀ H' : Hp, AccAt C H' p x → Keep p H H' → Q .non H'
def spAPos (C : Addr) : Sp := fun vs H Q _ => ∃ (a : Addr) (x : A3), vs = [.ref a] ∧ AccAt C H a x ∧ Q (.int x.pos) H
def spAWc (C : Addr) : Sp := fun vs H Q _ => ∃ (a : Addr) (x : A3) (u : Int), vs = [.ref a, .int u] ∧ AccAt C H a x ∧ giveA C ⟨x.c + u, x.g, x.p⟩ H Q
def spAWg (C : Addr) : Sp := fun vs H Q _ => ∃ (a : Addr) (x : A3) (u : Int), vs = [.ref a, .int u] ∧ AccAt C H a x ∧ giveA C ⟨x.c, x.g + u, x.p⟩ H Q
def spAWp (C : Addr) : Sp := fun vs H Q _ => ∃ (a : Addr) (x : A3) (u : Int), vs = [.ref a, .int u] ∧ AccAt C H a x ∧ giveA C ⟨x.c, x.g, x.p + u⟩ H Q
def smallI (z : Int) : Bool := decide ((if z < 0 then -z else z) ≤ 1125899906842624)
def A3.ok (x : A3) : Bool := (decide (0 ≤ x.c) && decide (0 ≤ x.g)) && (decide (x.c ≤ 1125899906842624) && (decide (x.g ≤ 1125899906842624) && (smallI x.pos && smallI x.p)))
def spABd (C : Addr) : Sp := fun vs H Q _ => ∃ (a : Addr) (x : A3), vs = [.ref a] ∧ AccAt C H a x ∧ Q (.bl x.ok) H
section
variable {P : Program} {w : World} {K : PySem.W.Frag} {mg : Str → Option Value} {base : Heap}
theorem scAInit : FnScope ["self", "collected", "got", "paid"] ["self", "collected", "got", "paid"] (defScope sAInit) := ⟨rfl, rfl, rfl, by decide +kernel, rfl, by decide +kernel, by decide +kernel⟩
theorem ok_AInit {f C : Addr} {fd : FuncData} (F : Fun K "__init__" "Account.__init__" sAInit f fd) (T : TA K mg C) : FnOk P w K mg base CX0 1 f fd ["self", "collected", "got", "paid"] (spAInit C) := by
  refine F.ok scAInit (fun vs H Q E h => ?_) (fun cdv A outer s H vs Q E hr h => ?_)
  · obtain ⟨p, dx, x, rfl, _⟩ := h
    rfl
  · obtain ⟨p, dx, x, rfl, hp, k⟩ := h
    refine ⟨_, pss_cons (ps_fld (pv 0) (pv 1) rfl) (pss_cons (ps_fld (pv 0) (pv 2) rfl) (pss_one (ps_fld (pv 0) (pv 3) rfl))), ?_⟩
    refine ⟨_, rfl, _, rfl, p, C, dx, _, rfl, hp, T.cl, T.nC, (by show 0 < 1000; decide), ?_⟩
    refine ⟨_, rfl, _, rfl, p, C, dx, _, rfl, upd_same, T.cl, T.nG, (by show 1 < 1000; decide), ?_⟩
    refine ⟨_, rfl, _, rfl, p, C, dx, _, rfl, upd_same, T.cl, T.nP, (by show 2 < 1000; decide), ?_⟩
    exact k _ ⟨dx, upd_same⟩ fun b o e hb => by rw [upd_ne hb, upd_ne hb, upd_ne hb]; exact e
theorem scAPos : FnScope ["self"] ["self"] (defScope sAPos) := ⟨rfl, rfl, rfl, by decide +kernel, rfl, by decide +kernel, by decide +kernel⟩
theorem ok_APos {f C : Addr} {fd : FuncData} (F : Fun K "position" "Account.position" sAPos f fd) (T : TA K mg C) : FnOk P w K mg base CX0 1 f fd ["self"] (spAPos C) := by
  refine F.ok scAPos (fun vs H Q E h => ?_) (fun cdv A outer s H vs Q E hr h => ?_)
  · obtain ⟨p, x, rfl, _⟩ := h
    rfl
  · obtain ⟨p, x, rfl, ⟨dx, hp⟩, k⟩ := h
    refine ⟨_, pss_one (ps_ret (pe_op op_add (pe_op op_sub (pe_fld (pv 0) rfl) (pe_fld (pv 0) rfl)) (pe_fld (pv 0) rfl))), ?_⟩
    exact ⟨_, rfl, p, C, dx, _, _, rfl, hp, T.cl, T.nG, af_g _, _, rfl, p, C, dx, _, _, rfl, hp, T.cl, T.nC, af_c _, _, _, rfl, rfl, _, rfl, p, C, dx, _, _, rfl, hp, T.cl, T.nP, af_p _, _, _, rfl, rfl, k⟩
theorem scAWc : FnScope ["self", "units"] ["self", "units"] (defScope sAWc) := ⟨rfl, rfl, rfl, by decide +kernel, rfl, by decide +kernel, by decide +kernel⟩
theorem ok_AWc {f fI C : Addr} {fd fdI : FuncData} (F : Fun K "with_collected" "Account.with_collected" sAWc f fd) (T : TA K mg C) (I : MkI K C "Account.__init__" sAInit fI fdI ["self", "collected", "got", "paid"]) : FnOk P w K mg base CX0 3 f fd ["self", "units"] (spAWc C) := by
  have GI : FnOk P w K mg base CX0 1 fI fdI ["self", "collected", "got", "paid"] (spAInit C) := ok_AInit I.fn T
  refine F.ok scAWc (fun vs H Q E h => ?_) (fun cdv A outer s H vs Q E hr h => ?_)
  · obtain ⟨p, x, u, rfl, _⟩ := h
    rfl
  · obtain ⟨p, x, u, rfl, ⟨dx, hp⟩, k⟩ := h
    refine ⟨_, pss_one (ps_ret (pe_make I.mak GI hr rfl T.gl I.bd .nil pass0 (pa_cons (pe_op op_add (pe_fld (pv 0) rfl) (pv 1)) (pa_cons (pe_fld (pv 0) rfl) (pa_cons (pe_fld (pv 0) rfl) pa_nil))))), ?_⟩
    refine ⟨_, rfl, p, C, dx, _, _, rfl, hp, T.cl, T.nC, af_c _, _, rfl, _, _, rfl, rfl, _, rfl, p, C, dx, _, _, rfl, hp, T.cl, T.nG, af_g _, _, rfl, p, C, dx, _, _, rfl, hp, T.cl, T.nP, af_p _, ?_⟩
    intro y dy ny mdy ney
    refine ⟨y, dy, ⟨x.c + u, x.g, x.p⟩, rfl, upd_same, fun H' a' k' => ⟨rfl, ?_⟩⟩
    exact k H' y (Same.made ny mdy k') a'
theorem scAWg : FnScope ["self", "units"] ["self", "units"] (defScope sAWg) := ⟨rfl, rfl, rfl, by decide +kernel, rfl, by decide +kernel, by decide +kernel⟩
theorem ok_AWg {f fI C : Addr} {fd fdI : FuncData} (F : Fun K "with_got" "Account.with_got" sAWg f fd) (T : TA K mg C) (I : MkI K C "Account.__init__" sAInit fI fdI ["self", "collected", "got", "paid"]) : FnOk P w K mg base CX0 3 f fd ["self", "units"] (spAWg C) := by
  have GI : FnOk P w K mg base CX0 1 fI fdI ["self", "collected", "got", "paid"] (spAInit C) := ok_AInit I.fn T
  refine F.ok scAWg (fun vs H Q E h => ?_) (fun cdv A outer s H vs Q E hr h => ?_)
  · obtain ⟨p, x, u, rfl, _⟩ := h
    rfl
  · obtain ⟨p, x, u, rfl, ⟨dx, hp⟩, k⟩ := h
    refine ⟨_, pss_one (ps_ret (pe_make I.mak GI hr rfl T.gl I.bd .nil pass0 (pa_cons (pe_fld (pv 0) rfl) (pa_cons (pe_op op_add (pe_fld (pv 0) rfl) (pv 1)) (pa_cons (pe_fld (pv 0) rfl) pa_nil))))), ?_⟩
    refine ⟨_, rfl, p, C, dx, _, _, rfl, hp, T.cl, T.nC, af_c _, _, rfl, p, C, dx, _, _, rfl, hp, T.cl, T.nG, af_g _, _, rfl, _, _, rfl, rfl, _, rfl, p, C, dx, _, _, rfl, hp, T.cl, T.nP, af_p _, ?_⟩
    intro y dy ny mdy ney
    refine ⟨y, dy, ⟨x.c, x.g + u, x.p⟩, rfl, upd_same, fun H' a' k' => ⟨rfl, ?_⟩⟩
    exact k H' y (Same.made ny mdy k') a'
theorem scAWp : FnScope ["self", "units"] ["self", "units"] (defScope sAWp) := ⟨rfl, rfl, rfl, by decide +kernel, rfl, by decide +kernel, by decide +kernel⟩
theorem ok_AWp {f fI C : Addr} {fd fdI : FuncData} (F : Fun K "with_paid" "Account.with_paid" sAWp f fd) (T : TA K mg C) (I : MkI K C "Account.__init__" sAInit fI fdI ["self", "collected", "got", "paid"]) : FnOk P w K mg base CX0 3 f fd ["self", "units"] (spAWp C) := by
  have GI : FnOk P w K mg base CX0 1 fI fdI ["self", "collected", "got", "paid"] (spAInit C) := ok_AInit I.fn T
  refine F.ok scAWp (fun vs H Q E h => ?_) (fun cdv A outer s H vs Q E hr h => ?_)
  · obtain ⟨p, x, u, rfl, _⟩ := h
    rfl
  · obtain ⟨p, x, u, rfl, ⟨dx, hp⟩, k⟩ := h
    refine ⟨_, pss_one (ps_ret (pe_make I.mak GI hr rfl T.gl I.bd .nil pass0 (pa_cons (pe_fld (pv 0) rfl) (pa_cons (pe_fld (pv 0) rfl) (pa_cons (pe_op op_add (pe_fld (pv 0) rfl) (pv 1)) pa_nil))))), ?_⟩
    refine ⟨_, rfl, p, C, dx, _, _, rfl, hp, T.cl, T.nC, af_c _, _, rfl, p, C, dx, _, _, rfl, hp, T.cl, T.nG, af_g _, _, rfl, p, C, dx, _, _, rfl, hp, T.cl, T.nP, af_p _, _, rfl, _, _, rfl, rfl, ?_⟩
    intro y dy ny mdy ney
    refine ⟨y, dy, ⟨x.c, x.g, x.p + u⟩, rfl, upd_same, fun H' a' k' => ⟨rfl, ?_⟩⟩
    exact k H' y (Same.made ny mdy k') a'
def spAFour (C : Addr) : Sp := fun vs H Q _ => ∃ (a : Addr) (x : A3), vs = [.ref a] ∧ AccAt C H a x ∧ giveL [.int x.pos, .int x.c, .int x.g, .int x.p] H Q
theorem scAFour : FnScope ["self"] ["self"] (defScope sAFour) := ⟨rfl, rfl, rfl, by decide +kernel, rfl, by decide +kernel, by decide +kernel⟩
theorem ok_AFour {f fp C : Addr} {fd fdp : FuncData} (F : Fun K "four_numbers" "Account.four_numbers" sAFour f fd) (T : TA K mg C) (MP : Mth K C "position" "Account.position" sAPos fp fdp ["self"]) : FnOk P w K mg base CX0 2 f fd ["self"] (spAFour C) := by
  have GP : FnOk P w K mg base CX0 1 fp fdp ["self"] (spAPos C) := ok_APos MP.fn T
  refine F.ok scAFour (fun vs H Q E h => ?_) (fun cdv A outer s H vs Q E hr h => ?_)
  · obtain ⟨p, x, rfl, _⟩ := h
    rfl
  · obtain ⟨p, x, rfl, ⟨dx, hp⟩, k⟩ := h
    refine ⟨_, pss_one (ps_ret (pe_lst (pa_cons (pe_meth0 (pv 0) T.cl MP.mt GP hr MP.bd .nil pass0) (pa_cons (pe_fld (pv 0) rfl) (pa_cons (pe_fld (pv 0) rfl) (pa_cons (pe_fld (pv 0) rfl) pa_nil)))))), ?_⟩
    refine ⟨_, rfl, p, dx, _, rfl, hp, af_no _ (by decide +kernel) (by decide +kernel) (by decide +kernel), p, x, rfl, ⟨dx, hp⟩, _, rfl, p, C, dx, _, _, rfl, hp, T.cl, T.nC, af_c _, _, rfl, p, C, dx, _, _, rfl, hp, T.cl, T.nG, af_g _, _, rfl, p, C, dx, _, _, rfl, hp, T.cl, T.nP, af_p _, (by show 4 ≤ sizeLine; decide), fun q hq => ?_⟩
    exact k _ q (Same.new hq) hq upd_same
theorem scABd : FnScope ["self"] ["self"] (defScope sABd) := ⟨rfl, rfl, rfl, by decide +kernel, rfl, by decide +kernel, by decide +kernel⟩
theorem ok_ABd {f fp C : Addr} {fd fdp : FuncData} (F : Fun K "is_within_bounds" "Account.is_within_bounds" sABd f fd) (X : Txt mg) (T : TA K mg C) (MP : Mth K C "position" "Account.position" sAPos fp fdp ["self"]) : FnOk P w K mg base CX0 2 f fd ["self"] (spABd C) := by
  have GP : FnOk P w K mg base CX0 1 fp fdp ["self"] (spAPos C) := ok_APos MP.fn T
  obtain ⟨tb, hb⟩ := T.bound
  refine F.ok scABd (fun vs H Q E h => ?_) (fun cdv A outer s H vs Q E hr h => ?_)
  · obtain ⟨p, x, rfl, _⟩ := h
    rfl
  · obtain ⟨p, x, rfl, ⟨dx, hp⟩, k⟩ := h
    refine ⟨_, pss_cons (ps_if (PW.pt (pw_or (pt_cmpR op_lt (pe_fld (pv 0) rfl) pe_int (nomark _)) (pw_or1 (pt_cmpR op_lt (pe_fld (pv 0) rfl) pe_int (nomark _))))) (pss_one (ps_ret pe_bl)) pss_nil)
      (pss_cons (ps_if (PW.pt (pw_or (pt_cmpR op_gt (pe_fld (pv 0) rfl) (pe_glob (v := .int 1125899906842624) rfl hb ⟨_, rfl⟩) (nomark _)) (pw_or1 (pt_cmpR op_gt (pe_fld (pv 0) rfl) (pe_glob (v := .int 1125899906842624) rfl hb ⟨_, rfl⟩) (nomark _))))) (pss_one (ps_ret pe_bl)) pss_nil)
      (pss_one (ps_ret (pe_and (pe_cmpR op_le (pe_callB call_abs (by rfl) X.abs PyProof.Rows.boot_abs (pa_cons (pe_meth0 (pv 0) T.cl MP.mt GP hr MP.bd .nil pass0) pa_nil)) (pe_glob (v := .int 1125899906842624) rfl hb ⟨_, rfl⟩) (nomark _))
        (pe_one (pe_cmpR op_le (pe_callB call_abs (by rfl) X.abs PyProof.Rows.boot_abs (pa_cons (pe_fld (pv 0) rfl) pa_nil)) (pe_glob (v := .int 1125899906842624) rfl hb ⟨_, rfl⟩) (nomark _))))))), ?_⟩
    have no0 : x.ok = false → Q (.bl false) H := fun e => by rw [e] at k; exact k
    refine ⟨_, rfl, p, C, dx, _, _, rfl, hp, T.cl, T.nC, af_c _, _, _, rfl, rfl, _, rfl, ite2 (fun c1 => ?_) (fun d1 => ?_)⟩
    · refine iteT (no0 ?_)
      unfold A3.ok
      rw [decide_eq_false (p := 0 ≤ x.c) (by have := of_decide_eq_true c1; omega), Bool.false_and, Bool.false_and]
    refine ⟨_, rfl, p, C, dx, _, _, rfl, hp, T.cl, T.nG, af_g _, _, _, rfl, rfl, _, rfl, ite2 (fun c2 => ?_) (fun d2 => ?_)⟩
    · refine no0 ?_
      unfold A3.ok
      rw [decide_eq_false (p := 0 ≤ x.g) (by have := of_decide_eq_true c2; omega), Bool.and_false, Bool.false_and]
    have ok0 : x.ok = (decide (x.c ≤ 1125899906842624) && (decide (x.g ≤ 1125899906842624) && (smallI x.pos && smallI x.p))) := by
      unfold A3.ok
      rw [decide_eq_true (p := 0 ≤ x.c) (by have : ¬ (x.c < 0) := fun z => d1 (decide_eq_true z); omega), decide_eq_true (p := 0 ≤ x.g) (by have : ¬ (x.g < 0) := fun z => d2 (decide_eq_true z); omega)]
      rfl
    have no : x.ok = false → Q (.bl false) H := fun e => by rw [e] at k; exact k
    refine ⟨_, rfl, p, C, dx, _, _, rfl, hp, T.cl, T.nC, af_c _, _, _, rfl, rfl, _, rfl, ite2 (fun c1 => ?_) (fun c1 => ?_)⟩
    · refine iteT (no ?_)
      rw [ok0]
      rw [decide_eq_false (by have := of_decide_eq_true c1; omega), Bool.false_and]
    refine ⟨_, rfl, p, C, dx, _, _, rfl, hp, T.cl, T.nG, af_g _, _, _, rfl, rfl, _, rfl, ite2 (fun c2 => ?_) (fun c2 => ?_)⟩
    · refine no ?_
      rw [ok0]
      rw [decide_eq_false (p := x.g ≤ 1125899906842624) (by have := of_decide_eq_true c2; omega), Bool.false_and, Bool.and_false]
    have fin : x.ok = (smallI x.pos && smallI x.p) := by
      rw [ok0]
      rw [decide_eq_true (p := x.c ≤ 1125899906842624) (by have : ¬ (1125899906842624 < x.c) := fun z => c1 (decide_eq_true z); omega), decide_eq_true (p := x.g ≤ 1125899906842624) (by have : ¬ (1125899906842624 < x.g) := fun z => c2 (decide_eq_true z); omega)]
      rfl
    refine ⟨_, rfl, p, dx, _, rfl, hp, af_no _ (by decide +kernel) (by decide +kernel) (by decide +kernel), p, x, rfl, ⟨dx, hp⟩, _, rfl, _, _, rfl, rfl, _, rfl, ite2 (fun c3 => ?_) (fun c3 => ?_)⟩
    · refine ⟨_, rfl, p, C, dx, _, _, rfl, hp, T.cl, T.nP, af_p _, _, rfl, _, _, rfl, rfl, ?_⟩
      have e : x.ok = smallI x.p := by
        rw [fin, show smallI x.pos = true from c3, Bool.true_and]
      rw [e] at k
      exact k
    · refine no ?_
      rw [fin, show smallI x.pos = false from Bool.eq_false_iff.mpr c3, Bool.false_and]
end
end Ew
end
section
set_option Elab.async false
set_option linter.all false
set_option maxRecDepth 100000
set_option maxHeartbeats 2000000
namespace Ew
open PySem PySem.Spec PyProof.Rows L2
abbrev cBk : Stmt := top 43
abbrev sBInit : Stmt := inClass cBk 0
abbrev sBAre : Stmt := inClass cBk 1
abbrev sBHas : Stmt := inClass cBk 2
abbrev sBBegin : Stmt := inClass cBk 3
abbrev sBBook : Stmt := inClass cBk 4
abbrev sBPay : Stmt := inClass cBk 5
abbrev sBTake : Stmt := inClass cBk 6
abbrev sBTold : Stmt := inClass cBk 7
abbrev sBPos : Stmt := inClass cBk 8
abbrev sBSettle : Stmt := inClass cBk 9
abbrev sBLeast : Stmt := inClass cBk 10
abbrev sBSave : Stmt := inClass cBk 11
abbrev sBLoad : Stmt := inClass cBk 12
def bf (l : Addr) : List (Str × V) := putF "accounts" (.ref l) []
theorem bf_acc (l : Addr) : (bf l).lookup ("accounts" : Str) = some (.ref l) := by
  unfold bf
  rw [lookup_putF, if_pos rfl]
theorem bf_no (l : Addr) {m : Str} (h : ¬ m = "accounts") : (bf l).lookup m = none := by
  unfold bf
  rw [lookup_putF, if_neg h]
  all_goals rfl
theorem bf_put (l l' : Addr) : putF "accounts" (.ref l') (bf l) = bf l' := by
  show (if ("accounts" : Str) = "accounts" then [(("accounts" : Str), V.ref l')] else _) = ([("accounts", V.ref l')] : List (Str × V))
  rw [if_pos rfl]
/-- a list of accounts stands at l -/
def AccsAt (CA : Addr) (H : Hp) (l : Addr) (xs : List A3) : Prop := ∃ as : List Addr, H l = some (.lst (as.map V.ref)) ∧ Paired (AccAt CA H) as xs
/-- the Books at b have these accounts -/
def BkAt (CA CB : Addr) (H : Hp) (b : Addr) (xs : List A3) : Prop := ∃ dx l, H b = some (.ins CB dx (bf l)) ∧ AccsAt CA H l xs
theorem AccsAt.same {CA : Addr} {H H' : Hp} {l : Addr} {xs : List A3} (h : AccsAt CA H l xs) (s : Same H H') : AccsAt CA H' l xs := by
  obtain ⟨as, e, p⟩ := h
  exact ⟨as, s _ _ e, L2.Paired.mapP p fun a x h => h.same s⟩
theorem BkAt.same {CA CB : Addr} {H H' : Hp} {b : Addr} {xs : List A3} (h : BkAt CA CB H b xs) (s : Same H H') : BkAt CA CB H' b xs := by
  obtain ⟨dx, l, e, p⟩ := h
  exact ⟨dx, l, s _ _ e, p.same s⟩
theorem keepOf {b : Addr} {H H' : Hp} (s : Same H H') : Keep b H H' := fun c o e _ => s c o e
theorem Keep.trans {b : Addr} {H H1 H2 : Hp} (h : Keep b H H1) (g : Keep b H1 H2) : Keep b H H2 := fun c o e n => g c o (h c o e n) n
theorem af_ne_bf {CA CB dx dy l : Addr} {x : A3} : HO.ins CA dx (af x) ≠ HO.ins CB dy (bf l) := fun e => by
  injection e with _ _ e
  have h1 := af_c x
  rw [e, bf_no l (by decide)] at h1
  cases h1
/-- storing the accounts -/
theorem AccsAt.store {CA CB : Addr} {H : Hp} {b dx l l' : Addr} {xs : List A3} (hb : H b = some (.ins CB dx (bf l))) (h : AccsAt CA H l' xs) : AccsAt CA (upd H b (.ins CB dx (bf l'))) l' xs := by
  obtain ⟨as, e, p⟩ := h
  refine ⟨as, ?_, ?_⟩
  · rw [upd_ne (ne_of e hb (by intro z; cases z))]; exact e
  · refine L2.Paired.mapP p fun a x h => ?_
    obtain ⟨da, ha⟩ := h
    exact ⟨da, by rw [upd_ne (ne_of ha hb af_ne_bf)]; exact ha⟩
theorem paired_len {α β : Type} {G : α → β → Prop} : ∀ {l₁ : List α} {l₂ : List β}, Paired G l₁ l₂ → l₁.length = l₂.length
  | _, _, .nil => rfl
  | _, _, .cons _ h => by rw [List.length_cons, List.length_cons, paired_len h]
theorem paired_at {α β : Type} {G : α → β → Prop} : ∀ {l₁ : List α} {l₂ : List β}, Paired G l₁ l₂ → ∀ {i : Nat} {b : β}, l₂[i]? = some b → ∃ a, l₁[i]? = some a ∧ G a b
  | _, _, .nil, i, b, h => by simp at h
  | _, _, .cons g h, 0, b, e => by
    cases (Option.some.inj e)
    exact ⟨_, rfl, g⟩
  | _, _, .cons g h, i + 1, b, e => paired_at h (i := i) e
theorem paired_set {α β : Type} {G : α → β → Prop} : ∀ {l₁ : List α} {l₂ : List β}, Paired G l₁ l₂ → ∀ {i : Nat} {a : α} {b : β}, G a b → Paired G (l₁.set i a) (l₂.set i b)
  | _, _, .nil, i, a, b, h => .nil
  | _, _, .cons g h, 0, a, b, e => .cons e h
  | _, _, .cons g h, i + 1, a, b, e => .cons g (paired_set h (i := i) e)
/-- it does so: the books become these, a list comes out -/
def doesB (CA CB : Addr) (b : Addr) (xs' : List A3) (ys : List Int) (H : Hp) (Q : VK) : Prop := ∀ (H' : Hp) (p : Addr), Keep b H H' → BkAt CA CB H' b xs' → H p = none → H' p = some (.lst (ys.map V.int)) → Q (.ref p) H'
structure TB (K : PySem.W.Frag) (mg : Str → Option Value) (C : Addr) : Prop where
  cl : Cls K C
  nA : NoAttr K C "accounts"
  gl : mg "Books" = some (.ref C)
  few : ∃ t, mg "FEWEST_COMPANIES" = some (.int 2 t)
  wrong : ∃ t, mg "WRONG" = some (.int (-1) t)
  far : ∃ t, mg "TOO_FAR" = some (.int (-5) t)
def spBInit (CA CB : Addr) : Sp := fun vs H Q _ => ∃ (p dx : Addr), vs = [.ref p] ∧ H p = some (.ins CB dx []) ∧ ∀ H' : Hp, BkAt CA CB H' p [] → Keep p H H' → Q .non H'
def spBAre (CA CB : Addr) : Sp := fun vs H Q _ => ∃ (b : Addr) (xs : List A3), vs = [.ref b] ∧ BkAt CA CB H b xs ∧ Q (.bl (decide (0 < xs.length))) H
def spBHas (CA CB : Addr) : Sp := fun vs H Q _ => ∃ (b : Addr) (xs : List A3) (n : Int), vs = [.ref b, .int n] ∧ BkAt CA CB H b xs ∧ Q (.bl (decide (n < (xs.length : Int)))) H
def beginX (n : Int) (xs : List A3) : List A3 := if n < 2 ∨ 6 < n then xs else List.replicate n.toNat ⟨0, 0, 0⟩
def beginA (n : Int) : List Int := if n < 2 ∨ 6 < n then [-1] else [0]
def spBBegin (CA CB : Addr) : Sp := fun vs H Q _ => ∃ (b : Addr) (xs : List A3) (n : Int), vs = [.ref b, .int n] ∧ BkAt CA CB H b xs ∧ doesB CA CB b (beginX n xs) (beginA n) H Q
def takeX (xs ys : List A3) : List A3 := if ys.all A3.ok = true then ys else xs
def takeA (ys : List A3) : List Int := if ys.all A3.ok = true then [0] else [-5]
def spBTake (CA CB : Addr) : Sp := fun vs H Q _ => ∃ (b l : Addr) (xs ys : List A3), vs = [.ref b, .ref l] ∧ BkAt CA CB H b xs ∧ AccsAt CA H l ys ∧ doesB CA CB b (takeX xs ys) (takeA ys) H Q
def toldA (n : Int) (xs : List A3) : List Int := match xs[n.toNat]? with
  | some x => [0, x.pos, x.c, x.g, x.p]
  | none => [-1]
def spBTold (CA CB : Addr) : Sp := fun vs H Q _ => ∃ (b : Addr) (xs : List A3) (n : Int), vs = [.ref b, .int n] ∧ BkAt CA CB H b xs ∧ 0 ≤ n ∧ doesB CA CB b xs (toldA n xs) H Q
section
variable {P : Program} {w : World} {K : PySem.W.Frag} {mg : Str → Option Value} {base : Heap}
theorem scBInit : FnScope ["self"] ["self"] (defScope sBInit) := ⟨rfl, rfl, rfl, by decide +kernel, rfl, by decide +kernel, by decide +kernel⟩
theorem ok_BInit {f CA CB : Addr} {fd : FuncData} (F : Fun K "__init__" "Books.__init__" sBInit f fd) (T : TB K mg CB) : FnOk P w K mg base CX0 1 f fd ["self"] (spBInit CA CB) := by
  refine F.ok scBInit (fun vs H Q E h => ?_) (fun cdv A outer s H vs Q E hr h => ?_)
  · obtain ⟨p, dx, rfl, _⟩ := h
    rfl
  · obtain ⟨p, dx, rfl, hp, k⟩ := h
    refine ⟨_, pss_one (ps_fld (pv 0) (pe_lst pa_nil) rfl), ?_⟩
    refine ⟨Nat.zero_le _, fun l hl => ⟨_, rfl, p, CB, dx, _, rfl, (Same.new hl) _ _ hp, T.cl, T.nA, (by show 0 < 1000; decide), ?_⟩⟩
    have nl : l ≠ p := fun e => by rw [e, hp] at hl; cases hl
    refine k _ ⟨dx, l, upd_same, [], ?_, .nil⟩ fun b o e hb => ?_
    · rw [upd_ne nl]; exact upd_same
    · rw [upd_ne hb]; exact (Same.new hl) _ _ e
theorem scBAre : FnScope ["self"] ["self"] (defScope sBAre) := ⟨rfl, rfl, rfl, by decide +kernel, rfl, by decide +kernel, by decide +kernel⟩
theorem ok_BAre {f CA CB : Addr} {fd : FuncData} (F : Fun K "are_there" "Books.are_there" sBAre f fd) (X : Txt mg) (T : TB K mg CB) : FnOk P w K mg base CX0 1 f fd ["self"] (spBAre CA CB) := by
  refine F.ok scBAre (fun vs H Q E h => ?_) (fun cdv A outer s H vs Q E hr h => ?_)
  · obtain ⟨p, xs, rfl, _⟩ := h
    rfl
  · obtain ⟨b, xs, rfl, ⟨dx, l, hb, as, hl, hp⟩, k⟩ := h
    refine ⟨_, pss_one (ps_ret (pe_cmpR op_gt (pe_callB call_len_seq (by rfl) X.len PySem.boot_len (pa_cons (pe_fld (pv 0) rfl) pa_nil)) pe_int (nomark _))), ?_⟩
    refine ⟨_, rfl, b, CB, dx, _, _, rfl, hb, T.cl, T.nA, bf_acc _, l, _, rfl, .inl (SqL.of hl), _, _, rfl, rfl, ?_⟩
    have e : decide ((0 : Int) < ((as.map V.ref).length : Int)) = decide (0 < xs.length) := by
      rw [List.length_map, paired_len hp]
      exact decide_eq_decide.mpr (by omega)
    show Q (V.bl (decide ((0 : Int) < ((as.map V.ref).length : Int)))) H
    rw [e]
    exact k
theorem scBHas : FnScope ["self", "company"] ["self", "company"] (defScope sBHas) := ⟨rfl, rfl, rfl, by decide +kernel, rfl, by decide +kernel, by decide +kernel⟩
theorem ok_BHas {f CA CB : Addr} {fd : FuncData} (F : Fun K "has_company" "Books.has_company" sBHas f fd) (X : Txt mg) (T : TB K mg CB) : FnOk P w K mg base CX0 1 f fd ["self", "company"] (spBHas CA CB) := by
  refine F.ok scBHas (fun vs H Q E h => ?_) (fun cdv A outer s H vs Q E hr h => ?_)
  · obtain ⟨p, xs, n, rfl, _⟩ := h
    rfl
  · obtain ⟨b, xs, n, rfl, ⟨dx, l, hb, as, hl, hp⟩, k⟩ := h
    refine ⟨_, pss_one (ps_ret (pe_cmpR op_lt (pv 1) (pe_callB call_len_seq (by rfl) X.len PySem.boot_len (pa_cons (pe_fld (pv 0) rfl) pa_nil)) (nomark _))), ?_⟩
    refine ⟨_, rfl, _, rfl, b, CB, dx, _, _, rfl, hb, T.cl, T.nA, bf_acc _, l, _, rfl, .inl (SqL.of hl), _, _, rfl, rfl, ?_⟩
    show Q (V.bl (decide (n < ((as.map V.ref).length : Int)))) H
    rw [List.length_map, paired_len hp]
    exact k
end
end Ew
end
section
set_option Elab.async false
set_option linter.all false
set_option maxRecDepth 100000
set_option maxHeartbeats 2000000
namespace Ew
open PySem PySem.Spec PyProof.Rows L2
section
variable {P : Program} {w : World} {K : PySem.W.Frag} {mg : Str → Option Value} {base : Heap}
theorem paired_rep {α β : Type} {G : α → β → Prop} {b : β} : ∀ (as : List α), (∀ a ∈ as, G a b) → Paired G as (List.replicate as.length b)
  | [], _ => .nil
  | a :: as, h => .cons (h a (List.mem_cons_self ..)) (paired_rep as fun x hx => h x (List.mem_cons_of_mem _ hx))
theorem scBBegin : FnScope ["self", "companies", "company"] ["self", "companies"] (defScope sBBegin) := ⟨rfl, rfl, rfl, by decide +kernel, rfl, by decide +kernel, by decide +kernel⟩
theorem ok_BBegin {f fI CA CB : Addr} {fd fdI : FuncData} (F : Fun K "begin" "Books.begin" sBBegin f fd) (X : Txt mg) (TA' : TA K mg CA) (T : TB K mg CB) (I : MkI K CA "Account.__init__" sAInit fI fdI ["self", "collected", "got", "paid"]) : FnOk P w K mg base CX0 3 f fd ["self", "companies"] (spBBegin CA CB) := by
  have GI : FnOk P w K mg base CX0 1 fI fdI ["self", "collected", "got", "paid"] (spAInit CA) := ok_AInit I.fn TA'
  obtain ⟨t1, h1⟩ := T.few
  obtain ⟨t2, h2⟩ := X.mComp
  obtain ⟨t3, h3⟩ := T.wrong
  refine F.ok scBBegin (fun vs H Q E h => ?_) (fun cdv A outer s H vs Q E hr h => ?_)
  · obtain ⟨p, xs, n, rfl, _⟩ := h
    rfl
  · obtain ⟨b, xs, n, rfl, B, k⟩ := h
    refine ⟨_, pss_cons (ps_if (PW.pt (pw_or (pt_cmpR op_lt (pv 1) (pe_glob (v := .int 2) rfl h1 ⟨_, rfl⟩) (nomark _)) (pw_or1 (pt_cmpR op_gt (pv 1) (pe_glob (v := .int 6) rfl h2 ⟨_, rfl⟩) (nomark _))))) (pss_one (ps_ret (pe_lst (pa_cons (pe_glob (v := .int (-1)) rfl h3 ⟨_, rfl⟩) pa_nil)))) pss_nil)
      (pss_cons (ps_fld (pv 0) (pe_lc rfl scBBegin.nd (pi_range1 rfl X.range (pa_cons (pv 1) pa_nil)) (by exact blkOk_by (N := ["self", "companies", "company"]) (sc := defScope sBBegin) (own := [("company", 2)]) (by decide +kernel)) (fun _ _ _ _ _ => pg_name (i := 2) scBBegin.nd rfl (Or.inl rfl)) (fun _ _ _ _ _ => pts_nil)
          (fun _ _ _ _ _ => pe_make I.mak GI hr rfl TA'.gl I.bd .nil pass0 (pa_cons pe_int (pa_cons pe_int (pa_cons pe_int pa_nil))))) rfl)
      (pss_one (ps_ret (pe_lst (pa_cons pe_int pa_nil))))), ?_⟩
    have no : n < 2 ∨ 6 < n → ∀ p, H p = none → Q (.ref p) (upd H p (.lst [.int (-1)])) := fun hn p hp => by
      have e := k (upd H p (.lst [.int (-1)])) p (keepOf (Same.new hp))
      rw [beginX, beginA, if_pos hn, if_pos hn] at e
      exact e (B.same (Same.new hp)) hp upd_same
    refine ⟨_, rfl, _, _, rfl, rfl, _, rfl, ite2 (fun c1 => ?_) (fun c1 => ?_)⟩
    · exact iteT ⟨by decide, fun p hp => no (.inl (of_decide_eq_true c1)) p hp⟩
    refine ⟨_, rfl, _, _, rfl, rfl, _, rfl, ite2 (fun c2 => ?_) (fun c2 => ?_)⟩
    · exact ⟨by decide, fun p hp => no (.inr (of_decide_eq_true c2)) p hp⟩
    have n2 : 2 ≤ n := by have : ¬ n < 2 := fun z => c1 (decide_eq_true z); omega
    have n6 : n ≤ 6 := by have : ¬ 6 < n := fun z => c2 (decide_eq_true z); omega
    refine ⟨_, rfl, n, rfl, by omega, by omega, fun D hD => lc_range (fun i H' => ∃ as : List Addr, as.length = i ∧ H' D = some (.lst (as.map V.ref)) ∧ (∀ a ∈ as, AccAt CA H' a ⟨0, 0, 0⟩) ∧ Same H H') ⟨[], rfl, upd_same, by simp, Same.new hD⟩ ?_ ?_⟩
    · rintro i H' hi ⟨as, la, hd, ha, s1⟩
      refine ⟨rfl, ?_⟩
      intro y dy ny mdy ney
      refine ⟨y, dy, ⟨0, 0, 0⟩, rfl, upd_same, fun H2 a2 k2 => ⟨rfl, ?_⟩⟩
      have s2 : Same H' H2 := Same.made ny mdy k2
      have hd2 := s2 _ _ hd
      refine ⟨_, hd2, ?_, as ++ [y], by rw [List.length_append, la]; rfl, ?_, ?_, ?_⟩
      · rw [List.length_map, la]
        exact Nat.lt_of_lt_of_le hi (by have : n.toNat ≤ 6 := by omega
                                        exact Nat.le_trans this (by decide))
      · rw [upd_same, List.map_append]; rfl
      · have up : ∀ a, AccAt CA H2 a ⟨0, 0, 0⟩ → AccAt CA (upd H2 D (.lst (as.map V.ref ++ [.ref y]))) a ⟨0, 0, 0⟩ := fun a h => by
          obtain ⟨da, e⟩ := h
          exact ⟨da, by rw [upd_ne (ne_of e hd2 (by intro z; cases z))]; exact e⟩
        intro a hm
        rcases List.mem_append.mp hm with c | c
        · exact up a ((ha a c).same s2)
        · rw [List.mem_singleton.mp c]; exact up y a2
      · intro c o e
        rw [upd_ne (ne_of_none e hD)]
        exact s2 _ _ (s1 _ _ e)
    · rintro H' ⟨as, la, hd, ha, s1⟩
      obtain ⟨dx, l, hb, B'⟩ := B
      have hb1 := s1 _ _ hb
      refine ⟨_, rfl, b, CB, dx, _, rfl, hb1, T.cl, T.nA, (by show 1 < 1000; decide), by decide, fun p hp => ?_⟩
      have e1 : putF "accounts" (.ref D) (bf l) = bf D := bf_put l D
      rw [e1] at hp ⊢
      have acc : AccsAt CA (upd H' b (.ins CB dx (bf D))) D (List.replicate n.toNat ⟨0, 0, 0⟩) := AccsAt.store (l := l) hb1 ⟨as, hd, by rw [← la]; exact paired_rep as ha⟩
      have kk : Keep b H (upd H' b (.ins CB dx (bf D))) := fun c o e nb => by rw [upd_ne nb]; exact s1 _ _ e
      have e := k (upd (upd H' b (.ins CB dx (bf D))) p (.lst [.int 0])) p (kk.trans (keepOf (Same.new hp)))
      rw [beginX, beginA, if_neg (by omega), if_neg (by omega)] at e
      refine e ⟨dx, D, (Same.new hp) _ _ upd_same, acc.same (Same.new hp)⟩ ?_ upd_same
      · have hp' : H' p = none := by
          by_cases q : p = b
          · rw [q, upd_same] at hp; cases hp
          · rw [upd_ne q] at hp; exact hp
        exact s1.free hp'
theorem scBTake : FnScope ["self", "accounts", "account"] ["self", "accounts"] (defScope sBTake) := ⟨rfl, rfl, rfl, by decide +kernel, rfl, by decide +kernel, by decide +kernel⟩
theorem ref_at {as : List Addr} {i : Nat} {y : V} (h : (as.map V.ref)[i]? = some y) : ∃ a, as[i]? = some a ∧ y = V.ref a := by
  rw [List.getElem?_map] at h
  cases e : as[i]? with
  | none => rw [e] at h; cases h
  | some z => rw [e] at h; exact ⟨z, rfl, (Option.some.inj h).symm⟩
theorem ok_BTake {f fW fp CA CB : Addr} {fd fdW fdp : FuncData} (F : Fun K "take_over" "Books.take_over" sBTake f fd) (X : Txt mg) (TA' : TA K mg CA) (T : TB K mg CB)
    (MW : Mth K CA "is_within_bounds" "Account.is_within_bounds" sABd fW fdW ["self"]) (MP : Mth K CA "position" "Account.position" sAPos fp fdp ["self"]) : FnOk P w K mg base CX0 3 f fd ["self", "accounts"] (spBTake CA CB) := by
  have GW : FnOk P w K mg base CX0 2 fW fdW ["self"] (spABd CA) := ok_ABd MW.fn X TA' MP
  obtain ⟨t1, h1⟩ := T.far
  refine F.ok scBTake (fun vs H Q E h => ?_) (fun cdv A outer s H vs Q E hr h => ?_)
  · obtain ⟨b, l, xs, ys, rfl, _⟩ := h
    rfl
  · obtain ⟨b, l', xs, ys, rfl, B, ⟨as, hl', hp⟩, k⟩ := h
    refine ⟨_, pss_cons (ps_for PassesOwn.never rfl (pi_list (pv 1)) (pg_name (i := 2) scBTake.nd rfl (Or.inl rfl))
        (pss_one (ps_if (pt_not (pt_val (pe_meth0 (pv 2) TA'.cl MW.mt GW hr MW.bd .nil pass0))) (pss_one (ps_ret (pe_lst (pa_cons (pe_glob (v := .int (-5)) rfl h1 ⟨_, rfl⟩) pa_nil)))) pss_nil)))
      (pss_cons (ps_fld (pv 0) (pv 1) rfl) (pss_one (ps_ret (pe_lst (pa_cons pe_int pa_nil))))), ?_⟩
    have lp := paired_len hp
    refine ⟨_, rfl, l', rfl, ⟨_, SqL.of hl'⟩, for_list (K := K) (a := l') (xs := as.map V.ref) (fun i σ H' => ∃ v : Option V, σ = [some (.ref b), some (.ref l'), v] ∧ H' = H ∧ (ys.take i).all A3.ok = true)
      ⟨none, rfl, rfl, rfl⟩ (fun i σ H' _ ⟨_, _, e, _⟩ => by rw [e]; exact SqL.of hl') ?_ ?_⟩
    · rintro i y σ H' hi ⟨v, rfl, rfl, hok⟩
      obtain ⟨a, ha, rfl⟩ := ref_at hi
      obtain ⟨x, hx, da, hax⟩ := paired_get hp ha
      refine ⟨_, rfl, a, da, _, rfl, hax, af_no _ (by decide +kernel) (by decide +kernel) (by decide +kernel), a, x, rfl, ⟨da, hax⟩, _, rfl, ite2 (fun c1 => ?_) (fun c1 => ?_)⟩
      · have nok : ¬ ys.all A3.ok = true := fun z => by
          have := List.all_eq_true.mp z x (List.mem_of_getElem? hx)
          rw [this] at c1
          cases c1
        refine ⟨by decide, fun p hp2 => ?_⟩
        have e := k (upd H' p (.lst [.int (-5)])) p (keepOf (Same.new hp2))
        rw [takeX, takeA, if_neg nok, if_neg nok] at e
        exact e (B.same (Same.new hp2)) hp2 upd_same
      · refine ⟨_, rfl, rfl, ?_⟩
        have xok : x.ok = true := by
          cases q : x.ok with
          | true => rfl
          | false => rw [q] at c1; exact absurd rfl c1
        rw [take_snoc hx, List.all_append, hok]
        simp [xok]
    · rintro σ H' ⟨v, rfl, rfl, hok⟩
      rw [List.length_map, lp, List.take_length] at hok
      obtain ⟨dx, l, hb, B'⟩ := B
      refine ⟨_, rfl, _, rfl, b, CB, dx, _, rfl, hb, T.cl, T.nA, (by show 1 < 1000; decide), by decide, fun p hpn => ?_⟩
      have e1 : putF "accounts" (.ref l') (bf l) = bf l' := bf_put l l'
      rw [e1] at hpn ⊢
      have acc : AccsAt CA (upd H' b (.ins CB dx (bf l'))) l' ys := AccsAt.store (l := l) hb ⟨as, hl', hp⟩
      have kk : Keep b H' (upd H' b (.ins CB dx (bf l'))) := fun c o e nb => by rw [upd_ne nb]; exact e
      have e := k (upd (upd H' b (.ins CB dx (bf l'))) p (.lst [.int 0])) p (kk.trans (keepOf (Same.new hpn)))
      rw [takeX, takeA, if_pos hok, if_pos hok] at e
      refine e ⟨dx, l', (Same.new hpn) _ _ upd_same, acc.same (Same.new hpn)⟩ ?_ upd_same
      by_cases q : p = b
      · rw [q, upd_same] at hpn; cases hpn
      · rw [upd_ne q] at hpn; exact hpn
theorem scBTold : FnScope ["self", "company"] ["self", "company"] (defScope sBTold) := ⟨rfl, rfl, rfl, by decide +kernel, rfl, by decide +kernel, by decide +kernel⟩
theorem ok_BTold {f fH fF fp CA CB : Addr} {fd fdH fdF fdp : FuncData} (F : Fun K "told" "Books.told" sBTold f fd) (X : Txt mg) (TA' : TA K mg CA) (T : TB K mg CB)
    (MH : Mth K CB "has_company" "Books.has_company" sBHas fH fdH ["self", "company"]) (MF : Mth K CA "four_numbers" "Account.four_numbers" sAFour fF fdF ["self"]) (MP : Mth K CA "position" "Account.position" sAPos fp fdp ["self"]) : FnOk P w K mg base CX0 3 f fd ["self", "company"] (spBTold CA CB) := by
  have GH : FnOk P w K mg base CX0 2 fH fdH ["self", "company"] (spBHas CA CB) := (ok_BHas MH.fn X T).mono (by omega)
  have GF : FnOk P w K mg base CX0 2 fF fdF ["self"] (spAFour CA) := ok_AFour MF.fn TA' MP
  obtain ⟨t1, h1⟩ := T.wrong
  refine F.ok scBTold (fun vs H Q E h => ?_) (fun cdv A outer s H vs Q E hr h => ?_)
  · obtain ⟨p, xs, n, rfl, _⟩ := h
    rfl
  · obtain ⟨b, xs, n, rfl, B, n0, k⟩ := h
    refine ⟨_, pss_cons (ps_if (pt_not (pt_val (pe_meth (pv 0) T.cl MH.mt GH hr MH.bd .nil pass0 (pa_cons (pv 1) pa_nil)))) (pss_one (ps_ret (pe_lst (pa_cons (pe_glob (v := .int (-1)) rfl h1 ⟨_, rfl⟩) pa_nil)))) pss_nil)
      (pss_one (ps_ret (pe_op op_cat (pe_lst (pa_cons pe_int pa_nil)) (pe_meth0 (pe_ix ix_list (pe_fld (pv 0) rfl) (pv 1) (fun _ _ => rfl)) TA'.cl MF.mt GF hr MF.bd .nil pass0)))), ?_⟩
    obtain ⟨dx, l, hb, as, hl, hp⟩ := id B
    refine ⟨_, rfl, b, dx, _, rfl, hb, bf_no _ (by decide +kernel), _, rfl, b, xs, n, rfl, B, _, rfl, ite2 (fun c1 => ?_) (fun c1 => ?_)⟩
    · refine ⟨by decide, fun p hp2 => ?_⟩
      have e := k (upd H p (.lst [.int (-1)])) p (keepOf (Same.new hp2)) (B.same (Same.new hp2)) hp2
      have lt : xs[n.toNat]? = none := List.getElem?_eq_none (by
        have : ¬ n < (xs.length : Int) := fun z => by rw [decide_eq_true z] at c1; cases c1
        omega)
      rw [toldA, lt] at e
      exact e upd_same
    · have lt : n < (xs.length : Int) := by
        apply Classical.byContradiction
        intro z
        rw [decide_eq_false z] at c1
        exact c1 rfl
      have ln : n.toNat < xs.length := by omega
      obtain ⟨a, ha, da, hax⟩ := paired_at hp (List.getElem?_eq_getElem ln)
      refine ⟨by decide, fun z hz => ?_⟩
      have sz := Same.new (o := .lst [.int 0]) hz
      refine ⟨_, rfl, b, CB, dx, _, _, rfl, sz _ _ hb, T.cl, T.nA, bf_acc _, _, rfl, l, _, _, V.ref a, rfl, rfl, SqL.of (sz _ _ hl), at_of (j := n.toNat) (by omega) (by rw [List.getElem?_map, ha]; rfl), ?_⟩
      refine ⟨a, da, _, rfl, sz _ _ hax, af_no _ (by decide +kernel) (by decide +kernel) (by decide +kernel), a, _, rfl, ⟨da, sz _ _ hax⟩, fun H' p' s' hp' hq' => ?_⟩
      refine ⟨z, p', _, _, rfl, rfl, s' _ _ upd_same, hq', (by show 5 ≤ sizeLine; decide), fun p hp2 => ?_⟩
      have ss : Same H (upd H' p (.lst ([.int 0] ++ [.int xs[n.toNat].pos, .int xs[n.toNat].c, .int xs[n.toNat].g, .int xs[n.toNat].p]))) := (sz.trans s').trans (Same.new hp2)
      have e := k _ p (keepOf ss) (B.same ss) ((sz.trans s').free hp2)
      rw [toldA, List.getElem?_eq_getElem ln] at e
      exact e upd_same
end
end Ew
end
section
set_option Elab.async false
set_option linter.all false
set_option maxRecDepth 100000
set_option maxHeartbeats 2000000
namespace Ew
open PySem PySem.Spec PyProof.Rows L2
/-- the part of H' that is new since H -/
def fr (H H' : Hp) : Hp := fun b => match H b with
  | none => H' b
  | some _ => none
theorem fr_of {H H' : Hp} {b : Addr} (h : H b = none) : fr H H' b = H' b := by unfold fr; rw [h]
theorem fr_get {H H' : Hp} {b : Addr} {o : HO} (h : fr H H' b = some o) : H b = none ∧ H' b = some o := by
  unfold fr at h
  cases e : H b with
  | none => rw [e] at h; exact ⟨rfl, h⟩
  | some _ => rw [e] at h; cases h
theorem fr_same (H H' : Hp) : Same (fr H H') H' := fun b o e => (fr_get e).2
theorem fr_mono {H H' H2 : Hp} (s : Same H' H2) : Same (fr H H') (fr H H2) := fun b o e => by
  obtain ⟨h1, h2⟩ := fr_get e
  rw [fr_of h1]; exact s _ _ h2
theorem fr_more {H H1 H2 : Hp} (s : Same H H1) : Same (fr H1 H2) (fr H H2) := fun b o e => by
  obtain ⟨h1, h2⟩ := fr_get e
  rw [fr_of (s.free h1)]; exact h2
theorem fr_upd {H H' : Hp} {p : Addr} {o : HO} (h : H p = none) : fr H (upd H' p o) = upd (fr H H') p o := by
  funext b
  by_cases c : b = p
  · subst c; rw [fr_of h, upd_same, upd_same]
  · rw [upd_ne c]
    unfold fr
    rw [upd_ne c]
def hide (H : Hp) (p : Addr) : Hp := fun b => if b = p then none else H b
theorem hide_ne {H : Hp} {p b : Addr} (h : b ≠ p) : hide H p b = H b := if_neg h
theorem hide_get {H : Hp} {p b : Addr} {o : HO} (h : hide H p b = some o) : b ≠ p ∧ H b = some o := by
  unfold hide at h
  split at h
  · cases h
  · exact ⟨by assumption, h⟩
theorem hide_same (H : Hp) (p : Addr) : Same (hide H p) H := fun b o e => (hide_get e).2
theorem hide_mono {H H' : Hp} {p : Addr} (s : Same H H') : Same (hide H p) (hide H' p) := fun b o e => by
  obtain ⟨h1, h2⟩ := hide_get e
  rw [hide_ne h1]; exact s _ _ h2
theorem hide_upd {H : Hp} {p : Addr} {o : HO} : hide (upd H p o) p = hide H p := by
  funext b
  unfold hide
  split
  · rfl
  · next c => exact upd_ne c
/-- what is new since H1 is beside p, which was there -/
theorem fr_hide {H H1 H2 : Hp} {p : Addr} {o : HO} (s : Same H H1) (h : H1 p = some o) : Same (fr H1 H2) (hide (fr H H2) p) := fun b u e => by
  obtain ⟨h1, h2⟩ := fr_get e
  rw [hide_ne (fun c => by rw [c, h] at h1; cases h1), fr_of (s.free h1)]; exact h2
theorem fr_new {H H' : Hp} {p : Addr} {o : HO} (h : H p = none) (h' : H' p = some o) : fr H H' p = some o := by rw [fr_of h]; exact h'
def Mono {β : Type} (G : Hp → Addr → β → Prop) : Prop := ∀ (H H' : Hp) (a : Addr) (x : β), Same H H' → G H a x → G H' a x
/-- a list at p of things that are x, x, .. and lie beside it -/
def LL {β : Type} (G : Hp → Addr → β → Prop) (H : Hp) (p : Addr) (xs : List β) : Prop := ∃ as : List Addr, H p = some (.lst (as.map V.ref)) ∧ Paired (fun a x => G (hide H p) a x) as xs
section
variable {β : Type} {G : Hp → Addr → β → Prop}
theorem LL.mono (m : Mono G) : Mono (LL G) := fun _ _ _ _ s h => by
  obtain ⟨as, e, p⟩ := h
  exact ⟨as, s _ _ e, L2.Paired.mapP p fun a x g => m _ _ _ _ (hide_mono s) g⟩
theorem LL.nil {H : Hp} {p : Addr} (h : H p = some (.lst [])) : LL G H p [] := ⟨[], h, .nil⟩
theorem paired_snoc {α γ : Type} {F : α → γ → Prop} : ∀ {l : List α} {k : List γ} {a : α} {b : γ}, Paired F l k → F a b → Paired F (l ++ [a]) (k ++ [b])
  | _, _, _, _, .nil, h => .cons h .nil
  | _, _, _, _, .cons g t, h => .cons g (paired_snoc t h)
theorem LL.push {H : Hp} {p a : Addr} {xs : List β} {x : β} {ys : List V} (h : LL G H p xs) (hH : H p = some (.lst ys)) (g : G (hide H p) a x) : LL G (upd H p (.lst (ys ++ [.ref a]))) p (xs ++ [x]) := by
  obtain ⟨as, e, q⟩ := h
  rw [e] at hH
  cases hH
  refine ⟨as ++ [a], by rw [upd_same, List.map_append]; rfl, ?_⟩
  rw [hide_upd]
  exact paired_snoc q g
theorem LL.lst {H : Hp} {p : Addr} {xs : List β} (h : LL G H p xs) : ∃ as : List Addr, H p = some (.lst (as.map V.ref)) ∧ as.length = xs.length ∧ Paired (fun a x => G (hide H p) a x) as xs := by
  obtain ⟨as, e, q⟩ := h
  refine ⟨as, e, ?_, q⟩
  exact Paired.length q
end
def iv (n : Nat) : V := V.int (n : Nat)
def GI (H : Hp) (a : Addr) (ns : List Int) : Prop := H a = some (.lst (ns.map V.int))
def GN (H : Hp) (a : Addr) (ns : List Nat) : Prop := H a = some (.lst (ns.map iv))
def GT (H : Hp) (a : Addr) (r : List Int) : Prop := H a = some (.tup (r.map V.int))
theorem GI.mono : Mono GI := fun _ _ _ _ s h => s _ _ h
theorem GN.mono : Mono GN := fun _ _ _ _ s h => s _ _ h
theorem GT.mono : Mono GT := fun _ _ _ _ s h => s _ _ h
abbrev GR := LL GT
theorem GR.mono : Mono GR := LL.mono GT.mono
/-- a new thing comes out; what was there stays -/
def giveG {β : Type} (G : Hp → Addr → β → Prop) (x : β) (H : Hp) (Q : VK) : Prop := ∀ (H' : Hp) (p : Addr), Same H H' → G (fr H H') p x → Q (.ref p) H'
theorem paired_get' {α γ : Type} {F : α → γ → Prop} : ∀ {l : List α} {k : List γ} {i : Nat} {a : α}, Paired F l k → l[i]? = some a → ∃ b, k[i]? = some b ∧ F a b
  | _, _, i, a, .nil, e => by simp at e
  | _, _, 0, a, .cons g t, e => by
    cases Option.some.inj e
    exact ⟨_, rfl, g⟩
  | _, _, i + 1, a, .cons g t, e => paired_get' t (i := i) e
theorem ref_at' {as : List Addr} {i : Nat} {y : V} (h : (as.map V.ref)[i]? = some y) : ∃ a, as[i]? = some a ∧ y = V.ref a := by
  rw [List.getElem?_map] at h
  cases e : as[i]? with
  | none => rw [e] at h; cases h
  | some z => rw [e] at h; exact ⟨z, rfl, (Option.some.inj h).symm⟩
theorem iv_at {ns : List Nat} {i : Nat} {y : V} (h : (ns.map iv)[i]? = some y) : ∃ z, ns[i]? = some z ∧ y = V.int (z : Nat) := by
  rw [List.getElem?_map] at h
  cases e : ns[i]? with
  | none => rw [e] at h; cases h
  | some z => rw [e] at h; exact ⟨z, rfl, (Option.some.inj h).symm⟩
end Ew
end
section
set_option Elab.async false
set_option linter.all false
set_option maxRecDepth 100000
set_option maxHeartbeats 2000000
namespace Ew
open PySem PySem.Spec PyProof.Rows L2
/-- y < x comes to b -/
def LessAt (A : Around) (s : Shared) (y x : Value) (b : Bool) : Prop := ∀ (prog : Program) (w : World) (E : Value → Shared → Prop) (Q : Value → Shared → Prop), Q (.bool b) s → wpAny (model prog w) A (richCompare .Lt y x) Q E s
def lexAt (e c : Nat → Bool) : Nat → Nat → Bool
  | 0, _ => false
  | k + 1, i => if e i = true then lexAt e c k (i + 1) else c i
section
open PySem.SeqAt
open PySem.AutoSeq1 (wpAny_loadPart')
open PySem.MeetsSeq PySem.MeetsSeq2 PySem.MeetsSeq3
theorem less_loop (l b : Addr) (xs ys : Array Value) (n n2 : Nat) (hsz : xs.size = ys.size) (e c : Nat → Bool) (k : Nat) :
    ∀ i : Nat, xs.size - i = k → Meets (Builtin.«list.__eq__.loop» ⟨[.ref l, .ref b, rawInt i, rawInt 0], []⟩)
      (fun A R s => s.heap.get? l = some { cls := .type "list", data := .seq xs n } ∧ s.heap.get? b = some { cls := .type "list", data := .seq ys n2 } ∧
        (∀ j (h1 : j < xs.size) (h2 : j < ys.size), EqAt A.in1 s xs[j] ys[j] (e j)) ∧ (∀ j (h1 : j < xs.size) (h2 : j < ys.size), e j = false → LessAt A.in1 s xs[j] ys[j] (c j)) ∧
        R (.ok (.ret (.bool (lexAt e c k i)))) s) := by
  induction k with
  | zero =>
    intro i hk prog w A R s h
    obtain ⟨hp, g, d, tk, os⟩ := s
    obtain ⟨hl, hb, he, hc, h⟩ := h
    wp_walk using wpAny_loadPart' hl, wpAny_loadPart' hb
    have g1 : xs[((i : Nat) : Int).toNat]? = none := by simp; omega
    have g2 : ys[((i : Nat) : Int).toNat]? = none := by simp; omega
    rw [g1, g2]
    wp_walk using wpAny_loadPart' hl, wpAny_loadPart' hb
    show R (.ok (.ret (.bool (decide (xs.size < ys.size))))) _
    rw [hsz, decide_eq_false (Nat.lt_irrefl _)]
    exact h
  | succ k ih =>
    intro i hk prog w A R s h
    obtain ⟨hp, g, d, tk, os⟩ := s
    obtain ⟨hl, hb, he, hc, h⟩ := h
    wp_walk using wpAny_loadPart' hl, wpAny_loadPart' hb
    have l1 : i < xs.size := by omega
    have l2 : i < ys.size := by omega
    have g1 : xs[((i : Nat) : Int).toNat]? = some xs[i] := by simp [l1]
    have g2 : ys[((i : Nat) : Int).toNat]? = some ys[i] := by simp [l2]
    have ei : ((i : Int) + 1) = ((i + 1 : Nat) : Int) := by push_cast; rfl
    rw [g1, g2]
    refine wpAny_bind (he i l1 l2 prog w _ _ ?_)
    have hr : lexAt e c (k + 1) i = if e i = true then lexAt e c k (i + 1) else c i := rfl
    rw [hr] at h
    cases q : e i with
    | true =>
      rw [q, if_pos rfl] at h
      wp_walk
      rw [ei]
      exact ⟨plainId_quiet plain_eq_loop _, codeAny_builtin entry_eq_loop (by
        rw [Around.under_plainId plain_eq_loop _]
        exact ih (i + 1) (by omega) prog w A R _ ⟨hl, hb, he, hc, h⟩)⟩
    | false =>
      rw [q, if_neg (by decide)] at h
      have hlt := hc i l1 l2 q prog w
      wp_walk using wpAny_loadPart' hl, wpAny_loadPart' hb
      rw [g1, g2]
      wp_walk using hlt
      simpa using h
theorem less_list (l b : Addr) (xs ys : Array Value) (n n2 : Nat) (hsz : xs.size = ys.size) (e c : Nat → Bool) :
    Meets (Builtin.«list.__lt__» ⟨[.ref l, .ref b], []⟩)
      (fun A R s => s.heap.get? l = some { cls := .type "list", data := .seq xs n } ∧ s.heap.get? b = some { cls := .type "list", data := .seq ys n2 } ∧
        (∀ j (h1 : j < xs.size) (h2 : j < ys.size), EqAt A.in1 s xs[j] ys[j] (e j)) ∧ (∀ j (h1 : j < xs.size) (h2 : j < ys.size), e j = false → LessAt A.in1 s xs[j] ys[j] (c j)) ∧
        R (.ok (.ret (.bool (lexAt e c xs.size 0)))) s) := by
  intro prog w A R s h
  obtain ⟨hp, g, d, tk, os⟩ := s
  obtain ⟨hl, hb, he, hc, h⟩ := h
  have f3 := AutoSeq1.sub_list_list
  wp_walk using wpAny_loadPart' hl, wpAny_loadPart' hb
  exact ⟨plainId_quiet plain_eq_loop _, codeAny_builtin entry_eq_loop (by
    rw [Around.under_plainId plain_eq_loop _]
    exact less_loop l b xs ys n n2 hsz e c _ 0 rfl prog w A R _ ⟨hl, hb, he, hc, by simpa using h⟩)⟩
/-- of two: a number, then a thing -/
theorem less_two (l b : Addr) (i j : Int) (t u : Tok) (x y : Addr) (n n2 : Nat) (dd dd2 : Option Addr) (sl sl2 : Array (Option Value)) (e c : Bool) :
    Meets (Builtin.«tuple.__lt__» ⟨[.ref l, .ref b], []⟩)
      (fun A R s => s.heap.get? l = some { cls := .type "tuple", dict := dd, data := .seq #[.int i t, .ref x] n, slots := sl } ∧ s.heap.get? b = some { cls := .type "tuple", dict := dd2, data := .seq #[.int j u, .ref y] n2, slots := sl2 } ∧
        (i = j → EqAt A.in1 s (.ref x) (.ref y) e) ∧ (i = j → e = false → LessAt A.in1 s (.ref x) (.ref y) c) ∧ R (.ok (.ret (.bool (if i = j then (if e = true then false else c) else decide (i < j))))) s) :=
  .of_wp fun prog w A R s h => by
    obtain ⟨hp, g, d, tk, os⟩ := s
    obtain ⟨hl, hb, he, hc, h⟩ := h
    have f2 := AutoSeq1.sub_tuple_tuple
    have hij : EqAt A.in1 ⟨hp, g, d, tk, os⟩ (.int i t) (.int j u) (i == j) := EqAt.int_int i t j u
    have hri := HT.rcLt_int A.in1 ⟨hp, g, d, tk, os⟩ i t j u prog w
    wp_walk using wpAny_loadPart' hl, wpAny_loadPart' hb
    refine hij prog w _ _ ?_
    by_cases q : i = j
    · rw [if_pos q] at h
      rw [show (i == j) = true from beq_iff_eq.mpr q]
      have heq := he q prog w
      wp_walk using heq
      cases f : e with
      | true =>
        rw [f, if_pos rfl] at h
        wp_walk
        exact ⟨_, rfl, by simpa [Builtin.Tuple.tupleCompareSizes] using h⟩
      | false =>
        rw [f, if_neg (by decide)] at h
        have hlt := hc q f prog w
        wp_walk using hlt
        exact ⟨_, rfl, by simpa using h⟩
    · rw [if_neg q] at h
      rw [show (i == j) = false from beq_eq_false_iff_ne.mpr q]
      wp_walk using hri
      exact ⟨_, rfl, by simpa using h⟩
end
end Ew
end
section
set_option Elab.async false
set_option linter.all false
set_option maxRecDepth 100000
set_option maxHeartbeats 2000000
namespace Ew
open PySem PySem.Spec PyProof.Rows L2
def dR (r : List Int) : PyData := .tuple (r.map .int)
def dRs (rs : List (List Int)) : PyData := .list (rs.map dR)
theorem canR : ∀ r : List Int, PyData.canLayAll0 (r.map .int) = true
  | [] => by simp only [List.map_nil, PyData.canLayAll0]
  | x :: r => by simp only [List.map_cons, PyData.canLayAll0, PyData.canLay0, canR r, Bool.and_self]
theorem depR : ∀ r : List Int, PyData.depthAll (r.map .int) = 0
  | [] => by simp only [List.map_nil, PyData.depthAll]
  | x :: r => by simp only [List.map_cons, PyData.depthAll, PyData.depth, depR r, Nat.max_self]
theorem eqR : ∀ r q : List Int, PyData.eqvAll (r.map .int) (q.map .int) = decide (r = q)
  | [], [] => by simp only [List.map_nil, PyData.eqvAll, decide_true]
  | [], y :: q => by simp [PyData.eqvAll]
  | x :: r, [] => by simp [PyData.eqvAll]
  | x :: r, y :: q => by
    simp only [List.map_cons, PyData.eqvAll, PyData.eqv, eqR r q]
    by_cases c : x = y
    · subst c; simp
    · simp [c]
theorem can_dR (r : List Int) : (dR r).canLay0 = true := by unfold dR; simp only [PyData.canLay0]; exact canR r
theorem dep_dR (r : List Int) : (dR r).depth = 1 := by unfold dR; simp only [PyData.depth, depR]
theorem eqv_dR (r q : List Int) : PyData.eqv (dR r) (dR q) = decide (r = q) := by unfold dR; simp only [PyData.eqv]; exact eqR r q
theorem canRs : ∀ rs : List (List Int), PyData.canLayAll0 (rs.map dR) = true
  | [] => by simp only [List.map_nil, PyData.canLayAll0]
  | x :: r => by simp only [List.map_cons, PyData.canLayAll0, can_dR, canRs r, Bool.and_self]
theorem depRs : ∀ rs : List (List Int), PyData.depthAll (rs.map dR) ≤ 1
  | [] => by simp only [List.map_nil, PyData.depthAll]; omega
  | x :: r => by
    have := depRs r
    simp only [List.map_cons, PyData.depthAll, dep_dR]
    omega
theorem eqRs : ∀ r q : List (List Int), PyData.eqvAll (r.map dR) (q.map dR) = decide (r = q)
  | [], [] => by simp only [List.map_nil, PyData.eqvAll, decide_true]
  | [], y :: q => by simp [PyData.eqvAll]
  | x :: r, [] => by simp [PyData.eqvAll]
  | x :: r, y :: q => by
    simp only [List.map_cons, PyData.eqvAll, eqv_dR, eqRs r q]
    by_cases c : x = y
    · subst c; simp
    · simp [c]
theorem can_dRs (rs : List (List Int)) : (dRs rs).canLay0 = true := by unfold dRs; simp only [PyData.canLay0]; exact canRs rs
theorem dep_dRs (rs : List (List Int)) : (dRs rs).depth ≤ 2 := by have := depRs rs; unfold dRs; simp only [PyData.depth]; omega
theorem eqv_dRs (r q : List (List Int)) : PyData.eqv (dRs r) (dRs q) = decide (r = q) := by unfold dRs; simp only [PyData.eqv]; exact eqRs r q
theorem dpAll_ints {K : PySem.W.Frag} {H : Hp} : ∀ r : List Int, DpAll K H (r.map V.int) (r.map .int)
  | [] => .nil
  | x :: r => .cons (.int x) (dpAll_ints r)
theorem dp_tup {K : PySem.W.Frag} {H : Hp} {a : Addr} {r : List Int} (h : GT H a r) : Dp K H (.ref a) (dR r) := .tup (SqT.of h) (dpAll_ints r)
theorem dpAll_tups {K : PySem.W.Frag} {H : Hp} : ∀ {as : List Addr} {rs : List (List Int)}, Paired (fun a r => GT H a r) as rs → DpAll K H (as.map V.ref) (rs.map dR)
  | _, _, .nil => .nil
  | _, _, .cons g t => .cons (dp_tup g) (dpAll_tups t)
theorem dp_rows {K : PySem.W.Frag} {H : Hp} {a : Addr} {rs : List (List Int)} (h : GR H a rs) : Dp K H (.ref a) (dRs rs) := by
  obtain ⟨as, e, p⟩ := h
  exact .lst (SqL.of e) (dpAll_tups (L2.Paired.mapP p fun a r g => GT.mono _ _ _ _ (hide_same H _) g))
/-- the first row that differs, the lesser -/
def lexRows : List (List Int) → List (List Int) → Bool
  | x :: xs, y :: ys => if x = y then lexRows xs ys else HT.lexLt x y
  | _, _ => false
def keyLess (xs ys : List (List Int)) : Bool := if (xs.length : Int) = ys.length then (if decide (xs = ys) = true then false else lexRows xs ys) else decide ((xs.length : Int) < ys.length)
theorem lexAt_rows : ∀ (xs ys : List (List Int)) (k i : Nat) (X Y : List (List Int)), xs.length = ys.length → k = xs.length → X.drop i = xs → Y.drop i = ys →
    lexAt (fun j => decide (X.getD j [] = Y.getD j [])) (fun j => HT.lexLt (X.getD j []) (Y.getD j [])) k i = lexRows xs ys
  | [], [], k, i, X, Y, _, hk, _, _ => by rw [hk]; rfl
  | x :: xs, y :: ys, k, i, X, Y, hl, hk, hx, hy => by
    rw [hk]
    have gx : X.getD i [] = x := by
      have : X[i]? = some x := by rw [← List.head?_drop, hx]; rfl
      rw [List.getD_eq_getElem?_getD, this]; rfl
    have gy : Y.getD i [] = y := by
      have : Y[i]? = some y := by rw [← List.head?_drop, hy]; rfl
      rw [List.getD_eq_getElem?_getD, this]; rfl
    show (if decide (X.getD i [] = Y.getD i []) = true then lexAt _ _ xs.length (i + 1) else HT.lexLt (X.getD i []) (Y.getD i [])) = if x = y then lexRows xs ys else HT.lexLt x y
    rw [gx, gy]
    by_cases c : x = y
    · rw [if_pos (decide_eq_true c), if_pos c]
      refine lexAt_rows xs ys xs.length (i + 1) X Y (by simpa using hl) rfl ?_ ?_
      · rw [← List.drop_drop, hx]; rfl
      · rw [← List.drop_drop, hy]; rfl
    · rw [if_neg (by simpa using c), if_neg c]
  | [], y :: ys, _, _, _, _, hl, _, _, _ => by cases hl
  | x :: xs, [], _, _, _, _, hl, _, _, _ => by cases hl
section
variable {X : Cx} {pins : List (Addr × Obj)} {σ : L2.St} {H : Hp} {s : Shared}
theorem less_tup (I : Inv X pins σ H s) {A : Around} (hu : A.units < cLine) {a b : Addr} {r q : List Int} (ha : GT H a r) (hb : GT H b q) : LessAt A s (.ref a) (.ref b) (HT.lexLt r q) := fun prog w E Q h => by
  obtain ⟨its, rv, hl, _⟩ := I.tuple (SqT.of ha)
  obtain ⟨its2, rv2, hl2, _⟩ := I.tuple (SqT.of hb)
  exact HT.lt_tupInts hl hl2 (by rw [List.toList_toArray]; exact rv.ints) (by rw [List.toList_toArray]; exact rv2.ints) hu h
theorem less_rows (I : Inv X pins σ H s) {A : Around} (hu : A.units + 64 < cLine) {a b : Addr} {rs qs : List (List Int)} (ha : GR H a rs) (hb : GR H b qs) (hlen : rs.length = qs.length) : LessAt A s (.ref a) (.ref b) (lexRows rs qs) := fun prog w E Q h => by
  obtain ⟨as, ea, la, pa⟩ := ha.lst
  obtain ⟨bs, eb, lb, pb⟩ := hb.lst
  obtain ⟨_, its, n, rv, l1, o1⟩ := I.lstM ea
  obtain ⟨_, its2, n2, rv2, l2, o2⟩ := I.lstM eb
  rw [List.length_map] at l1 l2
  have hu1 : A.in1.units = A.units + 1 := rfl
  refine richCompare_meets_room (op := .Lt) ⟨_, o1, rfl⟩ ⟨_, o2, rfl⟩ PySem.F.slot_list_lt PySem.F.entry_list_lt (PySem.F.args_list_lt_2 _ _)
    (less_list a b its.toArray its2.toArray n n2 (by rw [List.size_toArray, List.size_toArray]; omega) (fun j => decide (rs.getD j [] = qs.getD j [])) (fun j => HT.lexLt (rs.getD j []) (qs.getD j [])))
    ⟨o1, o2, fun j h1 h2 => ?_, fun j h1 h2 _ => ?_, ?_⟩ (by omega)
  all_goals try rw [List.size_toArray] at h1 h2
  · obtain ⟨x, hx⟩ : ∃ x, rs[j]? = some x := ⟨_, List.getElem?_eq_getElem (by omega)⟩
    obtain ⟨y, hy⟩ : ∃ y, qs[j]? = some y := ⟨_, List.getElem?_eq_getElem (by omega)⟩
    obtain ⟨p, hp⟩ : ∃ p, as[j]? = some p := ⟨_, List.getElem?_eq_getElem (by omega)⟩
    obtain ⟨q, hq⟩ : ∃ q, bs[j]? = some q := ⟨_, List.getElem?_eq_getElem (by omega)⟩
    obtain ⟨x', ex, gx⟩ := paired_get' pa hp
    obtain ⟨y', ey, gy⟩ := paired_get' pb hq
    rw [hx] at ex; cases ex
    rw [hy] at ey; cases ey
    obtain ⟨u, eu, ru⟩ := rv.get (i := j) (x := .ref p) (by rw [List.getElem?_map, hp]; rfl)
    obtain ⟨v, ev, rw2⟩ := rv2.get (i := j) (x := .ref q) (by rw [List.getElem?_map, hq]; rfl)
    obtain ⟨c1, d1⟩ := Dp.reads I (dR x) (.ref p) u (dp_tup (GT.mono _ _ _ _ (hide_same H _) gx)) ru
    obtain ⟨c2, d2⟩ := Dp.reads I (dR y) (.ref q) v (dp_tup (GT.mono _ _ _ _ (hide_same H _) gy)) rw2
    have e := SeqAt.eqAt_reads (dR x) (dR y) A.in1 s u v c1 c2 d1 d2 (can_dR x) (can_dR y) (by rw [dep_dR, dep_dR]; omega)
    rw [eqv_dR] at e
    have eu' : its.toArray[j] = u := by
      rw [List.getElem_toArray]
      exact Option.some.inj ((List.getElem?_eq_getElem h1).symm.trans eu)
    have ev' : its2.toArray[j] = v := by
      rw [List.getElem_toArray]
      exact Option.some.inj ((List.getElem?_eq_getElem h2).symm.trans ev)
    show SeqAt.EqAt _ _ its.toArray[j] its2.toArray[j] (decide (rs.getD j [] = qs.getD j []))
    rw [eu', ev', List.getD_eq_getElem?_getD, List.getD_eq_getElem?_getD, hx, hy]
    exact e
  · obtain ⟨x, hx⟩ : ∃ x, rs[j]? = some x := ⟨_, List.getElem?_eq_getElem (by omega)⟩
    obtain ⟨y, hy⟩ : ∃ y, qs[j]? = some y := ⟨_, List.getElem?_eq_getElem (by omega)⟩
    obtain ⟨p, hp⟩ : ∃ p, as[j]? = some p := ⟨_, List.getElem?_eq_getElem (by omega)⟩
    obtain ⟨q, hq⟩ : ∃ q, bs[j]? = some q := ⟨_, List.getElem?_eq_getElem (by omega)⟩
    obtain ⟨x', ex, gx⟩ := paired_get' pa hp
    obtain ⟨y', ey, gy⟩ := paired_get' pb hq
    rw [hx] at ex; cases ex
    rw [hy] at ey; cases ey
    obtain ⟨u, eu, ru⟩ := rv.get (i := j) (x := .ref p) (by rw [List.getElem?_map, hp]; rfl)
    obtain ⟨v, ev, rw2⟩ := rv2.get (i := j) (x := .ref q) (by rw [List.getElem?_map, hq]; rfl)
    cases ru
    cases rw2
    have e := less_tup I (A := A.in1) (by omega) (GT.mono _ _ _ _ (hide_same H _) gx) (GT.mono _ _ _ _ (hide_same H _) gy)
    have eu' : its.toArray[j] = .ref p := by
      rw [List.getElem_toArray]
      exact Option.some.inj ((List.getElem?_eq_getElem h1).symm.trans eu)
    have ev' : its2.toArray[j] = .ref q := by
      rw [List.getElem_toArray]
      exact Option.some.inj ((List.getElem?_eq_getElem h2).symm.trans ev)
    show LessAt _ _ its.toArray[j] its2.toArray[j] (HT.lexLt (rs.getD j []) (qs.getD j []))
    rw [eu', ev', List.getD_eq_getElem?_getD, List.getD_eq_getElem?_getD, hx, hy]
    exact e
  · rw [lexAt_rows rs qs its.toArray.size 0 rs qs hlen (by rw [List.size_toArray]; omega) rfl rfl]
    exact ⟨(fun x => nomatch x), h⟩
/-- keys: how many rows, the rows -/
theorem less_keys (I : Inv X pins σ H s) {A : Around} (hu : A.units + 70 < cLine) {t u a b : Addr} {rs qs : List (List Int)} (ht : H t = some (.tup [.int (rs.length : Nat), .ref a])) (hq : H u = some (.tup [.int (qs.length : Nat), .ref b]))
    (ha : GR H a rs) (hb : GR H b qs) : LessAt A s (.ref t) (.ref u) (keyLess rs qs) := fun prog w E Q h => by
  obtain ⟨its, rv, ⟨⟨cls, dd, data, sl⟩, ho, hc, n, hd⟩, _⟩ := I.tuple (SqT.of ht)
  obtain ⟨its2, rv2, ⟨⟨cls2, dd2, data2, sl2⟩, ho2, hc2, n2, hd2⟩, _⟩ := I.tuple (SqT.of hq)
  simp only at hc hd hc2 hd2
  subst hc hd hc2 hd2
  obtain ⟨x1, x2, rfl, ⟨t1, rfl⟩, rfl⟩ := Vals.two rv
  obtain ⟨y1, y2, rfl, ⟨t2, rfl⟩, rfl⟩ := Vals.two rv2
  have hu1 : A.in1.units = A.units + 1 := rfl
  refine richCompare_meets_room (op := .Lt) ⟨_, ho, rfl⟩ ⟨_, ho2, rfl⟩ PySem.F.slot_tuple_lt PySem.F.entry_tuple_lt (PySem.F.args_tuple_lt_2 _ _)
    (less_two t u _ _ t1 t2 a b n n2 dd dd2 sl sl2 (decide (rs = qs)) (lexRows rs qs)) ⟨ho, ho2, fun _ => ?_, fun e _ => ?_, ?_⟩ (by omega)
  · obtain ⟨c1, d1⟩ := Dp.reads I (dRs rs) (.ref a) (.ref a) (dp_rows ha) rfl
    obtain ⟨c2, d2⟩ := Dp.reads I (dRs qs) (.ref b) (.ref b) (dp_rows hb) rfl
    have e := SeqAt.eqAt_reads (dRs rs) (dRs qs) A.in1 s _ _ c1 c2 d1 d2 (can_dRs rs) (can_dRs qs) (by have := dep_dRs rs; omega)
    rw [eqv_dRs] at e
    exact e
  · exact less_rows I (by omega) ha hb (by omega)
  · exact ⟨(fun x => nomatch x), h⟩
end
end Ew
end
section
set_option Elab.async false
set_option linter.all false
set_option maxRecDepth 100000
set_option maxHeartbeats 2000000
namespace Ew
open PySem PySem.Spec PyProof.Rows L2
/-- what the key's def promises: how many, the list -/
def spRank (K : PySem.W.Frag) : Sp := fun vs H Q _ => ∃ (a : Addr) (xs : List V), vs = [.ref a] ∧ SqL K H a xs ∧ ∀ p, H p = none → Q (.ref p) (upd H p (.tup [.int (xs.length : Nat), .ref a]))
section
variable {X : Cx} {pins : List (Addr × Obj)} {σ : L2.St} {H : Hp} {s : Shared} {k : Nat} {f : Addr} {fd : FuncData} {ps : List Str} {sp : Sp}
theorem run_in1 {Q : VK} {us : List Value} {vs : List V} (F : FnOk X.prog X.w X.K X.mg X.base CX0 k f fd ps sp) (hr : Room (k + 1) X.A) (hb : Binds X.K fd ps []) (I : Inv X pins σ H s) (r : Vals vs us) (h : sp vs H Q E0) :
    wpAny (model X.prog X.w) X.A.in1 (call (.ref f) us) (EP X pins σ Q) (fun _ _ => False) s := by
  have hl : us.length = ps.length := by rw [← r.length]; exact F.len _ _ _ _ h
  have b1 := hb s us I.kIn (by rw [List.append_nil]; exact hl)
  rw [List.append_nil] at b1
  refine wpAny_call (codeAny_mono (F.run X.A.in1 X.stack s H ⟨us, []⟩ us vs Q E0 hr.in1 I.env0.in1 b1 r h) fun r' s' hq => ?_)
  cases r' with
  | error e => exact hq
  | ok fl =>
    cases fl with
    | ret u => exact I.after hq
    | next => exact False.elim hq
    | brk => exact False.elim hq
    | cont => exact False.elim hq
theorem fpAt {H' : Hp} {b : Addr} (h : FpOk X pins H b) (hn : H' b = none) : FpOk X pins H' b := ⟨hn, h.2⟩
theorem Inv.pin2 {S T : Addr} {oS oT : Obj} (I : Inv X pins σ H s) (fS : FpOk X pins H S) (fT : FpOk X pins H T) (hS : s.heap.get? S = some oS) (hT : s.heap.get? T = some oT) (dS : ∀ v, oS.data ≠ .cell v) (dT : ∀ v, oT.data ≠ .cell v) :
    Inv X (pins ++ [(S, oS), (T, oT)]) σ H s := I.pins_of fun p hp => by
  rcases List.mem_append.mp hp with c | c
  · exact I.pin p (List.mem_append_right _ c)
  · rcases List.mem_cons.mp c with c | c
    · subst c; exact ⟨hS, fS.1, fS.2.1, fS.2.2.1, dS⟩
    · rw [List.mem_singleton] at c
      subst c; exact ⟨hT, fT.1, fT.2.1, fT.2.2.1, dT⟩
theorem Inv.other {S : Addr} {h' : Heap} {t' : Nat} (I : Inv X pins σ H s) (fS : FpOk X pins H S) (kk : ∀ b o, b ≠ S → s.heap.get? b = some o → h'.get? b = some o) : Inv X pins σ H { s with heap := h', toks := t' } :=
  I.turned kk fS.1 fS.2.1 fS.2.2.2.1 fS.2.2.2.2.1 fS.2.2.2.2.2
/-- the state of the walk: the best so far is as[i] -/
structure Best (X : Cx) (pins : List (Addr × Obj)) (σ : L2.St) (H0 : Hp) (l It S : Addr) (as : List Addr) (rows : List (List (List Int))) (j i : Nat) (s : Shared) : Prop where
  ex : ∃ (H : Hp) (p t : Addr) (c : Nat) (r : List (List Int)), Inv X pins σ H s ∧ Same H0 H ∧ FpOk X pins H It ∧ FpOk X pins H S ∧ s.heap.get? S = some (seqObj "list" #[.ref p, .ref t] c) ∧ as[i]? = some p ∧ rows[i]? = some r ∧
    H t = some (.tup [.int (r.length : Nat), .ref p]) ∧ s.heap.IsListIter It l j ∧ ∀ m, m < j → ∀ q, rows[m]? = some q → keyLess q r = false
theorem best_loop {l It S : Addr} {as : List Addr} {rows : List (List (List Int))} {H0 : Hp} {Q : VK} (F : FnOk X.prog X.w X.K X.mg X.base CX0 k f fd ps (spRank X.K)) (hr : Room (k + 1) X.A) (hu : X.A.units + 80 < cLine) (hb : Binds X.K fd ps []) (hh : X.A.handled = none)
    (hl0 : H0 l = some (.lst (as.map V.ref))) (hp0 : Paired (fun a r => GR H0 a r) as rows) (hlI : l ≠ It) (hSI : S ≠ It)
    (tr : ∀ x ∈ rows, ∀ y ∈ rows, ∀ z ∈ rows, keyLess x y = true → keyLess y z = true → keyLess x z = true)
    (hQ : ∀ (i : Nat) (p : Addr) (r : List (List Int)) (H : Hp), as[i]? = some p → rows[i]? = some r → (∀ q ∈ rows, keyLess q r = false) → Same H0 H → Q (.ref p) H) :
    ∀ (n j i : Nat) (s : Shared), as.length - j = n → j ≤ as.length → Best X pins σ H0 l It S as rows j i s →
      codeAny (model X.prog X.w) X.A (.builtin "min.loop" ⟨[.ref It, .ref f, .ref S], []⟩) (fun r s' => match r with | .ok (.ret v) => EP X pins σ Q v s' | .ok _ => False | .error e => X.xe e s') s := by
  have nm : (toString "min" ++ toString ".loop" : String) = "min.loop" := by decide
  have lr : as.length = rows.length := Paired.length hp0
  intro n
  induction n with
  | zero =>
    intro j i s hn hj B
    obtain ⟨H, p, t, c, r, I, sm, fI, fS, gS, ep, er, ht, it, best⟩ := B.ex
    have ej : j = as.length := by omega
    obtain ⟨_, its, n1, rv, ll, ol⟩ := I.lstM (sm _ _ hl0)
    rw [List.length_map] at ll
    have W := Walks.list (prog := X.prog) (w := X.w) (A := X.A.in1) hh It l hlI its.toArray
    refine codeAny_builtin PySem.F.entry_min_loop ?_
    rw [Around.under_plainId PySem.F.plain_min_loop _]
    show wpAny _ X.A.in1 (seqItems? (.ref S) >>= _) _ _ _
    refine wpAny_bind (wpAny_seqItems gS rfl ?_)
    show wpAny _ X.A.in1 (tryCatch (pyNext (.ref It)) _ >>= _) _ _ _
    refine wpAny_bind (wpAny_tryCatch (W.done _ _ _ ⟨by rw [List.size_toArray, ← ll, ← ej]; exact it, ⟨_, ol, rfl, _, rfl⟩⟩ fun h' tk' hk' => ?_))
    have I1 : Inv X pins σ H { s with heap := h', toks := tk' } := Inv.other I fI fun b o nb e => hk' b o (fun m => nb (List.mem_singleton.mp m)) e
    have gS1 := hk' S _ (fun m => hSI (List.mem_singleton.mp m)) gS
    show wpAny _ X.A.in1 (updateSeq S (fun _ => #[]) >>= _) _ _ _
    refine wpAny_bind ?_
    refine wpAny_updateSeq gS1 rfl (wpAny_bind (wpAny_letGo (wpAny_pure ?_)))
    have I2 : Inv X pins σ H { s with heap := h'.update S (Obj.mapSeq fun _ => #[]), toks := tk' } := Inv.other (s := { s with heap := h', toks := tk' }) I1 fS fun b o nb e => by rw [Heap.get?_update_ne _ _ _ _ nb]; exact e
    refine ⟨.ref p, H, I2, rfl, hQ i p r H ep er (fun q hq => ?_) sm⟩
    obtain ⟨m, hm, em⟩ := List.getElem_of_mem hq
    exact best m (by omega) q (by rw [← em]; exact List.getElem?_eq_getElem hm)
  | succ n ih =>
    intro j i s hn hj B
    obtain ⟨H, p, t, c, r, I, sm, fI, fS, gS, ep, er, ht, it, best⟩ := B.ex
    have jl : j < as.length := by omega
    obtain ⟨_, its, n1, rv, ll, ol⟩ := I.lstM (sm _ _ hl0)
    rw [List.length_map] at ll
    have W := Walks.list (prog := X.prog) (w := X.w) (A := X.A.in1) hh It l hlI its.toArray
    refine codeAny_builtin PySem.F.entry_min_loop ?_
    rw [Around.under_plainId PySem.F.plain_min_loop _]
    show wpAny _ X.A.in1 (seqItems? (.ref S) >>= _) _ _ _
    refine wpAny_bind (wpAny_seqItems gS rfl ?_)
    show wpAny _ X.A.in1 (tryCatch (pyNext (.ref It)) _ >>= _) _ _ _
    refine wpAny_bind (wpAny_tryCatch (W.item j _ _ _ (by rw [List.size_toArray, ← ll]; exact jl) ⟨it, ⟨_, ol, rfl, _, rfl⟩⟩ fun v h' tk' hv st' hk' => ?_))
    obtain ⟨a, ha⟩ : ∃ a, as[j]? = some a := ⟨_, List.getElem?_eq_getElem jl⟩
    obtain ⟨q, hq, gq⟩ := paired_get' hp0 ha
    obtain ⟨u, eu, ru⟩ := rv.get (i := j) (x := .ref a) (by rw [List.getElem?_map, ha]; rfl)
    cases ru
    have ev : v = .ref a := by
      have : its[j]? = some v := by simpa using hv
      rw [eu] at this
      exact (Option.some.inj this).symm
    subst ev
    have I1 : Inv X pins σ H { s with heap := h', toks := tk' } := Inv.other I fI fun b o nb e => hk' b o (fun m => nb (List.mem_singleton.mp m)) e
    have gS1 := hk' S _ (fun m => hSI (List.mem_singleton.mp m)) gS
    obtain ⟨oI, gI, cI, dI⟩ := st'.1
    have I1' := Inv.pin2 I1 fS fI gS1 gI (by intro v; simp [seqObj]) (by intro v; rw [dI]; simp)
    show wpAny _ X.A.in1 (tryCatch (holding [.ref a] (call (.ref f) [.ref a])) _ >>= _) _ _ _
    have hga : GR H a q := GR.mono _ _ _ _ sm gq
    obtain ⟨bs, eb, lb, _⟩ := hga.lst
    have run := run_in1 (Q := fun v2 H2 => ∃ t2, H t2 = none ∧ v2 = .ref t2 ∧ H2 = upd H t2 (.tup [.int ((bs.map V.ref).length : Nat), .ref a])) F hr hb I1' (us := [.ref a]) (vs := [.ref a]) (.cons rfl .nil)
      ⟨a, bs.map V.ref, rfl, SqL.of eb, fun t2 h2 => ⟨t2, h2, rfl, rfl⟩⟩
    refine wpAny_bind (wpAny_tryCatch (wpAny_holding (wpAny_mono run (fun x s2 he => ?_) fun _ _ hF => hF.elim)))
    obtain ⟨v2, H2, I2, r2, t2, ht2, rfl, rfl⟩ := he
    cases r2
    rw [List.length_map, lb] at I2
    have sm2 : Same H (upd H t2 (.tup [.int (q.length : Nat), .ref a])) := Same.new ht2
    have pS := I2.pin (S, _) (List.mem_append_right _ (List.mem_append_right _ (List.mem_cons_self ..)))
    have pI := I2.pin (It, oI) (List.mem_append_right _ (List.mem_append_right _ (List.mem_cons_of_mem _ (List.mem_cons_self ..))))
    have I3 := I2.unpinned
    have fI3 : FpOk X pins (upd H t2 (.tup [.int (q.length : Nat), .ref a])) It := fpAt fI pI.2.1
    have fS3 : FpOk X pins (upd H t2 (.tup [.int (q.length : Nat), .ref a])) S := fpAt fS pS.2.1
    have gr : GR H0 p r := by
      obtain ⟨r', e', g'⟩ := paired_get' hp0 ep
      rw [er] at e'; cases e'; exact g'
    have ls := less_keys I3 (A := X.A.in1) (by show X.A.units + 1 + 70 < _; omega) (t := t2) (u := t) upd_same (sm2 _ _ ht) (GR.mono _ _ _ _ sm2 hga) (GR.mono _ _ _ _ (sm.trans sm2) gr) X.prog X.w
    show wpAny _ X.A.in1 (tryCatch (holding [.ref a, .ref t2] (richCompare .Lt (.ref t2) (.ref t) >>= _)) _ >>= _) _ _ _
    refine wpAny_bind (wpAny_tryCatch (wpAny_holding (wpAny_bind (ls _ _ ?_))))
    refine wpAny_bind (wpAny_holding (wpAny_truthy_bool ?_))
    refine wpAny_bind (wpAny_letGo (wpAny_pure ?_))
    have hqm : q ∈ rows := List.mem_of_getElem? hq
    have hrm : r ∈ rows := List.mem_of_getElem? er
    cases hkl : keyLess q r with
    | true =>
      rw [if_pos rfl]
      refine wpAny_bind ?_
      refine wpAny_updateSeq pS.1 rfl (wpAny_bind (wpAny_letGo ?_))
      rw [nm]
      have I4 : Inv X pins σ (upd H t2 (.tup [.int (q.length : Nat), .ref a])) { s2 with heap := s2.heap.update S (Obj.mapSeq fun _ => #[.ref a, .ref t2]) } := Inv.other (t' := s2.toks) I3 fS3 fun b o nb e => by rw [Heap.get?_update_ne _ _ _ _ nb]; exact e
      refine wpAny_pure ⟨plainId_quiet PySem.F.plain_min_loop _, ih (j + 1) j _ (by omega) (by omega) ⟨⟨_, a, t2, _, q, I4, sm.trans sm2, fI3, fS3, get?_update_seq pS.1 fun _ => #[.ref a, .ref t2], ha, hq, upd_same, ⟨oI, ?_, cI, dI⟩, fun m hm x hx => ?_⟩⟩⟩
      · rw [Heap.get?_update_ne _ _ _ _ (Ne.symm hSI)]; exact pI.1
      · cases e : keyLess x q with
        | false => rfl
        | true =>
          have ex := tr x (List.mem_of_getElem? hx) q hqm r hrm e hkl
          by_cases c : m = j
          · subst c
            rw [hq] at hx; cases hx
            -- q < q and so q < r: not both
            exact absurd (show keyLess q q = false from by unfold keyLess; rw [if_pos rfl, if_pos (decide_eq_true rfl)]) (by rw [e]; decide)
          · rw [best m (by omega) x hx] at ex; cases ex
    | false =>
      rw [if_neg (by decide)]
      refine wpAny_bind (wpAny_letGo ?_)
      rw [nm]
      refine wpAny_pure ⟨plainId_quiet PySem.F.plain_min_loop _, ih (j + 1) i _ (by omega) (by omega) ⟨⟨_, p, t, c, r, I3, sm.trans sm2, fI3, fS3, pS.1, ep, er, sm2 _ _ ht, ⟨oI, pI.1, cI, dI⟩, fun m hm x hx => ?_⟩⟩⟩
      by_cases c' : m = j
      · subst c'
        rw [hq] at hx; cases hx
        exact hkl
      · exact best m (by omega) x hx
/-- min(xs, key = f) -/
theorem min_key {l : Addr} {as : List Addr} {rows : List (List (List Int))} {Q : VK} (F : FnOk X.prog X.w X.K X.mg X.base CX0 k f fd ps (spRank X.K)) (hr : Room (k + 1) X.A) (hu : X.A.units + 80 < cLine) (hb : Binds X.K fd ps []) (hh : X.A.handled = none) (I : Inv X pins σ H s)
    (hl0 : H l = some (.lst (as.map V.ref))) (hp0 : Paired (fun a r => GR H a r) as rows) (hne : 0 < as.length)
    (tr : ∀ x ∈ rows, ∀ y ∈ rows, ∀ z ∈ rows, keyLess x y = true → keyLess y z = true → keyLess x z = true)
    (hQ : ∀ (i : Nat) (p : Addr) (r : List (List Int)) (H' : Hp), as[i]? = some p → rows[i]? = some r → (∀ q ∈ rows, keyLess q r = false) → Same H H' → Q (.ref p) H') :
    wpAny (model X.prog X.w) X.A (call (.builtin "min") [.ref l] [(Str.ofString "key", .ref f)]) (EP X pins σ Q) X.xe s := by
  have nm : (toString "min" ++ toString ".loop" : String) = "min.loop" := by decide
  obtain ⟨_, its, n1, rv, ll, ol⟩ := I.lstM hl0
  rw [List.length_map] at ll
  have hll : l < s.heap.objs.size := Heap.lt_size ol
  refine kmk_tree PySem.F.kind_min PySem.F.plain_min PySem.F.entry_min (kmk_min_key _ _) ?_
  show wpAny _ X.A.in1 (Builtin.Builtins.bindParams "min" ["key", "default"] 0 ⟨[], [(Str.ofString "key", .ref f)]⟩ >>= _) _ _ s
  refine wpAny_bind (wpAny_of_eq (show Builtin.Builtins.bindParams "min" ["key", "default"] 0 ⟨[], [(Str.ofString "key", .ref f)]⟩ = pure [some (.ref f), none] from rfl) ?_)
  refine wpAny_bind (wpAny_pure ?_)
  refine wpAny_bind (wpAny_pyIter_list ⟨_, ol, rfl, _, rfl⟩ ?_)
  refine wpAny_bind (wpAny_newList ?_ (Nat.zero_le _))
  rw [nm]
  let It := s.heap.objs.size
  let g1 := s.heap.push { cls := .type "list_iterator", data := .fields #[.ref l, .int 0 0] }
  let g2 := g1.push { cls := .type "list", data := .seq ([] : List Value).toArray }
  have hS : g1.objs.size = It + 1 := size_push' ..
  have hlI : l ≠ It := Nat.ne_of_lt hll
  have hSI : g1.objs.size ≠ It := by rw [hS]; exact Nat.ne_of_gt (Nat.lt_succ_self _)
  have keep : ∀ b o, s.heap.get? b = some o → g2.get? b = some o := fun b o e => Heap.get?_push_of_some _ (Heap.get?_push_of_some _ e)
  have I0 : Inv X pins σ H { s with heap := g2, toks := s.toks } := I.kept keep
  have fI : FpOk X pins H It := I.fpOk (Nat.le_refl _) (I.hok.fresh (Nat.le_refl _))
  have fS : FpOk X pins H g1.objs.size := I.fpOk (by rw [hS]; exact Nat.le_succ _) (I.hok.fresh (by rw [hS]; exact Nat.le_succ _))
  have gI : g2.get? It = some { cls := .type "list_iterator", data := .fields #[.ref l, .int 0 0] } := Heap.get?_push_of_some _ (Heap.get?_push_size _ rfl)
  have gS : g2.get? g1.objs.size = some (seqObj "list" #[] 0) := Heap.get?_push_size _ rfl
  refine wpAny_pure ⟨plainId_quiet PySem.F.plain_min_loop _, ?_⟩
  have W := Walks.list (prog := X.prog) (w := X.w) (A := X.A.in1) hh It l hlI its.toArray
  refine codeAny_builtin PySem.F.entry_min_loop ?_
  rw [Around.under_plainId PySem.F.plain_min_loop _]
  show wpAny _ X.A.in1 (seqItems? (.ref g1.objs.size) >>= _) _ _ _
  refine wpAny_bind (wpAny_seqItems gS rfl ?_)
  show wpAny _ X.A.in1 (tryCatch (pyNext (.ref It)) _ >>= _) _ _ _
  refine wpAny_bind (wpAny_tryCatch (W.item 0 _ _ _ (by rw [List.size_toArray, ← ll]; exact hne) ⟨⟨_, gI, rfl, rfl⟩, ⟨_, keep _ _ ol, rfl, _, rfl⟩⟩ fun v h' tk' hv st' hk' => ?_))
  obtain ⟨a, ha⟩ : ∃ a, as[0]? = some a := ⟨_, List.getElem?_eq_getElem hne⟩
  obtain ⟨q, hq, gq⟩ := paired_get' hp0 ha
  obtain ⟨u, eu, ru⟩ := rv.get (i := 0) (x := .ref a) (by rw [List.getElem?_map, ha]; rfl)
  cases ru
  have ev : v = .ref a := by
    have : its[0]? = some v := by simpa using hv
    rw [eu] at this
    exact (Option.some.inj this).symm
  subst ev
  have I1 : Inv X pins σ H { s with heap := h', toks := tk' } := Inv.other (s := { s with heap := g2, toks := s.toks }) I0 fI fun b o nb e => hk' b o (fun m => nb (List.mem_singleton.mp m)) e
  have gS1 := hk' g1.objs.size _ (fun m => hSI (List.mem_singleton.mp m)) gS
  obtain ⟨oI, gI1, cI, dI⟩ := st'.1
  have I1' := Inv.pin2 I1 fS fI gS1 gI1 (by intro v; simp [seqObj]) (by intro v; rw [dI]; simp)
  show wpAny _ X.A.in1 (tryCatch (holding [.ref a] (call (.ref f) [.ref a])) _ >>= _) _ _ _
  obtain ⟨bs, eb, lb, _⟩ := gq.lst
  have run := run_in1 (Q := fun v2 H2 => ∃ t2, H t2 = none ∧ v2 = .ref t2 ∧ H2 = upd H t2 (.tup [.int ((bs.map V.ref).length : Nat), .ref a])) F hr hb I1' (us := [.ref a]) (vs := [.ref a]) (.cons rfl .nil)
    ⟨a, bs.map V.ref, rfl, SqL.of eb, fun t2 h2 => ⟨t2, h2, rfl, rfl⟩⟩
  refine wpAny_bind (wpAny_tryCatch (wpAny_holding (wpAny_mono run (fun x s2 he => ?_) fun _ _ hF => hF.elim)))
  obtain ⟨v2, H2, I2, r2, t2, ht2, rfl, rfl⟩ := he
  cases r2
  rw [List.length_map, lb] at I2
  have sm2 : Same H (upd H t2 (.tup [.int (q.length : Nat), .ref a])) := Same.new ht2
  have pS := I2.pin (g1.objs.size, _) (List.mem_append_right _ (List.mem_append_right _ (List.mem_cons_self ..)))
  have pI := I2.pin (It, oI) (List.mem_append_right _ (List.mem_append_right _ (List.mem_cons_of_mem _ (List.mem_cons_self ..))))
  have I3 := I2.unpinned
  have fS3 : FpOk X pins (upd H t2 (.tup [.int (q.length : Nat), .ref a])) g1.objs.size := fpAt fS pS.2.1
  show wpAny _ X.A.in1 (updateSeq g1.objs.size (fun _ => #[.ref a, .ref t2]) >>= _) _ _ _
  refine wpAny_bind ?_
  refine wpAny_updateSeq pS.1 rfl ?_
  rw [nm]
  have I4 : Inv X pins σ (upd H t2 (.tup [.int (q.length : Nat), .ref a])) { s2 with heap := s2.heap.update g1.objs.size (Obj.mapSeq fun _ => #[.ref a, .ref t2]) } := Inv.other (t' := s2.toks) I3 fS3 fun b o nb e => by rw [Heap.get?_update_ne _ _ _ _ nb]; exact e
  refine wpAny_pure ⟨plainId_quiet PySem.F.plain_min_loop _, best_loop F hr hu hb hh hl0 hp0 hlI hSI tr hQ (as.length - 1) 1 0 _ rfl hne ⟨⟨_, a, t2, _, q, I4, sm2, (fpAt fI pI.2.1), fS3, get?_update_seq pS.1 fun _ => #[.ref a, .ref t2], ha, hq, upd_same, ⟨oI, ?_, cI, dI⟩, fun m hm x hx => ?_⟩⟩⟩
  · rw [Heap.get?_update_ne _ _ _ _ (Ne.symm hSI)]; exact pI.1
  · have : m = 0 := by omega
    subst this
    rw [hq] at hx; cases hx
    unfold keyLess
    rw [if_pos rfl, if_pos (decide_eq_true rfl)]
end
/-- min(e, key = g), g a def of the text -/
def rMinK (x : V) (H1 : Hp) (Q : VK) : Prop := ∃ (l : Addr) (as : List Addr) (rows : List (List (List Int))), x = .ref l ∧ H1 l = some (.lst (as.map V.ref)) ∧ Paired (fun a r => GR H1 a r) as rows ∧ 0 < as.length ∧
  (∀ x ∈ rows, ∀ y ∈ rows, ∀ z ∈ rows, keyLess x y = true → keyLess y z = true → keyLess x z = true) ∧ ∀ (i : Nat) (p : Addr) (r : List (List Int)) (H' : Hp), as[i]? = some p → rows[i]? = some r → (∀ q ∈ rows, keyLess q r = false) → Same H1 H' → Q (.ref p) H'
def tMinK (te : TE) : TE := fun σ H Q => te σ H fun x H1 => rMinK x H1 Q
def oneOf (P : V → Hp → Prop) (vs : List V) (H : Hp) : Prop := match vs with
  | [x] => P x H
  | _ => False
theorem pe_minK {X : Cx} {k : Nat} {f : Addr} {fd : FuncData} {ps : List Str} {e : Expr} {te : TE} {p p2 kpos pos : Pos} {g : Str} (F : FnOk X.prog X.w X.K X.mg X.base CX0 k f fd ps (spRank X.K)) (hr : Room (k + 1) X.A) (hb : Binds X.K fd ps []) (hc : X.calm = true)
    (hg : Gl X "min") (hm : X.mg "min" = none) (hg2 : Gl X g) (hm2 : X.mg g = some (.ref f)) (he : PE X e te) (hs : starEach [e] X.env = [(false, eval e X.env)] := by rfl) (hd : (g == ("__debug__" : Str)) = false := by decide) :
    PE X (.Call (.Name "min" p) [e] [⟨some "key", .Name g p2, kpos⟩] pos) (tMinK te) := by
  intro pins s σ H Q I h
  refine wpAny_Call_Name_kw (ld_blt I hg hm PyProof.Rows.boot_min ?_)
  have hpa : PA X [e] (tCons te tNil) := pa_cons he pa_nil hs
  refine PyProof.Rows.callWith_kw (thn (hpa pos pins s σ H (oneOf fun x H1 => rMinK x H1 Q) I h) fun us s1 ⟨vs, H1, I1, r1, q1⟩ => ?_) (by rw [hs]; rfl) (by rw [hs]; rfl) (by rfl) (by rfl)
  match vs, r1, q1 with
  | [x], r1, q1 =>
    obtain ⟨l, as, rows, rfl, hl, hp, hne, tr, q⟩ := q1
    rw [Vals.ref1 r1]
    have hpk : PK X [⟨some "key", .Name g p2, kpos⟩] (tCons (tC (.ref f)) tNil) := pk_cons (pe_glob hg2 hm2 rfl hd) pk_nil
    refine thn (hpk pos pins s1 σ H1 (fun zs H2 => zs = [.ref f] ∧ H2 = H1) I1 ⟨rfl, rfl⟩) fun ws s2 ⟨zs, H2, I2, rz, ez, eH⟩ => ?_
    subst ez eH
    rw [Vals.ref1 rz]
    exact min_key F hr (by have := hr.un; omega) hb (I2.ok.hd hc) I2 hl hp hne tr q
end Ew
end
section
set_option Elab.async false
set_option linter.all false
set_option maxRecDepth 100000
set_option maxHeartbeats 2000000
namespace Ew
open PySem PySem.Spec PyProof.Rows L2
def noStr : Nat → Bool := fun _ => false
theorem items_ints : ∀ {its : List Value} {r : List Int} (i : Nat), IntsAre its r → PyProof.Rows.tupItems noStr i its = some (r.map Sum.inl)
  | _, _, i, .nil => rfl
  | _, _, i, .cons n t h => by
    show (if noStr i = true then none else (PyProof.Rows.tupItems noStr (i + 1) _).map (Sum.inl n :: ·)) = _
    rw [if_neg (by unfold noStr; decide), items_ints (i + 1) h]
    rfl
theorem lex_inl : ∀ x y : List Int, PyProof.Rows.lexLt PyProof.Rows.itemOrd (x.map Sum.inl) (y.map Sum.inl) = HT.lexLt x y
  | [], [] => rfl
  | [], b :: y => rfl
  | a :: x, [] => rfl
  | a :: x, b :: y => by
    show (decide (a < b) || (!decide (b < a) && PyProof.Rows.lexLt PyProof.Rows.itemOrd (x.map Sum.inl) (y.map Sum.inl))) = if a = b then HT.lexLt x y else decide (a < b)
    rw [lex_inl x y]
    by_cases c : a = b
    · subst c
      simp
    · rw [if_neg c]
      by_cases d : a < b
      · simp [d]
      · have : b < a := by omega
        simp [d, this]
def unref : Value → Addr
  | .ref a => a
  | _ => 0
def rSortT : List V → Hp → VK → Prop := fun vs H Q => ∃ (a : Addr) (as : List Addr) (rf : Addr → List Int), vs = [.ref a] ∧ H a = some (.lst (as.map V.ref)) ∧ (∀ b ∈ as, GT H b (rf b) ∧ rf b ≠ []) ∧
  ∀ (bs : List Addr) (p : Addr), bs.Perm as → (bs.map rf).Pairwise (fun x y => HT.lexLt y x = false) → H p = none → Q (.ref p) (upd H p (.lst (bs.map V.ref)))
section
variable {X : Cx}
theorem vals_refs : ∀ {as : List Addr} {us : List Value}, Vals (as.map V.ref) us → us = as.map Value.ref
  | [], us, h => by
    rw [List.map_nil] at h
    cases h
    rfl
  | a :: as, us, h => by
    rw [List.map_cons] at h
    cases h with
    | cons r t =>
      cases r
      rw [vals_refs t, List.map_cons]
theorem refs_vals : ∀ as : List Addr, Vals (as.map V.ref) (as.map Value.ref)
  | [] => .nil
  | a :: as => .cons rfl (refs_vals as)
theorem zip_fst {α : Type} : ∀ {l : List α} {p : α × α}, p ∈ l.zip l → p.1 = p.2 ∧ p.1 ∈ l
  | [], p, h => by cases h
  | x :: l, p, h => by
    rw [List.zip_cons_cons] at h
    rcases List.mem_cons.mp h with c | c
    · subst c; exact ⟨rfl, List.mem_cons_self ..⟩
    · exact ⟨(zip_fst c).1, List.mem_cons_of_mem _ (zip_fst c).2⟩
theorem zip_unref : ∀ as : List Addr, ((as.map Value.ref).zip (as.map Value.ref)).map (fun x : Value × Value => unref x.1) = as
  | [] => rfl
  | a :: as => by
    rw [List.map_cons, List.zip_cons_cons, List.map_cons, zip_unref as]
    rfl
theorem tups_of {h : Heap} {as : List Addr} (k : ∀ b ∈ as, ∃ f, PyProof.Rows.TupOf h noStr (.ref b) f) : ∃ fs, PyProof.Rows.TupsOf h noStr (as.map Value.ref) fs := by
  induction as with
  | nil => exact ⟨[], .nil⟩
  | cons a as ih =>
    obtain ⟨f, hf⟩ := k a (List.mem_cons_self ..)
    obtain ⟨fs, hfs⟩ := ih fun b hb => k b (List.mem_cons_of_mem _ hb)
    exact ⟨f :: fs, .cons hf hfs⟩
theorem cr_sortT : CallR X (.builtin "sorted") rSortT := by
  intro pins s σ H vs us Q I r h
  obtain ⟨a, as, rf, rfl, ha, hg, q⟩ := h
  rw [Vals.ref1 r]
  obtain ⟨hz, its, n, rv, ll, ol⟩ := I.lstM ha
  have ei := vals_refs rv
  subst ei
  rw [List.length_map] at ll hz
  have key : ∀ b ∈ as, G.tupKeyC s.heap noStr (.ref b) = some ((rf b).map Sum.inl) ∧ ∃ f, PyProof.Rows.TupOf s.heap noStr (.ref b) f := fun b hb => by
    obtain ⟨gb, nb⟩ := hg b hb
    obtain ⟨its, rb, ⟨o, ho, hc, m, hd⟩, _⟩ := I.tuple (SqT.of gb)
    have hi := rb.ints
    refine ⟨?_, ?_⟩
    · unfold G.tupKeyC
      have e1 : G.isTupObj s.heap (.ref b) = true := by simp [G.isTupObj, ho, hc]
      rw [if_pos e1]
      simp only [PyProof.Rows.tupKey, ho, hd]
      exact items_ints 0 hi
    · generalize rf b = rb0 at hi nb
      cases hi with
      | nil => exact absurd rfl nb
      | cons k t _ => exact ⟨_, b, o, _, m, rfl, ho, hc, hd, rfl, fun _ => ⟨_, _, rfl⟩, fun e => absurd e (by decide)⟩
  obtain ⟨fs, ht⟩ := tups_of fun b hb => (key b hb).2
  have memR : ∀ v ∈ as.map Value.ref, ∃ b ∈ as, v = .ref b := fun v hv => by
    obtain ⟨b, hb, e⟩ := List.mem_map.mp hv
    exact ⟨b, hb, e.symm⟩
  refine PyProof.Rows.G.sorted_tups (vs := as.map Value.ref) ⟨_, ol, rfl, _, rfl⟩ ht (fun v hv => ?_) (by rw [List.length_map]; exact hz) fun st' hp hs _ => ?_
  · obtain ⟨b, hb, rfl⟩ := memR v hv
    exact ⟨_, (key b hb).1⟩
  have hpl : (arrOf st').toList.Perm ((as.map Value.ref).zip (as.map Value.ref)) := by
    have e := Array.perm_iff_toList_perm.mp hp
    rw [pairsOf_toList] at e
    exact e
  have inA : ∀ x ∈ (arrOf st').toList, ∃ b ∈ as, x = (.ref b, .ref b) := fun x hx => by
    obtain ⟨e1, e2⟩ := zip_fst (hpl.mem_iff.mp hx)
    obtain ⟨b, hb, e3⟩ := memR _ e2
    exact ⟨b, hb, Prod.ext e3 (e1 ▸ e3)⟩
  let bs : List Addr := (arrOf st').toList.map fun x => unref x.1
  have eArr : (arrOf st').toList = bs.map fun b => ((.ref b, .ref b) : Value × Value) := by
    show _ = ((arrOf st').toList.map fun x => unref x.1).map _
    rw [List.map_map]
    conv => lhs; rw [← List.map_id (arrOf st').toList]
    apply List.map_congr_left
    intro x hx
    obtain ⟨b, _, rfl⟩ := inA x hx
    rfl
  have pbs : bs.Perm as := by
    have e := hpl.map fun x : Value × Value => unref x.1
    rw [zip_unref] at e
    exact e
  have eOut : ((arrOf st').map (·.2)).toList = bs.map Value.ref := by
    rw [Array.toList_map, eArr, List.map_map]
    rfl
  have hlen : (bs.map V.ref).length ≤ sizeLine := by rw [List.length_map, pbs.length_eq]; exact hz
  have srt : (bs.map rf).Pairwise (fun x y => HT.lexLt y x = false) := by
    rw [List.pairwise_iff_getElem]
    intro i j hi hj hij
    rw [List.length_map] at hi hj
    have la : (arrOf st').toList.length = bs.length := by rw [eArr, List.length_map]
    have e := hs i j (by omega) (by rw [pairsOf_size, List.length_map, ← pbs.length_eq]; exact hj)
    have kk : ∀ m (hm : m < bs.length), KK (G.tupKindC s.heap noStr) (arrOf st') m = (rf bs[m]).map Sum.inl := fun m hm => by
      have em : (arrOf st')[m]? = some (.ref bs[m], .ref bs[m]) := by
        rw [← Array.getElem?_toList, eArr, List.getElem?_map, List.getElem?_eq_getElem hm]
        rfl
      unfold KK
      rw [em]
      show (G.tupKeyC s.heap noStr (.ref bs[m])).getD [] = _
      rw [(key bs[m] (pbs.mem_iff.mp (List.getElem_mem hm))).1]
      rfl
    rw [kk i hi, kk j hj] at e
    have e1 : (bs.map rf)[i]'(by rw [List.length_map]; exact hi) = rf bs[i] := List.getElem_map ..
    have e2 : (bs.map rf)[j]'(by rw [List.length_map]; exact hj) = rf bs[j] := List.getElem_map ..
    rw [e1, e2, ← lex_inl]
    exact e
  obtain ⟨ep, he'⟩ := PyProof.Rows.sortedAll_at s.heap (as.map Value.ref) ((arrOf st').map (·.2))
  refine ⟨.ref _, upd H (s.heap.objs.size + 1) (.lst (bs.map V.ref)), I.laid (t' := s.toks) (fun _ _ => PyProof.Rows.sortedAll_old) (Nat.le_succ _) ⟨hlen, ((arrOf st').map (·.2)).toList, ep, by rw [eOut]; exact refs_vals bs, he'⟩, rfl, q bs _ pbs srt (I.hok.fresh (Nat.le_succ _))⟩
end
end Ew
end
section
set_option Elab.async false
set_option linter.all false
set_option maxRecDepth 100000
set_option maxHeartbeats 2000000
namespace Ew
open PySem PySem.Spec PyProof.Rows L2
section
open PySem.SeqAt
open PySem.AutoSeq1 (wpAny_loadPart')
open PySem.MeetsSeq PySem.MeetsSeq2 PySem.MeetsSeq3
theorem extend_tup (l : Addr) (xs : Array Value) (n : Nat) (b : Addr) (ys : Array Value) (m : Nat) (dd : Option Addr) (sl : Array (Option Value)) (h0 : ¬(!xs.isEmpty && Builtin.List.listTooLong (xs.size + ys.size)) = true) (h1 : xs.size ≤ sizeLine) (h2 : xs.size + ys.size ≤ sizeLine + 1) :
    Meets (Builtin.«list.extend» ⟨[.ref l, .ref b], []⟩) (fun _ R s => s.heap.get? l = some { cls := .type "list", data := .seq xs n } ∧ s.heap.get? b = some { cls := .type "tuple", dict := dd, data := .seq ys m, slots := sl } ∧ R (.ok (.ret Value.none)) { s with heap := s.heap.update l (Obj.mapSeq fun x => x ++ ys), toks := s.toks }) :=
  .of_wp fun prog w A R s h => by
    obtain ⟨hp, g, d, tk, os⟩ := s
    obtain ⟨hl, hb, h⟩ := h
    have f1 := AutoSeq1.idx_int
    have f2 := AutoSeq1.sub_tuple_tuple
    have f3 := AutoSeq1.sub_list_list
    have f4 := AutoSeq1.sub_tuple_list
    have f5 := AutoSeq1.sub_list_tuple
    have hz : (xs ++ ys).size ≤ sizeLine + 1 := by rw [Array.size_append]; exact h2
    wp_walk using (wpAny_updateSeq hl rfl (hz := h1) (_hz' := hz)), wpAny_loadPart' hl, wpAny_loadPart' hb
    exact ⟨_, rfl, h⟩
end
section
variable {X : Cx}
def rExtendT : V → List V → Hp → VK → Prop := fun x vs H Q => ∃ (l b : Addr) (xs zs : List V), x = .ref l ∧ vs = [.ref b] ∧ H l = some (.lst xs) ∧ H b = some (.tup zs) ∧ xs.length + zs.length ≤ sizeLine ∧ Q .non (upd H l (.lst (xs ++ zs)))
theorem mt_extendT : MtM X "list.extend" rExtendT := by
  intro pins s σ H x vs v us Q I rx rv h
  obtain ⟨l, b, xs, zs, rfl, rfl, hH, hB, hz, q⟩ := h
  cases rx
  obtain ⟨u, rfl, ru⟩ := rv.one
  cases ru
  obtain ⟨z, its, n, r, hl, e⟩ := I.lstM hH
  obtain ⟨its2, r2, ⟨⟨cls, dd, data, sl⟩, ho, hc, m, hd⟩, _⟩ := I.tuple (SqT.of hB)
  simp only at hc hd
  subst hc hd
  have hl2 := r2.length
  have hsz : its.toArray.size + its2.toArray.size ≤ sizeLine := by rw [List.size_toArray, List.size_toArray]; omega
  have hlong : ¬ (!its.toArray.isEmpty && Builtin.List.listTooLong (its.toArray.size + its2.toArray.size)) = true := by
    rw [notLongL hsz, Bool.and_false]
    exact Bool.false_ne_true
  refine call_meets F.slot_list_extend ⟨_, e, rfl⟩ F.entry_list_extend (F.args_list_extend_2 _ _)
    (extend_tup l its.toArray n b its2.toArray m dd sl hlong (by rw [List.size_toArray]; omega) (by omega)) ⟨e, ho, ?_⟩
  refine ⟨.non, _, I.lset (its' := its ++ its2) hH e (by simp) (r.append r2) ?_, rfl, q⟩
  rw [List.length_append]
  omega
theorem cr_range : CallR X (.type "range") (fun xs H Q => ∃ j : Int, xs = [.int j] ∧ ∀ p, H p = none → Q (.ref p) (upd H p (.rng 0 j))) := by
  intro pins s σ H xs us Q I r h
  obtain ⟨j, rfl, q⟩ := h
  obtain ⟨u, rfl, ⟨t, rfl⟩⟩ := vals1 r
  refine call_range_1 ?_
  exact ⟨.ref s.heap.objs.size, _, I.laid (o := .rng 0 j) (fun b ob e => Heap.get?_push_of_some _ e) (Nat.le_refl _) ⟨_, _, _, Heap.get?_push_size _ rfl⟩, rfl, q _ (I.hok.fresh (Nat.le_refl _))⟩
theorem vals_of_get : ∀ {xs : List V} {us : List Value}, xs.length = us.length → (∀ (i : Nat) (x : V) (u : Value), xs[i]? = some x → us[i]? = some u → RelV x u) → Vals xs us
  | [], [], _, _ => .nil
  | x :: xs, u :: us, h, k => .cons (k 0 x u rfl rfl) (vals_of_get (by simpa using h) fun i y v a b => k (i + 1) y v a b)
  | [], _ :: _, h, _ => by cases h
  | _ :: _, [], h, _ => by cases h
theorem cr_listR (hc : X.calm = true) : CallR X (.type "list") (fun xs H Q => ∃ (p : Addr) (n : Nat), xs = [.ref p] ∧ H p = some (.rng 0 (n : Nat)) ∧ n ≤ 1000 ∧ ∀ l, H l = none → Q (.ref l) (upd H l (.lst ((List.range n).map iv)))) := by
  intro pins s σ H xs us Q I r h
  obtain ⟨p, n, rfl, hp, hn, q⟩ := h
  rw [Vals.ref1 r]
  obtain ⟨t, u, v, ho⟩ := I.hok p _ hp
  have e : Builtin.Range.rangeSize 0 (n : Int) 1 = (n : Nat) := by rw [rangeSize_one]; split <;> omega
  refine PySem.call_list_range (n := n) (I.ok.hd hc) ho (small_one (by omega) (by omega) (by omega) (by omega)) e (by omega) fun h' tk acc c hk hg hi => ?_
  refine ⟨.ref s.heap.objs.size, _, I.laid (t' := tk) (o := .lst ((List.range n).map iv)) hk (Nat.le_refl _) ⟨?_, acc.toList, c, ?_, by simpa using hg⟩, rfl, q _ (I.hok.fresh (Nat.le_refl _))⟩
  · rw [List.length_map, List.length_range, sizeLine_eq]; omega
  · obtain ⟨hz, hv⟩ := hi
    refine vals_of_get (by rw [List.length_map, List.length_range, Array.length_toList]; exact hz.symm) fun i x w hx hw => ?_
    obtain ⟨z, ez, rfl⟩ := iv_at hx
    have li : i < n := by
      have := (List.getElem?_eq_some_iff.mp ez).1
      rw [List.length_range] at this
      exact this
    rw [List.getElem?_range li] at ez
    cases ez
    obtain ⟨t, rfl⟩ := hv i w (by rw [← Array.getElem?_toList]; exact hw)
    exact ⟨t, by rw [Int.zero_add, Int.mul_one]⟩
end
end Ew
end
section
set_option Elab.async false
set_option linter.all false
set_option maxRecDepth 100000
set_option maxHeartbeats 2000000
namespace Ew
open PySem PySem.Spec PyProof.Rows L2 Sett
abbrev sSettlement : Stmt := top 5
abbrev sOrders : Stmt := top 6
abbrev sPaid : Stmt := top 7
abbrev sRank : Stmt := top 8
abbrev sMost : Stmt := top 9
abbrev sPartings : Stmt := top 10
structure Txt2 (mg : Str → Option Value) : Prop where
  min : mg "min" = none
  max : mg "max" = none
  sorted : mg "sorted" = none
  reversed : mg "reversed" = none
theorem cut_to (xs : List V) (k : Nat) : cutV xs none (some (k : Int)) = xs.take k := by
  unfold cutV
  rw [HT.sIx_nat]
  show (xs.drop 0).take (Nat.min k xs.length - 0) = _
  rw [List.drop_zero, Nat.sub_zero]
  by_cases c : k ≤ xs.length
  · rw [show Nat.min k xs.length = k from Nat.min_eq_left c]
  · rw [show Nat.min k xs.length = xs.length from Nat.min_eq_right (by omega), List.take_length, List.take_of_length_le (by omega)]
theorem cut_from (xs : List V) (k : Nat) : cutV xs (some (k : Int)) none = xs.drop k := by
  unfold cutV
  rw [HT.sIx_nat]
  show (xs.drop (Nat.min k xs.length)).take (xs.length - Nat.min k xs.length) = _
  by_cases c : k ≤ xs.length
  · rw [show Nat.min k xs.length = k from Nat.min_eq_left c, List.take_of_length_le (by rw [List.length_drop]; omega)]
  · rw [show Nat.min k xs.length = xs.length from Nat.min_eq_right (by omega), Nat.sub_self, List.take_zero, List.drop_eq_nil_iff.mpr (by omega)]
theorem cut_mid (xs : List V) (a b : Nat) (hab : a ≤ b) (hb : b ≤ xs.length) : cutV xs (some (a : Int)) (some (b : Int)) = (xs.drop a).take (b - a) := by
  unfold cutV
  rw [HT.sIx_nat, HT.sIx_nat]
  show (xs.drop (Nat.min a xs.length)).take (Nat.min b xs.length - Nat.min a xs.length) = _
  rw [show Nat.min a xs.length = a from Nat.min_eq_left (by omega), show Nat.min b xs.length = b from Nat.min_eq_left hb]
/-! ### how many orders -/
def fac : Nat → Nat → Nat
  | _, 0 => 1
  | m, n + 1 => (m + 1) * fac (m + 1) n
theorem flat_len (c m : Nat) : ∀ found : List (List Nat), (∀ x ∈ found, x.length = m) → (found.flatMap (insAll c)).length = found.length * (m + 1)
  | [], _ => by simp
  | x :: l, h => by
    rw [List.flatMap_cons, List.length_append, flat_len c m l fun y hy => h y (List.mem_cons_of_mem _ hy), List.length_cons]
    have : (insAll c x).length = m + 1 := by unfold insAll; rw [List.length_map, List.length_range, h x (List.mem_cons_self ..)]
    rw [this, Nat.succ_mul, Nat.add_comm]
theorem fold_len : ∀ (P : List Nat) (found : List (List Nat)) (m : Nat), (∀ x ∈ found, x.length = m) → (P.foldl (fun found c => found.flatMap (insAll c)) found).length = found.length * fac m P.length
  | [], found, m, _ => by simp [fac]
  | c :: P, found, m, h => by
    rw [List.foldl_cons, fold_len P _ (m + 1) fun y hy => ?_, flat_len c m found h, List.length_cons]
    · show found.length * (m + 1) * fac (m + 1) P.length = found.length * ((m + 1) * fac (m + 1) P.length)
      rw [Nat.mul_assoc]
    · obtain ⟨o, ho, hy⟩ := List.mem_flatMap.mp hy
      obtain ⟨k, hk, rfl⟩ := mem_insAll.mp hy
      have := h o ho
      rw [List.length_append, List.length_append, List.length_take, List.length_drop]
      simp
      omega
theorem orders_len {P : List Nat} (h : P.length ≤ 6) : (ordersOf P).length ≤ 720 := by
  unfold ordersOf
  rw [fold_len P [[]] 0 (by simp)]
  have : ∀ n, n ≤ 6 → [([] : List Nat)].length * fac 0 n ≤ 720 := by
    intro n hn
    match n, hn with
    | 0, _ => decide
    | 1, _ => decide
    | 2, _ => decide
    | 3, _ => decide
    | 4, _ => decide
    | 5, _ => decide
    | 6, _ => decide
  exact this _ h
theorem orders_snoc (P : List Nat) (c : Nat) : ordersOf (P ++ [c]) = (ordersOf P).flatMap (insAll c) := by
  unfold ordersOf
  rw [List.foldl_append]
  rfl
theorem take_snocN : ∀ {l : List Nat} {i x : Nat}, l[i]? = some x → l.take (i + 1) = l.take i ++ [x] := take_snoc
theorem part_len {α β : Type} (f : α → List β) : ∀ {found : List α} {j k : Nat} {o : α}, found[j]? = some o → ((found.take j).flatMap f ++ (f o).take k).length ≤ (found.flatMap f).length
  | [], j, k, o, h => by simp at h
  | x :: l, 0, k, o, h => by
    cases Option.some.inj h
    rw [List.take_zero, List.flatMap_nil, List.nil_append, List.flatMap_cons, List.length_append, List.length_take]
    omega
  | x :: l, j + 1, k, o, h => by
    have := part_len f (found := l) (j := j) (k := k) h
    simp only [List.take_succ_cons, List.flatMap_cons, List.append_assoc, List.length_append] at this ⊢
    omega
def spOrders (K : PySem.W.Frag) : Sp := fun vs H Q _ => ∃ (a : Addr) (ns : List Nat), vs = [.ref a] ∧ SqL K H a (ns.map iv) ∧ ns.length ≤ 6 ∧ giveG (LL GN) (ordersOf ns) H Q
section
variable {P : Program} {w : World} {K : PySem.W.Frag} {mg : Str → Option Value} {base : Heap}
theorem scRank : FnScope ["payments"] ["payments"] (defScope sRank) := ⟨rfl, rfl, rfl, by decide +kernel, rfl, by decide +kernel, by decide +kernel⟩
theorem ok_rank {f : Addr} {fd : FuncData} (F : Fun K "rank" "rank" sRank f fd) (T : Txt mg) : FnOk P w K mg base CX0 1 f fd ["payments"] (spRank K) := by
  refine F.ok scRank (fun vs H Q E h => ?_) (fun cdv A outer s H vs Q E hr h => ?_)
  · obtain ⟨a, xs, rfl, _⟩ := h
    rfl
  · obtain ⟨a, xs, rfl, hS, k⟩ := h
    refine ⟨_, pss_one (ps_ret (pe_tup (pa_cons (pe_callB call_len_seq (by rfl) T.len PySem.boot_len (pa_cons (pv 0) pa_nil)) (pa_cons (pv 0) pa_nil)))), ?_⟩
    exact ⟨_, rfl, a, _, rfl, .inl hS, _, rfl, (by show 2 ≤ sizeLine; decide), fun t ht => k t ht⟩
theorem scOrders : FnScope ["companies", "found", "company", "longer", "order", "place"] ["companies"] (defScope sOrders) := ⟨rfl, rfl, rfl, by decide +kernel, rfl, by decide +kernel, by decide +kernel⟩
theorem ok_orders {f : Addr} {fd : FuncData} (F : Fun K "orders" "orders" sOrders f fd) (T : Txt mg) : FnOk P w K mg base CX0 1 f fd ["companies"] (spOrders K) := by
  refine F.ok scOrders (fun vs H Q E h => ?_) (fun cdv A outer s H vs Q E hr h => ?_)
  · obtain ⟨a, ns, rfl, _⟩ := h
    rfl
  · obtain ⟨a, ns, rfl, hS, h6, k⟩ := h
    refine ⟨_, pss_cons (ps_set (i := 1) scOrders.nd rfl (Or.inl rfl) (pe_lst (pa_cons (pe_lst pa_nil) pa_nil)))
      (pss_cons (ps_for PassesOwn.never rfl (pi_list (pv 0)) (pg_name (i := 2) scOrders.nd rfl (Or.inl rfl))
        (pss_cons (ps_set (i := 3) scOrders.nd rfl (Or.inl rfl) (pe_lst pa_nil))
        (pss_cons (ps_for PassesOwn.never rfl (pi_list (pv 1)) (pg_name (i := 4) scOrders.nd rfl (Or.inl rfl))
          (pss_one (ps_for PassesOwn.never rfl (pi_range1 rfl T.range (pa_cons (pe_op op_add (pe_callB call_len_seq (by rfl) T.len PySem.boot_len (pa_cons (pv 4) pa_nil)) pe_int) pa_nil)) (pg_name (i := 5) scOrders.nd rfl (Or.inl rfl))
            (pss_one (ps_expr (pe_bm PySem.F.plainAttrs_list PySem.F.slot_list_append PySem.F.type_list_append mt_append (pv 3)
              (pa_cons (pe_op op_cat (pe_op op_cat (pe_slice sl_list (pv 4) po_none (po_some (pv 5))) (pe_lst (pa_cons (pv 2) pa_nil))) (pe_slice sl_list (pv 4) (po_some (pv 5)) po_none)) pa_nil)))))))
        (pss_one (ps_set (i := 1) scOrders.nd rfl (Or.inl rfl) (pv 3))))))
      (pss_one (ps_ret (pv 1)))), ?_⟩
    refine ⟨Nat.zero_le _, fun z hz => ⟨by show 1 ≤ sizeLine; decide, fun p hp => ?_⟩⟩
    have s1 : Same H (upd H z (.lst [])) := Same.new hz
    have s2 : Same (upd H z (.lst [])) (upd (upd H z (.lst [])) p (.lst [.ref z])) := Same.new hp
    have hzp : z ≠ p := fun e => by rw [← e, upd_same] at hp; cases hp
    refine ⟨_, rfl, a, rfl, ⟨_, (s1.trans s2).seq hS⟩, for_list (K := K) (a := a) (xs := ns.map iv) (fun i σ H' => ∃ (fo : Addr) (v2 v3 v4 v5 : Option V), σ = [some (.ref a), some (.ref fo), v2, v3, v4, v5] ∧ Same H H' ∧ LL GN (fr H H') fo (ordersOf (ns.take i)))
      ⟨p, none, none, none, none, rfl, s1.trans s2, [z], ?_, .cons ?_ .nil⟩ (fun i σ H' _ ⟨_, _, _, _, _, _, e, _⟩ => e.seq hS) ?_ ?_⟩
    · rw [fr_of (s1.free hp), upd_same]; rfl
    · show hide _ p z = _
      rw [hide_ne hzp, fr_of hz, upd_ne hzp, upd_same]; rfl
    · rintro i y σ H1 hi ⟨fo, v2, v3, v4, v5, rfl, sH, hfo⟩
      obtain ⟨c, hc, rfl⟩ := iv_at hi
      refine ⟨Nat.zero_le _, fun lo hlo => ?_⟩
      have e1 : ordersOf (ns.take (i + 1)) = (ordersOf (ns.take i)).flatMap (insAll c) := by rw [take_snocN hc, orders_snoc]
      have l6 : (ns.take (i + 1)).length ≤ 6 := by rw [List.length_take]; omega
      have bound := orders_len l6
      rw [e1] at bound
      rw [e1]
      have olen : ∀ o ∈ ordersOf (ns.take i), o.length ≤ 6 := fun o ho => by
        rw [(mem_orders.mp ho).length_eq, List.length_take]; omega
      generalize ordersOf (ns.take i) = found at hfo bound olen
      obtain ⟨as, hfoL, las, pas⟩ := hfo.lst
      have hfoH := (fr_get hfoL).2
      have nlo : fo ≠ lo := ne_of_none hfoH hlo
      have flo : H lo = none := sH.free hlo
      refine ⟨_, rfl, fo, rfl, ⟨_, SqL.of ((Same.new hlo) _ _ hfoH)⟩, for_list (K := K) (a := fo) (xs := as.map V.ref)
        (fun j σ H' => ∃ v4 v5 : Option V, σ = [some (.ref a), some (.ref fo), some (.int (c : Nat)), some (.ref lo), v4, v5] ∧ Same H1 H' ∧ LL GN (fr H H') lo ((found.take j).flatMap (insAll c)))
        ⟨v4, v5, rfl, Same.new hlo, LL.nil (by rw [fr_of flo, upd_same])⟩ (fun j σ H' _ ⟨_, _, _, e, _⟩ => SqL.of (e _ _ hfoH)) ?_ ?_⟩
      · rintro j y σ H2 hj ⟨v4, v5, rfl, sH1, hlo2⟩
        obtain ⟨oa, hoa, rfl⟩ := ref_at' hj
        obtain ⟨o, ho, go⟩ := paired_get' pas hoa
        have goH : H2 oa = some (.lst (o.map iv)) := sH1 _ _ (fr_get (hide_get go).2).2
        have o6 := olen o (List.mem_of_getElem? ho)
        have ej : ((o.length : Int) + 1).toNat = o.length + 1 := by omega
        refine ⟨_, rfl, oa, _, rfl, .inl (SqL.of goH), _, _, rfl, rfl, ((o.length : Int) + 1), by rw [List.length_map], by omega, by omega, ?_⟩
        rw [ej]
        refine for_range (n := o.length + 1) (fun k σ H' => ∃ v5 : Option V, σ = [some (.ref a), some (.ref fo), some (.int (c : Nat)), some (.ref lo), some (.ref oa), v5] ∧ Same H1 H' ∧ LL GN (fr H H') lo ((found.take j).flatMap (insAll c) ++ (insAll c o).take k))
          ⟨v5, rfl, sH1, by rw [List.take_zero, List.append_nil]; exact hlo2⟩ ?_ ?_
        · rintro k σ H3 hk ⟨v5, rfl, sH2, hlo3⟩
          rw [Int.zero_add]
          obtain ⟨bs, hloL, lbs, _⟩ := hlo3.lst
          have hloH := (fr_get hloL).2
          have goH3 : H3 oa = some (.lst (o.map iv)) := sH2 _ _ (fr_get (hide_get go).2).2
          have lim := part_len (insAll c) (k := k) ho
          refine ⟨_, rfl, .inl ⟨rfl, _, SqL.of hloH⟩, _, rfl, _, rfl, _, rfl, oa, _, rfl, SqL.of goH3, fun p1 hp1 => ?_⟩
          have t1 := Same.new (o := .lst (cutV (o.map iv) none (some (k : Int)))) hp1
          refine ⟨_, rfl, by show 1 ≤ sizeLine; decide, fun p2 hp2 => ?_⟩
          have t2 := Same.new (o := .lst [V.int (c : Nat)]) hp2
          rw [cut_to, ← List.map_take] at t1
          have L1 : ((o.take k).map iv).length ≤ 6 := by rw [List.length_map, List.length_take]; omega
          have L2 : ((o.drop k).map iv).length ≤ 6 := by rw [List.length_map, List.length_drop]; omega
          refine ⟨p1, p2, (o.take k).map iv, [V.int (c : Nat)], rfl, rfl, t2 _ _ (by rw [upd_same, cut_to, List.map_take]), upd_same, Nat.le_trans (show _ ≤ 7 by simpa using L1) (by decide), fun p3 hp3 => ?_⟩
          have t3 := Same.new (o := .lst ((o.take k).map iv ++ [V.int (c : Nat)])) hp3
          refine ⟨_, rfl, _, rfl, _, rfl, oa, _, rfl, SqL.of (t3 _ _ (t2 _ _ ((Same.new hp1) _ _ goH3))), fun p4 hp4 => ?_⟩
          have t4 := Same.new (o := .lst (cutV (o.map iv) (some (k : Int)) none)) hp4
          refine ⟨p3, p4, (o.take k).map iv ++ [V.int (c : Nat)], (o.drop k).map iv, rfl, rfl, t4 _ _ upd_same, by rw [upd_same, cut_from, List.map_drop], ?_, fun p5 hp5 => ?_⟩
          · rw [List.length_append]
            exact Nat.le_trans (show _ ≤ 13 by simp; omega) (by decide)
          have t5 := Same.new (o := .lst ((o.take k).map iv ++ [V.int (c : Nat)] ++ (o.drop k).map iv)) hp5
          have tt := ((((Same.new (o := .lst (cutV (o.map iv) none (some (k : Int)))) hp1).trans t2).trans t3).trans t4).trans t5
          refine ⟨lo, _, _, rfl, rfl, tt _ _ hloH, ?_, _, rfl, fun b ob eb => ?_, ?_⟩
          · rw [List.length_map, lbs]
            exact Nat.lt_of_le_of_lt (Nat.le_trans lim bound) (by decide)
          · rw [upd_ne (ne_of_none eb hlo)]
            exact tt _ _ (sH2 _ _ eb)
          · have fresh5 : H p5 = none := sH.free (sH2.free (((((Same.new (o := .lst (cutV (o.map iv) none (some (k : Int)))) hp1).trans t2).trans t3).trans t4).free hp5))
            have n5 : p5 ≠ lo := fun e => by
              have := ((((Same.new (o := .lst (cutV (o.map iv) none (some (k : Int)))) hp1).trans t2).trans t3).trans t4) _ _ hloH
              rw [← e, hp5] at this; cases this
            have it : (insAll c o)[k]? = some (o.take k ++ [c] ++ o.drop k) := by
              unfold insAll
              rw [List.getElem?_map, List.getElem?_range hk]; rfl
            rw [fr_upd flo, take_snoc it, ← List.append_assoc]
            refine LL.push (LL.mono GN.mono _ _ _ _ (fr_mono tt) hlo3) ((fr_mono tt) _ _ hloL) ?_
            show hide _ lo p5 = _
            rw [hide_ne n5, fr_of fresh5, upd_same, List.map_append, List.map_append]
            rfl
        · rintro σ H3 ⟨v5, rfl, sH2, hlo3⟩
          refine ⟨_, v5, rfl, sH2, ?_⟩
          have el : (insAll c o).take (o.length + 1) = insAll c o := List.take_of_length_le (by unfold insAll; rw [List.length_map, List.length_range]; omega)
          rw [el] at hlo3
          rw [take_snoc ho, List.flatMap_append, List.flatMap_cons, List.flatMap_nil, List.append_nil]
          exact hlo3
      · rintro σ H2 ⟨v4, v5, rfl, sH1, hlo2⟩
        rw [List.length_map, las, List.take_length] at hlo2
        exact ⟨_, rfl, lo, _, _, v4, v5, rfl, sH.trans sH1, hlo2⟩
    · rintro σ H1 ⟨fo, v2, v3, v4, v5, rfl, sH, hfo⟩
      rw [List.length_map, List.take_length] at hfo
      exact ⟨_, rfl, k H1 fo sH hfo⟩
end
end Ew
end
section
set_option Elab.async false
set_option linter.all false
set_option maxRecDepth 100000
set_option maxHeartbeats 2000000
namespace Ew
open PySem PySem.Spec PyProof.Rows L2 Sett
open CbAcc (Pay inOrder)
def payRow (p : Pay) : List Int := [(p.from_ : Nat), (p.to_ : Nat), (p.units : Nat)]
def unRow : List Int → Pay
  | [a, b, c] => ⟨a.toNat, b.toNat, c.toNat⟩
  | _ => ⟨0, 0, 0⟩
theorem unRow_payRow (p : Pay) : unRow (payRow p) = p := rfl
theorem nw_length : ∀ (f : Nat) (left : List Int) (π ρ : List Nat), (nw f left π ρ).length ≤ f
  | 0, _, _, _ => Nat.le_refl _
  | f + 1, left, [], ρ => by rw [nw_nil]; exact Nat.zero_le _
  | f + 1, left, p :: π, ρ => by
    by_cases h : left.getD p 0 < 0
    · match ρ with
      | [] =>
        show (if left.getD p 0 < 0 then ([] : List Pay) else nw f left π []).length ≤ _
        rw [if_pos h]; exact Nat.zero_le _
      | o :: ρ =>
        rw [nw_pay h, List.length_cons]
        exact Nat.succ_le_succ (nw_length f _ _ _)
    · rw [nw_pop h]
      exact Nat.le_succ_of_le (nw_length f _ _ _)
theorem lex_rows {x y : Pay} (h : HT.lexLt (payRow y) (payRow x) = false) (n : pr x ≠ pr y) : x.before y = true := by
  rw [before_iff]
  unfold bef
  unfold payRow at h
  rw [HT.lexLt_cons] at h
  by_cases c : (y.from_ : Int) = (x.from_ : Int)
  · rw [if_pos c, HT.lexLt_cons] at h
    have c' : y.from_ = x.from_ := by omega
    by_cases d : (y.to_ : Int) = (x.to_ : Int)
    · exfalso
      apply n
      unfold pr
      rw [c', show y.to_ = x.to_ by omega]
    · rw [if_neg d] at h
      have := of_decide_eq_false h
      show x.from_ < y.from_ ∨ (x.from_ = y.from_ ∧ x.to_ < y.to_)
      omega
  · rw [if_neg c] at h
    have := of_decide_eq_false h
    show x.from_ < y.from_ ∨ (x.from_ = y.from_ ∧ x.to_ < y.to_)
    omega
/-- rows in their order are the payments in theirs -/
theorem rows_sorted {acc : List Pay} {rs : List (List Int)} (hp : rs.Perm (acc.map payRow)) (hs : rs.Pairwise fun x y => HT.lexLt y x = false) (hn : (acc.map pr).Nodup) : rs = (inOrder acc).map payRow := by
  have e1 : rs = (rs.map unRow).map payRow := by
    rw [List.map_map]
    conv => lhs; rw [← List.map_id rs]
    apply List.map_congr_left
    intro r hr
    obtain ⟨q, _, rfl⟩ := List.mem_map.mp (hp.mem_iff.mp hr)
    rfl
  have p1 : (rs.map unRow).Perm acc := by
    have := hp.map unRow
    rw [List.map_map, show (unRow ∘ payRow) = id from rfl, List.map_id] at this
    exact this
  have nd : ((rs.map unRow).map pr).Nodup := (p1.map pr).nodup_iff.mpr hn
  have o1 : Sett.Ord (rs.map unRow) := by
    generalize hm : rs.map unRow = m at e1 nd
    rw [e1] at hs
    unfold Sett.Ord
    rw [List.pairwise_map] at hs
    unfold List.Nodup at nd
    rw [List.pairwise_map] at nd
    rw [List.pairwise_iff_getElem] at hs nd ⊢
    intro i j hi hj hij
    exact lex_rows (hs i j hi hj hij) (nd i j hi hj hij)
  have := ord_unique (p1.trans (inOrder_perm acc).symm) o1 (inOrder_ord hn)
  rw [e1, this]
structure Paid (H : Hp) (ps : List Int) (R : List Pay) (Lf Pm : Addr) (πr ρ : List Nat) (turn : Nat) (left : List Int) (H' : Hp) : Prop where
  same : Same H H'
  lf : H' Lf = some (.lst (left.map V.int))
  ok : Ok left πr (ρ.drop turn)
  len : left.length = ps.length
  tl : turn ≤ ρ.length
  pm : ∃ (acc : List Pay) (f : Nat), LL GT (fr H H') Pm (acc.map payRow) ∧ left.countP (· != 0) + πr.length ≤ f ∧ acc ++ nw f left πr (ρ.drop turn) = R
def intsV : List V → List Int := fun xs => xs.map fun
  | .int i => i
  | _ => 0
theorem intsV_int (ns : List Int) : intsV (ns.map V.int) = ns := by
  unfold intsV
  rw [List.map_map]
  conv => rhs; rw [← List.map_id ns]
  rfl
def lstAt (H : Hp) (p : Addr) : List Int := match H p with
  | some (.lst xs) => intsV xs
  | some (.tup xs) => intsV xs
  | _ => []
theorem lstAt_of {H : Hp} {p : Addr} {ns : List Int} (h : H p = some (.lst (ns.map V.int))) : lstAt H p = ns := by
  unfold lstAt
  rw [h]
  exact intsV_int ns
theorem tupAt_of {H : Hp} {p : Addr} {ns : List Int} (h : H p = some (.tup (ns.map V.int))) : lstAt H p = ns := by
  unfold lstAt
  rw [h]
  exact intsV_int ns
theorem ixN_of {n j : Nat} (h : j < n) : ixN n (j : Int) = some j := by
  unfold ixN
  rw [if_pos (by omega), if_pos (by omega), Int.toNat_natCast]
theorem map_set_int (l : List Int) (i : Nat) (v : Int) : (l.map V.int).set i (.int v) = (l.set i v).map V.int := by rw [List.map_set]
theorem paired_map {H : Hp} : ∀ {as : List Addr} {rows : List (List Int)}, Paired (fun a x => GT H a x) as rows → as.map (lstAt H) = rows
  | _, _, .nil => rfl
  | _, _, .cons g t => by rw [List.map_cons, paired_map t, tupAt_of g]
theorem paired_self {α γ : Type} {F : α → γ → Prop} {g : α → γ} : ∀ {bs : List α}, (∀ b ∈ bs, F b (g b)) → Paired F bs (bs.map g)
  | [], _ => .nil
  | b :: bs, h => .cons (h b (List.mem_cons_self ..)) (paired_self fun x hx => h x (List.mem_cons_of_mem _ hx))
theorem paired_mem {α γ : Type} {F : α → γ → Prop} : ∀ {l : List α} {k : List γ}, Paired F l k → ∀ a ∈ l, ∃ b ∈ k, F a b
  | _, _, .nil, a, h => by cases h
  | _, _, .cons g t, a, h => by
    rcases List.mem_cons.mp h with c | c
    · subst c; exact ⟨_, List.mem_cons_self .., g⟩
    · obtain ⟨b, hb, e⟩ := paired_mem t a c
      exact ⟨b, List.mem_cons_of_mem _ hb, e⟩
def spPaid (K : PySem.W.Frag) : Sp := fun vs H Q _ => ∃ (a b c : Addr) (ps : List Int) (π ρ : List Nat), vs = [.ref a, .ref b, .ref c] ∧ SqL K H a (ps.map V.int) ∧ SqL K H b (π.map iv) ∧ SqL K H c (ρ.map iv) ∧ Ok ps π ρ ∧ (∀ p ∈ π, p < ps.length) ∧ ps.length ≤ 6 ∧ π.length ≤ 6 ∧
  giveG GR ((inOrder (nw (ps.length + π.length) ps π ρ)).map payRow) H Q
section
variable {P : Program} {w : World} {K : PySem.W.Frag} {mg : Str → Option Value} {base : Heap}
theorem scPaid : FnScope ["positions", "payers", "owed", "left", "payments", "turn", "payer", "to", "units"] ["positions", "payers", "owed"] (defScope sPaid) := ⟨rfl, rfl, rfl, by decide +kernel, rfl, by decide +kernel, by decide +kernel⟩
theorem ok_paid {f : Addr} {fd : FuncData} (F : Fun K "paid_in_turn" "paid_in_turn" sPaid f fd) (T : Txt mg) (T2 : Txt2 mg) : FnOk P w K mg base CX0 1 f fd ["positions", "payers", "owed"] (spPaid K) := by
  refine F.ok scPaid (fun vs H Q E h => ?_) (fun cdv A outer s H vs Q E hr h => ?_)
  · obtain ⟨a, b, c, ps, π, ρ, rfl, _⟩ := h
    rfl
  · obtain ⟨a, b, c, ps, π, ρ, rfl, hA, hB, hC, ok0, inr, p6, q6, k⟩ := h
    refine ⟨_, pss_cons (ps_set (i := 3) scPaid.nd rfl (Or.inl rfl) (pe_callTy call_list_of (by rfl) T.list PyProof.Rows.boot_list (pa_cons (pv 0) pa_nil)))
      (pss_cons (ps_set (i := 4) scPaid.nd rfl (Or.inl rfl) (pe_lst pa_nil))
      (pss_cons (ps_set (i := 5) scPaid.nd rfl (Or.inl rfl) pe_int)
      (pss_cons (ps_for PassesOwn.never rfl (pi_list (pv 1)) (pg_name (i := 6) scPaid.nd rfl (Or.inl rfl))
        (pss_one (ps_while PassesOwn.never (pt_cmpR op_lt (pe_ix ix_list (pv 3) (pv 6) (fun _ _ => rfl)) pe_int (nomark _))
          (pss_cons (ps_set (i := 7) scPaid.nd rfl (Or.inl rfl) (pe_ix ix_list (pv 2) (pv 5) (fun _ _ => rfl)))
          (pss_cons (ps_set (i := 8) scPaid.nd rfl (Or.inl rfl) (pe_callB (call_min2 rfl) (by rfl) T2.min PyProof.Rows.boot_min (pa_cons (pe_un un_neg (pe_ix ix_list (pv 3) (pv 6) (fun _ _ => rfl))) (pa_cons (pe_ix ix_list (pv 3) (pv 7) (fun _ _ => rfl)) pa_nil))))
          (pss_cons (ps_expr (pe_bm PySem.F.plainAttrs_list PySem.F.slot_list_append PySem.F.type_list_append mt_append (pv 4) (pa_cons (pe_tup (pa_cons (pv 6) (pa_cons (pv 7) (pa_cons (pv 8) pa_nil)))) pa_nil)))
          (pss_cons (ps_asg (pe_op op_add (pe_ix ix_list (pv 3) (pv 6) (fun _ _ => rfl)) (pv 8)) (pg_sub (pv 3) (pv 6) set_list))
          (pss_cons (ps_asg (pe_op op_sub (pe_ix ix_list (pv 3) (pv 7) (fun _ _ => rfl)) (pv 8)) (pg_sub (pv 3) (pv 7) set_list))
          (pss_one (ps_if (pt_cmpR op_eq (pe_ix ix_list (pv 3) (pv 7) (fun _ _ => rfl)) pe_int (nomark _)) (pss_one (ps_set (i := 5) scPaid.nd rfl (Or.inl rfl) (pe_op op_add (pv 5) pe_int))) pss_nil)))))))))
        )
      (pss_one (ps_ret (pe_callB cr_sortT (by rfl) T2.sorted PyProof.Rows.boot_sorted (pa_cons (pv 4) pa_nil))))))), ?_⟩
    refine ⟨_, rfl, a, _, rfl, .inl hA, fun Lf hLf => ?_⟩
    have s1 := Same.new (o := .lst (ps.map V.int)) hLf
    refine ⟨Nat.zero_le _, fun Pm hPm => ?_⟩
    have s2 := Same.new (o := .lst []) hPm
    have nLP : Lf ≠ Pm := fun e => by rw [← e, upd_same] at hPm; cases hPm
    have fPm : H Pm = none := s1.free hPm
    let R := nw (ps.length + π.length) ps π ρ
    have RL : R.length ≤ 12 := Nat.le_trans (nw_length _ _ _ _) (by omega)
    refine ⟨_, rfl, b, rfl, ⟨_, (s1.trans s2).seq hB⟩, for_list (K := K) (a := b) (xs := π.map iv)
      (fun i σ H' => ∃ (turn : Nat) (left : List Int) (v6 v7 v8 : Option V), σ = [some (.ref a), some (.ref b), some (.ref c), some (.ref Lf), some (.ref Pm), some (.int (turn : Nat)), v6, v7, v8] ∧ Paid H ps R Lf Pm (π.drop i) ρ turn left H')
      ⟨0, ps, none, none, none, rfl, ⟨s1.trans s2, s2 _ _ upd_same, ok0, rfl, Nat.zero_le _, [], ps.length + π.length, LL.nil (by rw [fr_of fPm, upd_same]), by have := count_le ps; show _ ≤ _; simpa using this, rfl⟩⟩
      (fun i σ H' _ ⟨_, _, _, _, _, _, e⟩ => e.same.seq hB) ?_ ?_⟩
    · rintro i y σ H1 hi ⟨turn, left, v6, v7, v8, rfl, S0⟩
      obtain ⟨p, hp, rfl⟩ := iv_at hi
      have ed : π.drop i = p :: π.drop (i + 1) := by
        have hl := (List.getElem?_eq_some_iff.mp hp)
        rw [List.drop_eq_getElem_cons hl.1, hl.2]
      rw [ed] at S0
      generalize π.drop (i + 1) = π' at S0
      refine while_by (fun σ H' => ∃ (turn : Nat) (left : List Int) (v7 v8 : Option V), σ = [some (.ref a), some (.ref b), some (.ref c), some (.ref Lf), some (.ref Pm), some (.int (turn : Nat)), some (.int (p : Nat)), v7, v8] ∧ Paid H ps R Lf Pm (p :: π') ρ turn left H')
        (fun σ H' => (lstAt H' Lf).countP (· != 0)) ⟨turn, left, v7, v8, rfl, S0⟩ ?_ ?_
      · rintro σ H2 ⟨turn, left, v7, v8, rfl, S⟩
        have pl : p < left.length := by
          rw [S.len]; exact inr p (List.mem_of_getElem? hp)
        refine ⟨_, rfl, _, rfl, Lf, _, _, V.int (left.getD p 0), rfl, rfl, SqL.of S.lf, at_of (j := p) rfl (ints_at pl), _, _, rfl, rfl, _, rfl, ite2 (fun c1 => ?_) (fun c1 => ?_)⟩
        · have lp : left.getD p 0 < 0 := of_decide_eq_true c1
          obtain ⟨o, ρ', eρ⟩ := S.ok.some lp
          have tlt : turn < ρ.length := by
            apply Classical.byContradiction
            intro hh
            rw [List.drop_eq_nil_iff.mpr (by omega)] at eρ
            cases eρ
          have eo : ρ[turn]? = some o := by
            rw [List.drop_eq_getElem_cons tlt] at eρ
            injection eρ with e1 e2
            rw [← e1]; exact List.getElem?_eq_getElem tlt
          have eρ' : ρ.drop (turn + 1) = ρ' := by
            rw [List.drop_eq_getElem_cons tlt] at eρ
            injection eρ
          have S' := S.ok
          rw [eρ] at S'
          have ho := S'.oin o (List.mem_cons_self ..)
          have ol : o < left.length := lt_of_getD_ne (by omega)
          have hpo : p ≠ o := fun e => by rw [e] at lp; omega
          obtain ⟨u1, u2, u3, u4⟩ := uOf_le lp ho
          obtain ⟨acc, f', hpm, hf, hacc⟩ := S.pm
          obtain ⟨as, hP, las, pas⟩ := hpm.lst
          have hPH := (fr_get hP).2
          have accR : acc.length ≤ 12 := by
            have : acc.length ≤ R.length := by rw [← hacc, List.length_append]; omega
            omega
          refine ⟨_, rfl, _, rfl, c, _, _, iv o, rfl, rfl, S.same.seq hC, at_of (j := turn) rfl (by rw [List.getElem?_map, eo]; rfl), ?_⟩
          refine ⟨_, rfl, _, rfl, Lf, _, _, V.int (left.getD p 0), rfl, rfl, SqL.of S.lf, at_of (j := p) rfl (ints_at pl), _, rfl, _, rfl, _, rfl, Lf, _, _, V.int (left.getD o 0), rfl, rfl, SqL.of S.lf, at_of (j := o) rfl (ints_at ol), _, _, rfl, ?_⟩
          refine ⟨_, rfl, .inl ⟨rfl, _, SqL.of hPH⟩, _, rfl, _, rfl, _, rfl, by show 3 ≤ sizeLine; decide, fun t ht => ?_⟩
          have tS := Same.new (o := .tup [V.int (p : Nat), iv o, V.int (uOf left p o)]) ht
          have ntP : t ≠ Pm := fun e => by rw [e, hPH] at ht; cases ht
          have ntL : t ≠ Lf := fun e => by rw [e, S.lf] at ht; cases ht
          refine ⟨Pm, _, _, rfl, rfl, tS _ _ hPH, ?_, ?_⟩
          · rw [List.length_map, las, List.length_map]
            exact Nat.lt_of_le_of_lt accR (by decide)
          have lf2 : upd (upd H2 t (.tup [V.int (p : Nat), iv o, V.int (uOf left p o)])) Pm (.lst (as.map V.ref ++ [.ref t])) Lf = some (.lst (left.map V.int)) := by rw [upd_ne nLP]; exact tS _ _ S.lf
          refine ⟨_, rfl, _, rfl, Lf, _, _, V.int (left.getD p 0), rfl, rfl, SqL.of lf2, at_of (j := p) rfl (ints_at pl), _, rfl, _, _, rfl, rfl, ?_⟩
          refine ⟨_, rfl, _, rfl, Lf, _, _, p, rfl, rfl, lf2, ixN_of (by rw [List.length_map]; exact pl), ?_⟩
          rw [map_set_int]
          have gset : ((left.set p (left.getD p 0 + uOf left p o)).map V.int)[o]? = some (V.int (left.getD o 0)) := by
            rw [ints_at (by rw [List.length_set]; exact ol), getD_set _ _ _ _ pl, if_neg hpo]
          refine ⟨_, rfl, _, rfl, Lf, _, _, V.int (left.getD o 0), rfl, rfl, SqL.of upd_same, at_of (j := o) rfl gset, _, rfl, _, _, rfl, rfl, ?_⟩
          refine ⟨_, rfl, _, rfl, Lf, _, _, o, rfl, rfl, upd_same, ixN_of (by rw [List.length_map, List.length_set]; exact ol), ?_⟩
          rw [map_set_int]
          have gset2 : ((leftOf left p o).map V.int)[o]? = some (V.int (left.getD o 0 - uOf left p o)) := by
            rw [ints_at (by rw [leftOf_len]; exact ol), leftOf_at lp ho, if_pos rfl]
          -- what stands now
          have key : ∀ turn', ρ.drop turn' = (if left.getD o 0 - uOf left p o = 0 then ρ' else o :: ρ') → turn' ≤ ρ.length →
              Paid H ps R Lf Pm (p :: π') ρ turn' (leftOf left p o) (upd (upd (upd (upd H2 t (.tup [V.int (p : Nat), iv o, V.int (uOf left p o)])) Pm (.lst (as.map V.ref ++ [.ref t]))) Lf (.lst ((left.set p (left.getD p 0 + uOf left p o)).map V.int))) Lf (.lst ((leftOf left p o).map V.int))) := fun turn' et htl => by
            refine ⟨fun d od ed => ?_, upd_same, by rw [et]; exact S'.pay lp, by rw [leftOf_len]; exact S.len, htl, acc ++ [⟨p, o, (uOf left p o).toNat⟩], f' - 1, ?_, ?_, ?_⟩
            · have d1 := S.same _ _ ed
              rw [upd_ne (ne_of_none ed hLf), upd_ne (ne_of_none ed hLf), upd_ne (ne_of_none ed fPm), upd_ne (ne_of_none d1 ht)]
              exact d1
            · refine ⟨as ++ [t], ?_, ?_⟩
              · rw [fr_of fPm, upd_ne nLP.symm, upd_ne nLP.symm, upd_same, List.map_append]; rfl
              · rw [List.map_append]
                refine paired_snoc (L2.Paired.mapP pas fun d x g => ?_) ?_
                · obtain ⟨g1, g2⟩ := hide_get g
                  obtain ⟨g3, g4⟩ := fr_get g2
                  show hide _ Pm d = _
                  rw [hide_ne g1, fr_of g3, upd_ne (ne_of g4 S.lf (by intro z; cases z)), upd_ne (ne_of g4 S.lf (by intro z; cases z)), upd_ne g1, upd_ne (ne_of_none g4 ht)]
                  exact g4
                · show hide _ Pm t = _
                  rw [hide_ne ntP, fr_of (S.same.free ht), upd_ne ntL, upd_ne ntL, upd_ne ntP, upd_same]
                  show some (HO.tup [V.int (p : Nat), iv o, V.int (uOf left p o)]) = some (HO.tup [V.int (p : Nat), V.int (o : Nat), V.int ((uOf left p o).toNat : Nat)])
                  rw [Int.toNat_of_nonneg (by omega)]
                  rfl
            · have := leftOf_count lp ho
              rw [List.length_cons] at hf ⊢
              omega
            · obtain ⟨g, rfl⟩ : ∃ g, f' = g + 1 := ⟨f' - 1, by rw [List.length_cons] at hf; omega⟩
              rw [eρ, nw_pay lp] at hacc
              rw [List.append_assoc, et]
              exact hacc
          have less : (lstAt (upd (upd (upd (upd H2 t (.tup [V.int (p : Nat), iv o, V.int (uOf left p o)])) Pm (.lst (as.map V.ref ++ [.ref t]))) Lf (.lst ((left.set p (left.getD p 0 + uOf left p o)).map V.int))) Lf (.lst ((leftOf left p o).map V.int))) Lf).countP (· != 0) < (lstAt H2 Lf).countP (· != 0) := by
            rw [lstAt_of (ns := leftOf left p o) upd_same, lstAt_of S.lf]
            have := leftOf_count lp ho
            omega
          refine ⟨_, rfl, _, rfl, Lf, _, _, V.int (left.getD o 0 - uOf left p o), rfl, rfl, SqL.of upd_same, at_of (j := o) rfl gset2, rfl, _, rfl, ite2 (fun c2 => ?_) (fun c2 => ?_)⟩
          · have z := eqI.mp c2
            refine ⟨_, rfl, _, _, rfl, rfl, ⟨turn + 1, _, _, _, rfl, key (turn + 1) (by rw [if_pos z]; exact eρ') (by omega)⟩, less⟩
          · have z : ¬ left.getD o 0 - uOf left p o = 0 := fun h => c2 (eqI.mpr h)
            exact ⟨⟨turn, _, _, _, rfl, key turn (by rw [if_neg z]; exact eρ) S.tl⟩, less⟩
        · have lp : ¬ left.getD p 0 < 0 := fun h => c1 (decide_eq_true h)
          obtain ⟨acc, f', hpm, hf, hacc⟩ := S.pm
          obtain ⟨g, rfl⟩ : ∃ g, f' = g + 1 := ⟨f' - 1, by rw [List.length_cons] at hf; omega⟩
          rw [nw_pop lp] at hacc
          rw [List.length_cons] at hf
          exact ⟨turn, left, _, v7, v8, rfl, S.same, S.lf, S.ok.pop lp, S.len, S.tl, acc, g, hpm, by omega, hacc⟩
      · rintro σ H' Q1 Q2 hq ⟨v, hv, v', hv', q, xs, ii, x, e1, e2, hS, hat, i', j', e3, e4, kk, e5, hh⟩
        exact ⟨v, hv, v', hv', q, xs, ii, x, e1, e2, hS, hat, i', j', e3, e4, kk, e5, hq _ _ hh⟩
    · rintro σ H1 ⟨turn, left, v6, v7, v8, rfl, S⟩
      rw [List.length_map, List.drop_length] at S
      obtain ⟨acc, f', hpm, hf, hacc⟩ := S.pm
      rw [nw_nil, List.append_nil] at hacc
      obtain ⟨as, hP, las, pas⟩ := hpm.lst
      have pasH : Paired (fun d x => GT H1 d x) as (acc.map payRow) := L2.Paired.mapP pas fun d x g => (fr_get (hide_get g).2).2
      have em := paired_map pasH
      have acR : acc = nw (ps.length + π.length) ps π ρ := hacc
      have nd : (acc.map pr).Nodup := by
        rw [acR]
        exact (nw_ok _ ps π ρ ok0 (by have := count_le ps; omega)).1.nd
      refine ⟨_, rfl, Pm, as, lstAt H1, rfl, (fr_get hP).2, fun d hd => ?_, fun bs q hbs hsr hq => ?_⟩
      · obtain ⟨x, hx, g⟩ := paired_mem pasH d hd
        obtain ⟨r, _, rfl⟩ := List.mem_map.mp hx
        rw [tupAt_of g]
        exact ⟨g, by intro e; cases e⟩
      · have er := rows_sorted (by have := hbs.map (lstAt H1); rw [em] at this; exact this) hsr nd
        rw [acR] at er
        refine k _ q (S.same.trans (Same.new hq)) ?_
        rw [← er]
        refine ⟨bs, fr_new (S.same.free hq) upd_same, paired_self fun d hd => ?_⟩
        have hd' := hbs.mem_iff.mp hd
        obtain ⟨x, hx, g⟩ := paired_mem pas d hd'
        obtain ⟨g3, g4⟩ := fr_get (hide_get g).2
        have nq : d ≠ q := ne_of_none g4 hq
        show hide _ q d = _
        rw [hide_ne nq, fr_of g3, upd_ne nq, tupAt_of g4]
        exact g4
end
end Ew
end
section
set_option Elab.async false
set_option linter.all false
set_option maxRecDepth 100000
set_option maxHeartbeats 2000000
namespace Ew
open PySem PySem.Spec PyProof.Rows L2 Sett
open CbAcc (Pay inOrder settle lesser)
theorem payRow_inj {x y : Pay} (h : payRow x = payRow y) : x = y := by
  have := congrArg unRow h
  exact this
theorem lexLt_pay (a b : Pay) : HT.lexLt (payRow a) (payRow b) = true ↔ bef (pr a) (pr b) ∨ (pr a = pr b ∧ a.units < b.units) := by
  unfold payRow bef pr
  rw [HT.lexLt_cons, HT.lexLt_cons, HT.lexLt_cons, HT.lexLt_nil_nil]
  simp only [Prod.mk.injEq]
  by_cases c : (a.from_ : Int) = b.from_
  · rw [if_pos c]
    by_cases d : (a.to_ : Int) = b.to_
    · rw [if_pos d]
      by_cases e : (a.units : Int) = b.units
      · rw [if_pos e]
        constructor
        · intro h; cases h
        · intro h; omega
      · rw [if_neg e, decide_eq_true_eq]
        omega
    · rw [if_neg d, decide_eq_true_eq]
      omega
  · rw [if_neg c, decide_eq_true_eq]
    omega
theorem lexRows_pay : ∀ x y : List Pay, x.length = y.length → lexRows (x.map payRow) (y.map payRow) = lesser x y
  | [], [], _ => rfl
  | a :: x, b :: y, h => by
    rw [Bool.eq_iff_iff, lesser_cons]
    show (if payRow a = payRow b then lexRows (x.map payRow) (y.map payRow) else HT.lexLt (payRow a) (payRow b)) = true ↔ _
    rw [lexRows_pay x y (by simpa using h)]
    by_cases c : payRow a = payRow b
    · have e := payRow_inj c
      subst e
      rw [if_pos rfl]
      constructor
      · exact fun h => .inr ⟨rfl, .inr ⟨rfl, h⟩⟩
      · rintro (h | ⟨_, h | ⟨_, h⟩⟩)
        · exact absurd h (bef_irrefl _)
        · omega
        · exact h
    · rw [if_neg c, lexLt_pay]
      constructor
      · rintro (h | ⟨h1, h2⟩)
        · exact .inl h
        · exact .inr ⟨h1, .inl h2⟩
      · rintro (h | ⟨h1, h2 | ⟨h2, _⟩⟩)
        · exact .inl h
        · exact .inr ⟨h1, h2⟩
        · exact absurd (by rw [pay_ext h1 h2]) c
  | [], _ :: _, h => by cases h
  | _ :: _, [], h => by cases h
theorem keyLess_pay (x y : List Pay) : keyLess (x.map payRow) (y.map payRow) = keyLt x y := by
  unfold keyLess keyLt
  rw [List.length_map, List.length_map]
  by_cases c : x.length = y.length
  · rw [if_pos (by omega), decide_eq_false (p := x.length < y.length) (by omega), decide_eq_true c, Bool.false_or, Bool.true_and]
    by_cases d : x.map payRow = y.map payRow
    · have e : x = y := by
        have := congrArg (List.map unRow) d
        rw [List.map_map, List.map_map, show (unRow ∘ payRow) = id from rfl, List.map_id, List.map_id] at this
        exact this
      rw [if_pos (decide_eq_true d), e, lesser_irrefl]
    · rw [if_neg (by simpa using d), lexRows_pay x y c]
  · rw [if_neg (by omega), decide_eq_false (p := x.length = y.length) c, Bool.false_and, Bool.or_false]
    exact decide_eq_decide.mpr (by omega)
theorem keyLt_trans {x y z : List Pay} (h : keyLt x y = true) (g : keyLt y z = true) : keyLt x z = true := by
  unfold keyLt at *
  rw [Bool.or_eq_true, Bool.and_eq_true, decide_eq_true_eq, decide_eq_true_eq] at *
  rcases h with h | ⟨h1, h2⟩
  · rcases g with g | ⟨g1, g2⟩
    · exact .inl (by omega)
    · exact .inl (by omega)
  · rcases g with g | ⟨g1, g2⟩
    · exact .inl (by omega)
    · exact .inr ⟨by omega, lesser_trans h2 g2⟩
def rowsOf (ps : List Int) (π ρ : List Nat) : List (List Int) := (inOrder (nw (ps.length + π.length) ps π ρ)).map payRow
theorem found_rows (ps : List Int) : (foundOf ps).map (fun m => m.map payRow) = (ordersOf (payersOf ps)).flatMap fun π => (ordersOf (owedOf ps)).map (rowsOf ps π) := by
  unfold foundOf rowsOf
  rw [List.map_flatMap]
  congr 1
  funext π
  rw [List.map_map]
  rfl
theorem orders_ne (P : List Nat) : 0 < (ordersOf P).length := by
  have m : P ∈ ordersOf P := mem_orders.mpr (List.Perm.refl P)
  exact List.length_pos_of_mem m
def spSettle (K : PySem.W.Frag) : Sp := fun vs H Q _ => ∃ (a : Addr) (ps : List Int), vs = [.ref a] ∧ SqL K H a (ps.map V.int) ∧ ps.sum = 0 ∧ ps.length ≤ 6 ∧ giveG GR ((settle ps).map payRow) H Q
section
variable {P : Program} {w : World} {K : PySem.W.Frag} {mg : Str → Option Value} {base : Heap}
theorem scSettle : FnScope ["positions", "companies", "payers", "owed", "orders_of_owed", "found", "payers_order", "owed_order", "company"] ["positions"] (defScope sSettlement) := ⟨rfl, rfl, rfl, by decide +kernel, rfl, by decide +kernel, by decide +kernel⟩
theorem GN_at {H H' : Hp} {p : Addr} {xs : List (List Nat)} (h : LL GN (fr H H') p xs) : LL GN H' p xs := LL.mono GN.mono _ _ _ _ (fr_same H H') h
theorem filt_snoc {n i : Nat} {q : Nat → Bool} (h : i < n) : ((List.range n).take (i + 1)).filter q = ((List.range n).take i).filter q ++ (if q i = true then [i] else []) := by
  rw [take_snoc (List.getElem?_range h), List.filter_append, List.filter_cons, List.filter_nil]
theorem ok_settlement {f fO fP fR : Addr} {fd fdO fdP fdR : FuncData} (F : Fun K "settlement" "settlement" sSettlement f fd) (T : Txt mg) (T2 : Txt2 mg) (DO : Def K mg "orders" sOrders fO fdO ["companies"]) (DP : Def K mg "paid_in_turn" sPaid fP fdP ["positions", "payers", "owed"]) (DR : Def K mg "rank" sRank fR fdR ["payments"]) :
    FnOk P w K mg base CX0 3 f fd ["positions"] (spSettle K) := by
  have GO : FnOk P w K mg base CX0 2 fO fdO ["companies"] (spOrders K) := (ok_orders DO.fn T).mono (by omega)
  have GP : FnOk P w K mg base CX0 2 fP fdP ["positions", "payers", "owed"] (spPaid K) := (ok_paid DP.fn T T2).mono (by omega)
  have GK : FnOk P w K mg base CX0 1 fR fdR ["payments"] (spRank K) := ok_rank DR.fn T
  refine F.ok scSettle (fun vs H Q E h => ?_) (fun cdv A outer s H vs Q E hr h => ?_)
  · obtain ⟨a, ps, rfl, _⟩ := h
    rfl
  · obtain ⟨a, ps, rfl, hA, hsum, p6, k⟩ := h
    refine ⟨_, pss_cons (ps_set (i := 1) scSettle.nd rfl (Or.inl rfl) (pe_callTy (cr_listR rfl) (by rfl) T.list PyProof.Rows.boot_list (pa_cons (pe_callTy cr_range (by rfl) T.range PyProof.Rows.boot_range (pa_cons (pe_callB call_len_seq (by rfl) T.len PySem.boot_len (pa_cons (pv 0) pa_nil)) pa_nil)) pa_nil)))
      (pss_cons (ps_setLc (i := 2) rfl scSettle.nd rfl rfl rfl (pi_list (pv 1)) (by exact blkOk_by (N := ["positions", "companies", "payers", "owed", "orders_of_owed", "found", "payers_order", "owed_order", "company"]) (sc := defScope sSettlement) (own := [("company", 8)]) (by decide +kernel))
          (fun _ _ _ _ _ => pg_name (i := 8) scSettle.nd rfl (Or.inl rfl)) (fun _ _ _ _ _ => pts_one (pt_cmpR op_lt (pe_ix (show IxR _ (rIxL K) from ix_list) (pv 0) (pv 8) (fun _ _ => rfl)) pe_int (nomark _))) (fun _ _ _ _ _ => pv 8))
      (pss_cons (ps_setLc (i := 3) rfl scSettle.nd rfl rfl rfl (pi_list (pv 1)) (by exact blkOk_by (N := ["positions", "companies", "payers", "owed", "orders_of_owed", "found", "payers_order", "owed_order", "company"]) (sc := defScope sSettlement) (own := [("company", 8)]) (by decide +kernel))
          (fun _ _ _ _ _ => pg_name (i := 8) scSettle.nd rfl (Or.inl rfl)) (fun _ _ _ _ _ => pts_one (pt_cmpR op_gt (pe_ix (show IxR _ (rIxL K) from ix_list) (pv 0) (pv 8) (fun _ _ => rfl)) pe_int (nomark _))) (fun _ _ _ _ _ => pv 8))
      (pss_cons (ps_set (i := 4) scSettle.nd rfl (Or.inl rfl) (pe_call GO hr rfl DO.gl DO.fn.kp DO.bd .nil pass0 (pa_cons (pv 3) pa_nil)))
      (pss_cons (ps_set (i := 5) scSettle.nd rfl (Or.inl rfl) (pe_lst pa_nil))
      (pss_cons (ps_for PassesOwn.never rfl (pi_list (pe_call GO hr rfl DO.gl DO.fn.kp DO.bd .nil pass0 (pa_cons (pv 2) pa_nil))) (pg_name (i := 6) scSettle.nd rfl (Or.inl rfl))
        (pss_one (ps_for PassesOwn.never rfl (pi_list (pv 4)) (pg_name (i := 7) scSettle.nd rfl (Or.inl rfl))
          (pss_one (ps_expr (pe_bm PySem.F.plainAttrs_list PySem.F.slot_list_append PySem.F.type_list_append mt_append (pv 5)
            (pa_cons (pe_call GP hr rfl DP.gl DP.fn.kp DP.bd .nil pass0 (pa_cons (pv 0) (pa_cons (pv 6) (pa_cons (pv 7) pa_nil)))) pa_nil)))))))
      (pss_one (ps_ret (pe_minK GK hr DR.bd rfl (by rfl) T2.min rfl DR.gl (pv 5))))))))), ?_⟩
    refine ⟨_, rfl, a, _, rfl, .inl hA, _, rfl, fun r1 hr1 => ⟨r1, ps.length, rfl, by rw [upd_same, List.length_map], by omega, fun Co hCo => ?_⟩⟩
    have s1 := Same.new (o := .rng 0 (((ps.map V.int).length : Nat) : Int)) hr1
    have s2 := Same.new (o := .lst ((List.range ps.length).map iv)) hCo
    generalize hH2 : upd (upd H r1 (.rng 0 (((ps.map V.int).length : Nat) : Int))) Co (.lst ((List.range ps.length).map iv)) = H2
    have sH2 : Same H H2 := by rw [← hH2]; exact s1.trans s2
    have hCo2 : H2 Co = some (.lst ((List.range ps.length).map iv)) := by rw [← hH2]; exact upd_same
    -- the payers
    refine ⟨_, rfl, Co, rfl, ⟨_, SqL.of hCo2⟩, fun D1 hD1 => lc_list (K := K) (xs := (List.range ps.length).map iv) (fun i H' => H' = upd H2 D1 (.lst ((((List.range ps.length).take i).filter fun i => decide (ps.getD i 0 < 0)).map iv))) (by rw [List.take_zero]; rfl) (fun i H' _ e => by rw [e]; exact SqL.of ((Same.new hD1) _ _ hCo2)) ?_ ?_⟩
    · rintro i y H' hi rfl
      obtain ⟨z, hz, rfl⟩ := iv_at hi
      have li : i < ps.length := by
        have := (List.getElem?_eq_some_iff.mp hz).1
        rw [List.length_range] at this; exact this
      have ez : z = i := by rw [List.getElem?_range li] at hz; exact (Option.some.inj hz).symm
      subst ez
      have fs := filt_snoc (q := fun i => decide (ps.getD i 0 < 0)) li
      refine ⟨rfl, _, rfl, _, rfl, a, _, _, V.int (ps.getD z 0), rfl, rfl, (Same.new hD1).seq (sH2.seq hA), at_of (j := z) rfl (ints_at li), _, _, rfl, rfl, _, rfl, ite2 (fun c1 => ?_) (fun c1 => ?_)⟩
      · refine ⟨_, rfl, _, upd_same, ?_, ?_⟩
        · rw [List.length_map]
          exact Nat.lt_of_le_of_lt (Nat.le_trans (List.length_filter_le _ _) (Nat.le_trans (List.length_take_le _ _) (show z ≤ 6 by omega))) (by decide)
        · rw [if_pos c1] at fs
          rw [upd_upd, fs, List.map_append]; rfl
      · rw [if_neg c1, List.append_nil] at fs
        rw [fs]
    rintro H3 rfl
    rw [show ((List.range ps.length).map iv).length = ps.length by rw [List.length_map, List.length_range], show (List.range ps.length).take ps.length = List.range ps.length from List.take_of_length_le (by rw [List.length_range]; exact Nat.le_refl _)]
    have s3 := Same.new (o := .lst ((payersOf ps).map iv)) hD1
    generalize hH3 : upd H2 D1 (.lst ((payersOf ps).map iv)) = H3 at s3
    have hD1' : H3 D1 = some (.lst ((payersOf ps).map iv)) := by rw [← hH3]; exact upd_same
    have sH3 := sH2.trans s3
    have hCo3 := s3 _ _ hCo2
    -- the owed
    refine ⟨_, rfl, Co, rfl, ⟨_, SqL.of (show upd H2 D1 _ Co = _ from by rw [show upd H2 D1 (.lst (((List.range ps.length).filter fun i => decide (ps.getD i 0 < 0)).map iv)) = H3 from hH3]; exact hCo3)⟩, ?_⟩
    rw [show upd H2 D1 (.lst (((List.range ps.length).filter fun i => decide (ps.getD i 0 < 0)).map iv)) = H3 from hH3]
    refine fun D2 hD2 => lc_list (K := K) (xs := (List.range ps.length).map iv) (fun i H' => H' = upd H3 D2 (.lst ((((List.range ps.length).take i).filter fun i => decide (0 < ps.getD i 0)).map iv))) (by rw [List.take_zero]; rfl) (fun i H' _ e => by rw [e]; exact SqL.of ((Same.new hD2) _ _ hCo3)) ?_ ?_
    · rintro i y H' hi rfl
      obtain ⟨z, hz, rfl⟩ := iv_at hi
      have li : i < ps.length := by
        have := (List.getElem?_eq_some_iff.mp hz).1
        rw [List.length_range] at this; exact this
      have ez : z = i := by rw [List.getElem?_range li] at hz; exact (Option.some.inj hz).symm
      subst ez
      have fs := filt_snoc (q := fun i => decide (0 < ps.getD i 0)) li
      refine ⟨rfl, _, rfl, _, rfl, a, _, _, V.int (ps.getD z 0), rfl, rfl, (Same.new hD2).seq (sH3.seq hA), at_of (j := z) rfl (ints_at li), _, _, rfl, rfl, _, rfl, ite2 (fun c1 => ?_) (fun c1 => ?_)⟩
      · refine ⟨_, rfl, _, upd_same, ?_, ?_⟩
        · rw [List.length_map]
          exact Nat.lt_of_le_of_lt (Nat.le_trans (List.length_filter_le _ _) (Nat.le_trans (List.length_take_le _ _) (show z ≤ 6 by omega))) (by decide)
        · rw [if_pos c1] at fs
          rw [upd_upd, fs, List.map_append]; rfl
      · rw [if_neg c1, List.append_nil] at fs
        rw [fs]
    rintro H4 rfl
    rw [show ((List.range ps.length).map iv).length = ps.length by rw [List.length_map, List.length_range], show (List.range ps.length).take ps.length = List.range ps.length from List.take_of_length_le (by rw [List.length_range]; exact Nat.le_refl _)]
    have s4 := Same.new (o := .lst ((owedOf ps).map iv)) hD2
    generalize hH4 : upd H3 D2 (.lst ((owedOf ps).map iv)) = H4 at s4
    have hD2' : H4 D2 = some (.lst ((owedOf ps).map iv)) := by rw [← hH4]; exact upd_same
    rw [show upd H3 D2 (.lst (((List.range ps.length).filter fun i => decide (0 < ps.getD i 0)).map iv)) = H4 from hH4]
    have sH4 := sH3.trans s4
    have lP : (payersOf ps).length ≤ 6 := by have := both_len ps; omega
    have lO : (owedOf ps).length ≤ 6 := by have := both_len ps; omega
    -- the orders of the owed
    refine ⟨_, rfl, D2, owedOf ps, rfl, SqL.of hD2', lO, fun H5 po s5 gO => ?_⟩
    refine ⟨Nat.zero_le _, fun Fo hFo => ?_⟩
    have s6 := Same.new (o := .lst []) hFo
    have sH5 := sH4.trans s5
    have fFo : H Fo = none := sH5.free hFo
    refine ⟨_, rfl, D1, payersOf ps, rfl, SqL.of (s6 _ _ (s5 _ _ (s4 _ _ hD1'))), lP, fun H7 pp s7 gP => ?_⟩
    have sH7 : Same H H7 := (sH5.trans s6).trans s7
    obtain ⟨ao, hpo, lao, pao⟩ := (GN_at gO).lst
    obtain ⟨ap, hpp, lap, pap⟩ := (GN_at gP).lst
    have hpo7 := s7 _ _ (s6 _ _ hpo)
    have hFo7 : H7 Fo = some (.lst []) := s7 _ _ upd_same
    have npo : po ≠ Fo := ne_of_none hpo hFo
    have npp : pp ≠ Fo := fun e => by
      obtain ⟨as, e1, _⟩ := gP
      have := (fr_get e1).1
      rw [e, upd_same] at this; cases this
    -- items of the two lists are no Fo
    have io : ∀ d x, GN (hide H5 po) d x → d ≠ Fo ∧ H7 d = some (.lst (x.map iv)) := fun d x g => by
      have := (hide_get g).2
      exact ⟨ne_of_none this hFo, s7 _ _ (s6 _ _ this)⟩
    have ip : ∀ d x, d ∈ ap → GN (hide H7 pp) d x → d ≠ Fo ∧ H7 d = some (.lst (x.map iv)) := fun d x hd g => by
      refine ⟨fun e => ?_, (hide_get g).2⟩
      obtain ⟨as, e1, e2⟩ := gP
      have e3 := (fr_get e1).2
      rw [hpp] at e3
      have e4 : ap = as := by
        have := Option.some.inj e3
        injection this with this
        have i2 := congrArg (List.map fun | V.ref a => a | _ => 0) this
        rw [List.map_map, List.map_map, show ((fun | V.ref a => a | _ => 0) ∘ V.ref) = (id : Addr → Addr) from rfl, List.map_id, List.map_id] at i2
        exact i2
      subst e4
      obtain ⟨y, _, gy⟩ := paired_mem e2 d hd
      have := (fr_get (hide_get gy).2).1
      rw [e, upd_same] at this; cases this
    have keepA : ∀ H', Keep Fo H7 H' → SqL K H' a (ps.map V.int) := fun H' kp => by
      have sm : Same H H' := fun b o e => kp b o (sH7 _ _ e) (ne_of_none e fFo)
      exact sm.seq hA
    have bP := orders_len lP
    have bO := orders_len lO
    refine ⟨pp, rfl, ⟨_, SqL.of hpp⟩, for_list (K := K) (a := pp) (xs := ap.map V.ref)
      (fun i σ H' => ∃ (v6 v7 : Option V), σ = [some (.ref a), some (.ref Co), some (.ref D1), some (.ref D2), some (.ref po), some (.ref Fo), v6, v7, none] ∧ Keep Fo H7 H' ∧ LL GR (fr H H') Fo (((ordersOf (payersOf ps)).take i).flatMap fun π => (ordersOf (owedOf ps)).map (rowsOf ps π)))
      ⟨none, none, rfl, fun b o e _ => e, LL.nil (by rw [fr_of fFo]; exact hFo7)⟩ (fun i σ H' _ ⟨_, _, _, e, _⟩ => SqL.of (e _ _ hpp npp)) ?_ ?_⟩
    · rintro i y σ H8 hi ⟨v6, v7, rfl, k8, l8⟩
      obtain ⟨pa, hpa, rfl⟩ := ref_at' hi
      obtain ⟨π, hπ, gπ⟩ := paired_get' pap hpa
      obtain ⟨npa, hpa7⟩ := ip pa π (List.mem_of_getElem? hpa) gπ
      have mπ := mem_orders.mp (List.mem_of_getElem? hπ)
      refine ⟨_, rfl, po, rfl, ⟨_, SqL.of (k8 _ _ hpo7 npo)⟩, for_list (K := K) (a := po) (xs := ao.map V.ref)
        (fun j σ H' => ∃ (v7 : Option V), σ = [some (.ref a), some (.ref Co), some (.ref D1), some (.ref D2), some (.ref po), some (.ref Fo), some (.ref pa), v7, none] ∧ Keep Fo H7 H' ∧ LL GR (fr H H') Fo ((((ordersOf (payersOf ps)).take i).flatMap fun π => (ordersOf (owedOf ps)).map (rowsOf ps π)) ++ ((ordersOf (owedOf ps)).map (rowsOf ps π)).take j))
        ⟨v7, rfl, k8, by rw [List.take_zero, List.append_nil]; exact l8⟩ (fun j σ H' _ ⟨_, _, e, _⟩ => SqL.of (e _ _ hpo7 npo)) ?_ ?_⟩
      · rintro j y σ H9 hj ⟨v7, rfl, k9, l9⟩
        obtain ⟨oa, hoa, rfl⟩ := ref_at' hj
        obtain ⟨ρ, hρ, gρ⟩ := paired_get' pao hoa
        obtain ⟨noa, hoa7⟩ := io oa ρ gρ
        have mρ := mem_orders.mp (List.mem_of_getElem? hρ)
        obtain ⟨bs, hFoL, lbs, _⟩ := l9.lst
        have hFo9 := (fr_get hFoL).2
        have lim := part_len (fun π => (ordersOf (owedOf ps)).map (rowsOf ps π)) (k := j) hπ
        refine ⟨_, rfl, .inl ⟨rfl, _, SqL.of hFo9⟩, _, rfl, _, rfl, _, rfl, a, pa, oa, ps, π, ρ, rfl, keepA H9 k9, SqL.of (k9 _ _ hpa7 npa), SqL.of (k9 _ _ hoa7 noa), okStart hsum mπ mρ, fun p hp => ?_, p6, by rw [mπ.length_eq]; exact lP, fun H10 q s10 g10 => ?_⟩
        · have := mem_payers.mp (mπ.mem_iff.mp hp)
          exact lt_of_getD_ne (by omega)
        have it : ((ordersOf (owedOf ps)).map (rowsOf ps π))[j]? = some (rowsOf ps π ρ) := by rw [List.getElem?_map, hρ]; rfl
        refine ⟨Fo, _, _, rfl, rfl, s10 _ _ hFo9, ?_, _, rfl, fun b o e nb => ?_, ?_⟩
        · rw [List.length_map, lbs]
          refine Nat.lt_of_le_of_lt (Nat.le_trans lim ?_) (show 518400 < sizeLine by decide)
          have e : ((ordersOf (payersOf ps)).flatMap fun π => (ordersOf (owedOf ps)).map (rowsOf ps π)).length = (ordersOf (payersOf ps)).length * (ordersOf (owedOf ps)).length := by
            generalize ordersOf (payersOf ps) = L
            induction L with
            | nil => simp
            | cons x L ih => rw [List.flatMap_cons, List.length_append, ih, List.length_map, List.length_cons, Nat.succ_mul, Nat.add_comm]
          rw [e]
          exact Nat.le_trans (Nat.mul_le_mul bP bO) (by decide)
        · rw [upd_ne nb]
          exact s10 _ _ (k9 _ _ e nb)
        · have sH9 : Same H H9 := fun b o e => k9 b o (sH7 _ _ e) (ne_of_none e fFo)
          rw [fr_upd fFo, take_snoc it, ← List.append_assoc]
          refine LL.push (LL.mono GR.mono _ _ _ _ (fr_mono s10) l9) ((fr_mono s10) _ _ hFoL) ?_
          exact GR.mono _ _ _ _ (fr_hide sH9 hFo9) g10
      · rintro σ H9 ⟨v7, rfl, k9, l9⟩
        refine ⟨_, v7, rfl, k9, ?_⟩
        rw [List.length_map, lao, show ((ordersOf (owedOf ps)).map (rowsOf ps π)).take (ordersOf (owedOf ps)).length = (ordersOf (owedOf ps)).map (rowsOf ps π) from List.take_of_length_le (by rw [List.length_map]; exact Nat.le_refl _)] at l9
        rw [take_snoc hπ, List.flatMap_append, List.flatMap_cons, List.flatMap_nil, List.append_nil]
        exact l9
    · rintro σ H8 ⟨v6, v7, rfl, k8, l8⟩
      rw [List.length_map, lap, List.take_length, ← found_rows] at l8
      obtain ⟨as, hFoL, las, pas⟩ := l8.lst
      rw [List.length_map] at las
      have sH8 : Same H H8 := fun b o e => k8 b o (sH7 _ _ e) (ne_of_none e fFo)
      have pasH : Paired (fun d x => GR H8 d x) as ((foundOf ps).map fun m => m.map payRow) := L2.Paired.mapP pas fun d x g => GR.mono _ _ _ _ (fr_same H H8) (GR.mono _ _ _ _ (hide_same _ _) g)
      refine ⟨_, rfl, Fo, as, _, rfl, (fr_get hFoL).2, pasH, ?_, fun x hx y hy z hz h1 h2 => ?_, fun i p r H9 ep er hmin s9 => ?_⟩
      · rw [las]
        exact List.length_pos_of_mem (found_settle hsum p6)
      · obtain ⟨x, _, rfl⟩ := List.mem_map.mp hx
        obtain ⟨y, _, rfl⟩ := List.mem_map.mp hy
        obtain ⟨z, _, rfl⟩ := List.mem_map.mp hz
        rw [keyLess_pay] at h1 h2 ⊢
        exact keyLt_trans h1 h2
      · obtain ⟨r', er', g⟩ := paired_get' pas ep
        rw [er] at er'
        cases er'
        obtain ⟨m, hm, rfl⟩ : ∃ m ∈ foundOf ps, m.map payRow = r := List.mem_map.mp (List.mem_of_getElem? er)
        have em : m = settle ps := pick_eq hsum p6 hm fun m' hm' => by
          rw [← keyLess_pay]
          exact hmin _ (List.mem_map_of_mem hm')
        rw [em] at g
        exact k H9 p (sH8.trans s9) (GR.mono _ _ _ _ (fr_mono s9) (GR.mono _ _ _ _ (hide_same _ _) g))
end
end Ew
end
section
set_option Elab.async false
set_option linter.all false
set_option maxRecDepth 100000
set_option maxHeartbeats 2000000
namespace Ew
open PySem PySem.Spec PyProof.Rows L2 Sett
def GPt (H : Hp) (t : Addr) (x : List Int × List Int) : Prop := ∃ a b : Addr, H t = some (.tup [.ref a, .ref b]) ∧ H a = some (.lst (x.1.map V.int)) ∧ H b = some (.lst (x.2.map V.int))
theorem GPt.mono : Mono GPt := fun _ _ _ _ s h => by
  obtain ⟨a, b, h1, h2, h3⟩ := h
  exact ⟨a, b, s _ _ h1, s _ _ h2, s _ _ h3⟩
def two (v : Int) (p : List Int × List Int) : List (List Int × List Int) := [(p.1 ++ [v], p.2), (p.1, p.2 ++ [v])]
theorem parts_snoc (xs : List Int) (v : Int) : partsOf (xs ++ [v]) = (partsOf xs).flatMap (two v) := by
  unfold partsOf
  rw [List.foldl_append]
  rfl
theorem parts_in {xs : List Int} {q : List Int × List Int} (h : q ∈ partsOf xs) : q.1.length ≤ xs.length ∧ q.2.length ≤ xs.length := by
  obtain ⟨L, e, rfl⟩ := mem_parts.mp h
  rw [← e]
  refine ⟨?_, ?_⟩ <;> · rw [List.length_map, List.length_map]; exact List.length_filter_le _ _
theorem two_len (v : Int) : ∀ found : List (List Int × List Int), (found.flatMap (two v)).length = 2 * found.length
  | [] => rfl
  | x :: l => by rw [List.flatMap_cons, List.length_append, two_len v l, List.length_cons]; show 2 + _ = _; omega
theorem parts_len (xs : List Int) : ∀ found : List (List Int × List Int), (xs.foldl (fun found v => found.flatMap fun p => [(p.1 ++ [v], p.2), (p.1, p.2 ++ [v])]) found).length = found.length * 2 ^ xs.length := by
  induction xs with
  | nil => intro found; simp
  | cons v xs ih =>
    intro found
    rw [List.foldl_cons, ih, show (found.flatMap fun p => [(p.1 ++ [v], p.2), (p.1, p.2 ++ [v])]).length = 2 * found.length from two_len v found, List.length_cons, Nat.pow_succ]
    rw [Nat.mul_comm 2, Nat.mul_assoc, Nat.mul_comm 2]
theorem parts_64 {xs : List Int} (h : xs.length ≤ 6) : (partsOf xs).length ≤ 64 := by
  unfold partsOf
  rw [parts_len]
  exact Nat.le_trans (Nat.mul_le_mul_left _ (Nat.pow_le_pow_right (by decide) h)) (by decide)
def spPartings (K : PySem.W.Frag) : Sp := fun vs H Q _ => ∃ (a : Addr) (xs : List Int), vs = [.ref a] ∧ SqL K H a (xs.map V.int) ∧ xs.length ≤ 6 ∧ giveG (LL GPt) (partsOf xs) H Q
def spMost (K : PySem.W.Frag) (n : Nat) : Sp := fun vs H Q _ => ∃ (a : Addr) (xs : List Int), vs = [.ref a] ∧ SqL K H a (xs.map V.int) ∧ xs.length ≤ 6 ∧ xs.length < n ∧ giveV (.int (mg n xs)) H Q
section
variable {P : Program} {w : World} {K : PySem.W.Frag} {mg : Str → Option Value} {base : Heap}
theorem scPartings : FnScope ["values", "found", "value", "longer", "parting"] ["values"] (defScope sPartings) := ⟨rfl, rfl, rfl, by decide +kernel, rfl, by decide +kernel, by decide +kernel⟩
theorem ok_partings {f : Addr} {fd : FuncData} (F : Fun K "partings" "partings" sPartings f fd) (T : Txt mg) : FnOk P w K mg base CX0 1 f fd ["values"] (spPartings K) := by
  refine F.ok scPartings (fun vs H Q E h => ?_) (fun cdv A outer s H vs Q E hr h => ?_)
  · obtain ⟨a, ns, rfl, _⟩ := h
    rfl
  · obtain ⟨a, ns, rfl, hS, h6, k⟩ := h
    refine ⟨_, pss_cons (ps_set (i := 1) scPartings.nd rfl (Or.inl rfl) (pe_lst (pa_cons (pe_tup (pa_cons (pe_lst pa_nil) (pa_cons (pe_lst pa_nil) pa_nil))) pa_nil)))
      (pss_cons (ps_for PassesOwn.never rfl (pi_list (pv 0)) (pg_name (i := 2) scPartings.nd rfl (Or.inl rfl))
        (pss_cons (ps_set (i := 3) scPartings.nd rfl (Or.inl rfl) (pe_lst pa_nil))
        (pss_cons (ps_for PassesOwn.never rfl (pi_list (pv 1)) (pg_name (i := 4) scPartings.nd rfl (Or.inl rfl))
          (pss_cons (ps_expr (pe_bm PySem.F.plainAttrs_list PySem.F.slot_list_append PySem.F.type_list_append mt_append (pv 3)
              (pa_cons (pe_tup (pa_cons (pe_op op_cat (pe_ix ix_tup (pv 4) pe_int (fun _ _ => rfl)) (pe_lst (pa_cons (pv 2) pa_nil))) (pa_cons (pe_ix ix_tup (pv 4) pe_int (fun _ _ => rfl)) pa_nil))) pa_nil)))
          (pss_one (ps_expr (pe_bm PySem.F.plainAttrs_list PySem.F.slot_list_append PySem.F.type_list_append mt_append (pv 3)
              (pa_cons (pe_tup (pa_cons (pe_ix ix_tup (pv 4) pe_int (fun _ _ => rfl)) (pa_cons (pe_op op_cat (pe_ix ix_tup (pv 4) pe_int (fun _ _ => rfl)) (pe_lst (pa_cons (pv 2) pa_nil))) pa_nil))) pa_nil))))))
        (pss_one (ps_set (i := 1) scPartings.nd rfl (Or.inl rfl) (pv 3))))))
      (pss_one (ps_ret (pv 1)))), ?_⟩
    refine ⟨Nat.zero_le _, fun z1 hz1 => ⟨Nat.zero_le _, fun z2 hz2 => ⟨by show 2 ≤ sizeLine; decide, fun t ht => ⟨by show 1 ≤ sizeLine; decide, fun p hp => ?_⟩⟩⟩⟩
    have s1 := Same.new (o := .lst []) hz1
    have s2 := Same.new (o := .lst []) hz2
    have s3 := Same.new (o := .tup [.ref z1, .ref z2]) ht
    have s4 := Same.new (o := .lst [.ref t]) hp
    have f2 := s1.free hz2
    have f3 := (s1.trans s2).free ht
    have f4 := ((s1.trans s2).trans s3).free hp
    have n1 : z1 ≠ p := ne_of_none (s3 _ _ (s2 _ _ upd_same)) hp
    have n2 : z2 ≠ p := ne_of_none (s3 _ _ upd_same) hp
    have n3 : t ≠ p := ne_of_none upd_same hp
    have ss := ((s1.trans s2).trans s3).trans s4
    refine ⟨_, rfl, a, rfl, ⟨_, ss.seq hS⟩, for_list (K := K) (a := a) (xs := ns.map V.int) (fun i σ H' => ∃ (fo : Addr) (v2 v3 v4 : Option V), σ = [some (.ref a), some (.ref fo), v2, v3, v4] ∧ Same H H' ∧ LL GPt (fr H H') fo (partsOf (ns.take i)))
      ⟨p, none, none, none, rfl, ss, [t], ?_, .cons ⟨z1, z2, ?_, ?_, ?_⟩ .nil⟩ (fun i σ H' _ ⟨_, _, _, _, _, e, _⟩ => e.seq hS) ?_ ?_⟩
    · rw [fr_of f4, upd_same]; rfl
    · rw [hide_ne n3, fr_of f3, upd_ne n3, upd_same]
    · rw [hide_ne n1, fr_of hz1]
      exact s4 _ _ (s3 _ _ (s2 _ _ upd_same))
    · rw [hide_ne n2, fr_of f2]
      exact s4 _ _ (s3 _ _ upd_same)
    · rintro i y σ H1 hi ⟨fo, v2, v3, v4, rfl, sH, hfo⟩
      obtain ⟨c, hc, rfl⟩ := int_at hi
      refine ⟨Nat.zero_le _, fun lo hlo => ?_⟩
      have e1 : partsOf (ns.take (i + 1)) = (partsOf (ns.take i)).flatMap (two c) := by rw [take_snoc hc, parts_snoc]
      have l6 : (ns.take (i + 1)).length ≤ 6 := by rw [List.length_take]; omega
      have bound := parts_64 l6
      rw [e1] at bound
      rw [e1]
      have olen : ∀ o ∈ partsOf (ns.take i), o.1.length ≤ 6 ∧ o.2.length ≤ 6 := fun o ho => by
        have := parts_in ho
        have : (ns.take i).length ≤ 6 := by rw [List.length_take]; omega
        omega
      generalize partsOf (ns.take i) = found at hfo bound olen
      obtain ⟨as, hfoL, las, pas⟩ := hfo.lst
      have hfoH := (fr_get hfoL).2
      have flo : H lo = none := sH.free hlo
      refine ⟨_, rfl, fo, rfl, ⟨_, SqL.of ((Same.new hlo) _ _ hfoH)⟩, for_list (K := K) (a := fo) (xs := as.map V.ref)
        (fun j σ H' => ∃ v4 : Option V, σ = [some (.ref a), some (.ref fo), some (.int c), some (.ref lo), v4] ∧ Same H1 H' ∧ LL GPt (fr H H') lo ((found.take j).flatMap (two c)))
        ⟨v4, rfl, Same.new hlo, LL.nil (by rw [fr_of flo, upd_same])⟩ (fun j σ H' _ ⟨_, _, e, _⟩ => SqL.of (e _ _ hfoH)) ?_ ?_⟩
      · rintro j y σ H2 hj ⟨v4, rfl, sH1, hlo2⟩
        obtain ⟨ta, hta, rfl⟩ := ref_at' hj
        obtain ⟨o, ho, go⟩ := paired_get' pas hta
        obtain ⟨x1, x2, g1, g2, g3⟩ := go
        obtain ⟨o1, o2⟩ := olen o (List.mem_of_getElem? ho)
        have fx : ∀ {b u}, hide (fr H H1) fo b = some u → H b = none ∧ H1 b = some u := fun e => fr_get (hide_get e).2
        have t0 := sH1 _ _ (fx g1).2
        have t1 := sH1 _ _ (fx g2).2
        have t2 := sH1 _ _ (fx g3).2
        obtain ⟨bs, hloL, lbs, _⟩ := hlo2.lst
        have hloH := (fr_get hloL).2
        have lim := part_len (two c) (k := 2) ho
        have lim2 : ((found.take j).flatMap (two c)).length + 2 ≤ 64 := by
          have e : (two c o).take 2 = two c o := rfl
          rw [e, List.length_append] at lim
          have : (two c o).length = 2 := rfl
          omega
        -- the first of the two
        refine ⟨_, rfl, .inl ⟨rfl, _, SqL.of hloH⟩, _, rfl, ta, _, _, V.ref x1, rfl, rfl, SqT.of t0, atI_nat rfl, _, rfl, by show 1 ≤ sizeLine; decide, fun q1 hq1 => ?_⟩
        have u1 := Same.new (o := .lst [V.int c]) hq1
        refine ⟨x1, q1, _, _, rfl, rfl, u1 _ _ t1, upd_same, ?_, fun q2 hq2 => ?_⟩
        · rw [List.length_map]; exact Nat.le_trans (show _ ≤ 7 by simp; omega) (by decide)
        have u2 := Same.new (o := .lst (o.1.map V.int ++ [V.int c])) hq2
        refine ⟨_, rfl, ta, _, _, V.ref x2, rfl, rfl, SqT.of (u2 _ _ (u1 _ _ t0)), atI_nat rfl, by show 2 ≤ sizeLine; decide, fun q3 hq3 => ?_⟩
        have u3 := Same.new (o := .tup [V.ref q2, V.ref x2]) hq3
        have uu := (u1.trans u2).trans u3
        refine ⟨lo, _, _, rfl, rfl, uu _ _ hloH, ?_, ?_⟩
        · rw [List.length_map, lbs]; exact Nat.lt_of_lt_of_le (show _ < 64 by omega) (by decide)
        have nx1 : x1 ≠ lo := ne_of_none (fx g2).2 hlo
        have nx2 : x2 ≠ lo := ne_of_none (fx g3).2 hlo
        have nta : ta ≠ lo := ne_of_none (fx g1).2 hlo
        have nq1 : q1 ≠ lo := fun e => by rw [e, hloH] at hq1; cases hq1
        have nq2 : q2 ≠ lo := fun e => by have := u1 _ _ hloH; rw [← e, hq2] at this; cases this
        have nq3 : q3 ≠ lo := fun e => by have := (u1.trans u2) _ _ hloH; rw [← e, hq3] at this; cases this
        have fq2 : H q2 = none := sH.free (sH1.free (u1.free hq2))
        have fq3 : H q3 = none := sH.free (sH1.free ((u1.trans u2).free hq3))
        have L3 : LL GPt (fr H (upd (upd (upd (upd H2 q1 (.lst [V.int c])) q2 (.lst (o.1.map V.int ++ [V.int c]))) q3 (.tup [V.ref q2, V.ref x2])) lo (.lst (bs.map V.ref ++ [V.ref q3])))) lo ((found.take j).flatMap (two c) ++ [(o.1 ++ [c], o.2)]) := by
          rw [fr_upd flo]
          refine LL.push (LL.mono GPt.mono _ _ _ _ (fr_mono uu) hlo2) ((fr_mono uu) _ _ hloL) ⟨q2, x2, ?_, ?_, ?_⟩
          · rw [hide_ne nq3, fr_of fq3, upd_same]
          · rw [hide_ne nq2, fr_of fq2]
            rw [List.map_append]
            exact u3 _ _ upd_same
          · rw [hide_ne nx2, fr_of (fx g3).1]
            exact uu _ _ t2
        generalize hH3 : upd (upd (upd (upd H2 q1 (.lst [V.int c])) q2 (.lst (o.1.map V.int ++ [V.int c]))) q3 (.tup [V.ref q2, V.ref x2])) lo (.lst (bs.map V.ref ++ [V.ref q3])) = H3 at L3
        have k3 : ∀ b u, H2 b = some u → b ≠ lo → H3 b = some u := fun b u e n => by rw [← hH3, upd_ne n]; exact uu _ _ e
        have hlo3 : H3 lo = some (.lst (bs.map V.ref ++ [V.ref q3])) := by rw [← hH3]; exact upd_same
        have t0' := k3 _ _ t0 nta
        have t1' := k3 _ _ t1 nx1
        have t2' := k3 _ _ t2 nx2
        -- the second
        refine ⟨_, rfl, .inl ⟨rfl, _, SqL.of hlo3⟩, _, rfl, ta, _, _, V.ref x1, rfl, rfl, SqT.of t0', atI_nat rfl, _, rfl, ta, _, _, V.ref x2, rfl, rfl, SqT.of t0', atI_nat rfl, _, rfl, by show 1 ≤ sizeLine; decide, fun r1 hr1 => ?_⟩
        have w1 := Same.new (o := .lst [V.int c]) hr1
        refine ⟨x2, r1, _, _, rfl, rfl, w1 _ _ t2', upd_same, ?_, fun r2 hr2 => ?_⟩
        · rw [List.length_map]; exact Nat.le_trans (show _ ≤ 7 by simp; omega) (by decide)
        have w2 := Same.new (o := .lst (o.2.map V.int ++ [V.int c])) hr2
        refine ⟨by show 2 ≤ sizeLine; decide, fun r3 hr3 => ?_⟩
        have w3 := Same.new (o := .tup [V.ref x1, V.ref r2]) hr3
        have ww := (w1.trans w2).trans w3
        refine ⟨lo, _, _, rfl, rfl, ww _ _ hlo3, ?_, _, rfl, fun b u e => ?_, ?_⟩
        · rw [List.length_append, List.length_map, lbs]; exact Nat.lt_of_lt_of_le (show ((found.take j).flatMap (two c)).length + 1 < 64 by omega) (by decide)
        · have n := ne_of_none e hlo
          rw [upd_ne n]
          exact ww _ _ (k3 _ _ (sH1 _ _ e) n)
        · have s2' : Same H H3 := fun b u e => k3 _ _ (sH1 _ _ (sH _ _ e)) (ne_of_none e flo)
          have nr2 : r2 ≠ lo := fun e => by have := w1 _ _ hlo3; rw [← e, hr2] at this; cases this
          have nr3 : r3 ≠ lo := fun e => by have := (w1.trans w2) _ _ hlo3; rw [← e, hr3] at this; cases this
          have fr2 : H r2 = none := s2'.free (w1.free hr2)
          have fr3 : H r3 = none := s2'.free ((w1.trans w2).free hr3)
          obtain ⟨cs, hL, _, _⟩ := L3.lst
          have hL' : fr H H3 lo = some (.lst (bs.map V.ref ++ [V.ref q3])) := by rw [fr_of flo]; exact hlo3
          rw [fr_upd flo, take_snoc ho, List.flatMap_append, List.flatMap_cons, List.flatMap_nil, List.append_nil, show two c o = [(o.1 ++ [c], o.2)] ++ [(o.1, o.2 ++ [c])] from rfl, ← List.append_assoc]
          refine LL.push (LL.mono GPt.mono _ _ _ _ (fr_mono ww) L3) ((fr_mono ww) _ _ hL') ⟨x1, r2, ?_, ?_, ?_⟩
          · rw [hide_ne nr3, fr_of fr3, upd_same]
          · rw [hide_ne nx1, fr_of (fx g2).1]
            exact ww _ _ t1'
          · rw [hide_ne nr2, fr_of fr2, List.map_append]
            exact w3 _ _ upd_same
      · rintro σ H2 ⟨v4, rfl, sH1, hlo2⟩
        rw [List.length_map, las, List.take_length] at hlo2
        exact ⟨_, rfl, lo, _, _, v4, rfl, sH.trans sH1, hlo2⟩
    · rintro σ H1 ⟨fo, v2, v3, v4, rfl, sH, hfo⟩
      rw [List.length_map, List.take_length] at hfo
      exact ⟨_, rfl, k H1 fo sH hfo⟩
theorem scMost : FnScope ["positions", "uneven", "most", "parting", "position"] ["positions"] (defScope sMost) := ⟨rfl, rfl, rfl, by decide +kernel, rfl, by decide +kernel, by decide +kernel⟩
theorem nz_snoc {l : List Int} {i : Nat} {x : Int} (h : l[i]? = some x) : (l.take (i + 1)).filter (· != 0) = (l.take i).filter (· != 0) ++ (if (x != 0) = true then [x] else []) := by
  rw [take_snoc h, List.filter_append, List.filter_cons, List.filter_nil]
theorem fold_snoc {α β : Type} (g : β → α → β) (b : β) {l : List α} {i : Nat} {x : α} (h : l[i]? = some x) : (l.take (i + 1)).foldl g b = g ((l.take i).foldl g b) x := by
  rw [take_snoc h, List.foldl_append]
  rfl
theorem ok_most {f fP : Addr} {fd fdP : FuncData} (F : Fun K "most_groups" "most_groups" sMost f fd) (T : Txt mg) (T2 : Txt2 mg) (bd : Binds K fd ["positions"] []) (gl : mg "most_groups" = some (.ref f)) (DP : Def K mg "partings" sPartings fP fdP ["values"]) :
    ∀ n : Nat, FnOk P w K mg base CX0 (n + 1) f fd ["positions"] (spMost K n)
  | 0 => ⟨fun vs H Q E h => by obtain ⟨a, xs, _, _, _, h, _⟩ := h; omega, fun A outer s H args us vs Q E _ _ _ _ h => by obtain ⟨a, xs, _, _, _, h, _⟩ := h; omega⟩
  | n + 1 => by
    have GM : FnOk P w K mg base CX0 (n + 1) f fd ["positions"] (spMost K n) := ok_most F T T2 bd gl DP n
    have GP : FnOk P w K mg base CX0 (n + 1) fP fdP ["values"] (spPartings K) := (ok_partings DP.fn T).mono (by omega)
    refine F.ok scMost (fun vs H Q E h => ?_) (fun cdv A outer s H vs Q E hr h => ?_)
    · obtain ⟨a, ns, rfl, _⟩ := h
      rfl
    · obtain ⟨a, ns, rfl, hS, h6, hn, k⟩ := h
      refine ⟨_, pss_cons (ps_setLc (i := 1) rfl scMost.nd rfl rfl rfl (pi_list (pv 0)) (by exact blkOk_by (N := ["positions", "uneven", "most", "parting", "position"]) (sc := defScope sMost) (own := [("position", 4)]) (by decide +kernel))
          (fun _ _ _ _ _ => pg_name (i := 4) scMost.nd rfl (Or.inl rfl)) (fun _ _ _ _ _ => pts_one (pt_cmpR op_ne (pv 4) pe_int (nomark _))) (fun _ _ _ _ _ => pv 4))
        (pss_cons (ps_if (pt_cmpR op_eq (pe_callB call_len_seq (by rfl) T.len PySem.boot_len (pa_cons (pv 1) pa_nil)) pe_int (nomark _)) (pss_one (ps_ret pe_int)) pss_nil)
        (pss_cons (ps_set (i := 2) scMost.nd rfl (Or.inl rfl) pe_int)
        (pss_cons (ps_for PassesOwn.never rfl (pi_list (pe_call GP hr rfl DP.gl DP.fn.kp DP.bd .nil pass0 (pa_cons (pe_slice sl_list (pv 1) (po_some pe_int) po_none) pa_nil))) (pg_name (i := 3) scMost.nd rfl (Or.inl rfl))
          (pss_one (ps_if (pt_cmpR op_eq (pe_op op_add (pe_ix ix_list (pv 1) pe_int (fun _ _ => rfl)) (pe_callB (cr_sum rfl) (by rfl) T.sum PyProof.Rows.boot_sum (pa_cons (pe_ix ix_tup (pv 3) pe_int (fun _ _ => rfl)) pa_nil))) pe_int (nomark _))
            (pss_one (ps_set (i := 2) scMost.nd rfl (Or.inl rfl) (pe_callB (call_max2 rfl) (by rfl) T2.max PyProof.Rows.boot_max (pa_cons (pv 2) (pa_cons (pe_op op_add pe_int (pe_call GM hr rfl gl F.kp bd .nil pass0 (pa_cons (pe_ix ix_tup (pv 3) pe_int (fun _ _ => rfl)) pa_nil))) pa_nil)))))
            pss_nil)))
        (pss_one (ps_ret (pv 2)))))), ?_⟩
      refine ⟨_, rfl, a, rfl, ⟨_, hS⟩, fun D hD => lc_list (K := K) (xs := ns.map V.int) (fun i H' => H' = upd H D (.lst (((ns.take i).filter (· != 0)).map V.int))) (by rw [List.take_zero]; rfl) (fun i H' _ e => by rw [e]; exact (Same.new hD).seq hS) ?_ ?_⟩
      · rintro i y H' hi rfl
        obtain ⟨z, hz, rfl⟩ := int_at hi
        have fs := nz_snoc hz
        have li : i < ns.length := (List.getElem?_eq_some_iff.mp hz).1
        refine ⟨rfl, _, rfl, rfl, _, rfl, ite2 (fun c1 => ?_) (fun c1 => ?_)⟩
        · have z0 := neI.mp c1
          refine ⟨_, rfl, _, upd_same, ?_, ?_⟩
          · rw [List.length_map]
            exact Nat.lt_of_le_of_lt (Nat.le_trans (List.length_filter_le _ _) (Nat.le_trans (List.length_take_le _ _) (show i ≤ 6 by omega))) (by decide)
          · rw [if_pos (by simpa using z0)] at fs
            rw [upd_upd, fs, List.map_append]; rfl
        · have z0 : z = 0 := Classical.byContradiction fun h => c1 (neI.mpr h)
          rw [if_neg (by simp [z0]), List.append_nil] at fs
          rw [fs]
      rintro H1 rfl
      rw [List.length_map, List.take_length]
      have s1 := Same.new (o := .lst ((ns.filter (· != 0)).map V.int)) hD
      have ul : (ns.filter (· != 0)).length ≤ ns.length := List.length_filter_le _ _
      have em : Sett.mg (n + 1) ns = (match ns.filter (· != 0) with | [] => 0 | x :: xs => (partsOf xs).foldl (mgStep (Sett.mg n) x) 1) := rfl
      rw [em] at k
      generalize hU : ns.filter (· != 0) = un at s1 ul k
      generalize hH1 : upd H D (.lst (un.map V.int)) = H1 at s1
      have d1 : H1 D = some (.lst (un.map V.int)) := by rw [← hH1]; exact upd_same
      refine ⟨_, rfl, D, _, rfl, .inl (SqL.of d1), rfl, _, rfl, ite2 (fun c1 => ?_) (fun c1 => ?_)⟩
      · have e := eqI.mp c1
        rw [List.length_map] at e
        have : un = [] := List.length_eq_zero_iff.mp (by omega)
        subst this
        exact k H1 s1
      · have ne : un ≠ [] := fun e => c1 (eqI.mpr (by rw [e]; rfl))
        match un, ne, ul, k, d1 with
        | x :: xs, _, ul, k, d1 =>
          rw [List.length_cons] at ul
          refine ⟨_, rfl, _, rfl, D, _, rfl, SqL.of d1, fun p hp => ?_⟩
          have s2 := Same.new (o := .lst (cutV ((x :: xs).map V.int) (some ((1 : Nat) : Int)) none)) hp
          refine ⟨p, xs, rfl, SqL.of (by rw [upd_same]; congr 2; exact cut_from _ 1), by omega, fun H3 fo s3 gf => ?_⟩
          obtain ⟨as, hfoL, las, pas⟩ := gf.lst
          have hfo := (fr_get hfoL).2
          have sH3 := (s1.trans s2).trans s3
          refine ⟨fo, rfl, ⟨_, SqL.of hfo⟩, for_list (K := K) (a := fo) (xs := as.map V.ref)
            (fun i σ H' => ∃ v3 : Option V, σ = [some (.ref a), some (.ref D), some (.int (((partsOf xs).take i).foldl (mgStep (Sett.mg n) x) 1)), v3, none] ∧ Same H3 H')
            ⟨none, rfl, Same.rfl' H3⟩ (fun i σ H' _ ⟨_, _, e⟩ => SqL.of (e _ _ hfo)) ?_ ?_⟩
          · rintro i y σ H4 hi ⟨v3, rfl, s4⟩
            obtain ⟨ta, hta, rfl⟩ := ref_at' hi
            obtain ⟨o, ho, x1, x2, g1, g2, g3⟩ := paired_get' pas hta
            have t0 := s4 _ _ (fr_get (hide_get g1).2).2
            have t1 := s4 _ _ (fr_get (hide_get g2).2).2
            have t2 := s4 _ _ (fr_get (hide_get g3).2).2
            have lo := parts_in (List.mem_of_getElem? ho)
            have dD := s4 _ _ (s3 _ _ (s2 _ _ d1))
            have fsn := fold_snoc (mgStep (Sett.mg n) x) 1 ho
            refine ⟨_, rfl, D, _, _, V.int x, rfl, rfl, SqL.of dD, atI_nat rfl, _, rfl, ta, _, _, V.ref x1, rfl, rfl, SqT.of t0, atI_nat rfl, x1, o.1, rfl, SqL.of t1, _, _, rfl, rfl, rfl, _, rfl, ite2 (fun c2 => ?_) (fun c2 => ?_)⟩
            · have z := eqI.mp c2
              refine ⟨_, rfl, _, rfl, ta, _, _, V.ref x2, rfl, rfl, SqT.of t0, atI_nat rfl, x2, o.2, rfl, SqL.of t2, by omega, by omega, fun H5 s5 => ?_⟩
              refine ⟨_, _, rfl, rfl, _, _, rfl, some (.ref ta), ?_, s4.trans s5⟩
              rw [fsn]
              unfold mgStep
              rw [if_pos z]
              rfl
            · refine ⟨some (.ref ta), ?_, s4⟩
              rw [fsn]
              unfold mgStep
              rw [if_neg (fun z => c2 (eqI.mpr z))]
              rfl
          · rintro σ H4 ⟨v3, rfl, s4⟩
            rw [List.length_map, las, List.take_length]
            exact ⟨_, rfl, k H4 (sH3.trans s4)⟩
end
end Ew
end
section
set_option Elab.async false
set_option linter.all false
set_option maxRecDepth 100000
set_option maxHeartbeats 2000000
namespace Ew
open PySem PySem.Spec PyProof.Rows L2
abbrev sSaved : Stmt := top 32
abbrev sLow : Stmt := top 33
abbrev sLoaded : Stmt := top 34
abbrev sHasLen : Stmt := top 35
abbrev sAccAt : Stmt := top 36
abbrev sNumAt : Stmt := top 37
abbrev sAreR : Stmt := top 38
structure Txt3 (K : PySem.W.Frag) (mg : Str → Option Value) : Prop where
  mark : ∃ m, mg "MARK" = some (.ref m) ∧ ∀ H : Hp, SqT K H m [.int 67, .int 66, .int 65, .int 49]
  place : ∃ t, mg "PLACE_OF_COMPANIES" = some (.int 4 t)
  first : ∃ t, mg "FIRST_ACCOUNT" = some (.int 5 t)
  numLen : ∃ t, mg "NUMBER_LENGTH" = some (.int 8 t)
  accLen : ∃ t, mg "ACCOUNT_LENGTH" = some (.int 32 t)
  sumLen : ∃ t, mg "SUM_LENGTH" = some (.int 4 t)
  modulus : ∃ t, mg "SUM_MODULUS" = some (.int 65521 t)
  below : ∃ t, mg "LEAST_BELOW_0" = some (.int 9223372036854775808 t)
  all : ∃ t, mg "ALL_NUMBERS" = some (.int 18446744073709551616 t)
theorem for_rev {K : PySem.W.Frag} {a : Addr} {xs : List V} {g : TG} {tb : TS} {D : Ends} {σ : L2.St} {H : Hp} (Pv : Nat → L2.St → Hp → Prop) (h0 : Pv 0 σ H) (hl : ∀ i σ H, i ≤ xs.length → Pv i σ H → SqL K H a xs)
    (hs : ∀ i x σ H, i < xs.length → xs[xs.length - 1 - i]? = some x → Pv i σ H → g x σ H fun σ2 H2 => tb { D with nx := Pv (i + 1), ct := Pv (i + 1), bk := D.nx } σ2 H2) (hd : ∀ σ H, Pv xs.length σ H → D.nx σ H) :
    ∃ W : Nat → Nat → L2.St → Hp → Prop, (∃ m, W 0 m σ H) ∧ ∀ i m σ H, W i m σ H →
      ((Itv K a xs.length).stop i H ∧ D.nx σ H) ∨ ((Itv K a xs.length).go i H ∧ ∃ N : L2.St → Hp → Prop, (∀ σ' H', N σ' H' → ∃ m', m' < m ∧ W (i + 1) m' σ' H') ∧ ∀ x H', (Itv K a xs.length).yld i H x H' → g x σ H' fun σ2 H2 => tb { D with nx := N, ct := N, bk := D.nx } σ2 H2) := by
  refine ⟨fun i m σ H => m = xs.length - i ∧ i ≤ xs.length ∧ Pv i σ H, ⟨xs.length, by simp, Nat.zero_le _, h0⟩, ?_⟩
  rintro i m σ H ⟨rfl, hi, p⟩
  have q := hl i σ H hi p
  by_cases hlt : i < xs.length
  · refine .inr ⟨⟨hlt, xs, xs[xs.length - 1 - i]'(by omega), q, List.getElem?_eq_getElem (by omega)⟩, Pv (i + 1), fun σ' H' p' => ⟨xs.length - (i + 1), by omega, rfl, hlt, p'⟩, fun x H' y => ?_⟩
    obtain ⟨e, y⟩ := y
    subst e
    exact hs i x σ _ hlt (y xs q) p
  · have e : i = xs.length := by omega
    subst e
    exact .inl ⟨Nat.le_refl _, hd σ H p⟩
/-- the lowest bytes -/
def lowI : Nat → Int → List Int
  | 0, _ => []
  | k + 1, z => z % 256 :: lowI k (z / 256)
def downI : Nat → Int → Int
  | 0, z => z
  | k + 1, z => downI k (z / 256)
theorem lowI_snoc : ∀ (k : Nat) (z : Int), lowI (k + 1) z = lowI k z ++ [downI k z % 256]
  | 0, z => rfl
  | k + 1, z => by
    show z % 256 :: lowI (k + 1) (z / 256) = (z % 256 :: lowI k (z / 256)) ++ [downI k (z / 256) % 256]
    rw [lowI_snoc k]
    rfl
theorem downI_succ : ∀ (k : Nat) (z : Int), downI (k + 1) z = downI k z / 256
  | 0, z => rfl
  | k + 1, z => by
    show downI (k + 1) (z / 256) = downI k (z / 256) / 256
    exact downI_succ k _
theorem lowI_length : ∀ (k : Nat) (z : Int), (lowI k z).length = k
  | 0, _ => rfl
  | k + 1, z => by rw [lowI, List.length_cons, lowI_length k]
def spLow : Sp := fun vs H Q _ => ∃ (z : Int) (k : Nat), vs = [.int z, .int (k : Nat)] ∧ k ≤ 8 ∧ giveL ((lowI k z).map V.int) H Q
def accI (x : A3) : List Int := lowI 8 x.pos ++ (lowI 8 x.c ++ (lowI 8 x.g ++ lowI 8 x.p))
def headI (xs : List A3) : List Int := [67, 66, 65, 49, (xs.length : Nat)]
def plainI (xs : List A3) : List Int := headI xs ++ xs.flatMap accI
def savedI (xs : List A3) : List Int := plainI xs ++ lowI 4 ((plainI xs).sum % 65521)
theorem accI_length (x : A3) : (accI x).length = 32 := by
  unfold accI
  rw [List.length_append, List.length_append, List.length_append, lowI_length, lowI_length, lowI_length, lowI_length]
theorem accs_length : ∀ xs : List A3, (xs.flatMap accI).length = 32 * xs.length
  | [] => rfl
  | x :: xs => by rw [List.flatMap_cons, List.length_append, accI_length, accs_length xs, List.length_cons]; omega
def spSaved (CA : Addr) : Sp := fun vs H Q _ => ∃ (l : Addr) (xs : List A3), vs = [.ref l] ∧ AccsAt CA H l xs ∧ xs.length ≤ 6 ∧ giveL ((savedI xs).map V.int) H Q
section
variable {P : Program} {w : World} {K : PySem.W.Frag} {mg : Str → Option Value} {base : Heap}
theorem scLow : FnScope ["number", "length", "lowest", "left", "place"] ["number", "length"] (defScope sLow) := ⟨rfl, rfl, rfl, by decide +kernel, rfl, by decide +kernel, by decide +kernel⟩
theorem ok_low {f : Addr} {fd : FuncData} (F : Fun K "lowest_first" "lowest_first" sLow f fd) (T : Txt mg) : FnOk P w K mg base CX0 1 f fd ["number", "length"] spLow := by
  refine F.ok scLow (fun vs H Q E h => ?_) (fun cdv A outer s H vs Q E hr h => ?_)
  · obtain ⟨z, k, rfl, _⟩ := h
    rfl
  · obtain ⟨z, n, rfl, h8, k⟩ := h
    refine ⟨_, pss_cons (ps_set (i := 2) scLow.nd rfl (Or.inl rfl) (pe_lst pa_nil))
      (pss_cons (ps_set (i := 3) scLow.nd rfl (Or.inl rfl) (pv 0))
      (pss_cons (ps_for PassesOwn.never rfl (pi_range1 rfl T.range (pa_cons (pv 1) pa_nil)) (pg_name (i := 4) scLow.nd rfl (Or.inl rfl))
        (pss_cons (ps_expr (pe_bm PySem.F.plainAttrs_list PySem.F.slot_list_append PySem.F.type_list_append mt_append (pv 2) (pa_cons (pe_op op_mod (pv 3) pe_int) pa_nil)))
        (pss_one (ps_set (i := 3) scLow.nd rfl (Or.inl rfl) (pe_op op_fdiv (pv 3) pe_int)))))
      (pss_one (ps_ret (pv 2))))), ?_⟩
    refine ⟨Nat.zero_le _, fun p hp => ?_⟩
    refine ⟨_, rfl, _, rfl, (n : Int), rfl, by omega, by omega, ?_⟩
    rw [Int.toNat_natCast]
    refine for_range (n := n) (fun i σ H' => ∃ v4 : Option V, σ = [some (.int z), some (.int (n : Nat)), some (.ref p), some (.int (downI i z)), v4] ∧ H' = upd H p (.lst ((lowI i z).map V.int)))
      ⟨none, rfl, rfl⟩ ?_ ?_
    · rintro i σ H' hi ⟨v4, rfl, rfl⟩
      refine ⟨_, rfl, .inl ⟨rfl, _, SqL.of upd_same⟩, _, rfl, _, _, rfl, rfl, (by show (0 : Int) < 256; decide), p, _, _, rfl, rfl, upd_same, ?_, ?_⟩
      · rw [List.length_map, lowI_length]
        exact Nat.lt_of_le_of_lt (show i ≤ 8 by omega) (by decide)
      · refine ⟨_, rfl, _, _, rfl, rfl, ⟨by decide, by decide⟩, some (.int (0 + (i : Nat))), ?_, ?_⟩
        · rw [downI_succ]; rfl
        · rw [upd_upd, lowI_snoc, List.map_append]; rfl
    · rintro σ H' ⟨v4, rfl, rfl⟩
      exact ⟨_, rfl, k _ p (Same.new hp) hp upd_same⟩
theorem scSaved : FnScope ["accounts", "saved", "account", "number"] ["accounts"] (defScope sSaved) := ⟨rfl, rfl, rfl, by decide +kernel, rfl, by decide +kernel, by decide +kernel⟩
theorem ok_saved {f fL fF fp CA : Addr} {fd fdL fdF fdp : FuncData} (F : Fun K "saved_bytes" "saved_bytes" sSaved f fd) (T : Txt mg) (T3 : Txt3 K mg) (TA' : TA K mg CA) (DL : Def K mg "lowest_first" sLow fL fdL ["number", "length"])
    (MF : Mth K CA "four_numbers" "Account.four_numbers" sAFour fF fdF ["self"]) (MP : Mth K CA "position" "Account.position" sAPos fp fdp ["self"]) : FnOk P w K mg base CX0 3 f fd ["accounts"] (spSaved CA) := by
  have GL : FnOk P w K mg base CX0 2 fL fdL ["number", "length"] spLow := (ok_low DL.fn T).mono (by omega)
  have GF : FnOk P w K mg base CX0 2 fF fdF ["self"] (spAFour CA) := ok_AFour MF.fn TA' MP
  obtain ⟨mk, h1, hmk⟩ := T3.mark
  obtain ⟨t2, h2⟩ := T3.numLen
  obtain ⟨t3, h3⟩ := T3.modulus
  obtain ⟨t4, h4⟩ := T3.sumLen
  refine F.ok scSaved (fun vs H Q E h => ?_) (fun cdv A outer s H vs Q E hr h => ?_)
  · obtain ⟨l, xs, rfl, _⟩ := h
    rfl
  · obtain ⟨l, xs, rfl, hA, h6, k⟩ := h
    refine ⟨_, pss_cons (ps_set (i := 1) scSaved.nd rfl (Or.inl rfl) (pe_op op_cat (pe_callTy call_list_of (by rfl) T.list PyProof.Rows.boot_list (pa_cons (pe_glob (v := .ref mk) rfl h1 rfl) pa_nil)) (pe_lst (pa_cons (pe_callB call_len_seq (by rfl) T.len PySem.boot_len (pa_cons (pv 0) pa_nil)) pa_nil))))
      (pss_cons (ps_for PassesOwn.never rfl (pi_list (pv 0)) (pg_name (i := 2) scSaved.nd rfl (Or.inl rfl))
        (pss_one (ps_for PassesOwn.never rfl (pi_list (pe_meth0 (pv 2) TA'.cl MF.mt GF hr MF.bd .nil pass0)) (pg_name (i := 3) scSaved.nd rfl (Or.inl rfl))
          (pss_one (ps_expr (pe_bm PySem.F.plainAttrs_list PySem.F.slot_list_extend PySem.F.type_list_extend mt_extend (pv 1) (pa_cons (pe_call GL hr rfl DL.gl DL.fn.kp DL.bd .nil pass0 (pa_cons (pv 3) (pa_cons (pe_glob (v := .int 8) rfl h2 ⟨_, rfl⟩) pa_nil))) pa_nil)))))))
      (pss_one (ps_ret (pe_op op_cat (pv 1) (pe_call GL hr rfl DL.gl DL.fn.kp DL.bd .nil pass0 (pa_cons (pe_op op_mod (pe_callB (cr_sum rfl) (by rfl) T.sum PyProof.Rows.boot_sum (pa_cons (pv 1) pa_nil)) (pe_glob (v := .int 65521) rfl h3 ⟨_, rfl⟩)) (pa_cons (pe_glob (v := .int 4) rfl h4 ⟨_, rfl⟩) pa_nil))))))), ?_⟩
    obtain ⟨as, hl, hp⟩ := id hA
    refine ⟨mk, _, rfl, .inr (hmk _), fun z1 hz1 => ?_⟩
    have s1 := Same.new (o := .lst [V.int 67, V.int 66, V.int 65, V.int 49]) hz1
    refine ⟨_, rfl, l, _, rfl, .inl (SqL.of (s1 _ _ hl)), by show 1 ≤ sizeLine; decide, fun z2 hz2 => ?_⟩
    have s2 := Same.new (o := .lst [V.int ((as.map V.ref).length : Nat)]) hz2
    refine ⟨z1, z2, _, _, rfl, rfl, s2 _ _ upd_same, upd_same, by show 5 ≤ sizeLine; decide, fun S hS => ?_⟩
    have la := paired_len hp
    have e0 : [V.int 67, V.int 66, V.int 65, V.int 49] ++ [V.int ((as.map V.ref).length : Nat)] = (headI xs).map V.int := by
      rw [List.length_map, la]; rfl
    rw [e0]
    have s3 := Same.new (o := .lst ((headI xs).map V.int)) hS
    have fS : H S = none := (s1.trans s2).free hS
    have ss := (s1.trans s2).trans s3
    refine ⟨_, rfl, l, rfl, ⟨_, SqL.of (ss _ _ hl)⟩, for_list (K := K) (a := l) (xs := as.map V.ref)
      (fun i σ H' => ∃ v2 v3 : Option V, σ = [some (.ref l), some (.ref S), v2, v3] ∧ Same H H' ∧ H' S = some (.lst ((headI xs ++ (xs.take i).flatMap accI).map V.int)))
      ⟨none, none, rfl, ss, by rw [upd_same]; rfl⟩ (fun i σ H' _ ⟨_, _, _, e, _⟩ => SqL.of (e _ _ hl)) ?_ ?_⟩
    · rintro i y σ H1 hi ⟨v2, v3, rfl, sH, hSS⟩
      obtain ⟨a, ha, rfl⟩ := ref_at hi
      obtain ⟨x, hx, da, hax⟩ := paired_get hp ha
      have lt : i < xs.length := (List.getElem?_eq_some_iff.mp hx).1
      refine ⟨_, rfl, a, da, _, rfl, sH _ _ hax, af_no _ (by decide +kernel) (by decide +kernel) (by decide +kernel), a, x, rfl, ⟨da, sH _ _ hax⟩, fun H2 q s2' fq hq => ?_⟩
      have nq : q ≠ S := fun e => by rw [e, hSS] at fq; cases fq
      refine ⟨q, rfl, ⟨_, SqL.of hq⟩, for_list (K := K) (a := q) (xs := ([x.pos, x.c, x.g, x.p] : List Int).map V.int)
        (fun j σ H' => ∃ v3 : Option V, σ = [some (.ref l), some (.ref S), some (.ref a), v3] ∧ (∀ b o, b ≠ S → H2 b = some o → H' b = some o) ∧ H' S = some (.lst (((headI xs ++ (xs.take i).flatMap accI) ++ (([x.pos, x.c, x.g, x.p] : List Int).take j).flatMap (lowI 8)).map V.int)))
        ⟨v3, rfl, fun b o _ e => e, by rw [List.take_zero, List.flatMap_nil, List.append_nil]; exact s2' _ _ hSS⟩ (fun j σ H' _ ⟨_, _, e, _⟩ => SqL.of (e _ _ nq hq)) ?_ ?_⟩
      · rintro j y σ H3 hj ⟨v3, rfl, k3, hS3⟩
        obtain ⟨z, hz, rfl⟩ := int_at hj
        have lj : j < 4 := (List.getElem?_eq_some_iff.mp hz).1
        refine ⟨_, rfl, .inl ⟨rfl, _, SqL.of hS3⟩, _, rfl, z, 8, rfl, by omega, fun H4 r s4 fr4 hr4 => ?_⟩
        have nr : r ≠ S := fun e => by rw [e, hS3] at fr4; cases fr4
        refine ⟨S, r, _, _, rfl, rfl, s4 _ _ hS3, hr4, ?_, _, rfl, fun b o nb e => ?_, ?_⟩
        · have l1 : ((xs.take i).flatMap accI).length ≤ 192 := by rw [accs_length, List.length_take]; omega
          have l2 : ((([x.pos, x.c, x.g, x.p] : List Int).take j).flatMap (lowI 8)).length ≤ 32 := by
            have : ∀ l : List Int, (l.flatMap (lowI 8)).length = 8 * l.length := fun l => by
              induction l with
              | nil => rfl
              | cons u l ih => rw [List.flatMap_cons, List.length_append, ih, lowI_length, List.length_cons]; omega
            rw [this, List.length_take]
            show 8 * min j 4 ≤ 32
            omega
          rw [List.length_map, List.length_map, lowI_length, List.length_append, List.length_append]
          exact Nat.le_trans (show _ ≤ 1000 by show 5 + _ + _ + 8 ≤ 1000; omega) (by decide)
        · rw [upd_ne nb]
          exact s4 _ _ (k3 _ _ nb e)
        · rw [upd_same, take_snoc hz, List.flatMap_append, ← List.append_assoc, List.map_append (l₁ := _ ++ _)]
          simp
      · rintro σ H3 ⟨v3, rfl, k3, hS3⟩
        refine ⟨_, v3, rfl, fun b o e => k3 _ _ (ne_of_none e fS) (s2' _ _ (sH _ _ e)), ?_⟩
        rw [take_snoc hx, List.flatMap_append, List.flatMap_cons, List.flatMap_nil, List.append_nil]
        rw [← List.append_assoc]
        have e4 : (([x.pos, x.c, x.g, x.p] : List Int).take (([x.pos, x.c, x.g, x.p] : List Int).map V.int).length).flatMap (lowI 8) = accI x := by
          show lowI 8 x.pos ++ (lowI 8 x.c ++ (lowI 8 x.g ++ (lowI 8 x.p ++ []))) = _
          rw [List.append_nil]; rfl
        rw [e4] at hS3
        exact hS3
    · rintro σ H1 ⟨v2, v3, rfl, sH, hSS⟩
      rw [List.length_map, la, List.take_length] at hSS
      have hSS' : H1 S = some (.lst ((plainI xs).map V.int)) := hSS
      refine ⟨_, rfl, _, rfl, S, plainI xs, rfl, SqL.of hSS', _, _, rfl, rfl, (by show (0 : Int) < 65521; decide), _, 4, rfl, by omega, fun H2 r s2' fr2 hr2 => ?_⟩
      refine ⟨S, r, _, _, rfl, rfl, s2' _ _ hSS', hr2, ?_, fun q hq => ?_⟩
      · rw [List.length_map, List.length_map, lowI_length]
        unfold plainI
        rw [List.length_append, accs_length]
        exact Nat.le_trans (show _ ≤ 1000 by show 5 + _ + 4 ≤ 1000; omega) (by decide)
      · refine k _ q ((sH.trans s2').trans (Same.new hq)) ((sH.trans s2').free hq) ?_
        rw [upd_same]
        unfold savedI
        rw [List.map_append]
end
end Ew
end
section
set_option Elab.async false
set_option linter.all false
set_option maxRecDepth 100000
set_option maxHeartbeats 2000000
namespace Ew
open PySem PySem.Spec PyProof.Rows L2
/-- bytes, the lowest first, as a number -/
def numI : List Int → Int
  | [] => 0
  | b :: bs => b + 256 * numI bs
def signI (n : Int) : Int := if 9223372036854775808 ≤ n then n - 18446744073709551616 else n
def numAtI (ns : List Int) (i : Nat) : Int := signI (numI ((ns.drop i).take 8))
def accAtI (ns : List Int) (c : Nat) : A3 := ⟨numAtI ns (13 + 32 * c), numAtI ns (21 + 32 * c), numAtI ns (29 + 32 * c)⟩
def lenOkI (ns : List Int) : Bool := decide (5 ≤ ns.length) && (decide (2 ≤ ns.getD 4 0 ∧ ns.getD 4 0 ≤ 6) && decide ((ns.length : Int) = 9 + ns.getD 4 0 * 32))
def rightI (xs : List A3) : Bool := xs.all A3.ok && (decide ((xs.map A3.p).sum = 0) && decide ((xs.map A3.c).sum = (xs.map A3.g).sum))
def readI (ns : List Int) : Option (List A3) := if lenOkI ns = true then (if rightI ((List.range (ns.getD 4 0).toNat).map (accAtI ns)) = true then (if savedI ((List.range (ns.getD 4 0).toNat).map (accAtI ns)) = ns then some ((List.range (ns.getD 4 0).toNat).map (accAtI ns)) else none) else none) else none
theorem numI_drop : ∀ {l : List Int} {i : Nat} {x : Int}, l[i]? = some x → numI (l.drop i) = x + 256 * numI (l.drop (i + 1))
  | [], i, x, h => by simp at h
  | y :: l, 0, x, h => by
    cases Option.some.inj h
    rfl
  | y :: l, i + 1, x, h => numI_drop (l := l) (i := i) h
def spNumAt (K : PySem.W.Frag) : Sp := fun vs H Q _ => ∃ (a : Addr) (ns : List Int) (i : Nat), vs = [.ref a, .int (i : Nat)] ∧ SqL K H a (ns.map V.int) ∧ ns.length ≤ 1000 ∧ i + 8 ≤ ns.length ∧ giveV (.int (numAtI ns i)) H Q
def spAccAt (K : PySem.W.Frag) (CA : Addr) : Sp := fun vs H Q _ => ∃ (a : Addr) (ns : List Int) (c : Nat), vs = [.ref a, .int (c : Nat)] ∧ SqL K H a (ns.map V.int) ∧ ns.length ≤ 1000 ∧ 37 + 32 * c ≤ ns.length ∧ giveA CA (accAtI ns c) H Q
def spHasLen (K : PySem.W.Frag) : Sp := fun vs H Q _ => ∃ (a : Addr) (ns : List Int), vs = [.ref a] ∧ SqL K H a (ns.map V.int) ∧ ns.length ≤ 1000 ∧ giveV (.bl (lenOkI ns)) H Q
def spAreR (CA : Addr) : Sp := fun vs H Q _ => ∃ (l : Addr) (xs : List A3), vs = [.ref l] ∧ AccsAt CA H l xs ∧ xs.length ≤ 6 ∧ giveV (.bl (rightI xs)) H Q
def spLoaded (K : PySem.W.Frag) (CA : Addr) : Sp := fun vs H Q _ => ∃ (a : Addr) (ns : List Int), vs = [.ref a] ∧ SqL K H a (ns.map V.int) ∧ ns.length ≤ 1000 ∧ (readI ns = none → giveV .non H Q) ∧ (∀ xs, readI ns = some xs → ∀ (H' : Hp) (l : Addr), Same H H' → AccsAt CA H' l xs → Q (.ref l) H')
section
variable {P : Program} {w : World} {K : PySem.W.Frag} {mg : Str → Option Value} {base : Heap}
theorem scNumAt : FnScope ["saved", "first", "number", "byte"] ["saved", "first"] (defScope sNumAt) := ⟨rfl, rfl, rfl, by decide +kernel, rfl, by decide +kernel, by decide +kernel⟩
theorem ok_numAt {f : Addr} {fd : FuncData} (F : Fun K "number_at" "number_at" sNumAt f fd) (T : Txt mg) (T2 : Txt2 mg) (T3 : Txt3 K mg) : FnOk P w K mg base CX0 1 f fd ["saved", "first"] (spNumAt K) := by
  obtain ⟨t2, h2⟩ := T3.numLen
  obtain ⟨t3, h3⟩ := T3.below
  obtain ⟨t4, h4⟩ := T3.all
  refine F.ok scNumAt (fun vs H Q E h => ?_) (fun cdv A outer s H vs Q E hr h => ?_)
  · obtain ⟨a, ns, i, rfl, _⟩ := h
    rfl
  · obtain ⟨a, ns, i, rfl, hS, hlen, hi, k⟩ := h
    refine ⟨_, pss_cons (ps_set (i := 2) scNumAt.nd rfl (Or.inl rfl) pe_int)
      (pss_cons (ps_for PassesOwn.never rfl (pi_reversed rfl T2.reversed (pa_cons (pe_slice sl_list (pv 0) (po_some (pv 1)) (po_some (pe_op op_add (pv 1) (pe_glob (v := .int 8) rfl h2 ⟨_, rfl⟩)))) pa_nil)) (pg_name (i := 3) scNumAt.nd rfl (Or.inl rfl))
        (pss_one (ps_set (i := 2) scNumAt.nd rfl (Or.inl rfl) (pe_op op_add (pe_op op_mul (pv 2) pe_int) (pv 3)))))
      (pss_cons (ps_if (pt_cmpR op_ge (pv 2) (pe_glob (v := .int 9223372036854775808) rfl h3 ⟨_, rfl⟩) (nomark _)) (pss_one (ps_ret (pe_op op_sub (pv 2) (pe_glob (v := .int 18446744073709551616) rfl h4 ⟨_, rfl⟩)))) pss_nil)
      (pss_one (ps_ret (pv 2))))), ?_⟩
    have ec : cutV (ns.map V.int) (some (i : Int)) (some ((i : Int) + 8)) = ((ns.drop i).take 8).map V.int := by
      rw [show ((i : Int) + 8) = ((i + 8 : Nat) : Int) by omega, cut_mid _ _ _ (by omega) (by rw [List.length_map]; exact hi), show i + 8 - i = 8 by omega, List.map_take, List.map_drop]
    refine ⟨_, rfl, _, rfl, _, rfl, _, rfl, _, _, rfl, rfl, _, rfl, a, _, rfl, hS, fun p hp => ⟨p, _, rfl, SqL.of upd_same, ?_⟩⟩
    rw [ec]
    have s1 := Same.new (o := .lst (((ns.drop i).take 8).map V.int)) hp
    generalize hH1 : upd H p (.lst (((ns.drop i).take 8).map V.int)) = H1 at s1
    have hp1 : H1 p = some (.lst (((ns.drop i).take 8).map V.int)) := by rw [← hH1]; exact upd_same
    have l8 : ((ns.drop i).take 8).length = 8 := by rw [List.length_take, List.length_drop]; omega
    generalize hbs : (ns.drop i).take 8 = bs at l8 hp1
    refine for_rev (K := K) (a := p) (xs := bs.map V.int) (fun j σ H' => ∃ v3 : Option V, σ = [some (.ref a), some (.int (i : Nat)), some (.int (numI (bs.drop (8 - j)))), v3] ∧ H' = H1)
      ⟨none, by rw [List.drop_eq_nil_iff.mpr (by omega)]; rfl, rfl⟩ (fun j σ H' _ ⟨_, _, e⟩ => by rw [e]; exact SqL.of hp1) ?_ ?_
    · rintro j y σ H' hj hy ⟨v3, rfl, rfl⟩
      rw [List.length_map, l8] at hj hy
      obtain ⟨z, hz, rfl⟩ := int_at hy
      have e1 := numI_drop hz
      rw [show 8 - 1 - j + 1 = 8 - j by omega] at e1
      refine ⟨_, rfl, _, _, rfl, rfl, .inr ⟨by decide, by decide⟩, _, rfl, _, _, rfl, rfl, some (.int z), ?_, rfl⟩
      rw [show 8 - (j + 1) = 8 - 1 - j by omega, e1, show z + 256 * numI (bs.drop (8 - j)) = numI (bs.drop (8 - j)) * 256 + z by omega]
      rfl
    · rintro σ H' ⟨v3, rfl, rfl⟩
      rw [List.length_map, l8, Nat.sub_self, List.drop_zero]
      have ek : numAtI ns i = signI (numI bs) := by unfold numAtI; rw [hbs]
      rw [ek] at k
      refine ⟨_, rfl, _, _, rfl, rfl, _, rfl, ite2 (fun c1 => ?_) (fun c1 => ?_)⟩
      · refine ⟨_, rfl, _, _, rfl, rfl, ?_⟩
        have := k _ s1
        unfold signI at this
        rw [if_pos (of_decide_eq_true c1)] at this
        exact this
      · refine ⟨_, rfl, ?_⟩
        have := k _ s1
        unfold signI at this
        rw [if_neg (fun h => c1 (decide_eq_true h))] at this
        exact this
theorem scAccAt : FnScope ["saved", "company", "first", "collected", "got", "paid"] ["saved", "company"] (defScope sAccAt) := ⟨rfl, rfl, rfl, by decide +kernel, rfl, by decide +kernel, by decide +kernel⟩
theorem ok_accAt {f fN fI CA : Addr} {fd fdN fdI : FuncData} (F : Fun K "account_at" "account_at" sAccAt f fd) (T : Txt mg) (T2 : Txt2 mg) (T3 : Txt3 K mg) (TA' : TA K mg CA) (DN : Def K mg "number_at" sNumAt fN fdN ["saved", "first"]) (I : MkI K CA "Account.__init__" sAInit fI fdI ["self", "collected", "got", "paid"]) :
    FnOk P w K mg base CX0 3 f fd ["saved", "company"] (spAccAt K CA) := by
  have GN' : FnOk P w K mg base CX0 2 fN fdN ["saved", "first"] (spNumAt K) := (ok_numAt DN.fn T T2 T3).mono (by omega)
  have GI' : FnOk P w K mg base CX0 1 fI fdI ["self", "collected", "got", "paid"] (spAInit CA) := ok_AInit I.fn TA'
  obtain ⟨t1, h1⟩ := T3.first
  obtain ⟨t2, h2⟩ := T3.accLen
  obtain ⟨t3, h3⟩ := T3.numLen
  refine F.ok scAccAt (fun vs H Q E h => ?_) (fun cdv A outer s H vs Q E hr h => ?_)
  · obtain ⟨a, ns, c, rfl, _⟩ := h
    rfl
  · obtain ⟨a, ns, c, rfl, hS, hlen, hc, k⟩ := h
    refine ⟨_, pss_cons (ps_set (i := 2) scAccAt.nd rfl (Or.inl rfl) (pe_op op_add (pe_op op_add (pe_glob (v := .int 5) rfl h1 ⟨_, rfl⟩) (pe_op op_mul (pv 1) (pe_glob (v := .int 32) rfl h2 ⟨_, rfl⟩))) (pe_glob (v := .int 8) rfl h3 ⟨_, rfl⟩)))
      (pss_cons (ps_set (i := 3) scAccAt.nd rfl (Or.inl rfl) (pe_call GN' hr rfl DN.gl DN.fn.kp DN.bd .nil pass0 (pa_cons (pv 0) (pa_cons (pv 2) pa_nil))))
      (pss_cons (ps_set (i := 4) scAccAt.nd rfl (Or.inl rfl) (pe_call GN' hr rfl DN.gl DN.fn.kp DN.bd .nil pass0 (pa_cons (pv 0) (pa_cons (pe_op op_add (pv 2) (pe_glob (v := .int 8) rfl h3 ⟨_, rfl⟩)) pa_nil))))
      (pss_cons (ps_set (i := 5) scAccAt.nd rfl (Or.inl rfl) (pe_call GN' hr rfl DN.gl DN.fn.kp DN.bd .nil pass0 (pa_cons (pv 0) (pa_cons (pe_op op_add (pv 2) (pe_op op_mul pe_int (pe_glob (v := .int 8) rfl h3 ⟨_, rfl⟩))) pa_nil))))
      (pss_one (ps_ret (pe_make I.mak GI' hr rfl TA'.gl I.bd .nil pass0 (pa_cons (pv 3) (pa_cons (pv 4) (pa_cons (pv 5) pa_nil))))))))), ?_⟩
    refine ⟨_, rfl, _, _, rfl, rfl, .inr ⟨by decide, by decide⟩, _, _, rfl, rfl, _, _, rfl, rfl, ?_⟩
    have ef : (5 : Int) + (c : Nat) * 32 + 8 = ((13 + 32 * c : Nat) : Int) := by omega
    rw [show (fun i j => V.int (i + j)) ((5 : Int) + (c : Nat) * 32) 8 = V.int ((13 + 32 * c : Nat) : Int) from congrArg V.int ef]
    refine ⟨_, rfl, _, rfl, a, ns, 13 + 32 * c, rfl, hS, hlen, by omega, fun H1 s1 => ?_⟩
    refine ⟨_, rfl, _, rfl, _, _, rfl, rfl, a, ns, 21 + 32 * c, (by show [V.ref a, V.int (((13 + 32 * c : Nat) : Int) + 8)] = _; rw [show (((13 + 32 * c : Nat) : Int) + 8) = ((21 + 32 * c : Nat) : Int) by omega]), s1.seq hS, hlen, by omega, fun H2 s2 => ?_⟩
    refine ⟨_, rfl, _, rfl, _, _, rfl, rfl, .inr ⟨by decide, by decide⟩, _, _, rfl, rfl, a, ns, 29 + 32 * c, (by show [V.ref a, V.int (((13 + 32 * c : Nat) : Int) + 2 * 8)] = _; rw [show (((13 + 32 * c : Nat) : Int) + 2 * 8) = ((29 + 32 * c : Nat) : Int) by omega]), (s1.trans s2).seq hS, hlen, by omega, fun H3 s3 => ?_⟩
    refine ⟨_, rfl, _, rfl, _, rfl, ?_⟩
    intro y dy ny mdy ney
    refine ⟨y, dy, accAtI ns c, rfl, upd_same, fun H' a' k' => ⟨rfl, ?_⟩⟩
    exact k H' y (((s1.trans s2).trans s3).trans (Same.made ny mdy k')) a'
theorem scHasLen : FnScope ["saved", "companies"] ["saved"] (defScope sHasLen) := ⟨rfl, rfl, rfl, by decide +kernel, rfl, by decide +kernel, by decide +kernel⟩
theorem ok_hasLen {f CB : Addr} {fd : FuncData} (F : Fun K "has_right_length" "has_right_length" sHasLen f fd) (T : Txt mg) (T3 : Txt3 K mg) (TB' : TB K mg CB) : FnOk P w K mg base CX0 1 f fd ["saved"] (spHasLen K) := by
  obtain ⟨t1, h1⟩ := T3.first
  obtain ⟨t2, h2⟩ := T3.place
  obtain ⟨t3, h3⟩ := TB'.few
  obtain ⟨t4, h4⟩ := T.mComp
  obtain ⟨t5, h5⟩ := T3.accLen
  obtain ⟨t6, h6⟩ := T3.sumLen
  refine F.ok scHasLen (fun vs H Q E h => ?_) (fun cdv A outer s H vs Q E hr h => ?_)
  · obtain ⟨a, ns, rfl, _⟩ := h
    rfl
  · obtain ⟨a, ns, rfl, hS, hlen, k⟩ := h
    refine ⟨_, pss_cons (ps_if (pt_cmpR op_lt (pe_callB call_len_seq (by rfl) T.len PySem.boot_len (pa_cons (pv 0) pa_nil)) (pe_glob (v := .int 5) rfl h1 ⟨_, rfl⟩) (nomark _)) (pss_one (ps_ret pe_bl)) pss_nil)
      (pss_cons (ps_set (i := 1) scHasLen.nd rfl (Or.inl rfl) (pe_ix ix_list (pv 0) (pe_glob (v := .int 4) rfl h2 ⟨_, rfl⟩) (fun _ _ => rfl)))
      (pss_cons (ps_if (PW.pt (pw_or (pt_cmpR op_lt (pv 1) (pe_glob (v := .int 2) rfl h3 ⟨_, rfl⟩) (nomark _)) (pw_or1 (pt_cmpR op_gt (pv 1) (pe_glob (v := .int 6) rfl h4 ⟨_, rfl⟩) (nomark _))))) (pss_one (ps_ret pe_bl)) pss_nil)
      (pss_one (ps_ret (pe_cmpR op_eq (pe_callB call_len_seq (by rfl) T.len PySem.boot_len (pa_cons (pv 0) pa_nil)) (pe_op op_add (pe_op op_add (pe_glob (v := .int 5) rfl h1 ⟨_, rfl⟩) (pe_op op_mul (pv 1) (pe_glob (v := .int 32) rfl h5 ⟨_, rfl⟩))) (pe_glob (v := .int 4) rfl h6 ⟨_, rfl⟩)) (nomark _)))))), ?_⟩
    have no : lenOkI ns = false → Q (.bl false) H := fun e => by have := k H (Same.rfl' H); rw [e] at this; exact this
    refine ⟨_, rfl, a, _, rfl, .inl hS, _, _, rfl, rfl, _, rfl, ite2 (fun c1 => ?_) (fun c1 => ?_)⟩
    · refine no ?_
      have := of_decide_eq_true c1
      rw [List.length_map] at this
      unfold lenOkI
      rw [decide_eq_false (p := 5 ≤ ns.length) (by omega), Bool.false_and]
    have l5 : 5 ≤ ns.length := by
      have : ¬ (((ns.map V.int).length : Nat) : Int) < 5 := fun h => c1 (decide_eq_true h)
      rw [List.length_map] at this
      omega
    refine ⟨_, rfl, a, _, _, V.int (ns.getD 4 0), rfl, rfl, hS, at_of (j := 4) rfl (ints_at (by omega)), ?_⟩
    refine ⟨_, rfl, _, _, rfl, rfl, _, rfl, ite2 (fun c2 => ?_) (fun c2 => ?_)⟩
    · refine iteT (no ?_)
      have := of_decide_eq_true c2
      unfold lenOkI
      rw [decide_eq_false (p := 2 ≤ ns.getD 4 0 ∧ ns.getD 4 0 ≤ 6) (by omega), Bool.false_and, Bool.and_false]
    refine ⟨_, rfl, _, _, rfl, rfl, _, rfl, ite2 (fun c3 => ?_) (fun c3 => ?_)⟩
    · refine no ?_
      have := of_decide_eq_true c3
      unfold lenOkI
      rw [decide_eq_false (p := 2 ≤ ns.getD 4 0 ∧ ns.getD 4 0 ≤ 6) (by omega), Bool.false_and, Bool.and_false]
    have n2 : 2 ≤ ns.getD 4 0 ∧ ns.getD 4 0 ≤ 6 := by
      have a1 : ¬ ns.getD 4 0 < 2 := fun z => c2 (decide_eq_true z)
      have a2 : ¬ 6 < ns.getD 4 0 := fun z => c3 (decide_eq_true z)
      omega
    refine ⟨_, rfl, a, _, rfl, .inl hS, _, rfl, _, _, rfl, rfl, .inr ⟨by decide, by decide⟩, _, _, rfl, rfl, _, _, rfl, rfl, rfl, ?_⟩
    have e : lenOkI ns = decide (V.int ((ns.map V.int).length : Nat) = V.int (5 + ns.getD 4 0 * 32 + 4)) := by
      unfold lenOkI
      rw [decide_eq_true l5, decide_eq_true n2, Bool.true_and, Bool.true_and, List.length_map]
      rw [Bool.eq_iff_iff, decide_eq_true_eq, eqI]
      omega
    have := k H (Same.rfl' H)
    rw [e] at this
    exact this
theorem scAreR : FnScope ["accounts", "account"] ["accounts"] (defScope sAreR) := ⟨rfl, rfl, rfl, by decide +kernel, rfl, by decide +kernel, by decide +kernel⟩
/-- a comprehension of an attribute over accounts: the list that it makes -/
theorem attr_turn {CA : Addr} {H : Hp} {as : List Addr} {xs : List A3} (hp : Paired (AccAt CA H) as xs) {i : Nat} {y : V} (hi : (as.map V.ref)[i]? = some y) : ∃ a x da, y = .ref a ∧ xs[i]? = some x ∧ H a = some (.ins CA da (af x)) := by
  obtain ⟨a, ha, rfl⟩ := ref_at hi
  obtain ⟨x, hx, da, hax⟩ := paired_get hp ha
  exact ⟨a, x, da, rfl, hx, hax⟩
theorem ok_areR {f fW fp CA : Addr} {fd fdW fdp : FuncData} (F : Fun K "are_right" "are_right" sAreR f fd) (X : Txt mg) (TA' : TA K mg CA) (MW : Mth K CA "is_within_bounds" "Account.is_within_bounds" sABd fW fdW ["self"]) (MP : Mth K CA "position" "Account.position" sAPos fp fdp ["self"]) :
    FnOk P w K mg base CX0 3 f fd ["accounts"] (spAreR CA) := by
  have GW : FnOk P w K mg base CX0 2 fW fdW ["self"] (spABd CA) := ok_ABd MW.fn X TA' MP
  refine F.ok scAreR (fun vs H Q E h => ?_) (fun cdv A outer s H vs Q E hr h => ?_)
  · obtain ⟨l, xs, rfl, _⟩ := h
    rfl
  · obtain ⟨l, xs, rfl, ⟨as, hl, hp⟩, h6, k⟩ := h
    refine ⟨_, pss_cons (ps_for PassesOwn.never rfl (pi_list (pv 0)) (pg_name (i := 1) scAreR.nd rfl (Or.inl rfl))
        (pss_one (ps_if (pt_not (pt_val (pe_meth0 (pv 1) TA'.cl MW.mt GW hr MW.bd .nil pass0))) (pss_one (ps_ret pe_bl)) pss_nil)))
      (pss_cons (ps_if (pt_cmpR op_ne (pe_callB (cr_sum rfl) (by rfl) X.sum PyProof.Rows.boot_sum (pa_cons (pe_lc rfl scAreR.nd (pi_list (pv 0)) (by exact blkOk_by (N := ["accounts", "account"]) (sc := defScope sAreR) (own := [("account", 1)]) (by decide +kernel)) (fun _ _ _ _ _ => pg_name (i := 1) scAreR.nd rfl (Or.inl rfl)) (fun _ _ _ _ _ => pts_nil) (fun _ _ _ _ _ => show PE _ _ (tFld K (tVar 1) "paid") from pe_fld (pv 1) rfl)) pa_nil)) pe_int (nomark _)) (pss_one (ps_ret pe_bl)) pss_nil)
      (pss_one (ps_ret (pe_cmpR op_eq
        (pe_callB (cr_sum rfl) (by rfl) X.sum PyProof.Rows.boot_sum (pa_cons (pe_lc rfl scAreR.nd (pi_list (pv 0)) (by exact blkOk_by (N := ["accounts", "account"]) (sc := defScope sAreR) (own := [("account", 1)]) (by decide +kernel)) (fun _ _ _ _ _ => pg_name (i := 1) scAreR.nd rfl (Or.inl rfl)) (fun _ _ _ _ _ => pts_nil) (fun _ _ _ _ _ => show PE _ _ (tFld K (tVar 1) "collected") from pe_fld (pv 1) rfl)) pa_nil))
        (pe_callB (cr_sum rfl) (by rfl) X.sum PyProof.Rows.boot_sum (pa_cons (pe_lc rfl scAreR.nd (pi_list (pv 0)) (by exact blkOk_by (N := ["accounts", "account"]) (sc := defScope sAreR) (own := [("account", 1)]) (by decide +kernel)) (fun _ _ _ _ _ => pg_name (i := 1) scAreR.nd rfl (Or.inl rfl)) (fun _ _ _ _ _ => pts_nil) (fun _ _ _ _ _ => show PE _ _ (tFld K (tVar 1) "got") from pe_fld (pv 1) rfl)) pa_nil)) (nomark _))))), ?_⟩
    have lp := paired_len hp
    have no : rightI xs = false → ∀ H', Same H H' → Q (.bl false) H' := fun e H' s' => by have := k H' s'; rw [e] at this; exact this
    refine ⟨_, rfl, l, rfl, ⟨_, SqL.of hl⟩, for_list (K := K) (a := l) (xs := as.map V.ref) (fun i σ H' => ∃ v : Option V, σ = [some (.ref l), v] ∧ H' = H ∧ (xs.take i).all A3.ok = true)
      ⟨none, rfl, rfl, rfl⟩ (fun i σ H' _ ⟨_, _, e, _⟩ => by rw [e]; exact SqL.of hl) ?_ ?_⟩
    · rintro i y σ H' hi ⟨v, rfl, rfl, hok⟩
      obtain ⟨a, x, da, rfl, hx, hax⟩ := attr_turn hp hi
      refine ⟨_, rfl, a, da, _, rfl, hax, af_no _ (by decide +kernel) (by decide +kernel) (by decide +kernel), a, x, rfl, ⟨da, hax⟩, _, rfl, ite2 (fun c1 => ?_) (fun c1 => ?_)⟩
      · refine no ?_ _ (Same.rfl' _)
        have nok : xs.all A3.ok = false := by
          cases q : xs.all A3.ok with
          | false => rfl
          | true =>
            have := List.all_eq_true.mp q x (List.mem_of_getElem? hx)
            rw [this] at c1
            cases c1
        unfold rightI
        rw [nok, Bool.false_and]
      · refine ⟨_, rfl, rfl, ?_⟩
        have xok : x.ok = true := by
          cases q : x.ok with
          | true => rfl
          | false => rw [q] at c1; exact absurd rfl c1
        rw [take_snoc hx, List.all_append, hok]
        simp [xok]
    · rintro σ H' ⟨v, rfl, rfl, hok⟩
      rw [List.length_map, lp, List.take_length] at hok
      -- the three lists
      refine ⟨_, rfl, l, rfl, ⟨_, SqL.of hl⟩, fun D1 hD1 => lc_list (K := K) (xs := as.map V.ref) (fun i H2 => H2 = upd H' D1 (.lst (((xs.take i).map A3.p).map V.int))) (by rw [List.take_zero]; rfl) (fun i H2 _ e => by rw [e]; exact SqL.of ((Same.new hD1) _ _ hl)) ?_ ?_⟩
      · rintro i y H2 hi rfl
        obtain ⟨a, x, da, rfl, hx, hax⟩ := attr_turn hp hi
        have li : i < xs.length := (List.getElem?_eq_some_iff.mp hx).1
        refine ⟨rfl, _, rfl, a, CA, da, _, _, rfl, (Same.new hD1) _ _ hax, TA'.cl, TA'.nP, af_p _, _, upd_same, ?_, ?_⟩
        · rw [List.length_map, List.length_map, List.length_take]
          exact Nat.lt_of_le_of_lt (show _ ≤ 6 by omega) (by decide)
        · rw [upd_upd, take_snoc hx, List.map_append, List.map_append]; rfl
      rintro H2 rfl
      rw [List.length_map, lp, List.take_length]
      have s1 := Same.new (o := .lst ((xs.map A3.p).map V.int)) hD1
      generalize hH1 : upd H' D1 (.lst ((xs.map A3.p).map V.int)) = H1 at s1
      have d1 : H1 D1 = some (.lst ((xs.map A3.p).map V.int)) := by rw [← hH1]; exact upd_same
      refine ⟨D1, xs.map A3.p, rfl, SqL.of d1, rfl, _, rfl, ite2 (fun c1 => ?_) (fun c1 => ?_)⟩
      · refine no ?_ _ s1
        unfold rightI
        rw [decide_eq_false (p := (xs.map A3.p).sum = 0) (neI.mp c1), Bool.false_and, Bool.and_false]
      have z0 : (xs.map A3.p).sum = 0 := Classical.byContradiction fun h => c1 (neI.mpr h)
      refine ⟨_, rfl, l, rfl, ⟨_, SqL.of (s1 _ _ hl)⟩, fun D2 hD2 => lc_list (K := K) (xs := as.map V.ref) (fun i H2 => H2 = upd H1 D2 (.lst (((xs.take i).map A3.c).map V.int))) (by rw [List.take_zero]; rfl) (fun i H2 _ e => by rw [e]; exact SqL.of ((Same.new hD2) _ _ (s1 _ _ hl))) ?_ ?_⟩
      · rintro i y H2 hi rfl
        obtain ⟨a, x, da, rfl, hx, hax⟩ := attr_turn hp hi
        have li : i < xs.length := (List.getElem?_eq_some_iff.mp hx).1
        refine ⟨rfl, _, rfl, a, CA, da, _, _, rfl, (Same.new hD2) _ _ (s1 _ _ hax), TA'.cl, TA'.nC, af_c _, _, upd_same, ?_, ?_⟩
        · rw [List.length_map, List.length_map, List.length_take]
          exact Nat.lt_of_le_of_lt (show _ ≤ 6 by omega) (by decide)
        · rw [upd_upd, take_snoc hx, List.map_append, List.map_append]; rfl
      rintro H2 rfl
      rw [List.length_map, lp, List.take_length]
      have s2 := Same.new (o := .lst ((xs.map A3.c).map V.int)) hD2
      generalize hH2 : upd H1 D2 (.lst ((xs.map A3.c).map V.int)) = H2 at s2
      have d2 : H2 D2 = some (.lst ((xs.map A3.c).map V.int)) := by rw [← hH2]; exact upd_same
      refine ⟨D2, xs.map A3.c, rfl, SqL.of d2, ?_⟩
      refine ⟨_, rfl, l, rfl, ⟨_, SqL.of (s2 _ _ (s1 _ _ hl))⟩, fun D3 hD3 => lc_list (K := K) (xs := as.map V.ref) (fun i H3 => H3 = upd H2 D3 (.lst (((xs.take i).map A3.g).map V.int))) (by rw [List.take_zero]; rfl) (fun i H2 _ e => by rw [e]; exact SqL.of ((Same.new hD3) _ _ (s2 _ _ (s1 _ _ hl)))) ?_ ?_⟩
      · rintro i y H3 hi rfl
        obtain ⟨a, x, da, rfl, hx, hax⟩ := attr_turn hp hi
        have li : i < xs.length := (List.getElem?_eq_some_iff.mp hx).1
        refine ⟨rfl, _, rfl, a, CA, da, _, _, rfl, (Same.new hD3) _ _ (s2 _ _ (s1 _ _ hax)), TA'.cl, TA'.nG, af_g _, _, upd_same, ?_, ?_⟩
        · rw [List.length_map, List.length_map, List.length_take]
          exact Nat.lt_of_le_of_lt (show _ ≤ 6 by omega) (by decide)
        · rw [upd_upd, take_snoc hx, List.map_append, List.map_append]; rfl
      rintro H3 rfl
      rw [List.length_map, lp, List.take_length]
      have s3 := Same.new (o := .lst ((xs.map A3.g).map V.int)) hD3
      refine ⟨D3, xs.map A3.g, rfl, SqL.of upd_same, rfl, ?_⟩
      have e : rightI xs = decide (V.int (xs.map A3.c).sum = V.int (xs.map A3.g).sum) := by
        unfold rightI
        rw [hok, decide_eq_true z0, Bool.true_and, Bool.true_and, Bool.eq_iff_iff, decide_eq_true_eq, eqI]
      have := k _ ((s1.trans s2).trans s3)
      rw [e] at this
      exact this
theorem scLoaded : FnScope ["saved", "accounts", "company"] ["saved"] (defScope sLoaded) := ⟨rfl, rfl, rfl, by decide +kernel, rfl, by decide +kernel, by decide +kernel⟩
theorem dI_can (ns : List Int) : SeqAt.shaped (.list (ns.map .int)) = true := by
  unfold SeqAt.shaped
  rw [Bool.and_eq_true]
  refine ⟨by simp only [PyData.canLay0]; exact canR ns, decide_eq_true ?_⟩
  simp only [PyData.depth, depR]
  decide
theorem dI_eqv (ns ms : List Int) : PyData.eqv (.list (ns.map .int)) (.list (ms.map .int)) = decide (ns = ms) := by simp only [PyData.eqv]; exact eqR ns ms
theorem ok_loaded {f fH fA fR fS fN fI fL fW fF fp CA CB : Addr} {fd fdH fdA fdR fdS fdN fdI fdL fdW fdF fdp : FuncData} (F : Fun K "loaded_accounts" "loaded_accounts" sLoaded f fd) (T : Txt mg) (T2 : Txt2 mg) (T3 : Txt3 K mg) (TA' : TA K mg CA) (TB' : TB K mg CB)
    (DH : Def K mg "has_right_length" sHasLen fH fdH ["saved"]) (DA : Def K mg "account_at" sAccAt fA fdA ["saved", "company"]) (DR : Def K mg "are_right" sAreR fR fdR ["accounts"]) (DS : Def K mg "saved_bytes" sSaved fS fdS ["accounts"])
    (DN : Def K mg "number_at" sNumAt fN fdN ["saved", "first"]) (I : MkI K CA "Account.__init__" sAInit fI fdI ["self", "collected", "got", "paid"]) (DL : Def K mg "lowest_first" sLow fL fdL ["number", "length"])
    (MW : Mth K CA "is_within_bounds" "Account.is_within_bounds" sABd fW fdW ["self"]) (MF : Mth K CA "four_numbers" "Account.four_numbers" sAFour fF fdF ["self"]) (MP : Mth K CA "position" "Account.position" sAPos fp fdp ["self"]) :
    FnOk P w K mg base CX0 4 f fd ["saved"] (spLoaded K CA) := by
  have GH : FnOk P w K mg base CX0 3 fH fdH ["saved"] (spHasLen K) := (ok_hasLen DH.fn T T3 TB').mono (by omega)
  have GA : FnOk P w K mg base CX0 3 fA fdA ["saved", "company"] (spAccAt K CA) := ok_accAt DA.fn T T2 T3 TA' DN I
  have GR' : FnOk P w K mg base CX0 3 fR fdR ["accounts"] (spAreR CA) := ok_areR DR.fn T TA' MW MP
  have GS : FnOk P w K mg base CX0 3 fS fdS ["accounts"] (spSaved CA) := ok_saved DS.fn T T3 TA' DL MF MP
  obtain ⟨t2, h2⟩ := T3.place
  refine F.ok scLoaded (fun vs H Q E h => ?_) (fun cdv A outer s H vs Q E hr h => ?_)
  · obtain ⟨a, ns, rfl, _⟩ := h
    rfl
  · obtain ⟨a, ns, rfl, hS, hlen, kn, ks⟩ := h
    refine ⟨_, pss_cons (ps_if (pt_not (pt_val (pe_call GH hr rfl DH.gl DH.fn.kp DH.bd .nil pass0 (pa_cons (pv 0) pa_nil)))) (pss_one (ps_ret pe_non)) pss_nil)
      (pss_cons (ps_setLc (i := 1) rfl scLoaded.nd rfl rfl rfl (pi_range1 rfl T.range (pa_cons (pe_ix ix_list (pv 0) (pe_glob (v := .int 4) rfl h2 ⟨_, rfl⟩) (fun _ _ => rfl)) pa_nil)) (by exact blkOk_by (N := ["saved", "accounts", "company"]) (sc := defScope sLoaded) (own := [("company", 2)]) (by decide +kernel))
          (fun _ _ _ _ _ => pg_name (i := 2) scLoaded.nd rfl (Or.inl rfl)) (fun _ _ _ _ _ => pts_nil) (fun _ _ _ _ _ => pe_call GA hr rfl DA.gl DA.fn.kp DA.bd .nil pass0 (pa_cons (pv 0) (pa_cons (pv 2) pa_nil))))
      (pss_cons (ps_if (pt_not (pt_val (pe_call GR' hr rfl DR.gl DR.fn.kp DR.bd .nil pass0 (pa_cons (pv 1) pa_nil)))) (pss_one (ps_ret pe_non)) pss_nil)
      (pss_cons (ps_if (pt_cmpR (op_neD hr.units) (pe_call GS hr rfl DS.gl DS.fn.kp DS.bd .nil pass0 (pa_cons (pv 1) pa_nil)) (pv 0) (nomark _)) (pss_one (ps_ret pe_non)) pss_nil)
      (pss_one (ps_ret (pv 1)))))), ?_⟩
    refine ⟨_, rfl, a, ns, rfl, hS, hlen, fun H1 s1 => ⟨_, rfl, ite2 (fun c1 => ?_) (fun c1 => ?_)⟩⟩
    · refine kn ?_ H1 s1
      unfold readI
      rw [if_neg (fun e => by rw [e] at c1; cases c1)]
    have lo : lenOkI ns = true := by
      cases q : lenOkI ns with
      | true => rfl
      | false => rw [q] at c1; exact absurd rfl c1
    have er : readI ns = (if rightI ((List.range (ns.getD 4 0).toNat).map (accAtI ns)) = true then (if savedI ((List.range (ns.getD 4 0).toNat).map (accAtI ns)) = ns then some ((List.range (ns.getD 4 0).toNat).map (accAtI ns)) else none) else none) := by unfold readI; rw [if_pos lo]
    obtain ⟨b1, b2, b3⟩ : 5 ≤ ns.length ∧ (2 ≤ ns.getD 4 0 ∧ ns.getD 4 0 ≤ 6) ∧ (ns.length : Int) = 9 + ns.getD 4 0 * 32 := by
      unfold lenOkI at lo
      rw [Bool.and_eq_true, Bool.and_eq_true, decide_eq_true_eq, decide_eq_true_eq, decide_eq_true_eq] at lo
      exact lo
    generalize hc : ns.getD 4 0 = cn at er b2 b3
    refine ⟨_, rfl, a, _, _, V.int cn, rfl, rfl, s1.seq hS, at_of (j := 4) rfl (by rw [← hc]; exact ints_at (by omega)), cn, rfl, by omega, by omega, fun D hD => lc_range (fun i H' => ∃ as : List Addr, H' D = some (.lst (as.map V.ref)) ∧ Paired (AccAt CA H') as ((List.range i).map (accAtI ns)) ∧ Same H1 H') ⟨[], upd_same, .nil, Same.new hD⟩ ?_ ?_⟩
    · rintro i H' hi ⟨as, hd, ha, s2⟩
      rw [Int.zero_add]
      have la := paired_len ha
      rw [List.length_map, List.length_range] at la
      refine ⟨rfl, _, rfl, _, rfl, a, ns, i, rfl, s2.seq (s1.seq hS), hlen, by omega, fun H2 y s3 ay => ?_⟩
      have hd2 := s3 _ _ hd
      refine ⟨_, hd2, ?_, as ++ [y], by rw [upd_same, List.map_append]; rfl, ?_, fun c o e => ?_⟩
      · rw [List.length_map, la]
        exact Nat.lt_of_lt_of_le (show i < 7 by omega) (by decide)
      · rw [List.range_succ, List.map_append]
        have up : ∀ b x, AccAt CA H2 b x → AccAt CA (upd H2 D (.lst (as.map V.ref ++ [.ref y]))) b x := fun b x h => by
          obtain ⟨db, e⟩ := h
          exact ⟨db, by rw [upd_ne (ne_of e hd2 (by intro z; cases z))]; exact e⟩
        exact paired_snoc (L2.Paired.mapP ha fun b x h => up b x (h.same s3)) (up y _ ay)
      · rw [upd_ne (ne_of_none e hD)]
        exact s3 _ _ (s2 _ _ e)
    · rintro H2 ⟨as, hd, ha, s2⟩
      generalize hxs : (List.range cn.toNat).map (accAtI ns) = xs at ha er
      have lx : xs.length ≤ 6 := by rw [← hxs, List.length_map, List.length_range]; omega
      have A2 : AccsAt CA H2 D xs := ⟨as, hd, ha⟩
      refine ⟨_, rfl, D, xs, rfl, A2, lx, fun H3 s3 => ⟨_, rfl, ite2 (fun c2 => ?_) (fun c2 => ?_)⟩⟩
      · refine kn ?_ H3 ((s1.trans s2).trans s3)
        rw [er, if_neg (fun e => by rw [e] at c2; cases c2)]
      have ro : rightI xs = true := by
        cases q : rightI xs with
        | true => rfl
        | false => rw [q] at c2; exact absurd rfl c2
      rw [if_pos ro] at er
      refine ⟨_, rfl, D, xs, rfl, A2.same s3, lx, fun H4 p s4 fp hp => ?_⟩
      refine ⟨_, rfl, .list ((savedI xs).map .int), .list (ns.map .int), .lst (SqL.of hp) (dpAll_ints _), .lst ((((s1.trans s2).trans s3).trans s4).seq hS) (dpAll_ints _), dI_can _, dI_can _, _, rfl, ?_⟩
      rw [dI_eqv]
      refine ite2 (fun c3 => ?_) (fun c3 => ?_)
      · have ne : ¬ savedI xs = ns := fun e => by rw [decide_eq_true e] at c3; cases c3
        refine kn ?_ H4 (((s1.trans s2).trans s3).trans s4)
        rw [er, if_neg ne]
      · have eq : savedI xs = ns := Classical.byContradiction fun e => c3 (by rw [decide_eq_false e]; rfl)
        refine ⟨_, rfl, ?_⟩
        exact ks xs (by rw [er, if_pos eq]) H4 D (((s1.trans s2).trans s3).trans s4) ((A2.same s3).same s4)
end
end Ew
end
section
set_option Elab.async false
set_option linter.all false
set_option maxRecDepth 100000
set_option maxHeartbeats 2000000
namespace Ew
open PySem PySem.Spec PyProof.Rows L2
def modA (xs : List A3) (k : Nat) (f : A3 → A3) : List A3 := xs.set k (f (xs.getD k ⟨0, 0, 0⟩))
theorem modA_length (xs : List A3) (k : Nat) (f : A3 → A3) : (modA xs k f).length = xs.length := List.length_set ..
def addC (c : Int) (x : A3) : A3 := ⟨x.c + c, x.g, x.p⟩
def addG (u : Int) (x : A3) : A3 := ⟨x.c, x.g + u, x.p⟩
def addP (u : Int) (x : A3) : A3 := ⟨x.c, x.g, x.p + u⟩
def payBad (xs : List A3) (s t u : Int) : Prop := ¬ s < (xs.length : Int) ∨ ¬ t < (xs.length : Int) ∨ s = t ∨ u < 1 ∨ 1125899906842624 < u
instance (xs : List A3) (s t u : Int) : Decidable (payBad xs s t u) := by unfold payBad; infer_instance
def payY (xs : List A3) (s t u : Int) : List A3 := modA (modA xs s.toNat (addP u)) t.toNat (addP (-u))
def payX (xs : List A3) (s t u : Int) : List A3 := if payBad xs s t u then xs else takeX xs (payY xs s t u)
def payA (xs : List A3) (s t u : Int) : List Int := if payBad xs s t u then [-1] else takeA (payY xs s t u)
def bookBad (xs : List A3) (by_ c : Int) (row : List Int) : Prop := canShare c row = false ∨ ¬ by_ < (xs.length : Int) ∨ ∃ k ∈ firsts row, ¬ k < (xs.length : Int)
instance (xs : List A3) (by_ c : Int) (row : List Int) : Decidable (bookBad xs by_ c row) := by unfold bookBad; infer_instance
def gotAll (xs : List A3) (ps : List (Int × Int)) : List A3 := ps.foldl (fun ys p => modA ys p.1.toNat (addG p.2)) xs
def bookY (xs : List A3) (by_ c : Int) (row : List Int) : List A3 := gotAll (modA xs by_.toNat (addC c)) ((firsts row).zip (sharesI c (seconds row)))
def bookX (xs : List A3) (by_ c : Int) (row : List Int) : List A3 := if bookBad xs by_ c row then xs else takeX xs (bookY xs by_ c row)
def bookA (xs : List A3) (by_ c : Int) (row : List Int) : List Int := if bookBad xs by_ c row then [-1] else takeA (bookY xs by_ c row)
theorem gotAll_length : ∀ (ps : List (Int × Int)) (xs : List A3), (gotAll xs ps).length = xs.length
  | [], xs => rfl
  | p :: ps, xs => by
    show (gotAll (modA xs p.1.toNat (addG p.2)) ps).length = _
    rw [gotAll_length ps, modA_length]
theorem gotAll_snoc {ps : List (Int × Int)} {i : Nat} {p : Int × Int} (h : ps[i]? = some p) (xs : List A3) : gotAll xs (ps.take (i + 1)) = modA (gotAll xs (ps.take i)) p.1.toNat (addG p.2) := by
  unfold gotAll
  rw [take_snoc h, List.foldl_append]
  rfl
theorem AccsAt.put {CA : Addr} {H : Hp} {l a : Addr} {xs : List A3} {as : List Addr} {k : Nat} {y : A3} (hl : H l = some (.lst (as.map V.ref))) (hp : Paired (AccAt CA H) as xs) (ha : AccAt CA H a y) :
    AccsAt CA (upd H l (.lst ((as.map V.ref).set k (.ref a)))) l (xs.set k y) := by
  have up : ∀ b x, AccAt CA H b x → AccAt CA (upd H l (.lst ((as.map V.ref).set k (.ref a)))) b x := fun b x h => by
    obtain ⟨db, e⟩ := h
    exact ⟨db, by rw [upd_ne (ne_of e hl (by intro z; cases z))]; exact e⟩
  exact ⟨as.set k a, by rw [upd_same, List.map_set], paired_set (L2.Paired.mapP hp up) (up a y ha)⟩
def spBPay (CA CB : Addr) : Sp := fun vs H Q _ => ∃ (b : Addr) (xs : List A3) (s t u : Int), vs = [.ref b, .int s, .int t, .int u] ∧ BkAt CA CB H b xs ∧ 0 ≤ s ∧ 0 ≤ t ∧ doesB CA CB b (payX xs s t u) (payA xs s t u) H Q
def spBBook (K : PySem.W.Frag) (CA CB : Addr) : Sp := fun vs H Q _ => ∃ (b r : Addr) (xs : List A3) (by_ c : Int) (row : List Int), vs = [.ref b, .int by_, .int c, .ref r] ∧ BkAt CA CB H b xs ∧ SqL K H r (row.map V.int) ∧ row.length ≤ 1000 ∧ 0 ≤ by_ ∧ 0 ≤ c ∧ (∀ z ∈ row, 0 ≤ z) ∧ doesB CA CB b (bookX xs by_ c row) (bookA xs by_ c row) H Q
section
variable {P : Program} {w : World} {K : PySem.W.Frag} {mg : Str → Option Value} {base : Heap}
theorem scBPay : FnScope ["self", "start", "to", "units", "accounts"] ["self", "start", "to", "units"] (defScope sBPay) := ⟨rfl, rfl, rfl, by decide +kernel, rfl, by decide +kernel, by decide +kernel⟩
theorem getDA {xs : List A3} {k : Nat} (h : k < xs.length) : xs[k]? = some (xs.getD k ⟨0, 0, 0⟩) := by
  rw [List.getD_eq_getElem?_getD, List.getElem?_eq_getElem h]; rfl
theorem ok_BPay {f fH fP fT fI fW fp CA CB : Addr} {fd fdH fdP fdT fdI fdW fdp : FuncData} (F : Fun K "pay" "Books.pay" sBPay f fd) (X : Txt mg) (TA' : TA K mg CA) (T : TB K mg CB)
    (MH : Mth K CB "has_company" "Books.has_company" sBHas fH fdH ["self", "company"]) (MWp : Mth K CA "with_paid" "Account.with_paid" sAWp fP fdP ["self", "units"]) (MT : Mth K CB "take_over" "Books.take_over" sBTake fT fdT ["self", "accounts"])
    (I : MkI K CA "Account.__init__" sAInit fI fdI ["self", "collected", "got", "paid"]) (MW : Mth K CA "is_within_bounds" "Account.is_within_bounds" sABd fW fdW ["self"]) (MP : Mth K CA "position" "Account.position" sAPos fp fdp ["self"]) :
    FnOk P w K mg base CX0 4 f fd ["self", "start", "to", "units"] (spBPay CA CB) := by
  have GH : FnOk P w K mg base CX0 3 fH fdH ["self", "company"] (spBHas CA CB) := (ok_BHas MH.fn X T).mono (by omega)
  have GW : FnOk P w K mg base CX0 3 fP fdP ["self", "units"] (spAWp CA) := ok_AWp MWp.fn TA' I
  have GT' : FnOk P w K mg base CX0 3 fT fdT ["self", "accounts"] (spBTake CA CB) := ok_BTake MT.fn X TA' T MW MP
  obtain ⟨t1, h1⟩ := T.wrong
  obtain ⟨t2, h2⟩ := TA'.bound
  refine F.ok scBPay (fun vs H Q E h => ?_) (fun cdv A outer s H vs Q E hr h => ?_)
  · obtain ⟨b, xs, s, t, u, rfl, _⟩ := h
    rfl
  · obtain ⟨b, xs, st, to, u, rfl, B, s0, t0, k⟩ := h
    refine ⟨_, pss_cons (ps_if (PW.pt (pw_or (pt_not (pt_val (pe_meth (pv 0) T.cl MH.mt GH hr MH.bd .nil pass0 (pa_cons (pv 1) pa_nil)))) (pw_or (pt_not (pt_val (pe_meth (pv 0) T.cl MH.mt GH hr MH.bd .nil pass0 (pa_cons (pv 2) pa_nil)))) (pw_or1 (pt_cmpR op_eq (pv 1) (pv 2) (nomark _)))))) (pss_one (ps_ret (pe_lst (pa_cons (pe_glob (v := .int (-1)) rfl h1 ⟨_, rfl⟩) pa_nil)))) pss_nil)
      (pss_cons (ps_if (PW.pt (pw_or (pt_cmpR op_lt (pv 3) pe_int (nomark _)) (pw_or1 (pt_cmpR op_gt (pv 3) (pe_glob (v := .int 1125899906842624) rfl h2 ⟨_, rfl⟩) (nomark _))))) (pss_one (ps_ret (pe_lst (pa_cons (pe_glob (v := .int (-1)) rfl h1 ⟨_, rfl⟩) pa_nil)))) pss_nil)
      (pss_cons (ps_set (i := 4) scBPay.nd rfl (Or.inl rfl) (pe_callTy call_list_of (by rfl) X.list PyProof.Rows.boot_list (pa_cons (pe_fld (pv 0) rfl) pa_nil)))
      (pss_cons (ps_asg (pe_meth (pe_ix ix_list (pv 4) (pv 1) (fun _ _ => rfl)) TA'.cl MWp.mt GW hr MWp.bd .nil pass0 (pa_cons (pv 3) pa_nil)) (pg_sub (pv 4) (pv 1) set_list))
      (pss_cons (ps_asg (pe_meth (pe_ix ix_list (pv 4) (pv 2) (fun _ _ => rfl)) TA'.cl MWp.mt GW hr MWp.bd .nil pass0 (pa_cons (pe_un un_neg (pv 3)) pa_nil)) (pg_sub (pv 4) (pv 2) set_list))
      (pss_one (ps_ret (pe_meth (pv 0) T.cl MT.mt GT' hr MT.bd .nil pass0 (pa_cons (pv 4) pa_nil)))))))), ?_⟩
    have no : payBad xs st to u → ∀ p, H p = none → Q (.ref p) (upd H p (.lst [.int (-1)])) := fun hb p hp => by
      have e := k (upd H p (.lst [.int (-1)])) p (keepOf (Same.new hp))
      unfold payX payA at e
      rw [if_pos hb, if_pos hb] at e
      exact e (B.same (Same.new hp)) hp upd_same
    obtain ⟨dx, l, hb, as, hl, hp⟩ := id B
    refine ⟨_, rfl, b, dx, _, rfl, hb, bf_no _ (by decide +kernel), _, rfl, b, xs, st, rfl, B, _, rfl, ite2 (fun c1 => ?_) (fun c1 => ?_)⟩
    · exact iteT ⟨by decide, no (.inl fun z => by rw [decide_eq_true z] at c1; cases c1)⟩
    have ls : st < (xs.length : Int) := Classical.byContradiction fun z => by rw [decide_eq_false z] at c1; exact c1 rfl
    refine ⟨_, rfl, b, dx, _, rfl, hb, bf_no _ (by decide +kernel), _, rfl, b, xs, to, rfl, B, _, rfl, ite2 (fun c2 => ?_) (fun c2 => ?_)⟩
    · exact iteT ⟨by decide, no (.inr (.inl fun z => by rw [decide_eq_true z] at c2; cases c2))⟩
    have lt : to < (xs.length : Int) := Classical.byContradiction fun z => by rw [decide_eq_false z] at c2; exact c2 rfl
    refine ⟨_, rfl, _, rfl, rfl, _, rfl, ite2 (fun c3 => ?_) (fun c3 => ?_)⟩
    · exact ⟨by decide, no (.inr (.inr (.inl (eqI.mp c3))))⟩
    have nst : ¬ st = to := fun z => c3 (eqI.mpr z)
    refine ⟨_, rfl, _, _, rfl, rfl, _, rfl, ite2 (fun c4 => ?_) (fun c4 => ?_)⟩
    · exact iteT ⟨by decide, no (.inr (.inr (.inr (.inl (of_decide_eq_true c4)))))⟩
    refine ⟨_, rfl, _, _, rfl, rfl, _, rfl, ite2 (fun c5 => ?_) (fun c5 => ?_)⟩
    · exact ⟨by decide, no (.inr (.inr (.inr (.inr (of_decide_eq_true c5)))))⟩
    have good : ¬ payBad xs st to u := by
      rintro (z | z | z | z | z)
      · exact z ls
      · exact z lt
      · exact nst z
      · exact c4 (decide_eq_true z)
      · exact c5 (decide_eq_true z)
    unfold payX payA at k
    rw [if_neg good, if_neg good] at k
    -- the copy
    refine ⟨_, rfl, b, CB, dx, _, _, rfl, hb, T.cl, T.nA, bf_acc _, l, _, rfl, .inl (SqL.of hl), fun L hL => ?_⟩
    have s1 := Same.new (o := .lst (as.map V.ref)) hL
    have hp1 : Paired (AccAt CA (upd H L (.lst (as.map V.ref)))) as xs := L2.Paired.mapP hp fun a x h => h.same s1
    have ln : st.toNat < xs.length := by omega
    have lm : to.toNat < xs.length := by omega
    have la := paired_len hp
    obtain ⟨a1, ha1, da1, hax1⟩ := paired_at hp1 (getDA ln)
    refine ⟨_, rfl, _, rfl, L, _, _, V.ref a1, rfl, rfl, SqL.of upd_same, at_of (j := st.toNat) (by omega) (by rw [List.getElem?_map, ha1]; rfl), a1, da1, _, rfl, hax1, af_no _ (by decide +kernel) (by decide +kernel) (by decide +kernel), _, rfl, a1, _, u, rfl, ⟨da1, hax1⟩, fun H2 y1 s2 g1 => ?_⟩
    have hL2 := s2 _ _ (upd_same (H := H) (a := L) (o := .lst (as.map V.ref)))
    refine ⟨_, rfl, _, rfl, L, _, _, st.toNat, rfl, rfl, hL2, (by rw [List.length_map, la]; have := ixN_of ln; rw [Int.toNat_of_nonneg s0] at this; exact this), ?_⟩
    have A3' := AccsAt.put (k := st.toNat) hL2 (L2.Paired.mapP hp1 fun a x h => h.same s2) g1
    generalize hH3 : upd H2 L (.lst ((as.map V.ref).set st.toNat (.ref y1))) = H3 at A3'
    have s3 : Same H H3 := fun c o e => by
      rw [← hH3, upd_ne (ne_of_none e hL)]
      exact s2 _ _ (s1 _ _ e)
    obtain ⟨as3, hL3, hp3⟩ := A3'
    have l3 : (xs.set st.toNat (addP u (xs.getD st.toNat ⟨0, 0, 0⟩))).length = xs.length := List.length_set ..
    have hp3' : Paired (AccAt CA H3) as3 (modA xs st.toNat (addP u)) := hp3
    have lm3 : to.toNat < (modA xs st.toNat (addP u)).length := by rw [modA_length]; exact lm
    obtain ⟨a2, ha2, da2, hax2⟩ := paired_at hp3' (getDA lm3)
    refine ⟨_, rfl, _, rfl, L, _, _, V.ref a2, rfl, rfl, SqL.of hL3, at_of (j := to.toNat) (by omega) (by rw [List.getElem?_map, ha2]; rfl), a2, da2, _, rfl, hax2, af_no _ (by decide +kernel) (by decide +kernel) (by decide +kernel), _, rfl, _, rfl, a2, _, -u, rfl, ⟨da2, hax2⟩, fun H4 y2 s4 g2 => ?_⟩
    have hL4 := s4 _ _ hL3
    have la3 := paired_len hp3'
    refine ⟨_, rfl, _, rfl, L, _, _, to.toNat, rfl, rfl, hL4, (by rw [List.length_map, la3]; have := ixN_of lm3; rw [Int.toNat_of_nonneg t0] at this; exact this), ?_⟩
    have A5 := AccsAt.put (k := to.toNat) hL4 (L2.Paired.mapP hp3' fun a x h => h.same s4) g2
    generalize hH5 : upd H4 L (.lst ((as3.map V.ref).set to.toNat (.ref y2))) = H5 at A5
    have s5 : Same H H5 := fun c o e => by
      rw [← hH5, upd_ne (ne_of_none e hL)]
      exact s4 _ _ (s3 _ _ e)
    refine ⟨_, rfl, b, dx, _, rfl, s5 _ _ hb, bf_no _ (by decide +kernel), _, rfl, b, L, xs, payY xs st to u, rfl, B.same s5, A5, fun H' p kp bk fp hp' => ?_⟩
    exact k H' p ((keepOf s5).trans kp) bk (s5.free fp) hp'
end
end Ew
end
section
set_option Elab.async false
set_option linter.all false
set_option maxRecDepth 100000
set_option maxHeartbeats 2000000
namespace Ew
open PySem PySem.Spec PyProof.Rows L2
theorem ws_sum : ∀ {ws : List Int}, okWs ws = true → (ws.length : Int) ≤ ws.sum ∧ ws.sum ≤ 65535 * ws.length
  | [], _ => ⟨Int.le_refl _, Int.le_refl _⟩
  | w :: ws, h => by
    unfold okWs at h
    rw [List.all_cons, Bool.and_eq_true, Bool.and_eq_true, decide_eq_true_eq, decide_eq_true_eq] at h
    have ih := ws_sum (ws := ws) h.2
    rw [List.sum_cons, List.length_cons]
    omega
structure CanBe (c : Int) (row : List Int) : Prop where
  charge : c ≤ 1099511627776
  even : row.length % 2 = 0
  ne : row.length ≠ 0
  le : row.length ≤ 12
  cs : okCs (firsts row) = true
  ws : okWs (seconds row) = true
theorem canBe {c : Int} {row : List Int} (h : canShare c row = true) : CanBe c row := by
  unfold canShare at h
  rw [Bool.and_eq_true, Bool.and_eq_true, Bool.and_eq_true, decide_eq_true_eq, decide_eq_true_eq] at h
  exact ⟨h.1, h.2.1.1, h.2.1.2.1, h.2.1.2.2, h.2.2.1, h.2.2.2⟩
theorem seconds_length (row : List Int) : (seconds row).length = row.length / 2 := by unfold seconds; rw [List.length_map, List.length_range]
theorem firsts_length (row : List Int) : (firsts row).length = (row.length + 1) / 2 := by unfold firsts; rw [List.length_map, List.length_range]
theorem sharesI_length (c : Int) (ws : List Int) : (sharesI c ws).length = ws.length := by unfold sharesI; rw [List.length_map, List.length_range]
theorem firsts_nn {row : List Int} (h : ∀ z ∈ row, 0 ≤ z) : ∀ z ∈ firsts row, 0 ≤ z := fun z hz => by
  unfold firsts at hz
  obtain ⟨i, _, rfl⟩ := List.mem_map.mp hz
  rw [List.getD_eq_getElem?_getD]
  cases e : row[2 * i]? with
  | none => exact Int.le_refl _
  | some y => exact h y (List.mem_of_getElem? e)
structure Shares (K : PySem.W.Frag) (mg : Str → Option Value) : Prop where
  ex : ∃ (f1 f2 f3 f4 f5 f6 f7 : Addr) (d1 d2 d3 d4 d5 d6 d7 : FuncData), Def K mg "companies_of" sFirsts f1 d1 ["row"] ∧ Def K mg "weights_of" sSeconds f2 d2 ["row"] ∧ Def K mg "are_companies" sAreC f3 d3 ["companies"] ∧ Def K mg "are_weights" sAreW f4 d4 ["weights"] ∧
    Def K mg "can_be_shared" sCan f5 d5 ["charge", "row"] ∧ Def K mg "shared" sShared f6 d6 ["charge", "weights"] ∧ Def K mg "how_many_ahead" sAhead f7 d7 ["rests", "place"]
section
variable {P : Program} {w : World} {K : PySem.W.Frag} {mg : Str → Option Value} {base : Heap}
theorem scBBook : FnScope ["self", "by", "charge", "row", "companies", "company", "accounts", "units"] ["self", "by", "charge", "row"] (defScope sBBook) := ⟨rfl, rfl, rfl, by decide +kernel, rfl, by decide +kernel, by decide +kernel⟩
theorem ok_BBook {f fH fC fG fT fI fW fp CA CB : Addr} {fd fdH fdC fdG fdT fdI fdW fdp : FuncData} (F : Fun K "book" "Books.book" sBBook f fd) (X : Txt mg) (TA' : TA K mg CA) (T : TB K mg CB) (SH : Shares K mg)
    (MH : Mth K CB "has_company" "Books.has_company" sBHas fH fdH ["self", "company"]) (MWc : Mth K CA "with_collected" "Account.with_collected" sAWc fC fdC ["self", "units"]) (MWg : Mth K CA "with_got" "Account.with_got" sAWg fG fdG ["self", "units"]) (MT : Mth K CB "take_over" "Books.take_over" sBTake fT fdT ["self", "accounts"])
    (I : MkI K CA "Account.__init__" sAInit fI fdI ["self", "collected", "got", "paid"]) (MW : Mth K CA "is_within_bounds" "Account.is_within_bounds" sABd fW fdW ["self"]) (MP : Mth K CA "position" "Account.position" sAPos fp fdp ["self"]) :
    FnOk P w K mg base CX0 4 f fd ["self", "by", "charge", "row"] (spBBook K CA CB) := by
  obtain ⟨f1, f2, f3, f4, f5, f6, f7, d1, d2, d3, d4, d5, d6, d7, D1, D2, D3, D4, D5, D6, D7⟩ := SH.ex
  have GH : FnOk P w K mg base CX0 3 fH fdH ["self", "company"] (spBHas CA CB) := (ok_BHas MH.fn X T).mono (by omega)
  have GC : FnOk P w K mg base CX0 3 f5 d5 ["charge", "row"] (spCan K) := (ok_can D5.fn X D1 D2 D3 D4).mono (by omega)
  have G1 : FnOk P w K mg base CX0 3 f1 d1 ["row"] (spFirsts K) := (ok_firsts D1.fn X).mono (by omega)
  have G2 : FnOk P w K mg base CX0 3 f2 d2 ["row"] (spSeconds K) := (ok_seconds D2.fn X).mono (by omega)
  have G6 : FnOk P w K mg base CX0 3 f6 d6 ["charge", "weights"] (spShared K) := (ok_shared D6.fn X D7).mono (by omega)
  have GWc : FnOk P w K mg base CX0 3 fC fdC ["self", "units"] (spAWc CA) := ok_AWc MWc.fn TA' I
  have GWg : FnOk P w K mg base CX0 3 fG fdG ["self", "units"] (spAWg CA) := ok_AWg MWg.fn TA' I
  have GT' : FnOk P w K mg base CX0 3 fT fdT ["self", "accounts"] (spBTake CA CB) := ok_BTake MT.fn X TA' T MW MP
  obtain ⟨t1, h1⟩ := T.wrong
  refine F.ok scBBook (fun vs H Q E h => ?_) (fun cdv A outer s H vs Q E hr h => ?_)
  · obtain ⟨b, r, xs, by_, c, row, rfl, _⟩ := h
    rfl
  · obtain ⟨b, r, xs, by_, c, row, rfl, B, hR, hlen, by0, c0, nn, k⟩ := h
    refine ⟨_, pss_cons (ps_if (PW.pt (pw_or (pt_not (pt_val (pe_call GC hr rfl D5.gl D5.fn.kp D5.bd .nil pass0 (pa_cons (pv 2) (pa_cons (pv 3) pa_nil))))) (pw_or1 (pt_not (pt_val (pe_meth (pv 0) T.cl MH.mt GH hr MH.bd .nil pass0 (pa_cons (pv 1) pa_nil))))))) (pss_one (ps_ret (pe_lst (pa_cons (pe_glob (v := .int (-1)) rfl h1 ⟨_, rfl⟩) pa_nil)))) pss_nil)
      (pss_cons (ps_set (i := 4) scBBook.nd rfl (Or.inl rfl) (pe_call G1 hr rfl D1.gl D1.fn.kp D1.bd .nil pass0 (pa_cons (pv 3) pa_nil)))
      (pss_cons (ps_for PassesOwn.never rfl (pi_list (pv 4)) (pg_name (i := 5) scBBook.nd rfl (Or.inl rfl))
        (pss_one (ps_if (pt_not (pt_val (pe_meth (pv 0) T.cl MH.mt GH hr MH.bd .nil pass0 (pa_cons (pv 5) pa_nil)))) (pss_one (ps_ret (pe_lst (pa_cons (pe_glob (v := .int (-1)) rfl h1 ⟨_, rfl⟩) pa_nil)))) pss_nil)))
      (pss_cons (ps_set (i := 6) scBBook.nd rfl (Or.inl rfl) (pe_callTy call_list_of (by rfl) X.list PyProof.Rows.boot_list (pa_cons (pe_fld (pv 0) rfl) pa_nil)))
      (pss_cons (ps_asg (pe_meth (pe_ix ix_list (pv 6) (pv 1) (fun _ _ => rfl)) TA'.cl MWc.mt GWc hr MWc.bd .nil pass0 (pa_cons (pv 2) pa_nil)) (pg_sub (pv 6) (pv 1) set_list))
      (pss_cons (ps_for PassesOwn.never rfl (pi_zip rfl X.zip (pa_cons (pv 4) (pa_cons (pe_call G6 hr rfl D6.gl D6.fn.kp D6.bd .nil pass0 (pa_cons (pv 2) (pa_cons (pe_call G2 hr rfl D2.gl D2.fn.kp D2.bd .nil pass0 (pa_cons (pv 3) pa_nil)) pa_nil))) pa_nil))) (pg_tup rfl (pgs_cons (pg_name (i := 5) scBBook.nd rfl (Or.inl rfl)) (pgs_cons (pg_name (i := 7) scBBook.nd rfl (Or.inl rfl)) pgs_nil)))
        (pss_one (ps_asg (pe_meth (pe_ix ix_list (pv 6) (pv 5) (fun _ _ => rfl)) TA'.cl MWg.mt GWg hr MWg.bd .nil pass0 (pa_cons (pv 7) pa_nil)) (pg_sub (pv 6) (pv 5) set_list))))
      (pss_one (ps_ret (pe_meth (pv 0) T.cl MT.mt GT' hr MT.bd .nil pass0 (pa_cons (pv 6) pa_nil))))))))), ?_⟩
    have no : bookBad xs by_ c row → ∀ H1, Same H H1 → ∀ p, H1 p = none → Q (.ref p) (upd H1 p (.lst [.int (-1)])) := fun hb H1 s1 p hp => by
      have ss := s1.trans (Same.new (o := .lst [.int (-1)]) hp)
      have e := k (upd H1 p (.lst [.int (-1)])) p (keepOf ss)
      unfold bookX bookA at e
      rw [if_pos hb, if_pos hb] at e
      exact e (B.same ss) (s1.free hp) upd_same
    obtain ⟨dx, l, hb, as, hl, hp⟩ := id B
    refine ⟨_, rfl, _, rfl, c, r, row, rfl, hR, by omega, fun H1 s1 => ⟨_, rfl, ite2 (fun c1 => ?_) (fun c1 => ?_)⟩⟩
    · refine iteT ⟨by decide, no (.inl ?_) H1 s1⟩
      cases q : canShare c row with
      | false => rfl
      | true => rw [q] at c1; cases c1
    have can : canShare c row = true := by
      cases q : canShare c row with
      | true => rfl
      | false => rw [q] at c1; exact absurd rfl c1
    have cb := canBe can
    refine ⟨_, rfl, b, dx, _, rfl, s1 _ _ hb, bf_no _ (by decide +kernel), _, rfl, b, xs, by_, rfl, B.same s1, _, rfl, ite2 (fun c2 => ?_) (fun c2 => ?_)⟩
    · exact ⟨by decide, no (.inr (.inl fun z => by rw [decide_eq_true z] at c2; cases c2)) H1 s1⟩
    have lb : by_ < (xs.length : Int) := Classical.byContradiction fun z => by rw [decide_eq_false z] at c2; exact c2 rfl
    -- companies
    refine ⟨_, rfl, r, row, rfl, s1.seq hR, by omega, fun H2 Co s2 fCo hCo => ?_⟩
    have sH2 := s1.trans s2
    have lf : (firsts row).length ≤ 6 := by have := cb.le; rw [firsts_length]; omega
    refine ⟨_, rfl, Co, rfl, ⟨_, SqL.of hCo⟩, for_list (K := K) (a := Co) (xs := (firsts row).map V.int)
      (fun i σ H' => ∃ v5 : Option V, σ = [some (.ref b), some (.int by_), some (.int c), some (.ref r), some (.ref Co), v5, none, none] ∧ H' = H2 ∧ ∀ z ∈ (firsts row).take i, z < (xs.length : Int))
      ⟨none, rfl, rfl, fun z hz => by rw [List.take_zero] at hz; cases hz⟩ (fun i σ H' _ ⟨_, _, e, _⟩ => by rw [e]; exact SqL.of hCo) ?_ ?_⟩
    · rintro i y σ H' hi ⟨v5, rfl, rfl, hall⟩
      obtain ⟨z, hz, rfl⟩ := int_at hi
      refine ⟨_, rfl, b, dx, _, rfl, sH2 _ _ hb, bf_no _ (by decide +kernel), _, rfl, b, xs, z, rfl, B.same sH2, _, rfl, ite2 (fun c3 => ?_) (fun c3 => ?_)⟩
      · exact ⟨by decide, no (.inr (.inr ⟨z, List.mem_of_getElem? hz, fun q => by rw [decide_eq_true q] at c3; cases c3⟩)) _ sH2⟩
      · have lz : z < (xs.length : Int) := Classical.byContradiction fun q => by rw [decide_eq_false q] at c3; exact c3 rfl
        refine ⟨_, rfl, rfl, fun u hu => ?_⟩
        rw [take_snoc hz] at hu
        rcases List.mem_append.mp hu with q | q
        · exact hall u q
        · rw [List.mem_singleton.mp q]; exact lz
    rintro σ H3 ⟨v5, rfl, rfl, hall⟩
    rw [List.length_map, List.take_length] at hall
    have good : ¬ bookBad xs by_ c row := by
      rintro (z | z | ⟨q, hq, z⟩)
      · rw [can] at z; cases z
      · exact z lb
      · exact z (hall q hq)
    unfold bookX bookA at k
    rw [if_neg good, if_neg good] at k
    -- the copy
    refine ⟨_, rfl, b, CB, dx, _, _, rfl, sH2 _ _ hb, T.cl, T.nA, bf_acc _, l, _, rfl, .inl (SqL.of (sH2 _ _ hl)), fun L hL => ?_⟩
    have s3 := Same.new (o := .lst (as.map V.ref)) hL
    have fL : H L = none := sH2.free hL
    have hp1 : Paired (AccAt CA (upd H3 L (.lst (as.map V.ref)))) as xs := L2.Paired.mapP hp fun a x h => h.same (sH2.trans s3)
    have ln : by_.toNat < xs.length := by omega
    have la := paired_len hp
    obtain ⟨a1, ha1, da1, hax1⟩ := paired_at hp1 (getDA ln)
    refine ⟨_, rfl, _, rfl, L, _, _, V.ref a1, rfl, rfl, SqL.of upd_same, at_of (j := by_.toNat) (by omega) (by rw [List.getElem?_map, ha1]; rfl), a1, da1, _, rfl, hax1, af_no _ (by decide +kernel) (by decide +kernel) (by decide +kernel), _, rfl, a1, _, c, rfl, ⟨da1, hax1⟩, fun H4 y1 s4 g1 => ?_⟩
    have hL4 := s4 _ _ (upd_same (H := H3) (a := L) (o := .lst (as.map V.ref)))
    refine ⟨_, rfl, _, rfl, L, _, _, by_.toNat, rfl, rfl, hL4, (by rw [List.length_map, la]; have := ixN_of ln; rw [Int.toNat_of_nonneg by0] at this; exact this), ?_⟩
    have A5 := AccsAt.put (k := by_.toNat) hL4 (L2.Paired.mapP hp1 fun a x h => h.same s4) g1
    have nCo : Co ≠ L := ne_of_none hCo hL
    have k5 : ∀ q o, H3 q = some o → q ≠ L → upd H4 L (.lst ((as.map V.ref).set by_.toNat (.ref y1))) q = some o := fun q o e n => by
      rw [upd_ne n]; exact s4 _ _ (s3 _ _ e)
    generalize hH5 : upd H4 L (.lst ((as.map V.ref).set by_.toNat (.ref y1))) = H5 at A5 k5
    have s5 : Same H H5 := fun q o e => k5 q o (sH2 _ _ e) (ne_of_none e fL)
    have A5' : AccsAt CA H5 L (modA xs by_.toNat (addC c)) := A5
    -- the shares
    have lw : (seconds row).length ≤ 6 := by have := cb.le; rw [seconds_length]; omega
    have lw1 : 1 ≤ (seconds row).length := by have := cb.ne; have := cb.even; rw [seconds_length]; omega
    have wsum := ws_sum cb.ws
    refine ⟨_, rfl, _, rfl, _, rfl, r, row, rfl, s5.seq hR, by omega, fun H6 W s6 fW hW => ?_⟩
    refine ⟨c, W, seconds row, rfl, SqL.of hW, ⟨c0, cb.charge⟩, lw, by omega, by omega, fun H7 Sh s7 fSh hSh => ?_⟩
    have s57 := s6.trans s7
    have hCo7 := s57 _ _ (k5 _ _ hCo nCo)
    have nSh : Sh ≠ L := fun e => by
      obtain ⟨as5, e5, _⟩ := A5'
      have := s6 _ _ e5
      rw [← e, fSh] at this; cases this
    have lz : ((firsts row).map V.int).length = ((sharesI c (seconds row)).map V.int).length := by
      have := cb.even
      rw [List.length_map, List.length_map, sharesI_length, firsts_length, seconds_length]; omega
    refine ⟨Co, Sh, _, _, rfl, SqL.of hCo7, SqL.of hSh, for_zip (K := K) (a := Co) (b := Sh) (xs := (firsts row).map V.int) (ys := (sharesI c (seconds row)).map V.int)
      (fun i σ H' => ∃ v5 v7 : Option V, σ = [some (.ref b), some (.int by_), some (.int c), some (.ref r), some (.ref Co), v5, some (.ref L), v7] ∧ (∀ q o, q ≠ L → H7 q = some o → H' q = some o) ∧ AccsAt CA H' L (gotAll (modA xs by_.toNat (addC c)) (((firsts row).zip (sharesI c (seconds row))).take i)))
      lz ⟨_, none, rfl, fun q o _ e => e, by rw [List.take_zero]; exact A5'.same s57⟩ (fun i σ H' _ ⟨_, _, _, e, _⟩ => ⟨SqL.of (e _ _ nCo hCo7), SqL.of (e _ _ nSh hSh)⟩) ?_ ?_⟩
    · rintro i x y σ H8 T' hx hy ⟨v5, v7, rfl, k8, A8⟩ hT
      obtain ⟨z, hz, rfl⟩ := int_at hx
      obtain ⟨u, hu, rfl⟩ := int_at hy
      have s9 := Same.new (o := .tup [V.int z, V.int u]) hT
      obtain ⟨as8, hL8, hp8⟩ := A8
      have zi : ((firsts row).zip (sharesI c (seconds row)))[i]? = some (z, u) := by rw [List.getElem?_zip_eq_some]; exact ⟨hz, hu⟩
      have z0 := firsts_nn nn z (List.mem_of_getElem? hz)
      have zl := hall z (List.mem_of_getElem? hz)
      have gl : z.toNat < (gotAll (modA xs by_.toNat (addC c)) (((firsts row).zip (sharesI c (seconds row))).take i)).length := by rw [gotAll_length, modA_length]; omega
      have es := gotAll_snoc zi (modA xs by_.toNat (addC c))
      generalize gotAll (modA xs by_.toNat (addC c)) (((firsts row).zip (sharesI c (seconds row))).take i) = Y at gl hp8 es
      have hp9 : Paired (AccAt CA (upd H8 T' (.tup [V.int z, V.int u]))) as8 Y := L2.Paired.mapP hp8 fun a x h => h.same s9
      obtain ⟨a9, ha9, da9, hax9⟩ := paired_at hp9 (getDA gl)
      have la9 := paired_len hp8
      refine ⟨T', _, rfl, SqT.of upd_same, rfl, _, _, rfl, _, _, rfl, rfl, ?_⟩
      refine ⟨_, rfl, _, rfl, L, _, _, V.ref a9, rfl, rfl, SqL.of (s9 _ _ hL8), at_of (j := z.toNat) (by omega) (by rw [List.getElem?_map, ha9]; rfl), a9, da9, _, rfl, hax9, af_no _ (by decide +kernel) (by decide +kernel) (by decide +kernel), _, rfl, a9, _, u, rfl, ⟨da9, hax9⟩, fun H10 y10 s10 g10 => ?_⟩
      have hL10 := s10 _ _ (s9 _ _ hL8)
      refine ⟨_, rfl, _, rfl, L, _, _, z.toNat, rfl, rfl, hL10, (by rw [List.length_map, la9]; have := ixN_of gl; rw [Int.toNat_of_nonneg z0] at this; exact this), ?_⟩
      have A11 := AccsAt.put (k := z.toNat) hL10 (L2.Paired.mapP hp9 fun a x h => h.same s10) g10
      refine ⟨some (.int z), some (.int u), rfl, fun q o n e => ?_, ?_⟩
      · rw [upd_ne n]
        exact s10 _ _ (s9 _ _ (k8 _ _ n e))
      · rw [es]
        exact A11
    · rintro σ H8 ⟨v5, v7, rfl, k8, A8⟩
      rw [List.length_map, List.take_of_length_le (by rw [List.length_zip]; omega)] at A8
      have sH8 : Same H H8 := fun q o e => k8 _ _ (ne_of_none e fL) (s57 _ _ (s5 _ _ e))
      refine ⟨_, rfl, b, dx, _, rfl, sH8 _ _ hb, bf_no _ (by decide +kernel), _, rfl, b, L, xs, bookY xs by_ c row, rfl, B.same sH8, A8, fun H' p kp bk fp hp' => ?_⟩
      exact k H' p ((keepOf sH8).trans kp) bk (sH8.free fp) hp'
end
end Ew
end
section
set_option Elab.async false
set_option linter.all false
set_option maxRecDepth 100000
set_option maxHeartbeats 2000000
namespace Ew
open PySem PySem.Spec PyProof.Rows L2 Sett
open CbAcc (settle)
def posI (xs : List A3) : List Int := xs.map A3.pos
def setNs (xs : List A3) : List Int := (settle (posI xs)).flatMap payRow
def settleA (xs : List A3) : List Int := (0 : Int) :: ((setNs xs).length : Nat) :: setNs xs
def leastA (xs : List A3) : List Int := [0, ((settle (posI xs)).length : Nat), mg 7 (posI xs)]
def saveA (xs : List A3) : List Int := (0 : Int) :: ((savedI xs).length : Nat) :: savedI xs
def loadX (xs : List A3) (ns : List Int) : List A3 := (readI ns).getD xs
def loadA (ns : List Int) : List Int := match readI ns with
  | none => [-4]
  | some _ => [0]
theorem settle_len {ps : List Int} (hs : ps.sum = 0) (h6 : ps.length ≤ 6) : (settle ps).length ≤ 6 := by
  have := nw_len (settle_least hs).few hs
  have := count_le ps
  omega
def spBPos (CA CB : Addr) : Sp := fun vs H Q _ => ∃ (b : Addr) (xs : List A3), vs = [.ref b] ∧ BkAt CA CB H b xs ∧ xs.length ≤ 6 ∧ giveL ((posI xs).map V.int) H Q
def spBSettle (CA CB : Addr) : Sp := fun vs H Q _ => ∃ (b : Addr) (xs : List A3), vs = [.ref b] ∧ BkAt CA CB H b xs ∧ xs.length ≤ 6 ∧ (posI xs).sum = 0 ∧ doesB CA CB b xs (settleA xs) H Q
def spBLeast (CA CB : Addr) : Sp := fun vs H Q _ => ∃ (b : Addr) (xs : List A3), vs = [.ref b] ∧ BkAt CA CB H b xs ∧ xs.length ≤ 6 ∧ (posI xs).sum = 0 ∧ doesB CA CB b xs (leastA xs) H Q
def spBSave (CA CB : Addr) : Sp := fun vs H Q _ => ∃ (b : Addr) (xs : List A3), vs = [.ref b] ∧ BkAt CA CB H b xs ∧ xs.length ≤ 6 ∧ doesB CA CB b xs (saveA xs) H Q
def spBLoad (K : PySem.W.Frag) (CA CB : Addr) : Sp := fun vs H Q _ => ∃ (b r : Addr) (xs : List A3) (ns : List Int), vs = [.ref b, .ref r] ∧ BkAt CA CB H b xs ∧ SqL K H r (ns.map V.int) ∧ ns.length ≤ 1000 ∧ doesB CA CB b (loadX xs ns) (loadA ns) H Q
section
variable {P : Program} {w : World} {K : PySem.W.Frag} {mg : Str → Option Value} {base : Heap}
theorem scBPos : FnScope ["self", "account"] ["self"] (defScope sBPos) := ⟨rfl, rfl, rfl, by decide +kernel, rfl, by decide +kernel, by decide +kernel⟩
theorem ok_BPos {f fp CA CB : Addr} {fd fdp : FuncData} (F : Fun K "positions" "Books.positions" sBPos f fd) (TA' : TA K mg CA) (T : TB K mg CB) (MP : Mth K CA "position" "Account.position" sAPos fp fdp ["self"]) : FnOk P w K mg base CX0 2 f fd ["self"] (spBPos CA CB) := by
  have GP : FnOk P w K mg base CX0 1 fp fdp ["self"] (spAPos CA) := ok_APos MP.fn TA'
  refine F.ok scBPos (fun vs H Q E h => ?_) (fun cdv A outer s H vs Q E hr h => ?_)
  · obtain ⟨b, xs, rfl, _⟩ := h
    rfl
  · obtain ⟨b, xs, rfl, ⟨dx, l, hb, as, hl, hp⟩, h6, k⟩ := h
    refine ⟨_, pss_one (ps_ret (pe_lc rfl scBPos.nd (pi_list (pe_fld (pv 0) rfl)) (by exact blkOk_by (N := ["self", "account"]) (sc := defScope sBPos) (own := [("account", 1)]) (by decide +kernel)) (fun _ _ _ _ _ => pg_name (i := 1) scBPos.nd rfl (Or.inl rfl)) (fun _ _ _ _ _ => pts_nil)
      (fun _ _ _ _ _ => show PE _ _ (tMeth CA "position" (spAPos CA) [] E0 (tVar 1) tNil) from pe_meth0 (pv 1) TA'.cl MP.mt GP hr MP.bd .nil pass0))), ?_⟩
    have lp := paired_len hp
    refine ⟨_, rfl, b, CB, dx, _, _, rfl, hb, T.cl, T.nA, bf_acc _, l, rfl, ⟨_, SqL.of hl⟩, fun D hD => lc_list (K := K) (xs := as.map V.ref) (fun i H2 => H2 = upd H D (.lst (((xs.take i).map A3.pos).map V.int))) (by rw [List.take_zero]; rfl) (fun i H2 _ e => by rw [e]; exact SqL.of ((Same.new hD) _ _ hl)) ?_ ?_⟩
    · rintro i y H2 hi rfl
      obtain ⟨a, x, da, rfl, hx, hax⟩ := attr_turn hp hi
      have li : i < xs.length := (List.getElem?_eq_some_iff.mp hx).1
      refine ⟨rfl, _, rfl, a, da, _, rfl, (Same.new hD) _ _ hax, af_no _ (by decide +kernel) (by decide +kernel) (by decide +kernel), a, x, rfl, ⟨da, (Same.new hD) _ _ hax⟩, _, upd_same, ?_, ?_⟩
      · rw [List.length_map, List.length_map, List.length_take]
        exact Nat.lt_of_le_of_lt (show _ ≤ 6 by omega) (by decide)
      · rw [upd_upd, take_snoc hx, List.map_append, List.map_append]; rfl
    · rintro H2 rfl
      rw [List.length_map, lp, List.take_length]
      exact k _ D (Same.new hD) hD upd_same
theorem scBSettle : FnScope ["self", "numbers", "payment"] ["self"] (defScope sBSettle) := ⟨rfl, rfl, rfl, by decide +kernel, rfl, by decide +kernel, by decide +kernel⟩
structure Settling (K : PySem.W.Frag) (mg : Str → Option Value) : Prop where
  ex : ∃ (f1 f2 f3 f4 f5 f6 : Addr) (d1 d2 d3 d4 d5 d6 : FuncData), Def K mg "settlement" sSettlement f1 d1 ["positions"] ∧ Def K mg "orders" sOrders f2 d2 ["companies"] ∧ Def K mg "paid_in_turn" sPaid f3 d3 ["positions", "payers", "owed"] ∧ Def K mg "rank" sRank f4 d4 ["payments"] ∧
    Def K mg "most_groups" sMost f5 d5 ["positions"] ∧ Def K mg "partings" sPartings f6 d6 ["values"]
theorem ok_BSettle {f fq fp CA CB : Addr} {fd fdq fdp : FuncData} (F : Fun K "settle" "Books.settle" sBSettle f fd) (X : Txt mg) (X2 : Txt2 mg) (TA' : TA K mg CA) (T : TB K mg CB) (ST : Settling K mg) (MQ : Mth K CB "positions" "Books.positions" sBPos fq fdq ["self"]) (MP : Mth K CA "position" "Account.position" sAPos fp fdp ["self"]) :
    FnOk P w K mg base CX0 4 f fd ["self"] (spBSettle CA CB) := by
  obtain ⟨f1, f2, f3, f4, f5, f6, d1, d2, d3, d4, d5, d6, D1, D2, D3, D4, D5, D6⟩ := ST.ex
  have GQ : FnOk P w K mg base CX0 3 fq fdq ["self"] (spBPos CA CB) := (ok_BPos MQ.fn TA' T MP).mono (by omega)
  have GS : FnOk P w K mg base CX0 3 f1 d1 ["positions"] (spSettle K) := ok_settlement D1.fn X X2 D2 D3 D4
  refine F.ok scBSettle (fun vs H Q E h => ?_) (fun cdv A outer s H vs Q E hr h => ?_)
  · obtain ⟨b, xs, rfl, _⟩ := h
    rfl
  · obtain ⟨b, xs, rfl, B, h6, hsum, k⟩ := h
    refine ⟨_, pss_cons (ps_set (i := 1) scBSettle.nd rfl (Or.inl rfl) (pe_lst pa_nil))
      (pss_cons (ps_for PassesOwn.never rfl (pi_list (pe_call GS hr rfl D1.gl D1.fn.kp D1.bd .nil pass0 (pa_cons (pe_meth0 (pv 0) T.cl MQ.mt GQ hr MQ.bd .nil pass0) pa_nil))) (pg_name (i := 2) scBSettle.nd rfl (Or.inl rfl))
        (pss_one (ps_expr (pe_bm PySem.F.plainAttrs_list PySem.F.slot_list_extend PySem.F.type_list_extend mt_extendT (pv 1) (pa_cons (pv 2) pa_nil)))))
      (pss_one (ps_ret (pe_op op_cat (pe_lst (pa_cons pe_int (pa_cons (pe_callB call_len_seq (by rfl) X.len PySem.boot_len (pa_cons (pv 1) pa_nil)) pa_nil))) (pv 1))))), ?_⟩
    refine ⟨Nat.zero_le _, fun N hN => ?_⟩
    have s1 := Same.new (o := .lst []) hN
    obtain ⟨dx, l, hb, _⟩ := id B
    refine ⟨_, rfl, b, dx, _, rfl, s1 _ _ hb, bf_no _ (by decide +kernel), b, xs, rfl, B.same s1, h6, fun H2 q s2 fq2 hq => ?_⟩
    refine ⟨q, posI xs, rfl, SqL.of hq, hsum, by unfold posI; rw [List.length_map]; exact h6, fun H3 r s3 g3 => ?_⟩
    obtain ⟨as, hr3, las, pas⟩ := g3.lst
    have hrH := (fr_get hr3).2
    have sl := settle_len hsum (by unfold posI; rw [List.length_map]; exact h6)
    rw [List.length_map] at las
    have hN3 : H3 N = some (.lst []) := s3 _ _ (s2 _ _ upd_same)
    have nr : r ≠ N := fun e => by
      have := (fr_get hr3).1
      have h2 := s2 _ _ (upd_same (H := H) (a := N) (o := .lst []))
      rw [e, h2] at this; cases this
    have pasH : ∀ (i : Nat) (a : Addr), as[i]? = some a → ∃ p, (settle (posI xs))[i]? = some p ∧ a ≠ N ∧ H3 a = some (.tup ((payRow p).map V.int)) := fun i a ha => by
      obtain ⟨x, hx, g⟩ := paired_get' pas ha
      rw [List.getElem?_map] at hx
      cases e : (settle (posI xs))[i]? with
      | none => rw [e] at hx; cases hx
      | some p =>
        rw [e] at hx
        cases Option.some.inj hx
        have g2 := fr_get (hide_get g).2
        refine ⟨p, rfl, fun e => ?_, g2.2⟩
        have h2 := s2 _ _ (upd_same (H := H) (a := N) (o := .lst []))
        rw [e, h2] at g2; cases g2.1
    refine ⟨r, rfl, ⟨_, SqL.of hrH⟩, for_list (K := K) (a := r) (xs := as.map V.ref)
      (fun i σ H' => ∃ v2 : Option V, σ = [some (.ref b), some (.ref N), v2] ∧ (∀ c o, c ≠ N → H3 c = some o → H' c = some o) ∧ H' N = some (.lst ((((settle (posI xs)).take i).flatMap payRow).map V.int)))
      ⟨none, rfl, fun c o _ e => e, hN3⟩ (fun i σ H' _ ⟨_, _, e, _⟩ => SqL.of (e _ _ nr hrH)) ?_ ?_⟩
    · rintro i y σ H4 hi ⟨v2, rfl, k4, hN4⟩
      obtain ⟨a, ha, rfl⟩ := ref_at' hi
      obtain ⟨p, hp, na, hpa⟩ := pasH i a ha
      have li : i < (settle (posI xs)).length := (List.getElem?_eq_some_iff.mp hp).1
      refine ⟨_, rfl, .inl ⟨rfl, _, SqL.of hN4⟩, _, rfl, N, a, _, _, rfl, rfl, hN4, k4 _ _ na hpa, ?_, _, rfl, fun c o n e => ?_, ?_⟩
      · have : ∀ l : List CbAcc.Pay, (l.flatMap payRow).length = 3 * l.length := fun l => by
          induction l with
          | nil => rfl
          | cons u l ih => rw [List.flatMap_cons, List.length_append, ih, List.length_cons]; show 3 + _ = _; omega
        rw [List.length_map, List.length_map, this, List.length_take]
        exact Nat.le_trans (show _ ≤ 100 by show _ + 3 ≤ 100; omega) (by decide)
      · rw [upd_ne n]; exact k4 _ _ n e
      · rw [upd_same, take_snoc hp, List.flatMap_append, List.flatMap_cons, List.flatMap_nil, List.append_nil, List.map_append]
    · rintro σ H4 ⟨v2, rfl, k4, hN4⟩
      rw [List.length_map, las, List.take_length] at hN4
      have hN4' : H4 N = some (.lst ((setNs xs).map V.int)) := hN4
      have sH4 : Same H H4 := fun c o e => k4 _ _ (ne_of_none e hN) (s3 _ _ (s2 _ _ (s1 _ _ e)))
      refine ⟨_, rfl, N, _, rfl, .inl (SqL.of hN4'), by show 2 ≤ sizeLine; decide, fun z hz => ?_⟩
      have s5 := Same.new (o := .lst [V.int 0, V.int (((setNs xs).map V.int).length : Nat)]) hz
      refine ⟨_, rfl, z, N, _, _, rfl, rfl, upd_same, s5 _ _ hN4', ?_, fun p hp => ?_⟩
      · have : ∀ l : List CbAcc.Pay, (l.flatMap payRow).length = 3 * l.length := fun l => by
          induction l with
          | nil => rfl
          | cons u l ih => rw [List.flatMap_cons, List.length_append, ih, List.length_cons]; show 3 + _ = _; omega
        unfold setNs
        rw [List.length_map, this]
        exact Nat.le_trans (show _ ≤ 100 by show 2 + _ ≤ 100; omega) (by decide)
      · have ss := (sH4.trans s5).trans (Same.new (o := .lst ([V.int 0, V.int (((setNs xs).map V.int).length : Nat)] ++ (setNs xs).map V.int)) hp)
        refine k _ p (keepOf ss) (B.same ss) ((sH4.trans s5).free hp) ?_
        rw [upd_same]
        unfold settleA
        rw [List.length_map]
        rfl
theorem scBLeast : FnScope ["self", "positions"] ["self"] (defScope sBLeast) := ⟨rfl, rfl, rfl, by decide +kernel, rfl, by decide +kernel, by decide +kernel⟩
theorem ok_BLeast {f fq fp CA CB : Addr} {fd fdq fdp : FuncData} (F : Fun K "least" "Books.least" sBLeast f fd) (X : Txt mg) (X2 : Txt2 mg) (TA' : TA K mg CA) (T : TB K mg CB) (ST : Settling K mg) (MQ : Mth K CB "positions" "Books.positions" sBPos fq fdq ["self"]) (MP : Mth K CA "position" "Account.position" sAPos fp fdp ["self"]) :
    FnOk P w K mg base CX0 9 f fd ["self"] (spBLeast CA CB) := by
  obtain ⟨f1, f2, f3, f4, f5, f6, d1, d2, d3, d4, d5, d6, D1, D2, D3, D4, D5, D6⟩ := ST.ex
  have GQ : FnOk P w K mg base CX0 8 fq fdq ["self"] (spBPos CA CB) := (ok_BPos MQ.fn TA' T MP).mono (by omega)
  have GS : FnOk P w K mg base CX0 8 f1 d1 ["positions"] (spSettle K) := (ok_settlement D1.fn X X2 D2 D3 D4).mono (by omega)
  have GM : FnOk P w K mg base CX0 8 f5 d5 ["positions"] (spMost K 7) := ok_most D5.fn X X2 D5.bd D5.gl D6 7
  refine F.ok scBLeast (fun vs H Q E h => ?_) (fun cdv A outer s H vs Q E hr h => ?_)
  · obtain ⟨b, xs, rfl, _⟩ := h
    rfl
  · obtain ⟨b, xs, rfl, B, h6, hsum, k⟩ := h
    refine ⟨_, pss_cons (ps_set (i := 1) scBLeast.nd rfl (Or.inl rfl) (pe_meth0 (pv 0) T.cl MQ.mt GQ hr MQ.bd .nil pass0))
      (pss_one (ps_ret (pe_lst (pa_cons pe_int (pa_cons (pe_callB call_len_seq (by rfl) X.len PySem.boot_len (pa_cons (pe_call GS hr rfl D1.gl D1.fn.kp D1.bd .nil pass0 (pa_cons (pv 1) pa_nil)) pa_nil)) (pa_cons (pe_call GM hr rfl D5.gl D5.fn.kp D5.bd .nil pass0 (pa_cons (pv 1) pa_nil)) pa_nil)))))), ?_⟩
    obtain ⟨dx, l, hb, _⟩ := id B
    have lp : (posI xs).length ≤ 6 := by unfold posI; rw [List.length_map]; exact h6
    refine ⟨_, rfl, b, dx, _, rfl, hb, bf_no _ (by decide +kernel), b, xs, rfl, B, h6, fun H2 q s2 fq2 hq => ?_⟩
    refine ⟨_, rfl, q, posI xs, rfl, SqL.of hq, hsum, lp, fun H3 r s3 g3 => ?_⟩
    obtain ⟨as, hr3, las, _⟩ := g3.lst
    rw [List.length_map] at las
    refine ⟨r, _, rfl, .inl (SqL.of (fr_get hr3).2), _, rfl, q, posI xs, rfl, SqL.of (s3 _ _ hq), lp, by omega, fun H4 s4 => ⟨by show 3 ≤ sizeLine; decide, fun p hp => ?_⟩⟩
    have ss := ((s2.trans s3).trans s4).trans (Same.new (o := .lst [V.int 0, V.int ((as.map V.ref).length : Nat), V.int (Sett.mg 7 (posI xs))]) hp)
    refine k _ p (keepOf ss) (B.same ss) (((s2.trans s3).trans s4).free hp) ?_
    rw [upd_same, List.length_map, las]
    rfl
theorem scBSave : FnScope ["self", "saved"] ["self"] (defScope sBSave) := ⟨rfl, rfl, rfl, by decide +kernel, rfl, by decide +kernel, by decide +kernel⟩
theorem ok_BSave {f fS fL fF fp CA CB : Addr} {fd fdS fdL fdF fdp : FuncData} (F : Fun K "save" "Books.save" sBSave f fd) (X : Txt mg) (T3 : Txt3 K mg) (TA' : TA K mg CA) (T : TB K mg CB) (DS : Def K mg "saved_bytes" sSaved fS fdS ["accounts"]) (DL : Def K mg "lowest_first" sLow fL fdL ["number", "length"])
    (MF : Mth K CA "four_numbers" "Account.four_numbers" sAFour fF fdF ["self"]) (MP : Mth K CA "position" "Account.position" sAPos fp fdp ["self"]) : FnOk P w K mg base CX0 4 f fd ["self"] (spBSave CA CB) := by
  have GS : FnOk P w K mg base CX0 3 fS fdS ["accounts"] (spSaved CA) := ok_saved DS.fn X T3 TA' DL MF MP
  refine F.ok scBSave (fun vs H Q E h => ?_) (fun cdv A outer s H vs Q E hr h => ?_)
  · obtain ⟨b, xs, rfl, _⟩ := h
    rfl
  · obtain ⟨b, xs, rfl, B, h6, k⟩ := h
    refine ⟨_, pss_cons (ps_set (i := 1) scBSave.nd rfl (Or.inl rfl) (pe_call GS hr rfl DS.gl DS.fn.kp DS.bd .nil pass0 (pa_cons (pe_fld (pv 0) rfl) pa_nil)))
      (pss_one (ps_ret (pe_op op_cat (pe_lst (pa_cons pe_int (pa_cons (pe_callB call_len_seq (by rfl) X.len PySem.boot_len (pa_cons (pv 1) pa_nil)) pa_nil))) (pv 1)))), ?_⟩
    obtain ⟨dx, l, hb, A⟩ := id B
    refine ⟨_, rfl, b, CB, dx, _, _, rfl, hb, T.cl, T.nA, bf_acc _, l, xs, rfl, A, h6, fun H2 q s2 fq hq => ?_⟩
    refine ⟨_, rfl, q, _, rfl, .inl (SqL.of hq), by show 2 ≤ sizeLine; decide, fun z hz => ?_⟩
    have s5 := Same.new (o := .lst [V.int 0, V.int (((savedI xs).map V.int).length : Nat)]) hz
    refine ⟨_, rfl, z, q, _, _, rfl, rfl, upd_same, s5 _ _ hq, ?_, fun p hp => ?_⟩
    · have : (savedI xs).length = 9 + 32 * xs.length := by
        unfold savedI plainI
        rw [List.length_append, List.length_append, accs_length, lowI_length]
        show 5 + _ + 4 = _
        omega
      rw [List.length_map, this]
      exact Nat.le_trans (show _ ≤ 1000 by show 2 + _ ≤ 1000; omega) (by decide)
    · have ss := (s2.trans s5).trans (Same.new (o := .lst ([V.int 0, V.int (((savedI xs).map V.int).length : Nat)] ++ (savedI xs).map V.int)) hp)
      refine k _ p (keepOf ss) (B.same ss) ((s2.trans s5).free hp) ?_
      rw [upd_same]
      unfold saveA
      rw [List.length_map]
      rfl
theorem scBLoad : FnScope ["self", "saved", "accounts"] ["self", "saved"] (defScope sBLoad) := ⟨rfl, rfl, rfl, by decide +kernel, rfl, by decide +kernel, by decide +kernel⟩
theorem ok_BLoad {f fL CA CB : Addr} {fd fdL : FuncData} (F : Fun K "load" "Books.load" sBLoad f fd) (T : TB K mg CB) (nr : ∃ t, mg "NOT_RIGHT_BYTES" = some (.int (-4) t)) (DL : Def K mg "loaded_accounts" sLoaded fL fdL ["saved"]) (GL : FnOk P w K mg base CX0 4 fL fdL ["saved"] (spLoaded K CA)) :
    FnOk P w K mg base CX0 5 f fd ["self", "saved"] (spBLoad K CA CB) := by
  obtain ⟨t1, h1⟩ := nr
  refine F.ok scBLoad (fun vs H Q E h => ?_) (fun cdv A outer s H vs Q E hr h => ?_)
  · obtain ⟨b, r, xs, ns, rfl, _⟩ := h
    rfl
  · obtain ⟨b, r, xs, ns, rfl, B, hR, hlen, k⟩ := h
    refine ⟨_, pss_cons (ps_set (i := 2) scBLoad.nd rfl (Or.inl rfl) (pe_call GL hr rfl DL.gl DL.fn.kp DL.bd .nil pass0 (pa_cons (pv 1) pa_nil)))
      (pss_cons (ps_if (pt_cmpR op_isN (pv 2) pe_non (nomark _)) (pss_one (ps_ret (pe_lst (pa_cons (pe_glob (v := .int (-4)) rfl h1 ⟨_, rfl⟩) pa_nil)))) pss_nil)
      (pss_cons (ps_fld (pv 0) (pv 2) rfl) (pss_one (ps_ret (pe_lst (pa_cons pe_int pa_nil)))))), ?_⟩
    refine ⟨_, rfl, r, ns, rfl, hR, hlen, fun hn H1 s1 => ?_, fun ys hy H1 l' s1 A1 => ?_⟩
    · refine ⟨_, rfl, rfl, _, rfl, iteT ⟨by decide, fun p hp => ?_⟩⟩
      have ss := s1.trans (Same.new (o := .lst [.int (-4)]) hp)
      have e := k _ p (keepOf ss)
      unfold loadX loadA at e
      rw [hn] at e
      exact e (B.same ss) (s1.free hp) upd_same
    · refine ⟨_, rfl, rfl, _, rfl, iteF ?_⟩
      obtain ⟨dx, l, hb, B'⟩ := B
      have hb1 := s1 _ _ hb
      refine ⟨_, rfl, _, rfl, b, CB, dx, _, rfl, hb1, T.cl, T.nA, (by show 1 < 1000; decide), by decide, fun p hpn => ?_⟩
      have e1 : putF "accounts" (.ref l') (bf l) = bf l' := bf_put l l'
      rw [e1] at hpn ⊢
      have acc : AccsAt CA (upd H1 b (.ins CB dx (bf l'))) l' ys := AccsAt.store (l := l) hb1 A1
      have kk : Keep b H (upd H1 b (.ins CB dx (bf l'))) := fun c o e nb => by rw [upd_ne nb]; exact s1 _ _ e
      have e := k (upd (upd H1 b (.ins CB dx (bf l'))) p (.lst [.int 0])) p (kk.trans (keepOf (Same.new hpn)))
      unfold loadX loadA at e
      rw [hy] at e
      refine e ⟨dx, l', (Same.new hpn) _ _ upd_same, acc.same (Same.new hpn)⟩ ?_ upd_same
      by_cases q : p = b
      · rw [q, upd_same] at hpn; cases hpn
      · rw [upd_ne q] at hpn; exact s1.free hpn
end
end Ew
end
section
set_option Elab.async false
set_option linter.all false
set_option maxRecDepth 100000
set_option maxHeartbeats 2000000
namespace Ew
open PySem PySem.Spec PyProof.Rows L2
abbrev sAnswers : Stmt := top 56
abbrev sAnsOf : Stmt := top 57
abbrev sAnsW : Stmt := top 58
abbrev sAnsShare : Stmt := top 59
structure Txt4 (mg : Str → Option Value) : Prop where
  share : ∃ t, mg "SHARE" = some (.int 0 t)
  begin_ : ∃ t, mg "BEGIN" = some (.int 1 t)
  book : ∃ t, mg "BOOK" = some (.int 2 t)
  pay : ∃ t, mg "PAY" = some (.int 3 t)
  told : ∃ t, mg "TOLD" = some (.int 4 t)
  settle : ∃ t, mg "SETTLE" = some (.int 5 t)
  least : ∃ t, mg "LEAST" = some (.int 6 t)
  load : ∃ t, mg "LOAD" = some (.int 8 t)
  noBooks : ∃ t, mg "NO_BOOKS" = some (.int (-9) t)
def shareA (c : Int) (row : List Int) : List Int := if canShare c row = true then (0 : Int) :: ((sharesI c (seconds row)).length : Nat) :: sharesI c (seconds row) else [-1]
structure Fine (call : Int) (nums row : List Int) : Prop where
  lo : 0 ≤ call
  hi : call ≤ 8
  n0 : call = 0 ∨ call = 1 ∨ call = 4 → nums.length = 1
  n2 : call = 2 → nums.length = 2
  n3 : call = 3 → nums.length = 3
  nn : ∀ z ∈ nums, 0 ≤ z
  rn : ∀ z ∈ row, 0 ≤ z
  rl : row.length ≤ 1000
structure Sane (xs : List A3) : Prop where
  len : xs.length ≤ 6
  sum : (posI xs).sum = 0
def awX (xs : List A3) (call : Int) (nums row : List Int) : List A3 := if call = 2 then bookX xs (nums.getD 0 0) (nums.getD 1 0) row else if call = 3 then payX xs (nums.getD 0 0) (nums.getD 1 0) (nums.getD 2 0) else xs
def awA (xs : List A3) (call : Int) (nums row : List Int) : List Int := if call = 2 then bookA xs (nums.getD 0 0) (nums.getD 1 0) row else if call = 3 then payA xs (nums.getD 0 0) (nums.getD 1 0) (nums.getD 2 0)
  else if call = 4 then toldA (nums.getD 0 0) xs else if call = 5 then settleA xs else if call = 6 then leastA xs else saveA xs
def ansX (xs : List A3) (call : Int) (nums row : List Int) : List A3 := if call = 0 then xs else if call = 1 then beginX (nums.getD 0 0) xs else if call = 8 then loadX xs row else if xs.length = 0 then xs else awX xs call nums row
def ansA (xs : List A3) (call : Int) (nums row : List Int) : List Int := if call = 0 then shareA (nums.getD 0 0) row else if call = 1 then beginA (nums.getD 0 0) else if call = 8 then loadA row else if xs.length = 0 then [-9] else awA xs call nums row
theorem getD_nn {ns : List Int} (h : ∀ z ∈ ns, 0 ≤ z) (i : Nat) : 0 ≤ ns.getD i 0 := by
  rw [List.getD_eq_getElem?_getD]
  cases e : ns[i]? with
  | none => exact Int.le_refl _
  | some y => exact h y (List.mem_of_getElem? e)
def spAnsShare (K : PySem.W.Frag) : Sp := fun vs H Q _ => ∃ (c : Int) (r : Addr) (row : List Int), vs = [.int c, .ref r] ∧ SqL K H r (row.map V.int) ∧ row.length ≤ 1000 ∧ 0 ≤ c ∧ giveL ((shareA c row).map V.int) H Q
def spAnsW (K : PySem.W.Frag) (CA CB : Addr) : Sp := fun vs H Q _ => ∃ (b n r : Addr) (xs : List A3) (call : Int) (nums row : List Int), vs = [.ref b, .int call, .ref n, .ref r] ∧ BkAt CA CB H b xs ∧ SqL K H n (nums.map V.int) ∧ SqL K H r (row.map V.int) ∧ Fine call nums row ∧ Sane xs ∧
  doesB CA CB b (awX xs call nums row) (awA xs call nums row) H Q
def spAnsOf (K : PySem.W.Frag) (CA CB : Addr) : Sp := fun vs H Q _ => ∃ (b n r : Addr) (xs : List A3) (call : Int) (nums row : List Int), vs = [.ref b, .int call, .ref n, .ref r] ∧ BkAt CA CB H b xs ∧ SqL K H n (nums.map V.int) ∧ SqL K H r (row.map V.int) ∧ Fine call nums row ∧ Sane xs ∧
  doesB CA CB b (ansX xs call nums row) (ansA xs call nums row) H Q
section
variable {P : Program} {w : World} {K : PySem.W.Frag} {mg : Str → Option Value} {base : Heap}
theorem scAnsShare : FnScope ["charge", "row", "units"] ["charge", "row"] (defScope sAnsShare) := ⟨rfl, rfl, rfl, by decide +kernel, rfl, by decide +kernel, by decide +kernel⟩
theorem ok_ansShare {f CB : Addr} {fd : FuncData} (F : Fun K "answer_of_share" "answer_of_share" sAnsShare f fd) (X : Txt mg) (T : TB K mg CB) (SH : Shares K mg) : FnOk P w K mg base CX0 3 f fd ["charge", "row"] (spAnsShare K) := by
  obtain ⟨f1, f2, f3, f4, f5, f6, f7, d1, d2, d3, d4, d5, d6, d7, D1, D2, D3, D4, D5, D6, D7⟩ := SH.ex
  have GC : FnOk P w K mg base CX0 2 f5 d5 ["charge", "row"] (spCan K) := ok_can D5.fn X D1 D2 D3 D4
  have G2 : FnOk P w K mg base CX0 2 f2 d2 ["row"] (spSeconds K) := (ok_seconds D2.fn X).mono (by omega)
  have G6 : FnOk P w K mg base CX0 2 f6 d6 ["charge", "weights"] (spShared K) := ok_shared D6.fn X D7
  obtain ⟨t1, h1⟩ := T.wrong
  refine F.ok scAnsShare (fun vs H Q E h => ?_) (fun cdv A outer s H vs Q E hr h => ?_)
  · obtain ⟨c, r, row, rfl, _⟩ := h
    rfl
  · obtain ⟨c, r, row, rfl, hR, hlen, c0, k⟩ := h
    refine ⟨_, pss_cons (ps_if (pt_not (pt_val (pe_call GC hr rfl D5.gl D5.fn.kp D5.bd .nil pass0 (pa_cons (pv 0) (pa_cons (pv 1) pa_nil))))) (pss_one (ps_ret (pe_lst (pa_cons (pe_glob (v := .int (-1)) rfl h1 ⟨_, rfl⟩) pa_nil)))) pss_nil)
      (pss_cons (ps_set (i := 2) scAnsShare.nd rfl (Or.inl rfl) (pe_call G6 hr rfl D6.gl D6.fn.kp D6.bd .nil pass0 (pa_cons (pv 0) (pa_cons (pe_call G2 hr rfl D2.gl D2.fn.kp D2.bd .nil pass0 (pa_cons (pv 1) pa_nil)) pa_nil))))
      (pss_one (ps_ret (pe_op op_cat (pe_lst (pa_cons pe_int (pa_cons (pe_callB call_len_seq (by rfl) X.len PySem.boot_len (pa_cons (pv 2) pa_nil)) pa_nil))) (pv 2))))), ?_⟩
    refine ⟨_, rfl, _, rfl, c, r, row, rfl, hR, by omega, fun H1 s1 => ⟨_, rfl, ite2 (fun c1 => ?_) (fun c1 => ?_)⟩⟩
    · refine ⟨by decide, fun p hp => ?_⟩
      have e := k _ p (s1.trans (Same.new (o := .lst [.int (-1)]) hp)) (s1.free hp)
      unfold shareA at e
      rw [if_neg (fun z => by rw [z] at c1; cases c1)] at e
      exact e upd_same
    have can : canShare c row = true := by
      cases q : canShare c row with
      | true => rfl
      | false => rw [q] at c1; exact absurd rfl c1
    have cb := canBe can
    have lw : (seconds row).length ≤ 6 := by have := cb.le; rw [seconds_length]; omega
    have lw1 : 1 ≤ (seconds row).length := by have := cb.ne; have := cb.even; rw [seconds_length]; omega
    have wsum := ws_sum cb.ws
    refine ⟨_, rfl, _, rfl, r, row, rfl, s1.seq hR, by omega, fun H2 W s2 fW hW => ?_⟩
    refine ⟨c, W, seconds row, rfl, SqL.of hW, ⟨c0, cb.charge⟩, lw, by omega, by omega, fun H3 q s3 fq hq => ?_⟩
    refine ⟨_, rfl, q, _, rfl, .inl (SqL.of hq), by show 2 ≤ sizeLine; decide, fun z hz => ?_⟩
    have s5 := Same.new (o := .lst [V.int 0, V.int (((sharesI c (seconds row)).map V.int).length : Nat)]) hz
    refine ⟨_, rfl, z, q, _, _, rfl, rfl, upd_same, s5 _ _ hq, ?_, fun p hp => ?_⟩
    · rw [List.length_map, sharesI_length]
      exact Nat.le_trans (show _ ≤ 100 by show 2 + _ ≤ 100; omega) (by decide)
    · have ss := ((s1.trans s2).trans s3).trans s5
      refine k _ p (ss.trans (Same.new hp)) (ss.free hp) ?_
      rw [upd_same]
      unfold shareA
      rw [if_pos can, List.length_map]
      rfl
theorem scAnsW : FnScope ["books", "call", "numbers", "row"] ["books", "call", "numbers", "row"] (defScope sAnsW) := ⟨rfl, rfl, rfl, by decide +kernel, rfl, by decide +kernel, by decide +kernel⟩
theorem ok_ansW {f CA CB f1 f2 f3 f4 f5 f6 : Addr} {fd d1 d2 d3 d4 d5 d6 : FuncData} (F : Fun K "answer_with_books" "answer_with_books" sAnsW f fd) (T : TB K mg CB) (T4 : Txt4 mg)
    (M1 : Mth K CB "book" "Books.book" sBBook f1 d1 ["self", "by", "charge", "row"]) (G1 : FnOk P w K mg base CX0 9 f1 d1 ["self", "by", "charge", "row"] (spBBook K CA CB))
    (M2 : Mth K CB "pay" "Books.pay" sBPay f2 d2 ["self", "start", "to", "units"]) (G2 : FnOk P w K mg base CX0 9 f2 d2 ["self", "start", "to", "units"] (spBPay CA CB))
    (M3 : Mth K CB "told" "Books.told" sBTold f3 d3 ["self", "company"]) (G3 : FnOk P w K mg base CX0 9 f3 d3 ["self", "company"] (spBTold CA CB))
    (M4 : Mth K CB "settle" "Books.settle" sBSettle f4 d4 ["self"]) (G4 : FnOk P w K mg base CX0 9 f4 d4 ["self"] (spBSettle CA CB))
    (M5 : Mth K CB "least" "Books.least" sBLeast f5 d5 ["self"]) (G5 : FnOk P w K mg base CX0 9 f5 d5 ["self"] (spBLeast CA CB))
    (M6 : Mth K CB "save" "Books.save" sBSave f6 d6 ["self"]) (G6 : FnOk P w K mg base CX0 9 f6 d6 ["self"] (spBSave CA CB)) :
    FnOk P w K mg base CX0 10 f fd ["books", "call", "numbers", "row"] (spAnsW K CA CB) := by
  obtain ⟨t2, h2⟩ := T4.book
  obtain ⟨t3, h3⟩ := T4.pay
  obtain ⟨t4, h4⟩ := T4.told
  obtain ⟨t5, h5⟩ := T4.settle
  obtain ⟨t6, h6⟩ := T4.least
  refine F.ok scAnsW (fun vs H Q E h => ?_) (fun cdv A outer s H vs Q E hr h => ?_)
  · obtain ⟨b, n, r, xs, call, nums, row, rfl, _⟩ := h
    rfl
  · obtain ⟨b, n, r, xs, call, nums, row, rfl, B, hN, hR, fi, sa, k⟩ := h
    refine ⟨_, pss_cons (ps_if (pt_cmpR op_eq (pv 1) (pe_glob (v := .int 2) rfl h2 ⟨_, rfl⟩) (nomark _)) (pss_one (ps_ret (pe_meth (pv 0) T.cl M1.mt G1 hr M1.bd .nil pass0 (pa_cons (pe_ix ix_list (pv 2) pe_int (fun _ _ => rfl)) (pa_cons (pe_ix ix_list (pv 2) pe_int (fun _ _ => rfl)) (pa_cons (pv 3) pa_nil)))))) pss_nil)
      (pss_cons (ps_if (pt_cmpR op_eq (pv 1) (pe_glob (v := .int 3) rfl h3 ⟨_, rfl⟩) (nomark _)) (pss_one (ps_ret (pe_meth (pv 0) T.cl M2.mt G2 hr M2.bd .nil pass0 (pa_cons (pe_ix ix_list (pv 2) pe_int (fun _ _ => rfl)) (pa_cons (pe_ix ix_list (pv 2) pe_int (fun _ _ => rfl)) (pa_cons (pe_ix ix_list (pv 2) pe_int (fun _ _ => rfl)) pa_nil)))))) pss_nil)
      (pss_cons (ps_if (pt_cmpR op_eq (pv 1) (pe_glob (v := .int 4) rfl h4 ⟨_, rfl⟩) (nomark _)) (pss_one (ps_ret (pe_meth (pv 0) T.cl M3.mt G3 hr M3.bd .nil pass0 (pa_cons (pe_ix ix_list (pv 2) pe_int (fun _ _ => rfl)) pa_nil)))) pss_nil)
      (pss_cons (ps_if (pt_cmpR op_eq (pv 1) (pe_glob (v := .int 5) rfl h5 ⟨_, rfl⟩) (nomark _)) (pss_one (ps_ret (pe_meth0 (pv 0) T.cl M4.mt G4 hr M4.bd .nil pass0))) pss_nil)
      (pss_cons (ps_if (pt_cmpR op_eq (pv 1) (pe_glob (v := .int 6) rfl h6 ⟨_, rfl⟩) (nomark _)) (pss_one (ps_ret (pe_meth0 (pv 0) T.cl M5.mt G5 hr M5.bd .nil pass0))) pss_nil)
      (pss_one (ps_ret (pe_meth0 (pv 0) T.cl M6.mt G6 hr M6.bd .nil pass0))))))), ?_⟩
    obtain ⟨dx, l, hb, _⟩ := id B
    unfold awX awA at k
    refine ⟨_, rfl, rfl, _, rfl, ite2 (fun c1 => ?_) (fun c1 => ?_)⟩
    · have e := eqI.mp c1
      rw [if_pos e, if_pos e] at k
      have ln := fi.n2 e
      exact ⟨_, rfl, b, dx, _, rfl, hb, bf_no _ (by decide +kernel), _, rfl, n, _, _, V.int (nums.getD 0 0), rfl, rfl, hN, at_of (j := 0) rfl (ints_at (by omega)), _, rfl, n, _, _, V.int (nums.getD 1 0), rfl, rfl, hN, at_of (j := 1) rfl (ints_at (by omega)), _, rfl, b, r, xs, nums.getD 0 0, nums.getD 1 0, row, rfl, B, hR, fi.rl, getD_nn fi.nn 0, getD_nn fi.nn 1, fi.rn, k⟩
    have e2 : ¬ call = 2 := fun z => c1 (eqI.mpr z)
    rw [if_neg e2, if_neg e2] at k
    refine ⟨_, rfl, rfl, _, rfl, ite2 (fun c2 => ?_) (fun c2 => ?_)⟩
    · have e := eqI.mp c2
      rw [if_pos e, if_pos e] at k
      have ln := fi.n3 e
      exact ⟨_, rfl, b, dx, _, rfl, hb, bf_no _ (by decide +kernel), _, rfl, n, _, _, V.int (nums.getD 0 0), rfl, rfl, hN, at_of (j := 0) rfl (ints_at (by omega)), _, rfl, n, _, _, V.int (nums.getD 1 0), rfl, rfl, hN, at_of (j := 1) rfl (ints_at (by omega)), _, rfl, n, _, _, V.int (nums.getD 2 0), rfl, rfl, hN, at_of (j := 2) rfl (ints_at (by omega)), b, xs, nums.getD 0 0, nums.getD 1 0, nums.getD 2 0, rfl, B, getD_nn fi.nn 0, getD_nn fi.nn 1, k⟩
    have e3 : ¬ call = 3 := fun z => c2 (eqI.mpr z)
    rw [if_neg e3, if_neg e3] at k
    refine ⟨_, rfl, rfl, _, rfl, ite2 (fun c3 => ?_) (fun c3 => ?_)⟩
    · have e := eqI.mp c3
      rw [if_pos e] at k
      have ln := fi.n0 (.inr (.inr e))
      exact ⟨_, rfl, b, dx, _, rfl, hb, bf_no _ (by decide +kernel), _, rfl, n, _, _, V.int (nums.getD 0 0), rfl, rfl, hN, at_of (j := 0) rfl (ints_at (by omega)), b, xs, nums.getD 0 0, rfl, B, getD_nn fi.nn 0, k⟩
    have e4 : ¬ call = 4 := fun z => c3 (eqI.mpr z)
    rw [if_neg e4] at k
    refine ⟨_, rfl, rfl, _, rfl, ite2 (fun c4 => ?_) (fun c4 => ?_)⟩
    · have e := eqI.mp c4
      rw [if_pos e] at k
      exact ⟨_, rfl, b, dx, _, rfl, hb, bf_no _ (by decide +kernel), b, xs, rfl, B, sa.len, sa.sum, k⟩
    have e5 : ¬ call = 5 := fun z => c4 (eqI.mpr z)
    rw [if_neg e5] at k
    refine ⟨_, rfl, rfl, _, rfl, ite2 (fun c5 => ?_) (fun c5 => ?_)⟩
    · have e := eqI.mp c5
      rw [if_pos e] at k
      exact ⟨_, rfl, b, dx, _, rfl, hb, bf_no _ (by decide +kernel), b, xs, rfl, B, sa.len, sa.sum, k⟩
    have e6 : ¬ call = 6 := fun z => c5 (eqI.mpr z)
    rw [if_neg e6] at k
    exact ⟨_, rfl, b, dx, _, rfl, hb, bf_no _ (by decide +kernel), b, xs, rfl, B, sa.len, k⟩
theorem scAnsOf : FnScope ["books", "call", "numbers", "row"] ["books", "call", "numbers", "row"] (defScope sAnsOf) := ⟨rfl, rfl, rfl, by decide +kernel, rfl, by decide +kernel, by decide +kernel⟩
theorem ok_ansOf {f CA CB f1 f2 f3 f4 f5 : Addr} {fd d1 d2 d3 d4 d5 : FuncData} (F : Fun K "answer_of" "answer_of" sAnsOf f fd) (T : TB K mg CB) (T4 : Txt4 mg)
    (D1 : Def K mg "answer_of_share" sAnsShare f1 d1 ["charge", "row"]) (G1 : FnOk P w K mg base CX0 10 f1 d1 ["charge", "row"] (spAnsShare K))
    (M2 : Mth K CB "begin" "Books.begin" sBBegin f2 d2 ["self", "companies"]) (G2 : FnOk P w K mg base CX0 10 f2 d2 ["self", "companies"] (spBBegin CA CB))
    (M3 : Mth K CB "load" "Books.load" sBLoad f3 d3 ["self", "saved"]) (G3 : FnOk P w K mg base CX0 10 f3 d3 ["self", "saved"] (spBLoad K CA CB))
    (M4 : Mth K CB "are_there" "Books.are_there" sBAre f4 d4 ["self"]) (G4 : FnOk P w K mg base CX0 10 f4 d4 ["self"] (spBAre CA CB))
    (D5 : Def K mg "answer_with_books" sAnsW f5 d5 ["books", "call", "numbers", "row"]) (G5 : FnOk P w K mg base CX0 10 f5 d5 ["books", "call", "numbers", "row"] (spAnsW K CA CB)) :
    FnOk P w K mg base CX0 11 f fd ["books", "call", "numbers", "row"] (spAnsOf K CA CB) := by
  obtain ⟨t0, h0⟩ := T4.share
  obtain ⟨t1, h1⟩ := T4.begin_
  obtain ⟨t8, h8⟩ := T4.load
  obtain ⟨t9, h9⟩ := T4.noBooks
  refine F.ok scAnsOf (fun vs H Q E h => ?_) (fun cdv A outer s H vs Q E hr h => ?_)
  · obtain ⟨b, n, r, xs, call, nums, row, rfl, _⟩ := h
    rfl
  · obtain ⟨b, n, r, xs, call, nums, row, rfl, B, hN, hR, fi, sa, k⟩ := h
    refine ⟨_, pss_cons (ps_if (pt_cmpR op_eq (pv 1) (pe_glob (v := .int 0) rfl h0 ⟨_, rfl⟩) (nomark _)) (pss_one (ps_ret (pe_call G1 hr rfl D1.gl D1.fn.kp D1.bd .nil pass0 (pa_cons (pe_ix ix_list (pv 2) pe_int (fun _ _ => rfl)) (pa_cons (pv 3) pa_nil))))) pss_nil)
      (pss_cons (ps_if (pt_cmpR op_eq (pv 1) (pe_glob (v := .int 1) rfl h1 ⟨_, rfl⟩) (nomark _)) (pss_one (ps_ret (pe_meth (pv 0) T.cl M2.mt G2 hr M2.bd .nil pass0 (pa_cons (pe_ix ix_list (pv 2) pe_int (fun _ _ => rfl)) pa_nil)))) pss_nil)
      (pss_cons (ps_if (pt_cmpR op_eq (pv 1) (pe_glob (v := .int 8) rfl h8 ⟨_, rfl⟩) (nomark _)) (pss_one (ps_ret (pe_meth (pv 0) T.cl M3.mt G3 hr M3.bd .nil pass0 (pa_cons (pv 3) pa_nil)))) pss_nil)
      (pss_cons (ps_if (pt_not (pt_val (pe_meth0 (pv 0) T.cl M4.mt G4 hr M4.bd .nil pass0))) (pss_one (ps_ret (pe_lst (pa_cons (pe_glob (v := .int (-9)) rfl h9 ⟨_, rfl⟩) pa_nil)))) pss_nil)
      (pss_one (ps_ret (pe_call G5 hr rfl D5.gl D5.fn.kp D5.bd .nil pass0 (pa_cons (pv 0) (pa_cons (pv 1) (pa_cons (pv 2) (pa_cons (pv 3) pa_nil)))))))))), ?_⟩
    obtain ⟨dx, l, hb, _⟩ := id B
    unfold ansX ansA at k
    refine ⟨_, rfl, rfl, _, rfl, ite2 (fun c1 => ?_) (fun c1 => ?_)⟩
    · have e := eqI.mp c1
      rw [if_pos e, if_pos e] at k
      have ln := fi.n0 (.inl e)
      exact ⟨_, rfl, n, _, _, V.int (nums.getD 0 0), rfl, rfl, hN, at_of (j := 0) rfl (ints_at (by omega)), _, rfl, nums.getD 0 0, r, row, rfl, hR, fi.rl, getD_nn fi.nn 0, fun H' p s' fp hp => k H' p (keepOf s') (B.same s') fp hp⟩
    have e0 : ¬ call = 0 := fun z => c1 (eqI.mpr z)
    rw [if_neg e0, if_neg e0] at k
    refine ⟨_, rfl, rfl, _, rfl, ite2 (fun c2 => ?_) (fun c2 => ?_)⟩
    · have e := eqI.mp c2
      rw [if_pos e, if_pos e] at k
      have ln := fi.n0 (.inr (.inl e))
      exact ⟨_, rfl, b, dx, _, rfl, hb, bf_no _ (by decide +kernel), _, rfl, n, _, _, V.int (nums.getD 0 0), rfl, rfl, hN, at_of (j := 0) rfl (ints_at (by omega)), b, xs, nums.getD 0 0, rfl, B, k⟩
    have e1 : ¬ call = 1 := fun z => c2 (eqI.mpr z)
    rw [if_neg e1, if_neg e1] at k
    refine ⟨_, rfl, rfl, _, rfl, ite2 (fun c3 => ?_) (fun c3 => ?_)⟩
    · have e := eqI.mp c3
      rw [if_pos e, if_pos e] at k
      exact ⟨_, rfl, b, dx, _, rfl, hb, bf_no _ (by decide +kernel), _, rfl, b, r, xs, row, rfl, B, hR, fi.rl, k⟩
    have e8 : ¬ call = 8 := fun z => c3 (eqI.mpr z)
    rw [if_neg e8, if_neg e8] at k
    refine ⟨_, rfl, b, dx, _, rfl, hb, bf_no _ (by decide +kernel), b, xs, rfl, B, _, rfl, ite2 (fun c4 => ?_) (fun c4 => ?_)⟩
    · have z : xs.length = 0 := Classical.byContradiction fun h => by rw [decide_eq_true (show 0 < xs.length by omega)] at c4; cases c4
      rw [if_pos z, if_pos z] at k
      refine ⟨by decide, fun p hp => ?_⟩
      exact k _ p (keepOf (Same.new hp)) (B.same (Same.new hp)) hp upd_same
    · have z : ¬ xs.length = 0 := fun h => by rw [decide_eq_false (show ¬ 0 < xs.length by omega)] at c4; exact c4 rfl
      rw [if_neg z, if_neg z] at k
      exact ⟨_, rfl, _, rfl, _, rfl, _, rfl, b, n, r, xs, call, nums, row, rfl, B, hN, hR, fi, sa, k⟩
end
end Ew
end
section
set_option Elab.async false
set_option linter.all false
set_option maxRecDepth 100000
set_option maxHeartbeats 2000000
namespace Ew
open PySem PySem.Spec PyProof.Rows L2
def manyN (p : Int) : Nat := [1, 1, 2, 3, 1, 0, 0, 0, 0].getD p.toNat 0
def rowB (p : Int) : Bool := [true, false, true, false, false, false, false, false, true].getD p.toNat false
structure Txt5 (K : PySem.W.Frag) (mg : Str → Option Value) : Prop where
  many : ∃ m, mg "HOW_MANY_NUMBERS" = some (.ref m) ∧ ∀ H : Hp, SqT K H m ([1, 1, 2, 3, 1, 0, 0, 0, 0].map V.int)
  has : ∃ m, mg "HAS_ROW" = some (.ref m) ∧ ∀ H : Hp, SqT K H m ([true, false, true, false, false, false, false, false, true].map V.bl)
/-- a call as it was read -/
structure Shape (c : List (List Int)) (p : Int) (nums row : List Int) : Prop where
  lo : 0 ≤ p
  hi : p ≤ 8
  len : nums.length = manyN p
  is : if rowB p = true then c = [p :: nums, row] else c = [p :: nums] ∧ row = []
theorem shape_of {p : Int} {n k : Nat} (h : PyWrcblc.shape p = some (n, k)) : 0 ≤ p ∧ p ≤ 8 ∧ n = manyN p ∧ k = if rowB p = true then 1 else 0 := by
  unfold PyWrcblc.shape at h
  split at h
  · next e => subst e; injection h with h; injection h with h1 h2; subst h1 h2; decide
  split at h
  · next e => subst e; injection h with h; injection h with h1 h2; subst h1 h2; decide
  split at h
  · next e => subst e; injection h with h; injection h with h1 h2; subst h1 h2; decide
  split at h
  · next e => subst e; injection h with h; injection h with h1 h2; subst h1 h2; decide
  split at h
  · next e => subst e; injection h with h; injection h with h1 h2; subst h1 h2; decide
  split at h
  · next e => subst e; injection h with h; injection h with h1 h2; subst h1 h2; decide
  split at h
  · next e => subst e; injection h with h; injection h with h1 h2; subst h1 h2; decide
  split at h
  · next e => subst e; injection h with h; injection h with h1 h2; subst h1 h2; decide
  split at h
  · next e => subst e; injection h with h; injection h with h1 h2; subst h1 h2; decide
  cases h
/-- one call read: where it ends -/
theorem call_read {p : Int} {r : List Int} {c : List (List Int)} {t : List Int} (h : PyFlat.call PyWrcblc.shape (p :: r) = some (c, t)) :
    manyN p ≤ r.length ∧ 0 ≤ p ∧ p ≤ 8 ∧ ((rowB p = true ∧ ∃ m r2, r.drop (manyN p) = m :: r2 ∧ 0 ≤ m ∧ m.toNat ≤ r2.length ∧ c = [p :: r.take (manyN p), r2.take m.toNat] ∧ t = r2.drop m.toNat) ∨ (rowB p = false ∧ c = [p :: r.take (manyN p)] ∧ t = r.drop (manyN p))) := by
  have h : (match PyWrcblc.shape p with | none => none | some (n, k) => if r.length < n then none else match PyFlat.rows k (r.drop n) with | none => none | some (xs, t) => some ((p :: r.take n) :: xs, t)) = some (c, t) := h
  cases hs : PyWrcblc.shape p with
  | none => rw [hs] at h; cases h
  | some nk =>
    obtain ⟨n, k⟩ := nk
    rw [hs] at h
    obtain ⟨lo, hi, rfl, rfl⟩ := shape_of hs
    simp only at h
    by_cases hl : r.length < manyN p
    · rw [if_pos hl] at h; cases h
    rw [if_neg hl] at h
    refine ⟨by omega, lo, hi, ?_⟩
    cases hb : rowB p with
    | false =>
      rw [hb, if_neg (by decide)] at h
      have e : PyFlat.rows 0 (r.drop (manyN p)) = some ([], r.drop (manyN p)) := rfl
      rw [e] at h
      injection h with h
      injection h with h1 h2
      exact .inr ⟨rfl, h1.symm, h2.symm⟩
    | true =>
      rw [hb, if_pos rfl] at h
      left
      refine ⟨rfl, ?_⟩
      cases hd : r.drop (manyN p) with
      | nil => rw [hd] at h; cases h
      | cons m r2 =>
        rw [hd] at h
        have e : PyFlat.rows 1 (m :: r2) = (match PyFlat.row (m :: r2) with | none => none | some (x, s) => some ([x], s)) := rfl
        rw [e] at h
        have e2 : PyFlat.row (m :: r2) = if 0 ≤ m ∧ m.toNat ≤ r2.length then some (r2.take m.toNat, r2.drop m.toNat) else none := rfl
        by_cases hm : 0 ≤ m ∧ m.toNat ≤ r2.length
        · rw [e2, if_pos hm] at h
          injection h with h
          injection h with h1 h2
          exact ⟨m, r2, rfl, hm.1, hm.2, h1.symm, h2.symm⟩
        · rw [e2, if_neg hm] at h; cases h
theorem told_length {xs : List A3} {n : Int} : (toldA n xs).length ≤ 300 := by
  unfold toldA
  cases xs[n.toNat]? with
  | none => show 1 ≤ 300; decide
  | some x => show 5 ≤ 300; decide
theorem saved_length (xs : List A3) : (savedI xs).length = 9 + 32 * xs.length := by
  unfold savedI plainI
  rw [List.length_append, List.length_append, accs_length, lowI_length]
  show 5 + _ + 4 = _
  omega
theorem takeA_length (ys : List A3) : (takeA ys).length ≤ 300 := by unfold takeA; split <;> decide
theorem flat3 (l : List CbAcc.Pay) : (l.flatMap payRow).length = 3 * l.length := by
  induction l with
  | nil => rfl
  | cons u l ih => rw [List.flatMap_cons, List.length_append, ih, List.length_cons]; show 3 + _ = _; omega
theorem ans_length {xs : List A3} {p : Int} {nums row : List Int} (sa : Sane xs) : (ansA xs p nums row).length ≤ 300 := by
  have hp : (posI xs).length ≤ 6 := by unfold posI; rw [List.length_map]; exact sa.len
  unfold ansA
  split
  · unfold shareA
    split
    · next h =>
      have := (canBe h).le
      rw [List.length_cons, List.length_cons, sharesI_length, seconds_length]; omega
    · decide
  split
  · unfold beginA; split <;> decide
  split
  · unfold loadA
    split <;> decide
  split
  · decide
  unfold awA
  split
  · unfold bookA; split
    · decide
    · exact takeA_length _
  split
  · unfold payA; split
    · decide
    · exact takeA_length _
  split
  · exact told_length
  split
  · unfold settleA setNs
    rw [List.length_cons, List.length_cons, flat3]
    have := settle_len sa.sum hp
    omega
  split
  · show 3 ≤ 300; decide
  · unfold saveA
    rw [List.length_cons, List.length_cons, saved_length]
    have := sa.len
    omega
def spAnswers (K : PySem.W.Frag) : Sp := fun vs H Q _ => ∃ (a : Addr) (ns : List Int), vs = [.ref a] ∧ SqL K H a (ns.map V.int) ∧ ns.length ≤ 19000 ∧ PyWrcblc.answers_asked ns = true ∧ ∀ (H' : Hp) (p : Addr), H' p = some (.lst ((PyWrcblc.answers ns).map V.int)) → Q (.ref p) H'
/-- what is to be shown of the specification's step -/
structure Steps (St : AccountNs.State → List A3 → Prop) : Prop where
  start : St AccountNs.start []
  sane : ∀ s xs, St s xs → Sane xs
  fine : ∀ c p nums row, AccountNeutral.asked1 (PyWrcblc.whole c) = true → Shape c p nums row → Fine p nums row
  step : ∀ s xs c p nums row, St s xs → AccountNeutral.asked1 (PyWrcblc.whole c) = true → Shape c p nums row →
    (AccountNeutral.step s (PyWrcblc.whole c)).2 = ansA xs p nums row ∧ St (AccountNeutral.step s (PyWrcblc.whole c)).1 (ansX xs p nums row)
structure Going (St : AccountNs.State → List A3 → Prop) (CA CB : Addr) (H : Hp) (b Ad : Addr) (ns R : List Int) (at_ : Nat) (H' : Hp) : Prop where
  ex : ∃ (s : AccountNs.State) (xs : List A3) (acc : List Int) (f : Nat) (cs : List (List (List Int))), Same H H' ∧ BkAt CA CB (hide H' Ad) b xs ∧ H' Ad = some (.lst (acc.map V.int)) ∧ St s xs ∧ PyFlat.calls PyWrcblc.shape f (ns.drop at_) = some cs ∧ (∀ c ∈ cs, AccountNeutral.asked1 (PyWrcblc.whole c) = true) ∧
    acc ++ PyFlat.told (PyFlat.played AccountNeutral.step s (cs.map PyWrcblc.whole)) = R ∧ acc.length + 301 * cs.length ≤ 130000 ∧ at_ ≤ ns.length
section
variable {P : Program} {w : World} {K : PySem.W.Frag} {mg : Str → Option Value} {base : Heap}
theorem scAnswers : FnScope ["calls", "books", "answered", "at", "call", "behind_numbers", "numbers", "row", "answer"] ["calls"] (defScope sAnswers) := ⟨rfl, rfl, rfl, by decide +kernel, rfl, by decide +kernel, by decide +kernel⟩
def slotN (σ : L2.St) (i : Nat) : Nat := match σ[i]? with
  | some (some (.int z)) => z.toNat
  | _ => 0
theorem many_at {p : Int} (lo : 0 ≤ p) (hi : p ≤ 8) : atI ([1, 1, 2, 3, 1, 0, 0, 0, 0].map V.int) p = some (V.int (manyN p : Nat)) := by
  refine at_of (j := p.toNat) (by omega) ?_
  have : ∀ n : Nat, n < 9 → ([1, 1, 2, 3, 1, 0, 0, 0, 0].map V.int)[n]? = some (V.int (([1, 1, 2, 3, 1, 0, 0, 0, 0] : List Nat).getD n 0 : Nat)) := by decide
  exact this _ (by omega)
theorem has_at {p : Int} (lo : 0 ≤ p) (hi : p ≤ 8) : atI ([true, false, true, false, false, false, false, false, true].map V.bl) p = some (V.bl (rowB p)) := by
  refine at_of (j := p.toNat) (by omega) ?_
  have : ∀ n : Nat, n < 9 → ([true, false, true, false, false, false, false, false, true].map V.bl)[n]? = some (V.bl ([true, false, true, false, false, false, false, false, true].getD n false)) := by decide
  exact this _ (by omega)
theorem ok_answers {St : AccountNs.State → List A3 → Prop} {f CA CB fI fO : Addr} {fd dI dO : FuncData} (S : Steps St) (F : Fun K "answers" "answers" sAnswers f fd) (X : Txt mg) (T : TB K mg CB) (T5 : Txt5 K mg)
    (IB : MkI K CB "Books.__init__" sBInit fI dI ["self"]) (DO : Def K mg "answer_of" sAnsOf fO dO ["books", "call", "numbers", "row"]) (GO : FnOk P w K mg base CX0 11 fO dO ["books", "call", "numbers", "row"] (spAnsOf K CA CB)) :
    FnOk P w K mg base CX0 12 f fd ["calls"] (spAnswers K) := by
  have GI : FnOk P w K mg base CX0 10 fI dI ["self"] (spBInit CA CB) := (ok_BInit IB.fn T).mono (by omega)
  obtain ⟨mA, hm, hmS⟩ := T5.many
  obtain ⟨rA, hh, hhS⟩ := T5.has
  refine F.ok scAnswers (fun vs H Q E h => ?_) (fun cdv A outer s H vs Q E hr h => ?_)
  · obtain ⟨a, ns, rfl, _⟩ := h
    rfl
  · obtain ⟨a, ns, rfl, hS, hlen, hask, k⟩ := h
    refine ⟨_, (pss_cons (ps_set (i := 1) scAnswers.nd rfl (Or.inl rfl) (pe_make0 IB.mak GI hr rfl T.gl IB.bd .nil pass0))
        (pss_cons (ps_set (i := 2) scAnswers.nd rfl (Or.inl rfl) (pe_lst pa_nil))
        (pss_cons (ps_set (i := 3) scAnswers.nd rfl (Or.inl rfl) pe_int)
        (pss_cons (ps_while PassesOwn.never (pt_cmpR op_lt (pv 3) (pe_callB call_len_seq (by rfl) X.len PySem.boot_len (pa_cons (pv 0) pa_nil)) (nomark _)) (pss_cons (ps_set (i := 4) scAnswers.nd rfl (Or.inl rfl) (pe_ix ix_list (pv 0) (pv 3) (fun _ _ => rfl)))
        (pss_cons (ps_set (i := 5) scAnswers.nd rfl (Or.inl rfl) (pe_op op_add (pe_op op_add (pv 3) pe_int) (pe_ix ix_tup (pe_glob (v := .ref mA) rfl hm rfl) (pv 4) (fun _ _ => rfl))))
        (pss_cons (ps_set (i := 6) scAnswers.nd rfl (Or.inl rfl) (pe_slice sl_list (pv 0) (po_some (pe_op op_add (pv 3) pe_int)) (po_some (pv 5))))
        (pss_cons (ps_set (i := 3) scAnswers.nd rfl (Or.inl rfl) (pv 5))
        (pss_cons (ps_set (i := 7) scAnswers.nd rfl (Or.inl rfl) (pe_lst pa_nil))
        (pss_cons (ps_if (pt_val (pe_ix ix_tup (pe_glob (v := .ref rA) rfl hh rfl) (pv 4) (fun _ _ => rfl))) (pss_cons (ps_set (i := 3) scAnswers.nd rfl (Or.inl rfl) (pe_op op_add (pe_op op_add (pv 5) pe_int) (pe_ix ix_list (pv 0) (pv 5) (fun _ _ => rfl))))
        (pss_one (ps_set (i := 7) scAnswers.nd rfl (Or.inl rfl) (pe_slice sl_list (pv 0) (po_some (pe_op op_add (pv 5) pe_int)) (po_some (pv 3)))))) pss_nil)
        (pss_cons (ps_set (i := 8) scAnswers.nd rfl (Or.inl rfl) (pe_lock (pe_call GO hr rfl DO.gl DO.fn.kp DO.bd .nil pass0 (pa_cons (pv 1) (pa_cons (pv 4) (pa_cons (pv 6) (pa_cons (pv 7) pa_nil)))))))
        (pss_cons (ps_expr (pe_bm PySem.F.plainAttrs_list PySem.F.slot_list_append PySem.F.type_list_append mt_append (pv 2) (pa_cons (pe_callB call_len_seq (by rfl) X.len PySem.boot_len (pa_cons (pv 8) pa_nil)) pa_nil)))
        (pss_one (ps_expr (pe_bm PySem.F.plainAttrs_list PySem.F.slot_list_extend PySem.F.type_list_extend mt_extend (pv 2) (pa_cons (pv 8) pa_nil)))))))))))))
        (pss_one (ps_ret (pv 2))))))), ?_⟩
    intro b db nb ndb neb
    refine ⟨b, db, rfl, upd_same, fun H1 B1 k1 => ⟨rfl, ?_⟩⟩
    have s1 : Same H H1 := Same.made nb ndb k1
    refine ⟨Nat.zero_le _, fun Ad hAd => ?_⟩
    have s2 := Same.new (o := .lst []) hAd
    have fAd : H Ad = none := s1.free hAd
    -- what is asked
    obtain ⟨cs0, hcs0, hn0, ha0⟩ : ∃ cs0, PyFlat.calls PyWrcblc.shape ns.length ns = some cs0 ∧ cs0.length ≤ 400 ∧ ∀ c ∈ cs0, AccountNeutral.asked1 (PyWrcblc.whole c) = true := by
      unfold PyWrcblc.answers_asked PyWrcblc.calls at hask
      cases e : PyFlat.calls PyWrcblc.shape ns.length ns with
      | none => rw [e] at hask; cases hask
      | some cs0 =>
        rw [e] at hask
        have h2 : (PyFlat.atMost 400 (cs0.map PyWrcblc.whole) && AccountNeutral.asked (cs0.map PyWrcblc.whole)) = true := hask
        rw [Bool.and_eq_true] at h2
        unfold PyFlat.atMost AccountNeutral.asked at h2
        rw [decide_eq_true_eq, List.length_map, Bool.and_eq_true] at h2
        refine ⟨cs0, rfl, h2.1, fun c hc => ?_⟩
        exact List.all_eq_true.mp h2.2.2 _ (List.mem_map_of_mem hc)
    let R := PyWrcblc.answers ns
    have eR : PyFlat.told (PyFlat.played AccountNeutral.step AccountNs.start (cs0.map PyWrcblc.whole)) = R := by
      show _ = PyWrcblc.answers ns
      unfold PyWrcblc.answers PyWrcblc.calls
      rw [hcs0]
      rfl
    have nbA : b ≠ Ad := by
      obtain ⟨dx, l, hb, _⟩ := B1
      exact ne_of_none hb hAd
    refine while_by (fun σ H' => ∃ (at_ : Nat) (v4 v5 v6 v7 v8 : Option V), σ = [some (.ref a), some (.ref b), some (.ref Ad), some (.int (at_ : Nat)), v4, v5, v6, v7, v8] ∧ Going St CA CB H b Ad ns R at_ H')
      (fun σ _ => ns.length - slotN σ 3) ⟨0, none, none, none, none, none, rfl, ⟨AccountNs.start, [], [], ns.length, cs0, s1.trans s2, B1.same (fun d o e => by rw [hide_ne (ne_of_none e hAd), upd_ne (ne_of_none e hAd)]; exact e), upd_same, S.start, hcs0, ha0, eR, by show 0 + 301 * cs0.length ≤ 130000; omega, Nat.zero_le _⟩⟩ ?_ ?_
    · rintro σ H2 ⟨at_, v4, v5, v6, v7, v8, rfl, G⟩
      obtain ⟨s0, xs, acc, f0, cs, sH, B, hA, st, hcs, hask, hR, hln, hat⟩ := G.ex
      refine ⟨_, rfl, _, rfl, a, _, rfl, .inl (sH.seq hS), _, _, rfl, rfl, _, rfl, ite2 (fun c1 => ?_) (fun c1 => ?_)⟩
      · have lt : at_ < ns.length := by
          have := of_decide_eq_true c1
          rw [List.length_map] at this
          omega
        obtain ⟨p, hp⟩ : ∃ p, ns[at_]? = some p := ⟨_, List.getElem?_eq_getElem lt⟩
        have ed : ns.drop at_ = p :: ns.drop (at_ + 1) := by
          have hl := List.getElem?_eq_some_iff.mp hp
          rw [List.drop_eq_getElem_cons hl.1, hl.2]
        rw [ed] at hcs
        -- the call
        obtain ⟨f1, c, t, cs', hcall, hcs', rfl⟩ : ∃ f1 c t cs', PyFlat.call PyWrcblc.shape (p :: ns.drop (at_ + 1)) = some (c, t) ∧ PyFlat.calls PyWrcblc.shape f1 t = some cs' ∧ cs = c :: cs' := by
          cases f0 with
          | zero => cases hcs
          | succ f1 =>
            have e : PyFlat.calls PyWrcblc.shape (f1 + 1) (p :: ns.drop (at_ + 1)) = (match PyFlat.call PyWrcblc.shape (p :: ns.drop (at_ + 1)) with | none => none | some (c, t) => match PyFlat.calls PyWrcblc.shape f1 t with | none => none | some cs => some (c :: cs)) := rfl
            rw [e] at hcs
            cases hc : PyFlat.call PyWrcblc.shape (p :: ns.drop (at_ + 1)) with
            | none => rw [hc] at hcs; cases hcs
            | some ct =>
              obtain ⟨c, t⟩ := ct
              rw [hc] at hcs
              simp only at hcs
              cases hc2 : PyFlat.calls PyWrcblc.shape f1 t with
              | none => rw [hc2] at hcs; cases hcs
              | some cs' =>
                rw [hc2] at hcs
                exact ⟨f1, c, t, cs', rfl, hc2, (Option.some.inj hcs).symm⟩
        obtain ⟨ln, lo, hi, hrow⟩ := call_read hcall
        rw [List.length_drop] at ln
        have hpi : (ns.map V.int)[at_]? = some (V.int p) := by rw [List.getElem?_map, hp]; rfl
        have hS2 := sH.seq hS
        refine ⟨_, rfl, _, rfl, a, _, _, V.int p, rfl, rfl, hS2, atI_nat hpi, ?_⟩
        refine ⟨_, rfl, _, _, rfl, rfl, _, rfl, mA, _, _, V.int (manyN p : Nat), rfl, rfl, hmS _, many_at lo hi, _, _, rfl, rfl, ?_⟩
        have eb : ((at_ : Nat) : Int) + 1 + ((manyN p : Nat) : Int) = ((at_ + 1 + manyN p : Nat) : Int) := by omega
        have ea : ((at_ : Nat) : Int) + 1 = ((at_ + 1 : Nat) : Int) := by omega
        rw [show (fun i j => V.int (i + j)) (((at_ : Nat) : Int) + 1) ((manyN p : Nat) : Int) = V.int ((at_ + 1 + manyN p : Nat) : Int) from congrArg V.int eb]
        refine ⟨_, rfl, _, rfl, _, _, rfl, rfl, _, rfl, _, rfl, _, rfl, a, _, rfl, hS2, fun n hn => ?_⟩
        have en : cutV (ns.map V.int) (some (((at_ : Nat) : Int) + 1)) (some ((at_ + 1 + manyN p : Nat) : Int)) = ((ns.drop (at_ + 1)).take (manyN p)).map V.int := by
          rw [ea, cut_mid _ _ _ (by omega) (by rw [List.length_map]; omega), show at_ + 1 + manyN p - (at_ + 1) = manyN p by omega, List.map_take, List.map_drop]
        rw [en]
        have s3 := Same.new (o := .lst (((ns.drop (at_ + 1)).take (manyN p)).map V.int)) hn
        generalize hnums : (ns.drop (at_ + 1)).take (manyN p) = nums at s3 hrow
        have lnums : nums.length = manyN p := by rw [← hnums, List.length_take, List.length_drop]; omega
        generalize hH3 : upd H2 n (.lst (nums.map V.int)) = H3 at s3
        have hn3 : H3 n = some (.lst (nums.map V.int)) := by rw [← hH3]; exact upd_same
        refine ⟨_, rfl, Nat.zero_le _, fun r0 hr0 => ?_⟩
        have s4 := Same.new (o := .lst []) hr0
        have s24 := s3.trans s4
        have askc : AccountNeutral.asked1 (PyWrcblc.whole c) = true := hask c (List.mem_cons_self ..)
        -- locked
        have nAd : n ≠ Ad := fun e => by rw [e, hA] at hn; cases hn
        have pre : ∀ (od : Obj) (H5 : Hp), Same H2 H5 → BkAt CA CB (upd H5 Ad (.frz od (.lst (acc.map V.int)))) b xs ∧ (∀ d o, H5 d = some o → d ≠ Ad → upd H5 Ad (.frz od (.lst (acc.map V.int))) d = some o) ∧ Same H (upd H5 Ad (.frz od (.lst (acc.map V.int)))) := fun od H5 s5 => by
          refine ⟨B.same fun d o e => ?_, fun d o e nd => by rw [upd_ne nd]; exact e, fun d o e => by rw [upd_ne (ne_of_none e fAd)]; exact s5 _ _ (sH _ _ e)⟩
          obtain ⟨e1, e2⟩ := hide_get e
          rw [upd_ne e1]
          exact s5 _ _ e2
        have go : ∀ (od : Obj) (H5 : Hp) (row : List Int) (at2 : Nat), Same H2 H5 → Shape c p nums row → t = ns.drop at2 → at2 ≤ ns.length →
            ∀ (H6 : Hp) (q : Addr), Keep b (upd H5 Ad (.frz od (.lst (acc.map V.int)))) H6 → BkAt CA CB H6 b (ansX xs p nums row) → upd H5 Ad (.frz od (.lst (acc.map V.int))) q = none → H6 q = some (.lst ((ansA xs p nums row).map V.int)) →
            q ≠ Ad ∧ H6 Ad = some (.frz od (.lst (acc.map V.int))) ∧ acc.length + (ansA xs p nums row).length + 1 ≤ 130000 ∧
            ∀ H9 : Hp, (∀ d, d ≠ Ad → H9 d = H6 d) → H9 Ad = some (.lst ((acc ++ ((ansA xs p nums row).length : Int) :: ansA xs p nums row).map V.int)) → Going St CA CB H b Ad ns R at2 H9 := fun od H5 row at2 s5 sh et hat2 H6 q k6 B6 fq hq => by
          obtain ⟨e1, e2⟩ := S.step s0 xs c p nums row st askc sh
          have nq : q ≠ Ad := fun e => by rw [e, upd_same] at fq; cases fq
          have hA6 : H6 Ad = some (.frz od (.lst (acc.map V.int))) := k6 _ _ upd_same nbA.symm
          have al := ans_length (p := p) (nums := nums) (row := row) (S.sane _ _ st)
          rw [List.length_cons] at hln
          refine ⟨nq, hA6, by omega, fun H9 h9 h9A => ⟨(AccountNeutral.step s0 (PyWrcblc.whole c)).1, ansX xs p nums row, acc ++ ((ansA xs p nums row).length : Int) :: ansA xs p nums row, f1, cs', fun d o e => ?_, ?_, h9A, e2, by rw [← et]; exact hcs', fun c' hc' => hask c' (List.mem_cons_of_mem _ hc'), ?_, ?_, hat2⟩⟩
          · have nd := ne_of_none e fAd
            rw [h9 d nd]
            exact k6 _ _ (by rw [upd_ne nd]; exact s5 _ _ (sH _ _ e)) (ne_of_none e nb)
          · obtain ⟨dx, l, hb6, as6, hl6, hp6⟩ := B6
            have up : ∀ d o, H6 d = some o → (∀ o' u', o ≠ .frz o' u') → hide H9 Ad d = some o := fun d o e hne => by
              have nd : d ≠ Ad := fun z => by rw [z, hA6] at e; cases e; exact hne _ _ rfl
              rw [hide_ne nd, h9 d nd]; exact e
            refine ⟨dx, l, up _ _ hb6 (by intro _ _ z; cases z), as6, up _ _ hl6 (by intro _ _ z; cases z), L2.Paired.mapP hp6 fun a' x' h' => ?_⟩
            obtain ⟨da', e'⟩ := h'
            exact ⟨da', up _ _ e' (by intro _ _ z; cases z)⟩
          · rw [← hR]
            show acc ++ ((ansA xs p nums row).length : Int) :: ansA xs p nums row ++ PyFlat.told (PyFlat.played AccountNeutral.step (AccountNeutral.step s0 (PyWrcblc.whole c)).1 (cs'.map PyWrcblc.whole)) = acc ++ PyFlat.told ((AccountNeutral.step s0 (PyWrcblc.whole c)).2 :: PyFlat.played AccountNeutral.step (AccountNeutral.step s0 (PyWrcblc.whole c)).1 (cs'.map PyWrcblc.whole))
            rw [e1]
            show _ = acc ++ (((ansA xs p nums row).length : Int) :: ansA xs p nums row ++ PyFlat.told (PyFlat.played AccountNeutral.step (AccountNeutral.step s0 (PyWrcblc.whole c)).1 (cs'.map PyWrcblc.whole)))
            rw [List.append_assoc]
          · rw [List.length_append, List.length_cons]
            omega
        have s24n : upd H3 r0 (.lst []) n = some (.lst (nums.map V.int)) := s4 _ _ hn3
        refine ⟨_, rfl, rA, _, _, V.bl (rowB p), rfl, rfl, hhS _, has_at lo hi, _, rfl, ite2 (fun c2 => ?_) (fun c2 => ?_)⟩
        · rcases hrow with ⟨_, m, r2, hd, m0, ml, hc, ht⟩ | ⟨hf, _⟩
          · rw [List.drop_drop] at hd
            have lb : at_ + 1 + manyN p < ns.length := by
              apply Classical.byContradiction
              intro z
              rw [List.drop_eq_nil_iff.mpr (by omega)] at hd
              cases hd
            have hm' : ns[at_ + 1 + manyN p]? = some m := by
              rw [List.drop_eq_getElem_cons lb] at hd
              injection hd with e1 e2
              rw [← e1]; exact List.getElem?_eq_getElem lb
            have er2 : ns.drop (at_ + 1 + manyN p + 1) = r2 := by
              rw [List.drop_eq_getElem_cons lb] at hd
              injection hd
            have l2 : r2.length = ns.length - (at_ + 1 + manyN p + 1) := by rw [← er2, List.length_drop]
            have hS4 := s24.seq hS2
            refine ⟨_, rfl, _, _, rfl, rfl, _, rfl, _, rfl, a, _, _, V.int m, rfl, rfl, hS4, atI_nat (by rw [List.getElem?_map, hm']; rfl), _, _, rfl, rfl, ?_⟩
            have e2 : ((at_ + 1 + manyN p : Nat) : Int) + 1 + m = ((at_ + 1 + manyN p + 1 + m.toNat : Nat) : Int) := by omega
            rw [show (fun i j => V.int (i + j)) (((at_ + 1 + manyN p : Nat) : Int) + 1) m = V.int ((at_ + 1 + manyN p + 1 + m.toNat : Nat) : Int) from congrArg V.int e2]
            refine ⟨_, rfl, _, rfl, _, _, rfl, rfl, _, rfl, _, rfl, _, rfl, a, _, rfl, hS4, fun r1 hr1 => ?_⟩
            have e3 : cutV (ns.map V.int) (some (((at_ + 1 + manyN p : Nat) : Int) + 1)) (some ((at_ + 1 + manyN p + 1 + m.toNat : Nat) : Int)) = (r2.take m.toNat).map V.int := by
              rw [show ((at_ + 1 + manyN p : Nat) : Int) + 1 = ((at_ + 1 + manyN p + 1 : Nat) : Int) by omega, cut_mid _ _ _ (by omega) (by rw [List.length_map]; omega), show at_ + 1 + manyN p + 1 + m.toNat - (at_ + 1 + manyN p + 1) = m.toNat by omega, ← List.map_drop, er2, ← List.map_take]
            rw [e3]
            have s5 := Same.new (o := .lst ((r2.take m.toNat).map V.int)) hr1
            have s25 := s24.trans s5
            have s25n := s5 _ _ s24n
            have hr1A : r1 ≠ Ad := fun e => by rw [e, s24 _ _ hA] at hr1; cases hr1
            have sh : Shape c p nums (r2.take m.toNat) := ⟨lo, hi, lnums, by rw [if_pos c2]; exact hc⟩
            have et : t = ns.drop (at_ + 1 + manyN p + 1 + m.toNat) := by rw [ht, ← er2, List.drop_drop]
            refine ⟨Ad, .lst (acc.map V.int), s25 _ _ hA, trivial, fun od => ?_⟩
            obtain ⟨B5, n5, keep5⟩ := pre od _ s25
            refine ⟨_, rfl, _, rfl, _, rfl, _, rfl, b, n, r1, xs, p, nums, (r2.take m.toNat), rfl, B5, SqL.of (n5 _ _ (s25n) nAd), SqL.of (n5 _ _ upd_same hr1A), S.fine c p nums (r2.take m.toNat) askc sh, S.sane _ _ st, fun H6 q k6 B6 fq hq => ?_⟩
            obtain ⟨nq, h6A, lb, G9⟩ := go od _ (r2.take m.toNat) (at_ + 1 + manyN p + 1 + m.toNat) s25 sh et (by omega) H6 q k6 B6 fq hq
            refine ⟨h6A, ?_⟩
            refine ⟨_, rfl, .inl ⟨rfl, _, SqL.of upd_same⟩, _, rfl, q, _, rfl, .inl (SqL.of (by rw [upd_ne nq]; exact hq)), Ad, _, _, rfl, rfl, upd_same, ?_, ?_⟩
            · rw [List.length_map]; exact Nat.lt_of_le_of_lt (show acc.length ≤ 130000 by omega) (by decide)
            refine ⟨_, rfl, .inl ⟨rfl, _, SqL.of upd_same⟩, _, rfl, Ad, q, _, _, rfl, rfl, upd_same, by rw [upd_ne nq, upd_ne nq]; exact hq, ?_, ?_⟩
            · rw [List.length_append, List.length_map, List.length_map]; exact Nat.le_trans (show acc.length + 1 + _ ≤ 130000 by omega) (by decide)
            refine ⟨⟨(at_ + 1 + manyN p + 1 + m.toNat), _, _, _, _, _, rfl, G9 _ (fun c' nc => by rw [upd_ne nc, upd_ne nc, upd_ne nc]) (by rw [upd_same, List.length_map, List.map_append, List.append_assoc]; rfl)⟩, ?_⟩
            show ns.length - ((((at_ + 1 + manyN p + 1 + m.toNat) : Nat) : Int)).toNat < ns.length - ((at_ : Nat) : Int).toNat
            rw [Int.toNat_natCast, Int.toNat_natCast]
            omega
          · rw [hf] at c2; cases c2
        · rcases hrow with ⟨hf, _⟩ | ⟨hf, hc, ht⟩
          · exact absurd hf c2
          · have r0A : r0 ≠ Ad := fun e => by rw [e, s3 _ _ hA] at hr0; cases hr0
            have sh : Shape c p nums [] := ⟨lo, hi, lnums, by rw [if_neg c2]; exact ⟨hc, rfl⟩⟩
            have et : t = ns.drop (at_ + 1 + manyN p) := by rw [ht, List.drop_drop]
            refine ⟨Ad, .lst (acc.map V.int), s24 _ _ hA, trivial, fun od => ?_⟩
            obtain ⟨B5, n5, keep5⟩ := pre od _ s24
            refine ⟨_, rfl, _, rfl, _, rfl, _, rfl, b, n, r0, xs, p, nums, [], rfl, B5, SqL.of (n5 _ _ (s24n) nAd), SqL.of (n5 _ _ upd_same r0A), S.fine c p nums [] askc sh, S.sane _ _ st, fun H6 q k6 B6 fq hq => ?_⟩
            obtain ⟨nq, h6A, lb, G9⟩ := go od _ [] (at_ + 1 + manyN p) s24 sh et (by omega) H6 q k6 B6 fq hq
            refine ⟨h6A, ?_⟩
            refine ⟨_, rfl, .inl ⟨rfl, _, SqL.of upd_same⟩, _, rfl, q, _, rfl, .inl (SqL.of (by rw [upd_ne nq]; exact hq)), Ad, _, _, rfl, rfl, upd_same, ?_, ?_⟩
            · rw [List.length_map]; exact Nat.lt_of_le_of_lt (show acc.length ≤ 130000 by omega) (by decide)
            refine ⟨_, rfl, .inl ⟨rfl, _, SqL.of upd_same⟩, _, rfl, Ad, q, _, _, rfl, rfl, upd_same, by rw [upd_ne nq, upd_ne nq]; exact hq, ?_, ?_⟩
            · rw [List.length_append, List.length_map, List.length_map]; exact Nat.le_trans (show acc.length + 1 + _ ≤ 130000 by omega) (by decide)
            refine ⟨⟨(at_ + 1 + manyN p), _, _, _, _, _, rfl, G9 _ (fun c' nc => by rw [upd_ne nc, upd_ne nc, upd_ne nc]) (by rw [upd_same, List.length_map, List.map_append, List.append_assoc]; rfl)⟩, ?_⟩
            show ns.length - ((((at_ + 1 + manyN p) : Nat) : Int)).toNat < ns.length - ((at_ : Nat) : Int).toNat
            rw [Int.toNat_natCast, Int.toNat_natCast]
            omega
      · have ge : at_ = ns.length := by
          have : ¬ ((at_ : Nat) : Int) < (((ns.map V.int).length : Nat) : Int) := fun h => c1 (decide_eq_true h)
          rw [List.length_map] at this
          omega
        subst ge
        rw [List.drop_length] at hcs
        have ecs : cs = [] := by
          cases f0 with
          | zero => exact (Option.some.inj hcs).symm
          | succ f1 => exact (Option.some.inj hcs).symm
        subst ecs
        have hR' : acc = R := by rw [← hR]; show acc = acc ++ []; rw [List.append_nil]
        refine ⟨_, rfl, k H2 Ad ?_⟩
        rw [hA, hR']
    · rintro σ H' Q1 Q2 hq ⟨v, hv, v', hv', q, ys, e1, hSq, i', j', e3, e4, kk, e5, hh'⟩
      exact ⟨v, hv, v', hv', q, ys, e1, hSq, i', j', e3, e4, kk, e5, hq _ _ hh'⟩
end
end Ew
end
section
set_option Elab.async false
set_option linter.all false
set_option maxRecDepth 100000
namespace Ew
open CbAcc
/-! ### places in an order -/
theorem nodup_small : ∀ (m : Nat) (l : List Nat), l.Nodup → (∀ x ∈ l, x < m) → l.length ≤ m
  | 0, l, _, h => by
    cases l with
    | nil => exact Nat.le_refl _
    | cons x l => exact absurd (h x (List.mem_cons_self ..)) (by omega)
  | m + 1, l, hn, h => by
    have ih := nodup_small m (l.erase m) (hn.erase _) fun x hx => by
      have := (List.Nodup.mem_erase_iff hn).mp hx
      have := h x this.2
      omega
    rw [List.length_erase] at ih
    split at ih <;> omega
theorem nodup_full {n : Nat} {l : List Nat} (hn : l.Nodup) (h : ∀ x ∈ l, x < n) (hl : l.length = n) : l.Perm (List.range n) := by
  refine (List.perm_ext_iff_of_nodup hn List.nodup_range).mpr fun x => ⟨fun m => List.mem_range.mpr (h x m), fun m => ?_⟩
  apply Classical.byContradiction
  intro nx
  have := nodup_small n (x :: l) (List.nodup_cons.mpr ⟨nx, hn⟩) fun y hy => by
    rcases List.mem_cons.mp hy with c | c
    · rw [c]; exact List.mem_range.mp m
    · exact h y c
  rw [List.length_cons] at this
  omega
theorem count_range (k n : Nat) (h : k ≤ n) : (List.range n).countP (fun x => decide (x < k)) = k := by
  induction n with
  | zero => have : k = 0 := by omega
            subst this; rfl
  | succ n ih =>
    rw [List.range_succ, List.countP_append, List.countP_cons, List.countP_nil]
    by_cases c : k ≤ n
    · rw [ih c, if_neg (by simpa using c)]; omega
    · have e : k = n + 1 := by omega
      subst e
      rw [if_pos (by simp)]
      have : (List.range n).countP (fun x => decide (x < n + 1)) = n := by
        have e2 : (List.range n).countP (fun x => decide (x < n + 1)) = (List.range n).length := List.countP_eq_length.mpr fun x hx => decide_eq_true (by have := List.mem_range.mp hx; omega)
        rw [e2, List.length_range]
      omega
/-- of n in an order, k have fewer than k ahead -/
theorem ranks {n k : Nat} (hk : k ≤ n) (q : Nat → Nat → Bool) (irr : ∀ i, q i i = false) (tr : ∀ i j m, q i j = true → q j m = true → q i m = true) (tot : ∀ i j, i ≠ j → q i j = true ∨ q j i = true) :
    (List.range n).countP (fun i => decide (((List.range n).filter fun j => q j i).length < k)) = k := by
  let rk : Nat → Nat := fun i => ((List.range n).filter fun j => q j i).length
  have mono : ∀ i j, i < n → j < n → q i j = true → rk i < rk j := fun i j hi hj h => by
    show ((List.range n).filter fun m => q m i).length < ((List.range n).filter fun m => q m j).length
    rw [← List.countP_eq_length_filter, ← List.countP_eq_length_filter]
    have sub : ∀ l : List Nat, l.countP (fun m => q m i) ≤ l.countP (fun m => q m j) ∧ (i ∈ l → l.countP (fun m => q m i) < l.countP (fun m => q m j)) := by
      intro l
      induction l with
      | nil => exact ⟨Nat.le_refl _, fun h => by cases h⟩
      | cons x l ih =>
        rw [List.countP_cons, List.countP_cons]
        have st : (if q x i = true then 1 else 0) ≤ (if q x j = true then 1 else 0) := by
          by_cases c : q x i = true
          · rw [if_pos c, if_pos (tr x i j c h)]; exact Nat.le_refl 1
          · rw [if_neg c]; exact Nat.zero_le _
        refine ⟨by omega, fun m => ?_⟩
        rcases List.mem_cons.mp m with c | c
        · subst c
          rw [if_neg (by rw [irr]; decide), if_pos h]
          omega
        · have := ih.2 c
          omega
    exact (sub _).2 (List.mem_range.mpr hi)
  have nd : ((List.range n).map rk).Nodup := by
    unfold List.Nodup
    rw [List.pairwise_map]
    refine List.Pairwise.imp_of_mem ?_ (List.nodup_range (n := n))
    intro i j hi hj ne e
    have hi := List.mem_range.mp hi
    have hj := List.mem_range.mp hj
    rcases tot i j ne with h | h
    · have := mono i j hi hj h; omega
    · have := mono j i hj hi h; omega
  have lt : ∀ x ∈ (List.range n).map rk, x < n := fun x hx => by
    obtain ⟨i, hi, rfl⟩ := List.mem_map.mp hx
    have hi := List.mem_range.mp hi
    show ((List.range n).filter fun j => q j i).length < n
    have : ((List.range n).filter fun j => q j i).length < (List.range n).length := by
      rw [← List.countP_eq_length_filter]
      have : (List.range n).countP (fun j => q j i) ≤ (List.range n).length := List.countP_le_length
      apply Nat.lt_of_le_of_ne this
      intro e
      have := List.countP_eq_length.mp e i (List.mem_range.mpr hi)
      rw [irr] at this
      cases this
    rw [List.length_range] at this
    exact this
  have pm := nodup_full nd lt (by rw [List.length_map, List.length_range])
  have := pm.countP_eq (fun x => decide (x < k))
  rw [count_range k n hk, List.countP_map] at this
  exact this
/-! ### the shares come to the charge -/
theorem sumN_eq (l : List Nat) : sumN l = l.sum := by
  induction l with
  | nil => rfl
  | cons x l ih => show x + sumN l = _; rw [ih, List.sum_cons]
theorem sum_parts (c W : Nat) (hW : 0 < W) : ∀ ws : List Nat, c * ws.sum = W * (ws.map fun w => c * w / W).sum + (ws.map fun w => c * w % W).sum
  | [] => by simp
  | w :: ws => by
    rw [List.sum_cons, List.map_cons, List.map_cons, List.sum_cons, List.sum_cons, Nat.mul_add, Nat.mul_add, sum_parts c W hW ws]
    have := Nat.div_add_mod (c * w) W
    omega
theorem sum_rests (c W : Nat) (hW : 0 < W) : ∀ ws : List Nat, (ws.map fun w => c * w % W).sum ≤ W * ws.length ∧ (ws ≠ [] → (ws.map fun w => c * w % W).sum < W * ws.length)
  | [] => ⟨by simp, fun h => absurd rfl h⟩
  | w :: ws => by
    have ih := (sum_rests c W hW ws).1
    have : c * w % W < W := Nat.mod_lt _ hW
    rw [List.map_cons, List.sum_cons, List.length_cons, Nat.mul_succ]
    exact ⟨by omega, fun _ => by omega⟩
structure Over (c : Nat) (ws : List Nat) : Prop where
  le : (ws.map fun w => c * w / ws.sum).sum ≤ c
  lt : c - (ws.map fun w => c * w / ws.sum).sum ≤ ws.length
theorem over_arith {c W q r n : Nat} (e : c * W = W * q + r) (r1 : r ≤ W * n) (h : 0 < W) : q ≤ c ∧ c - q ≤ n := by
  have h1 : q ≤ c := by
    apply Classical.byContradiction
    intro z
    have : W * (c + 1) ≤ W * q := Nat.mul_le_mul_left _ (by omega)
    rw [Nat.mul_succ, Nat.mul_comm W c] at this
    omega
  refine ⟨h1, ?_⟩
  apply Classical.byContradiction
  intro z
  obtain ⟨d, rfl⟩ : ∃ d, c = q + d := ⟨c - q, by omega⟩
  have : W * (n + 1) ≤ W * d := Nat.mul_le_mul_left _ (by omega)
  rw [Nat.mul_succ] at this
  have e2 : (q + d) * W = W * q + W * d := by rw [Nat.mul_comm, Nat.mul_add]
  omega
theorem over_of {c : Nat} {ws : List Nat} (h : 0 < ws.sum) : Over c ws := by
  obtain ⟨h1, h2⟩ := over_arith (sum_parts c ws.sum h ws) (sum_rests c ws.sum h ws).1 h
  exact ⟨h1, h2⟩
theorem sharesOf_eq (c : Nat) (ws : List Nat) : sharesOf c ws = (List.range ws.length).map fun i => c * ws.getD i 0 / ws.sum + if ahead c ws.sum ws i < c - (ws.map fun w => c * w / ws.sum).sum then 1 else 0 := by
  unfold sharesOf
  simp only [sumN_eq]
theorem map_getD (f : Nat → Nat) : ∀ ws : List Nat, (List.range ws.length).map (fun i => f (ws.getD i 0)) = ws.map f := fun ws => by
  apply List.ext_getElem
  · simp
  · intro i h1 h2
    rw [List.getElem_map, List.getElem_map, List.getElem_range]
    rw [List.length_map] at h2
    rw [List.getD_eq_getElem?_getD, List.getElem?_eq_getElem h2]
    rfl
theorem shares_sum {c : Nat} {ws : List Nat} (h : 0 < ws.sum) : (sharesOf c ws).sum = c := by
  have o := over_of (c := c) h
  rw [sharesOf_eq, Sett.sumN_add, map_getD (fun w => c * w / ws.sum)]
  have cnt := ranks (n := ws.length) (k := c - (ws.map fun w => c * w / ws.sum).sum) o.lt (fun j i => decide (restOf c ws.sum (ws.getD i 0) < restOf c ws.sum (ws.getD j 0)) || (restOf c ws.sum (ws.getD i 0) == restOf c ws.sum (ws.getD j 0) && decide (j < i))) ?irr ?tr ?tot
  · have e : ∀ (p : Nat → Bool) (l : List Nat), (l.map fun i => if p i = true then 1 else 0).sum = l.countP p := fun p l => by
      induction l with
      | nil => rfl
      | cons x l ih => rw [List.map_cons, List.sum_cons, ih, List.countP_cons]; omega
    have e2 := e (fun i => decide (((List.range ws.length).filter fun j => decide (restOf c ws.sum (ws.getD i 0) < restOf c ws.sum (ws.getD j 0)) || (restOf c ws.sum (ws.getD i 0) == restOf c ws.sum (ws.getD j 0) && decide (j < i))).length < c - (ws.map fun w => c * w / ws.sum).sum)) (List.range ws.length)
    rw [cnt] at e2
    have e3 : ((List.range ws.length).map fun i => if ahead c ws.sum ws i < c - (ws.map fun w => c * w / ws.sum).sum then 1 else 0) = (List.range ws.length).map fun i => if decide (((List.range ws.length).filter fun j => decide (restOf c ws.sum (ws.getD i 0) < restOf c ws.sum (ws.getD j 0)) || (restOf c ws.sum (ws.getD i 0) == restOf c ws.sum (ws.getD j 0) && decide (j < i))).length < c - (ws.map fun w => c * w / ws.sum).sum) = true then 1 else 0 := by
      apply List.map_congr_left
      intro i _
      unfold ahead
      simp only [decide_eq_true_eq]
    rw [e3, e2]
    have := o.le
    omega
  case irr => intro i; simp
  case tr =>
    intro i j m h1 h2
    simp only [Bool.or_eq_true, Bool.and_eq_true, decide_eq_true_eq, beq_iff_eq] at *
    omega
  case tot =>
    intro i j ne
    simp only [Bool.or_eq_true, Bool.and_eq_true, decide_eq_true_eq, beq_iff_eq]
    omega
/-! ### the program's shares -/
def cast (l : List Nat) : List Int := l.map fun (n : Nat) => (n : Int)
theorem cast_sum : ∀ l : List Nat, (cast l).sum = (l.sum : Nat)
  | [] => rfl
  | x :: l => by
    show (x : Int) + (cast l).sum = _
    rw [cast_sum l, List.sum_cons]
    omega
theorem cast_map (f : Nat → Nat) (l : List Nat) : cast (l.map f) = l.map fun x => ((f x : Nat) : Int) := by
  unfold cast
  rw [List.map_map]
  rfl
theorem cast_length (l : List Nat) : (cast l).length = l.length := List.length_map ..
theorem cast_getD (l : List Nat) (i : Nat) : (cast l).getD i 0 = (l.getD i 0 : Nat) := by
  unfold cast
  rw [List.getD_eq_getElem?_getD, List.getD_eq_getElem?_getD, List.getElem?_map]
  cases l[i]? <;> rfl
theorem parts_cast (c : Nat) (ws : List Nat) : partsI (c : Nat) (cast ws) = cast (ws.map fun w => c * w / ws.sum) := by
  unfold partsI
  rw [cast_sum]
  unfold cast
  rw [List.map_map, List.map_map]
  apply List.map_congr_left
  intro w _
  show (c : Int) * (w : Int) / (ws.sum : Int) = ((c * w / ws.sum : Nat) : Int)
  rw [Int.natCast_ediv, Int.natCast_mul]
theorem rests_cast (c : Nat) (ws : List Nat) : restsI (c : Nat) (cast ws) = cast (ws.map fun w => c * w % ws.sum) := by
  unfold restsI
  rw [cast_sum]
  unfold cast
  rw [List.map_map, List.map_map]
  apply List.map_congr_left
  intro w _
  show (c : Int) * (w : Int) % (ws.sum : Int) = ((c * w % ws.sum : Nat) : Int)
  rw [Int.natCast_emod, Int.natCast_mul]
theorem getD_map0 (f : Nat → Nat) (h0 : f 0 = 0) (l : List Nat) (i : Nat) : (l.map f).getD i 0 = f (l.getD i 0) := by
  rw [List.getD_eq_getElem?_getD, List.getD_eq_getElem?_getD, List.getElem?_map]
  cases l[i]? with
  | none => exact h0.symm
  | some x => rfl
theorem shares_cast {c : Nat} {ws : List Nat} (h : 0 < ws.sum) : sharesI (c : Nat) (cast ws) = cast (sharesOf c ws) := by
  have o := over_of (c := c) h
  unfold sharesI
  rw [sharesOf_eq, parts_cast, rests_cast, cast_length, cast_sum]
  conv => rhs; rw [cast_map]
  apply List.map_congr_left
  intro i _
  show (cast (ws.map fun w => c * w / ws.sum)).getD i 0 + (if ((aheadI (cast (ws.map fun w => c * w % ws.sum)) i : Nat) : Int) < (c : Int) - (((ws.map fun w => c * w / ws.sum).sum : Nat) : Int) then 1 else 0) = ((c * ws.getD i 0 / ws.sum + (if ahead c ws.sum ws i < c - (ws.map fun w => c * w / ws.sum).sum then 1 else 0) : Nat) : Int)
  have ea : aheadI (cast (ws.map fun w => c * w % ws.sum)) i = ahead c ws.sum ws i := by
    unfold aheadI aheadTo ahead
    rw [cast_length, List.length_map]
    congr 1
    apply List.filter_congr
    intro j _
    unfold isAhead restOf
    rw [cast_getD, cast_getD, getD_map0 (fun w => c * w % ws.sum) (by simp), getD_map0 (fun w => c * w % ws.sum) (by simp)]
    congr 1
    · exact decide_eq_decide.mpr (by omega)
    · congr 1
      rw [Bool.eq_iff_iff, beq_iff_eq, beq_iff_eq]
      omega
  rw [cast_getD, getD_map0 (fun w => c * w / ws.sum) (by simp), ea]
  have := o.le
  rw [Int.natCast_add]
  congr 1
  by_cases q : ahead c ws.sum ws i < c - (ws.map fun w => c * w / ws.sum).sum
  · rw [if_pos q, if_pos (by omega)]; rfl
  · rw [if_neg q, if_neg (by omega)]; rfl
end Ew
end
section
set_option Elab.async false
set_option linter.all false
set_option maxRecDepth 100000
namespace Ew
open CbAcc
/-! ### rows -/
theorem firsts2 (a w : Int) (r : List Int) : firsts (a :: w :: r) = a :: firsts r := by
  unfold firsts
  rw [show ((a :: w :: r).length + 1) / 2 = (r.length + 1) / 2 + 1 by simp only [List.length_cons]; omega, List.range_succ_eq_map, List.map_cons, List.map_map]
  rfl
theorem seconds2 (a w : Int) (r : List Int) : seconds (a :: w :: r) = w :: seconds r := by
  unfold seconds
  rw [show (a :: w :: r).length / 2 = r.length / 2 + 1 by simp only [List.length_cons]; omega, List.range_succ_eq_map, List.map_cons, List.map_map]
  rfl
def natsOf (l : List Int) : List Nat := l.map Int.toNat
theorem row_in : ∀ (row : List Int), (∀ z ∈ row, 0 ≤ z) → (row.length % 2 = 1 ∧ AccountNs.rowIn (natsOf row) = none) ∨ (∃ r, AccountNs.rowIn (natsOf row) = some r ∧ row.length = 2 * r.length ∧ cast (r.map fun x => x.1) = firsts row ∧ cast (r.map fun x => x.2) = seconds row)
  | [], _ => .inr ⟨[], rfl, rfl, rfl, rfl⟩
  | [a], _ => .inl ⟨rfl, rfl⟩
  | a :: w :: r, h => by
    have ha := h a (List.mem_cons_self ..)
    have hw := h w (List.mem_cons_of_mem _ (List.mem_cons_self ..))
    have e : AccountNs.rowIn (natsOf (a :: w :: r)) = (AccountNs.rowIn (natsOf r)).map fun l => (a.toNat, w.toNat) :: l := rfl
    rcases row_in r fun z hz => h z (List.mem_cons_of_mem _ (List.mem_cons_of_mem _ hz)) with ⟨h1, h2⟩ | ⟨l, h1, h2, h3, h4⟩
    · left
      refine ⟨by simp only [List.length_cons]; omega, by rw [e, h2]; rfl⟩
    · right
      refine ⟨(a.toNat, w.toNat) :: l, by rw [e, h1]; rfl, by simp only [List.length_cons]; omega, ?_, ?_⟩
      · rw [firsts2, ← h3]
        show ((a.toNat : Nat) : Int) :: _ = _
        rw [Int.toNat_of_nonneg ha]; rfl
      · rw [seconds2, ← h4]
        show ((w.toNat : Nat) : Int) :: _ = _
        rw [Int.toNat_of_nonneg hw]; rfl
theorem cast_nodup (l : List Nat) : (cast l).Nodup ↔ l.Nodup := by
  unfold cast List.Nodup
  rw [List.pairwise_map]
  constructor
  · exact fun h => h.imp fun {a b} n e => n (by rw [e])
  · exact fun h => h.imp fun {a b} n e => n (by omega)
theorem okCs_cast (l : List Nat) : okCs (cast l) = true ↔ (∀ k ∈ l, k < 6) ∧ l.Nodup := by
  unfold okCs
  rw [Bool.and_eq_true, decide_eq_true_eq, cast_nodup, List.all_eq_true]
  constructor
  · rintro ⟨h1, h2⟩
    refine ⟨fun k hk => ?_, h2⟩
    have := of_decide_eq_true (h1 (k : Int) (List.mem_map_of_mem hk))
    omega
  · rintro ⟨h1, h2⟩
    refine ⟨fun z hz => ?_, h2⟩
    obtain ⟨k, hk, rfl⟩ := List.mem_map.mp hz
    exact decide_eq_true (by have := h1 k hk; omega)
theorem okWs_cast (l : List Nat) : okWs (cast l) = true ↔ ∀ k ∈ l, 1 ≤ k ∧ k ≤ 65535 := by
  unfold okWs
  rw [List.all_eq_true]
  constructor
  · intro h k hk
    have := h (k : Int) (List.mem_map_of_mem hk)
    rw [Bool.and_eq_true, decide_eq_true_eq, decide_eq_true_eq] at this
    omega
  · intro h z hz
    obtain ⟨k, hk, rfl⟩ := List.mem_map.mp hz
    rw [Bool.and_eq_true, decide_eq_true_eq, decide_eq_true_eq]
    have := h k hk
    omega
theorem rowOk_iff (r : Row) : rowOk r = true ↔ 1 ≤ r.length ∧ r.length ≤ 6 ∧ (r.map fun x => x.1).Nodup ∧ (∀ k ∈ r.map (fun x => x.1), k < 6) ∧ ∀ k ∈ r.map (fun x => x.2), 1 ≤ k ∧ k ≤ 65535 := by
  unfold rowOk
  rw [Bool.and_eq_true, Bool.and_eq_true, Bool.and_eq_true, decide_eq_true_eq, decide_eq_true_eq, decide_eq_true_eq, List.all_eq_true]
  constructor
  · rintro ⟨h1, h2, h3, h4⟩
    refine ⟨h1, h2, h3, fun k hk => ?_, fun k hk => ?_⟩
    · obtain ⟨x, hx, rfl⟩ := List.mem_map.mp hk
      have := h4 x hx
      rw [Bool.and_eq_true, decide_eq_true_eq] at this
      exact this.1
    · obtain ⟨x, hx, rfl⟩ := List.mem_map.mp hk
      have := h4 x hx
      rw [Bool.and_eq_true, Bool.and_eq_true, decide_eq_true_eq, decide_eq_true_eq, decide_eq_true_eq] at this
      exact this.2
  · rintro ⟨h1, h2, h3, h4, h5⟩
    refine ⟨h1, h2, h3, fun x hx => ?_⟩
    rw [Bool.and_eq_true, Bool.and_eq_true, decide_eq_true_eq, decide_eq_true_eq, decide_eq_true_eq]
    exact ⟨h4 _ (List.mem_map_of_mem hx), h5 _ (List.mem_map_of_mem hx)⟩
structure RowIs (row : List Int) (r : Row) : Prop where
  one : 1 ≤ r.length
  six : r.length ≤ 6
  nd : (r.map fun x => x.1).Nodup
  ws : ∀ k ∈ r.map (fun x => x.2), 1 ≤ k ∧ k ≤ 65535
  fs : cast (r.map fun x => x.1) = firsts row
  sn : cast (r.map fun x => x.2) = seconds row
theorem row_fine {c : Int} {row : List Int} (c0 : 0 ≤ c) (nn : ∀ z ∈ row, 0 ≤ z) : (canShare c row = false ∧ AccountNs.rowFine c.toNat (natsOf row) = none) ∨ (∃ r, canShare c row = true ∧ AccountNs.rowFine c.toNat (natsOf row) = some r ∧ RowIs row r) := by
  have hcan : ∀ b, canShare c row = b → b = true → c ≤ 1099511627776 ∧ (row.length % 2 = 0 ∧ row.length ≠ 0 ∧ row.length ≤ 12) ∧ okCs (firsts row) = true ∧ okWs (seconds row) = true := fun b e hb => by
    subst e
    have := canBe hb
    exact ⟨this.charge, ⟨this.even, this.ne, this.le⟩, this.cs, this.ws⟩
  rcases row_in row nn with ⟨h1, h2⟩ | ⟨r, h1, h2, h3, h4⟩
  · left
    refine ⟨?_, by unfold AccountNs.rowFine; rw [h2]; rfl⟩
    cases e : canShare c row with
    | false => rfl
    | true => have := hcan _ e rfl; omega
  · have ef : AccountNs.rowFine c.toNat (natsOf row) = if c.toNat ≤ CHARGE ∧ rowOk r = true then some r else none := by unfold AccountNs.rowFine; rw [h1]; rfl
    have cc : CHARGE = 1099511627776 := rfl
    by_cases q : c.toNat ≤ CHARGE ∧ rowOk r = true
    · right
      obtain ⟨q1, q2⟩ := q
      obtain ⟨a1, a2, a3, a4, a5⟩ := (rowOk_iff r).mp q2
      refine ⟨r, ?_, by rw [ef, if_pos ⟨q1, q2⟩], ⟨a1, a2, a3, a5, h3, h4⟩⟩
      unfold canShare
      rw [Bool.and_eq_true, Bool.and_eq_true, Bool.and_eq_true, decide_eq_true_eq, decide_eq_true_eq, ← h3, ← h4, okCs_cast, okWs_cast]
      exact ⟨by omega, by omega, ⟨a4, a3⟩, a5⟩
    · left
      refine ⟨?_, by rw [ef, if_neg q]⟩
      cases e : canShare c row with
      | false => rfl
      | true =>
        exfalso
        obtain ⟨b1, b2, b3, b4⟩ := hcan _ e rfl
        rw [← h3, okCs_cast] at b3
        rw [← h4, okWs_cast] at b4
        apply q
        exact ⟨by omega, (rowOk_iff r).mpr ⟨by omega, by omega, b3.2, b3.1, b4⟩⟩
theorem RowIs.pos {row : List Int} {r : Row} (h : RowIs row r) : 0 < (r.map fun x => x.2).sum := by
  have o := h.one
  match r, o, h.ws with
  | x :: r, _, w =>
    rw [List.map_cons, List.sum_cons]
    have := (w x.2 (List.mem_map.mpr ⟨x, List.mem_cons_self .., rfl⟩)).1
    omega
theorem RowIs.shares {row : List Int} {r : Row} (h : RowIs row r) (c : Nat) : sharesI (c : Nat) (seconds row) = cast (shares c r) := by
  rw [← h.sn, shares_cast h.pos]
  rfl
theorem RowIs.sum {row : List Int} {r : Row} (h : RowIs row r) (c : Nat) : (CbAcc.shares c r).sum = c := shares_sum h.pos
/-! ### accounts -/
def toA3 (x : Account) : A3 := ⟨(x.collected : Nat), (x.got : Nat), x.paid⟩
theorem toA3_pos (x : Account) : (toA3 x).pos = x.position := rfl
theorem smallI_eq (z : Int) : smallI z = small z := by
  unfold smallI small
  have e : (BOUND : Int) = 1125899906842624 := rfl
  rw [e, Bool.eq_iff_iff, Bool.and_eq_true, decide_eq_true_eq, decide_eq_true_eq, decide_eq_true_eq]
  split <;> omega
theorem toA3_ok (x : Account) : (toA3 x).ok = x.ok := by
  unfold A3.ok Account.ok
  rw [toA3_pos, smallI_eq, smallI_eq]
  have e : BOUND = 1125899906842624 := rfl
  rw [e]
  show ((decide (0 ≤ (x.collected : Int)) && decide (0 ≤ (x.got : Int))) && (decide ((x.collected : Int) ≤ 1125899906842624) && (decide ((x.got : Int) ≤ 1125899906842624) && (small x.position && small x.paid)))) = _
  rw [decide_eq_true (show 0 ≤ (x.collected : Int) by omega), decide_eq_true (show 0 ≤ (x.got : Int) by omega), Bool.true_and, Bool.true_and, Bool.and_comm (small x.position)]
  congr 1
  · exact decide_eq_decide.mpr (by omega)
  · congr 1
    exact decide_eq_decide.mpr (by omega)
theorem all_ok (b : Books) : (b.map toA3).all A3.ok = b.ok := by
  unfold Books.ok
  rw [List.all_map]
  congr 1
  funext x
  exact toA3_ok x
theorem modA_at (ys : List A3) (k i : Nat) (f : A3 → A3) : (modA ys k f)[i]? = if k = i then ys[i]?.map f else ys[i]? := by
  unfold modA
  rw [List.getElem?_set]
  by_cases c : k = i
  · subst c
    rw [if_pos rfl, if_pos rfl]
    by_cases l : k < ys.length
    · rw [if_pos l, List.getD_eq_getElem?_getD, List.getElem?_eq_getElem l]; rfl
    · rw [if_neg l, List.getElem?_eq_none (by omega)]; rfl
  · rw [if_neg c, if_neg c]
def tot : List (Int × Int) → Nat → Int
  | [], _ => 0
  | p :: ps, i => (if p.1.toNat = i then p.2 else 0) + tot ps i
theorem addG_zero (x : A3) : addG 0 x = x := by cases x; simp [addG]
theorem gotAll_at : ∀ (ps : List (Int × Int)) (ys : List A3) (i : Nat), (gotAll ys ps)[i]? = ys[i]?.map (addG (tot ps i))
  | [], ys, i => by
    show ys[i]? = _
    cases ys[i]? with
    | none => rfl
    | some x => rw [Option.map_some, show tot [] i = 0 from rfl, addG_zero]
  | p :: ps, ys, i => by
    show (gotAll (modA ys p.1.toNat (addG p.2)) ps)[i]? = _
    rw [gotAll_at ps, modA_at]
    have e : tot (p :: ps) i = (if p.1.toNat = i then p.2 else 0) + tot ps i := rfl
    by_cases c : p.1.toNat = i
    · rw [if_pos c, e, if_pos c, Option.map_map]
      congr 1
      funext x
      show addG _ (addG _ x) = _
      unfold addG
      simp only [A3.mk.injEq, true_and, and_true]
      omega
    · rw [if_neg c, e, if_neg c, Int.zero_add]
theorem tot_find : ∀ (ks us : List Nat) (i : Nat), ks.Nodup → tot ((cast ks).zip (cast us)) i = ((((ks.zip us).find? fun y => y.1 == i).map fun y => y.2).getD 0 : Nat)
  | [], us, i, _ => by cases us <;> rfl
  | k :: ks, [], i, _ => rfl
  | k :: ks, u :: us, i, h => by
    have ih := tot_find ks us i (List.nodup_cons.mp h).2
    show (if ((k : Nat) : Int).toNat = i then ((u : Nat) : Int) else 0) + tot ((cast ks).zip (cast us)) i = _
    rw [Int.toNat_natCast, ih, List.zip_cons_cons, List.find?_cons]
    by_cases c : k = i
    · subst c
      rw [if_pos rfl]
      have nf : (ks.zip us).find? (fun y => y.1 == k) = none := List.find?_eq_none.mpr fun y hy e => (List.nodup_cons.mp h).1 (by
        have := List.of_mem_zip hy
        rw [← eq_of_beq e]; exact this.1)
      rw [nf]
      simp
    · rw [if_neg c]
      have : ((k, u).1 == i) = false := beq_eq_false_iff_ne.mpr c
      rw [this]
      simp
theorem booked_eq {b : Books} {y c : Nat} {row : List Int} {r : Row} (h : RowIs row r) : bookY (b.map toA3) (y : Nat) (c : Nat) row = (b.booked y c r).map toA3 := by
  apply List.ext_getElem?
  intro i
  unfold bookY
  rw [gotAll_at, modA_at, Int.toNat_natCast, List.getElem?_map, h.shares c, ← h.fs, tot_find _ _ _ h.nd]
  unfold Books.booked
  rw [List.getElem?_map, List.getElem?_map, List.getElem?_zipIdx]
  cases b[i]? with
  | none => split <;> rfl
  | some x =>
    rw [Option.map_some, Option.map_some, Option.map_some, Option.map_some]
    have e : ∀ z : A3, (if y = i then some (addC (c : Nat) z) else some z) = some (addC (if y = i then ((c : Nat) : Int) else 0) z) := fun z => by
      split
      · rfl
      · congr 1; cases z; simp [addC]
    rw [e, Option.map_some, Nat.zero_add]
    congr 1
    unfold addG addC toA3
    simp only [A3.mk.injEq, and_true]
    refine ⟨?_, ?_⟩
    · by_cases q : y = i
      · rw [if_pos q, if_pos q.symm]; omega
      · rw [if_neg q, if_neg (fun e => q e.symm)]; omega
    · rw [Int.natCast_add]
theorem paid_eq {b : Books} {f t u : Nat} : payY (b.map toA3) (f : Nat) (t : Nat) (u : Nat) = (b.paid f t u).map toA3 := by
  apply List.ext_getElem?
  intro i
  unfold payY
  rw [modA_at, modA_at, Int.toNat_natCast, Int.toNat_natCast, List.getElem?_map]
  unfold Books.paid
  rw [List.getElem?_map, List.getElem?_map, List.getElem?_zipIdx]
  cases b[i]? with
  | none => split <;> split <;> rfl
  | some x =>
    rw [Option.map_some, Option.map_some, Option.map_some, Nat.zero_add]
    by_cases q1 : f = i
    · by_cases q2 : t = i
      · rw [if_pos q2, if_pos q1, Option.map_some, Option.map_some]
        congr 1
        unfold addP toA3
        simp only [A3.mk.injEq, true_and]
        rw [if_pos q1.symm, if_pos q2.symm]; omega
      · rw [if_neg q2, if_pos q1, Option.map_some]
        congr 1
        unfold addP toA3
        simp only [A3.mk.injEq, true_and]
        rw [if_pos q1.symm, if_neg (fun e => q2 e.symm)]; omega
    · by_cases q2 : t = i
      · rw [if_pos q2, if_neg q1, Option.map_some]
        congr 1
        unfold addP toA3
        simp only [A3.mk.injEq, true_and]
        rw [if_neg (fun e => q1 e.symm), if_pos q2.symm]; omega
      · rw [if_neg q2, if_neg q1]
        congr 1
        unfold toA3
        simp only [A3.mk.injEq, true_and]
        rw [if_neg (fun e => q1 e.symm), if_neg (fun e => q2 e.symm)]; omega
/-! ### positions come to 0 -/
theorem pos_mod {xs : List A3} {k : Nat} (h : k < xs.length) (f : A3 → A3) (d : Int) (hf : ∀ x, (f x).pos = x.pos + d) : (posI (modA xs k f)).sum = (posI xs).sum + d := by
  have e : posI (modA xs k f) = (posI xs).set k (f (xs.getD k ⟨0, 0, 0⟩)).pos := by unfold posI modA; rw [List.map_set]
  rw [e, Sett.sum_set _ _ _ (by unfold posI; rw [List.length_map]; exact h), hf]
  have : (posI xs).getD k 0 = (xs.getD k ⟨0, 0, 0⟩).pos := by
    unfold posI
    rw [List.getD_eq_getElem?_getD, List.getD_eq_getElem?_getD, List.getElem?_map, List.getElem?_eq_getElem h]; rfl
  omega
theorem pos_got : ∀ (ps : List (Int × Int)) (xs : List A3), (∀ p ∈ ps, p.1.toNat < xs.length) → (posI (gotAll xs ps)).sum = (posI xs).sum + (ps.map Prod.snd).sum
  | [], xs, _ => by show _ = _ + 0; rw [Int.add_zero]; rfl
  | p :: ps, xs, h => by
    show (posI (gotAll (modA xs p.1.toNat (addG p.2)) ps)).sum = _
    rw [pos_got ps _ fun q hq => by rw [modA_length]; exact h q (List.mem_cons_of_mem _ hq), pos_mod (h p (List.mem_cons_self ..)) (addG p.2) p.2 (fun x => by unfold A3.pos addG; simp only; omega), List.map_cons, List.sum_cons]
    omega
theorem book_sum {xs : List A3} {y c : Nat} {row : List Int} {r : Row} (h : RowIs row r) (hy : y < xs.length) (hr : ∀ k ∈ firsts row, k < (xs.length : Int)) : (posI (bookY xs (y : Nat) (c : Nat) row)).sum = (posI xs).sum := by
  unfold bookY
  rw [h.shares c, ← h.fs] at *
  have l1 : (CbAcc.shares c r).length = r.length := by unfold CbAcc.shares; rw [sharesOf_eq, List.length_map, List.length_range, List.length_map]
  rw [pos_got, Int.toNat_natCast, pos_mod hy (addC (c : Nat)) (-(c : Int)) (fun x => by unfold A3.pos addC; simp only; omega)]
  · rw [List.map_snd_zip (by rw [cast_length, cast_length, List.length_map, l1]; exact Nat.le_refl _), cast_sum, h.sum c]
    omega
  · intro p hp
    rw [modA_length]
    have m := (List.of_mem_zip hp).1
    have := hr p.1 m
    obtain ⟨k, _, e⟩ := List.mem_map.mp m
    omega
theorem pay_sum {xs : List A3} {f t u : Nat} (hf : f < xs.length) (ht : t < xs.length) : (posI (payY xs (f : Nat) (t : Nat) (u : Nat))).sum = (posI xs).sum := by
  unfold payY
  rw [Int.toNat_natCast, Int.toNat_natCast, pos_mod (by rw [modA_length]; exact ht) (addP (-((u : Nat) : Int))) (-((u : Nat) : Int)) (fun x => by unfold A3.pos addP; simp only; omega), pos_mod hf (addP ((u : Nat) : Int)) ((u : Nat) : Int) (fun x => by unfold A3.pos addP; simp only; omega)]
  omega
end Ew
end
section
set_option Elab.async false
set_option linter.all false
set_option maxRecDepth 100000
namespace Ew
open CbAcc
/-! ### bytes -/
def castB (l : Bytes) : List Int := l.map fun (c : UInt8) => ((c.toNat : Nat) : Int)
theorem castB_append (l m : Bytes) : castB (l ++ m) = castB l ++ castB m := List.map_append
theorem castB_length (l : Bytes) : (castB l).length = l.length := List.length_map ..
theorem castB_inj {l m : Bytes} (h : castB l = castB m) : l = m := by
  unfold castB at h
  induction l generalizing m with
  | nil => cases m with
    | nil => rfl
    | cons y m => cases h
  | cons x l ih =>
    cases m with
    | nil => cases h
    | cons y m =>
      rw [List.map_cons, List.map_cons] at h
      injection h with h1 h2
      rw [ih h2, UInt8.toNat_inj.mp (by omega : x.toNat = y.toNat)]
theorem low_nat : ∀ (k n : Nat), lowI k (n : Nat) = castB (le k n)
  | 0, _ => rfl
  | k + 1, n => by
    show ((n : Nat) : Int) % 256 :: lowI k (((n : Nat) : Int) / 256) = ((UInt8.ofNat (n % 256)).toNat : Int) :: castB (le k (n / 256))
    rw [show ((n : Nat) : Int) / 256 = ((n / 256 : Nat) : Int) by omega, low_nat k, UInt8.toNat_ofNat']
    congr 1
    omega
theorem low_add : ∀ (k : Nat) (z m : Int), lowI k (z + 256 ^ k * m) = lowI k z
  | 0, _, _ => rfl
  | k + 1, z, m => by
    have e : (256 : Int) ^ (k + 1) * m = 256 * (256 ^ k * m) := by rw [Int.pow_succ, Int.mul_comm (256 ^ k) 256, Int.mul_assoc]
    show (z + 256 ^ (k + 1) * m) % 256 :: lowI k ((z + 256 ^ (k + 1) * m) / 256) = z % 256 :: lowI k (z / 256)
    rw [e, Int.add_mul_emod_self_left, Int.add_mul_ediv_left _ _ (by decide), low_add k]
theorem low8 (z : Int) : lowI 8 z = castB (le8 z) := by
  unfold le8
  rw [← low_nat]
  have h0 : 0 ≤ z % 2 ^ 64 := Int.emod_nonneg _ (by decide)
  rw [Int.toNat_of_nonneg h0]
  have e := Int.mul_ediv_add_emod z (2 ^ 64)
  have e2 : z = z % 2 ^ 64 + 256 ^ 8 * (z / 2 ^ 64) := by
    have : (256 : Int) ^ 8 = 2 ^ 64 := by decide
    rw [this]; omega
  conv => lhs; rw [e2]
  exact low_add 8 _ _
theorem acc_bytes (x : Account) : accI (toA3 x) = castB (accountBytes x) := by
  unfold accI accountBytes
  rw [castB_append, castB_append, castB_append, toA3_pos, low8, low8, low8, low8]
  rfl
theorem flat_bytes : ∀ b : List Account, (b.map toA3).flatMap accI = castB (b.flatMap accountBytes)
  | [] => rfl
  | x :: b => by rw [List.map_cons, List.flatMap_cons, List.flatMap_cons, castB_append, acc_bytes, flat_bytes b]
theorem plain_bytes {b : Books} (h : b.length ≤ 6) : plainI (b.map toA3) = castB (plain b) := by
  unfold plainI plain headI
  rw [flat_bytes, castB_append]
  show ([67, 66, 65, 49, (((b.map toA3).length : Nat) : Int)] : List Int) ++ castB (b.flatMap accountBytes) = castB MARK ++ (((UInt8.ofNat b.length).toNat : Int) :: castB (b.flatMap accountBytes))
  rw [UInt8.toNat_ofNat', Nat.mod_eq_of_lt (by omega), List.length_map]
  rfl
theorem castB_sum (l : Bytes) : (castB l).sum = ((sumN (l.map fun c => c.toNat) : Nat) : Int) := by
  rw [sumN_eq, ← cast_sum]
  unfold castB cast
  rw [List.map_map]
  rfl
theorem saved_bytes_eq {b : Books} (h : b.length ≤ 6) : savedI (b.map toA3) = castB b.bytes := by
  unfold savedI Books.bytes
  rw [plain_bytes h, castB_append, castB_sum]
  congr 1
  unfold checkOf
  rw [← low_nat]
  congr 1
/-! ### reading -/
theorem num_eq : ∀ l : Bytes, numI (castB l) = ((num l : Nat) : Int)
  | [] => rfl
  | c :: l => by
    show ((c.toNat : Nat) : Int) + 256 * numI (castB l) = ((c.toNat + 256 * num l : Nat) : Int)
    rw [num_eq l]
    omega
theorem castB_take (l : Bytes) (n : Nat) : castB (l.take n) = (castB l).take n := List.map_take
theorem castB_drop (l : Bytes) (n : Nat) : castB (l.drop n) = (castB l).drop n := List.map_drop
def numAt (x : Bytes) (i : Nat) : Nat := num ((x.drop i).take 8)
theorem numAt_eq (x : Bytes) (i : Nat) : numAtI (castB x) i = signI ((numAt x i : Nat) : Int) := by
  unfold numAtI numAt
  rw [← num_eq, castB_take, castB_drop]
def accOf (x : Bytes) (c : Nat) : Account := ⟨numAt x (13 + 32 * c), numAt x (21 + 32 * c), signed (numAt x (29 + 32 * c))⟩
theorem accIn_eq (x : Bytes) (c : Nat) : accountIn (x.drop (5 + 32 * c)) = accOf x c := by
  unfold accountIn accOf numAt
  rw [List.drop_drop, List.drop_drop, List.drop_drop, show 5 + 32 * c + 8 = 13 + 32 * c by omega, show 5 + 32 * c + 16 = 21 + 32 * c by omega, show 5 + 32 * c + 24 = 29 + 32 * c by omega]
theorem accsIn_eq (x : Bytes) : ∀ (n c : Nat), accountsIn n (x.drop (5 + 32 * c)) = (List.range n).map fun i => accOf x (c + i)
  | 0, _ => rfl
  | n + 1, c => by
    show accountIn (x.drop (5 + 32 * c)) :: accountsIn n ((x.drop (5 + 32 * c)).drop 32) = _
    rw [accIn_eq, List.drop_drop, show 5 + 32 * c + 32 = 5 + 32 * (c + 1) by omega, accsIn_eq x n (c + 1), List.range_succ_eq_map, List.map_cons, List.map_map]
    congr 1
    apply List.map_congr_left
    intro i _
    show accOf x (c + 1 + i) = accOf x (c + (i + 1))
    rw [show c + 1 + i = c + (i + 1) by omega]
theorem sign_eq (n : Nat) : signI (n : Nat) = signed n := by
  unfold signI signed
  have e : (2 : Nat) ^ 63 = 9223372036854775808 := by decide
  have e2 : (2 : Int) ^ 64 = 18446744073709551616 := by decide
  rw [e, e2]
  split <;> split <;> omega
theorem num_small (l : Bytes) : num l < 256 ^ l.length := by
  induction l with
  | nil => show 0 < 1; decide
  | cons c l ih =>
    show c.toNat + 256 * num l < 256 ^ (l.length + 1)
    have := c.toNat_lt
    rw [Nat.pow_succ]
    omega
theorem numAt_lt (x : Bytes) (i : Nat) : numAt x i < 18446744073709551616 := by
  unfold numAt
  have h := num_small ((x.drop i).take 8)
  have l : ((x.drop i).take 8).length ≤ 8 := List.length_take_le _ _
  have := Nat.pow_le_pow_right (show 0 < 256 by decide) l
  have e : (256 : Nat) ^ 8 = 18446744073709551616 := by decide
  omega
theorem acc_read (x : Bytes) (c : Nat) : (accAtI (castB x) c).ok = (accOf x c).ok ∧ ((accOf x c).ok = true → accAtI (castB x) c = toA3 (accOf x c)) := by
  have e : accAtI (castB x) c = ⟨signI (numAt x (13 + 32 * c) : Nat), signI (numAt x (21 + 32 * c) : Nat), signI (numAt x (29 + 32 * c) : Nat)⟩ := by unfold accAtI; rw [numAt_eq, numAt_eq, numAt_eq]
  have l1 := numAt_lt x (13 + 32 * c)
  have l2 := numAt_lt x (21 + 32 * c)
  by_cases b1 : numAt x (13 + 32 * c) < 9223372036854775808
  · by_cases b2 : numAt x (21 + 32 * c) < 9223372036854775808
    · have eq : accAtI (castB x) c = toA3 (accOf x c) := by
        rw [e]
        unfold toA3 accOf
        simp only [A3.mk.injEq]
        refine ⟨?_, ?_, sign_eq _⟩
        · unfold signI; rw [if_neg (by omega)]
        · unfold signI; rw [if_neg (by omega)]
      rw [eq]
      exact ⟨toA3_ok _, fun _ => rfl⟩
    · have f1 : (accOf x c).ok = false := by
        unfold Account.ok accOf
        have : BOUND = 1125899906842624 := rfl
        rw [this, decide_eq_false (p := numAt x (21 + 32 * c) ≤ 1125899906842624) (by omega), Bool.false_and, Bool.and_false]
      have f2 : (accAtI (castB x) c).ok = false := by
        rw [e]
        unfold A3.ok signI
        simp only
        rw [if_pos (show 9223372036854775808 ≤ ((numAt x (21 + 32 * c) : Nat) : Int) by omega), decide_eq_false (p := (0 : Int) ≤ ((numAt x (21 + 32 * c) : Nat) : Int) - 18446744073709551616) (by omega), Bool.and_false, Bool.false_and]
      rw [f1, f2]
      exact ⟨rfl, fun h => by cases h⟩
  · have f1 : (accOf x c).ok = false := by
      unfold Account.ok accOf
      have : BOUND = 1125899906842624 := rfl
      rw [this, decide_eq_false (p := numAt x (13 + 32 * c) ≤ 1125899906842624) (by omega), Bool.false_and]
    have f2 : (accAtI (castB x) c).ok = false := by
      rw [e]
      unfold A3.ok
      simp only
      rw [show signI ((numAt x (13 + 32 * c) : Nat) : Int) = ((numAt x (13 + 32 * c) : Nat) : Int) - 18446744073709551616 from by unfold signI; rw [if_pos (by omega)], decide_eq_false (p := (0 : Int) ≤ ((numAt x (13 + 32 * c) : Nat) : Int) - 18446744073709551616) (by omega), Bool.false_and, Bool.false_and]
    rw [f1, f2]
    exact ⟨rfl, fun h => by cases h⟩
theorem sumZ_eq (l : List Int) : sumZ l = l.sum := by
  induction l with
  | nil => rfl
  | cons x l ih => show x + sumZ l = _; rw [ih, List.sum_cons]
theorem accs_read (x : Bytes) (n : Nat) : ((List.range n).map (accAtI (castB x))).all A3.ok = Books.ok ((List.range n).map (accOf x)) ∧ (Books.ok ((List.range n).map (accOf x)) = true → (List.range n).map (accAtI (castB x)) = ((List.range n).map (accOf x)).map toA3) := by
  refine ⟨?_, fun h => ?_⟩
  · unfold Books.ok
    rw [List.all_map, List.all_map]
    congr 1
    funext c
    exact (acc_read x c).1
  · rw [List.map_map]
    apply List.map_congr_left
    intro c hc
    unfold Books.ok at h
    exact (acc_read x c).2 (List.all_eq_true.mp h _ (List.mem_map_of_mem hc))
theorem castB_getD (x : Bytes) (i : Nat) : (castB x).getD i 0 = (((x.getD i 0).toNat : Nat) : Int) := by
  unfold castB
  rw [List.getD_eq_getElem?_getD, List.getD_eq_getElem?_getD, List.getElem?_map]
  cases x[i]? <;> rfl
theorem pos_sum : ∀ b : List Account, (posI (b.map toA3)).sum = ((b.map fun y => y.got).sum : Nat) - ((b.map fun y => y.collected).sum : Nat) + (b.map fun y => y.paid).sum
  | [] => rfl
  | x :: b => by
    have ih := pos_sum b
    unfold posI at ih ⊢
    rw [List.map_cons, List.map_cons, List.sum_cons, ih, List.map_cons, List.map_cons, List.map_cons, List.sum_cons, List.sum_cons, List.sum_cons, toA3_pos]
    unfold Account.position
    omega
theorem sums_cast (b : List Account) : ((b.map toA3).map A3.p).sum = (b.map fun y => y.paid).sum ∧ ((b.map toA3).map A3.c).sum = ((b.map fun y => y.collected).sum : Nat) ∧ ((b.map toA3).map A3.g).sum = ((b.map fun y => y.got).sum : Nat) := by
  refine ⟨by rw [List.map_map]; rfl, ?_, ?_⟩
  · rw [← cast_sum, List.map_map]; unfold cast; rw [List.map_map]; rfl
  · rw [← cast_sum, List.map_map]; unfold cast; rw [List.map_map]; rfl
/-- **Loaded as they were; of bytes that are none's nothing.** -/
theorem load_eq (x : Bytes) : (readI (castB x) = none ∧ readBooks x = none) ∨ (∃ b, readBooks x = some b ∧ readI (castB x) = some (b.map toA3) ∧ 2 ≤ b.length ∧ b.length ≤ 6 ∧ (posI (b.map toA3)).sum = 0) := by
  have en : ((castB x).getD 4 0) = (((x.getD 4 0).toNat : Nat) : Int) := castB_getD x 4
  generalize hn : (x.getD 4 0).toNat = n at en
  have eb : accountsIn n (x.drop 5) = (List.range n).map (accOf x) := by
    have := accsIn_eq x n 0
    rw [Nat.mul_zero, Nat.add_zero] at this
    rw [this]
    apply List.map_congr_left
    intro i _
    rw [Nat.zero_add]
  have er : readBooks x = if 2 ≤ n ∧ n ≤ 6 ∧ x.length = 9 + 32 * n ∧ Books.ok ((List.range n).map (accOf x)) = true ∧ sumZ (((List.range n).map (accOf x)).map fun y => y.paid) = 0 ∧ sumN (((List.range n).map (accOf x)).map fun y => y.got) = sumN (((List.range n).map (accOf x)).map fun y => y.collected) ∧ Books.bytes ((List.range n).map (accOf x)) = x then some ((List.range n).map (accOf x)) else none := by
    unfold readBooks
    simp only [hn, eb]
  have ei : readI (castB x) = (if lenOkI (castB x) = true then (if rightI ((List.range n).map (accAtI (castB x))) = true then (if savedI ((List.range n).map (accAtI (castB x))) = castB x then some ((List.range n).map (accAtI (castB x))) else none) else none) else none) := by
    unfold readI
    rw [en, Int.toNat_natCast]
  have lok : lenOkI (castB x) = true ↔ 2 ≤ n ∧ n ≤ 6 ∧ x.length = 9 + 32 * n := by
    unfold lenOkI
    rw [en, castB_length, Bool.and_eq_true, Bool.and_eq_true, decide_eq_true_eq, decide_eq_true_eq, decide_eq_true_eq]
    omega
  obtain ⟨ok1, ok2⟩ := accs_read x n
  rw [er, ei]
  by_cases h1 : lenOkI (castB x) = true
  · obtain ⟨n2, n6, ln⟩ := lok.mp h1
    rw [if_pos h1]
    have lb : ((List.range n).map (accOf x)).length = n := by rw [List.length_map, List.length_range]
    by_cases h2 : Books.ok ((List.range n).map (accOf x)) = true
    · have e := ok2 h2
      rw [e]
      rw [e] at ok1
      generalize (List.range n).map (accOf x) = b at *
      obtain ⟨s1, s2, s3⟩ := sums_cast b
      have sv := saved_bytes_eq (b := b) (by omega)
      have hr : rightI (b.map toA3) = true ↔ sumZ (b.map fun y => y.paid) = 0 ∧ sumN (b.map fun y => y.got) = sumN (b.map fun y => y.collected) := by
        unfold rightI
        rw [ok1, h2, Bool.true_and, Bool.and_eq_true, decide_eq_true_eq, decide_eq_true_eq, s1, s2, s3, sumZ_eq, sumN_eq, sumN_eq]
        constructor
        · rintro ⟨a1, a2⟩; exact ⟨a1, by omega⟩
        · rintro ⟨a1, a2⟩; exact ⟨a1, by omega⟩
      by_cases h3 : rightI (b.map toA3) = true
      · obtain ⟨p0, gc⟩ := hr.mp h3
        rw [if_pos h3, sv]
        by_cases h4 : Books.bytes b = x
        · right
          refine ⟨b, by rw [if_pos ⟨n2, n6, ln, h2, p0, gc, h4⟩], by rw [if_pos (by rw [h4])], by omega, by omega, ?_⟩
          rw [pos_sum]
          rw [sumZ_eq] at p0
          rw [sumN_eq, sumN_eq] at gc
          omega
        · left
          exact ⟨by rw [if_neg (fun q => h4 (castB_inj q))], by rw [if_neg (fun q => h4 q.2.2.2.2.2.2)]⟩
      · left
        refine ⟨by rw [if_neg h3], ?_⟩
        rw [if_neg]
        rintro ⟨_, _, _, _, q1, q2, _⟩
        exact h3 (hr.mpr ⟨q1, q2⟩)
    · left
      refine ⟨?_, by rw [if_neg (fun q => h2 q.2.2.2.1)]⟩
      have : rightI ((List.range n).map (accAtI (castB x))) = false := by
        unfold rightI
        rw [ok1, show Books.ok ((List.range n).map (accOf x)) = false from Bool.eq_false_iff.mpr h2, Bool.false_and]
      rw [this, if_neg (by decide)]
  · left
    refine ⟨by rw [if_neg h1], ?_⟩
    rw [if_neg]
    rintro ⟨q1, q2, q3, _⟩
    exact h1 (lok.mpr ⟨q1, q2, q3⟩)
end Ew
end
section
set_option Elab.async false
set_option linter.all false
set_option maxRecDepth 100000
namespace Ew
open CbAcc
/-- the program's accounts are the specification's books -/
def StOf (s : AccountNs.State) (xs : List A3) : Prop := match s with
  | none => xs = []
  | some b => xs = b.map toA3 ∧ 2 ≤ b.length ∧ b.length ≤ 6 ∧ (posI xs).sum = 0
theorem StOf.sane {s : AccountNs.State} {xs : List A3} (h : StOf s xs) : Sane xs := by
  cases s with
  | none =>
    have e : xs = [] := h
    subst e
    exact ⟨by decide, rfl⟩
  | some b =>
    obtain ⟨rfl, _, h6, hs⟩ := h
    exact ⟨by rw [List.length_map]; exact h6, hs⟩
theorem nats_eq (l : List Int) : AccountNeutral.nats l = natsOf l := rfl
theorem long_nn {l : List Int} {n : Nat} {hi : Int} (h : AccountNeutral.long l n 0 hi = true) : l.length ≤ n ∧ ∀ z ∈ l, 0 ≤ z ∧ z ≤ hi := by
  unfold AccountNeutral.long at h
  rw [Bool.and_eq_true, decide_eq_true_eq, List.all_eq_true] at h
  refine ⟨h.1, fun z hz => ?_⟩
  have := h.2 z hz
  rw [Bool.and_eq_true, decide_eq_true_eq, decide_eq_true_eq] at this
  exact this
theorem nat_nn {z : Int} (h : AccountNeutral.natural z 53 = true) : 0 ≤ z := by
  unfold AccountNeutral.natural at h
  rw [Bool.and_eq_true, decide_eq_true_eq] at h
  exact h.1
/-- the nine calls -/
inductive Kind : List (List Int) → Int → List Int → List Int → Prop
  | share (c : Int) (r : List Int) : 0 ≤ c → (∀ z ∈ r, 0 ≤ z) → r.length ≤ 1000 → Kind [[0, c], r] 0 [c] r
  | begin_ (n : Int) : 0 ≤ n → Kind [[1, n]] 1 [n] []
  | book (y c : Int) (r : List Int) : 0 ≤ y → 0 ≤ c → (∀ z ∈ r, 0 ≤ z) → r.length ≤ 1000 → Kind [[2, y, c], r] 2 [y, c] r
  | pay (f t u : Int) : 0 ≤ f → 0 ≤ t → 0 ≤ u → Kind [[3, f, t, u]] 3 [f, t, u] []
  | told (k : Int) : 0 ≤ k → Kind [[4, k]] 4 [k] []
  | settle : Kind [[5]] 5 [] []
  | least : Kind [[6]] 6 [] []
  | save : Kind [[7]] 7 [] []
  | load (b : List Int) : (∀ z ∈ b, 0 ≤ z ∧ z ≤ 255) → b.length ≤ 1000 → Kind [[8], b] 8 [] b
theorem len1 {l : List Int} (h : l.length = 1) : ∃ a, l = [a] := by
  match l, h with
  | [a], _ => exact ⟨a, rfl⟩
theorem len2 {l : List Int} (h : l.length = 2) : ∃ a b, l = [a, b] := by
  match l, h with
  | [a, b], _ => exact ⟨a, b, rfl⟩
theorem len3 {l : List Int} (h : l.length = 3) : ∃ a b c, l = [a, b, c] := by
  match l, h with
  | [a, b, c], _ => exact ⟨a, b, c, rfl⟩
theorem kind_of {c : List (List Int)} {p : Int} {nums row : List Int} (ha : AccountNeutral.asked1 (PyWrcblc.whole c) = true) (sh : Shape c p nums row) : PyWrcblc.whole c = c ∧ Kind c p nums row := by
  obtain ⟨lo, hi, ln, is⟩ := sh
  obtain ⟨n, rfl⟩ : ∃ n : Nat, p = (n : Int) := ⟨p.toNat, by omega⟩
  match n, hi with
  | 0, _ =>
    obtain ⟨a, rfl⟩ := len1 ln
    have e : c = [[0, a], row] := is
    subst e
    have h : (AccountNeutral.natural a 53 && AccountNeutral.long row 1000 0 9007199254740991) = true := ha
    rw [Bool.and_eq_true] at h
    obtain ⟨l1, l2⟩ := long_nn h.2
    exact ⟨rfl, .share a row (nat_nn h.1) (fun z hz => (l2 z hz).1) l1⟩
  | 1, _ =>
    obtain ⟨a, rfl⟩ := len1 ln
    obtain ⟨e, rfl⟩ : c = [[1, a]] ∧ row = [] := is
    subst e
    have h : AccountNeutral.natural a 53 = true := ha
    exact ⟨rfl, .begin_ a (nat_nn h)⟩
  | 2, _ =>
    obtain ⟨a, b, rfl⟩ := len2 ln
    have e : c = [[2, a, b], row] := is
    subst e
    have h : (AccountNeutral.natural a 53 && (AccountNeutral.natural b 53 && AccountNeutral.long row 1000 0 9007199254740991)) = true := ha
    rw [Bool.and_eq_true, Bool.and_eq_true] at h
    obtain ⟨l1, l2⟩ := long_nn h.2.2
    exact ⟨rfl, .book a b row (nat_nn h.1) (nat_nn h.2.1) (fun z hz => (l2 z hz).1) l1⟩
  | 3, _ =>
    obtain ⟨a, b, d, rfl⟩ := len3 ln
    obtain ⟨e, rfl⟩ : c = [[3, a, b, d]] ∧ row = [] := is
    subst e
    have h : (AccountNeutral.natural a 53 && (AccountNeutral.natural b 53 && AccountNeutral.natural d 53)) = true := ha
    rw [Bool.and_eq_true, Bool.and_eq_true] at h
    exact ⟨rfl, .pay a b d (nat_nn h.1) (nat_nn h.2.1) (nat_nn h.2.2)⟩
  | 4, _ =>
    obtain ⟨a, rfl⟩ := len1 ln
    obtain ⟨e, rfl⟩ : c = [[4, a]] ∧ row = [] := is
    subst e
    have h : AccountNeutral.natural a 53 = true := ha
    exact ⟨rfl, .told a (nat_nn h)⟩
  | 5, _ =>
    have : nums = [] := List.length_eq_zero_iff.mp ln
    subst this
    obtain ⟨e, rfl⟩ : c = [[5]] ∧ row = [] := is
    subst e
    exact ⟨rfl, .settle⟩
  | 6, _ =>
    have : nums = [] := List.length_eq_zero_iff.mp ln
    subst this
    obtain ⟨e, rfl⟩ : c = [[6]] ∧ row = [] := is
    subst e
    exact ⟨rfl, .least⟩
  | 7, _ =>
    have : nums = [] := List.length_eq_zero_iff.mp ln
    subst this
    obtain ⟨e, rfl⟩ : c = [[7]] ∧ row = [] := is
    subst e
    exact ⟨rfl, .save⟩
  | 8, _ =>
    have : nums = [] := List.length_eq_zero_iff.mp ln
    subst this
    have e : c = [[8], row] := is
    subst e
    have h : AccountNeutral.long row 1000 0 255 = true := ha
    obtain ⟨l1, l2⟩ := long_nn h
    exact ⟨rfl, .load row l2 l1⟩
  | n + 9, hi => omega
theorem Kind.fine {c : List (List Int)} {p : Int} {nums row : List Int} (h : Kind c p nums row) : Fine p nums row := by
  cases h with
  | share c r h1 h2 h3 => exact ⟨by decide, by decide, fun _ => rfl, by intro h; omega, by intro h; omega, by simpa using h1, h2, h3⟩
  | begin_ n h1 => exact ⟨by decide, by decide, fun _ => rfl, by intro h; omega, by intro h; omega, by simpa using h1, by simp, by simp⟩
  | book y c r h1 h2 h3 h4 => exact ⟨by decide, by decide, by intro h; omega, fun _ => rfl, by intro h; omega, by simpa using ⟨h1, h2⟩, h3, h4⟩
  | pay f t u h1 h2 h3 => exact ⟨by decide, by decide, by intro h; omega, by intro h; omega, fun _ => rfl, by simpa using ⟨h1, h2, h3⟩, by simp, by simp⟩
  | told k h1 => exact ⟨by decide, by decide, fun _ => rfl, by intro h; omega, by intro h; omega, by simpa using h1, by simp, by simp⟩
  | settle => exact ⟨by decide, by decide, by intro h; omega, by intro h; omega, by intro h; omega, by simp, by simp, by simp⟩
  | least => exact ⟨by decide, by decide, by intro h; omega, by intro h; omega, by intro h; omega, by simp, by simp, by simp⟩
  | save => exact ⟨by decide, by decide, by intro h; omega, by intro h; omega, by intro h; omega, by simp, by simp, by simp⟩
  | load b h1 h2 => exact ⟨by decide, by decide, by intro h; omega, by intro h; omega, by intro h; omega, by simp, fun z hz => (h1 z hz).1, h2⟩
/-- what a step tells -/
def say (y : AccountNs.State × AccountNs.Answer) : AccountNs.State × List Int := (y.1, y.2.code :: y.2.told.flatMap AccountNeutral.toldInts)
theorem natOf {z : Int} (h : 0 ≤ z) : ((z.toNat : Nat) : Int) = z := Int.toNat_of_nonneg h
theorem cast_eq (l : List Nat) : (l.map fun (n : Nat) => (n : Int)) = cast l := rfl
section
variable {s : AccountNs.State} {xs : List A3} (st : StOf s xs)
include st
theorem st_share {c : Int} {r : List Int} (c0 : 0 ≤ c) (nn : ∀ z ∈ r, 0 ≤ z) : (say (AccountNs.step s (.share c.toNat (natsOf r)))).2 = shareA c r ∧ StOf (say (AccountNs.step s (.share c.toNat (natsOf r)))).1 xs := by
  refine ⟨?_, st⟩
  have e : AccountNs.step s (.share c.toNat (natsOf r)) = (s, match AccountNs.rowFine c.toNat (natsOf r) with | none => AccountNs.BAD | some r => AccountNs.tells [.l (shares c.toNat r)]) := rfl
  rw [e]
  unfold shareA
  rcases row_fine c0 nn with ⟨h1, h2⟩ | ⟨q, h1, h2, h3⟩
  · rw [h2, h1, if_neg (by decide)]; rfl
  · have es := h3.shares c.toNat
    rw [natOf c0] at es
    rw [h2, h1, if_pos rfl, es, cast_length]
    show (0 : Int) :: (((shares c.toNat q).length : Nat) : Int) :: ((shares c.toNat q).map fun (n : Nat) => (n : Int)) ++ [] = _
    rw [List.append_nil]
    rfl
theorem st_begin {n : Int} (n0 : 0 ≤ n) : (say (AccountNs.step s (.begin_ n.toNat))).2 = beginA n ∧ StOf (say (AccountNs.step s (.begin_ n.toNat))).1 (beginX n xs) := by
  have e : AccountNs.step s (.begin_ n.toNat) = if n.toNat < 2 ∨ 6 < n.toNat then (s, AccountNs.BAD) else (some (Books.begun n.toNat), AccountNs.says 0) := rfl
  rw [e]
  unfold beginA beginX
  by_cases q : n < 2 ∨ 6 < n
  · rw [if_pos (by omega), if_pos q, if_pos q]
    exact ⟨rfl, st⟩
  · rw [if_neg (by omega), if_neg q, if_neg q]
    refine ⟨rfl, ?_, ?_, ?_, ?_⟩
    · unfold Books.begun
      rw [List.map_replicate]; rfl
    · unfold Books.begun; rw [List.length_replicate]; omega
    · unfold Books.begun; rw [List.length_replicate]; omega
    · unfold posI
      rw [List.map_replicate]
      show (List.replicate n.toNat (0 : Int)).sum = 0
      generalize n.toNat = m
      induction m with
      | zero => rfl
      | succ m ih => rw [List.replicate_succ, List.sum_cons, ih]; rfl
theorem st_load {b : List Int} (hb : ∀ z ∈ b, 0 ≤ z ∧ z ≤ 255) : (say (AccountNs.step s (.load (b.map fun n => UInt8.ofNat n.toNat)))).2 = loadA b ∧ StOf (say (AccountNs.step s (.load (b.map fun n => UInt8.ofNat n.toNat)))).1 (loadX xs b) := by
  have ec : castB (b.map fun n => UInt8.ofNat n.toNat) = b := by
    unfold castB
    rw [List.map_map]
    conv => rhs; rw [← List.map_id b]
    apply List.map_congr_left
    intro z hz
    obtain ⟨z0, z1⟩ := hb z hz
    show (((UInt8.ofNat z.toNat).toNat : Nat) : Int) = z
    rw [UInt8.toNat_ofNat', Nat.mod_eq_of_lt (by omega)]
    omega
  have e : AccountNs.step s (.load (b.map fun n => UInt8.ofNat n.toNat)) = (match readBooks (b.map fun n => UInt8.ofNat n.toNat) with | none => (s, AccountNs.NOT) | some x => (some x, AccountNs.says 0)) := rfl
  rw [e]
  have l := load_eq (b.map fun n => UInt8.ofNat n.toNat)
  rw [ec] at l
  unfold loadA loadX
  rcases l with ⟨h1, h2⟩ | ⟨bk, h1, h2, h3, h4, h5⟩
  · rw [h1, h2]
    exact ⟨rfl, st⟩
  · rw [h1, h2]
    exact ⟨rfl, rfl, h3, h4, h5⟩
end
section
variable {b : Books} {xs : List A3} (e0 : xs = b.map toA3) (l2 : 2 ≤ b.length) (l6 : b.length ≤ 6) (hs : (posI xs).sum = 0)
include e0 l2 l6 hs
theorem st_book {y c : Int} {r : List Int} (y0 : 0 ≤ y) (c0 : 0 ≤ c) (nn : ∀ z ∈ r, 0 ≤ z) : (say (AccountNs.onBooks b (.book y.toNat c.toNat (natsOf r)))).2 = bookA xs y c r ∧ StOf (say (AccountNs.onBooks b (.book y.toNat c.toNat (natsOf r)))).1 (bookX xs y c r) := by
  have st : StOf (some b) xs := ⟨e0, l2, l6, hs⟩
  have lx : xs.length = b.length := by rw [e0, List.length_map]
  have e : AccountNs.onBooks b (.book y.toNat c.toNat (natsOf r)) = (match AccountNs.rowFine c.toNat (natsOf r) with
    | none => (some b, AccountNs.BAD)
    | some r => if b.length ≤ y.toNat ∨ (r.any fun (x : Nat × Nat) => decide (b.length ≤ x.1)) = true then (some b, AccountNs.BAD) else if (b.booked y.toNat c.toNat r).ok = false then (some b, AccountNs.FAR) else (some (b.booked y.toNat c.toNat r), AccountNs.says 0)) := rfl
  rw [e]
  unfold bookA bookX
  rcases row_fine c0 nn with ⟨h1, h2⟩ | ⟨q, h1, h2, h3⟩
  · rw [h2, if_pos (.inl h1), if_pos (.inl h1)]
    exact ⟨rfl, st⟩
  · rw [h2]
    have hbad : bookBad xs y c r ↔ b.length ≤ y.toNat ∨ (q.any fun (x : Nat × Nat) => decide (b.length ≤ x.1)) = true := by
      unfold bookBad
      rw [lx, ← h3.fs]
      constructor
      · rintro (z | z | ⟨k, hk, z⟩)
        · rw [h1] at z; cases z
        · exact .inl (by omega)
        · obtain ⟨m, hm, rfl⟩ := List.mem_map.mp hk
          obtain ⟨x, hx, rfl⟩ := List.mem_map.mp hm
          exact .inr (List.any_eq_true.mpr ⟨x, hx, decide_eq_true (by omega)⟩)
      · rintro (z | z)
        · exact .inr (.inl (by omega))
        · obtain ⟨x, hx, z⟩ := List.any_eq_true.mp z
          have := of_decide_eq_true z
          exact .inr (.inr ⟨(x.1 : Nat), List.mem_map.mpr ⟨x.1, List.mem_map.mpr ⟨x, hx, rfl⟩, rfl⟩, by omega⟩)
    show (say (if _ then _ else _)).2 = _ ∧ StOf (say (if _ then _ else _)).1 _
    by_cases g : bookBad xs y c r
    · rw [if_pos (hbad.mp g), if_pos g, if_pos g]
      exact ⟨rfl, st⟩
    · rw [if_neg (fun z => g (hbad.mpr z)), if_neg g, if_neg g]
      have eq := booked_eq (b := b) (y := y.toNat) (c := c.toNat) h3
      rw [natOf y0, natOf c0, ← e0] at eq
      have ok := all_ok (b.booked y.toNat c.toNat q)
      rw [← eq] at ok
      have hy : y.toNat < xs.length := by
        apply Classical.byContradiction
        intro z
        exact g (.inr (.inl (by omega)))
      have hr : ∀ k ∈ firsts r, k < (xs.length : Int) := fun k hk => Classical.byContradiction fun z => g (.inr (.inr ⟨k, hk, z⟩))
      have sm := book_sum (c := c.toNat) h3 hy hr
      rw [natOf y0, natOf c0] at sm
      unfold takeA takeX
      cases o : (b.booked y.toNat c.toNat q).ok with
      | false =>
        rw [o] at ok
        rw [if_pos rfl, ok, if_neg (by decide), if_neg (by decide)]
        exact ⟨rfl, st⟩
      | true =>
        rw [o] at ok
        rw [if_neg (by decide), ok, if_pos rfl, if_pos rfl]
        have lb : (b.booked y.toNat c.toNat q).length = b.length := by
          unfold Books.booked
          rw [List.length_map, List.length_zipIdx]
        refine ⟨rfl, eq, by omega, by omega, by rw [sm]; exact hs⟩
theorem st_pay {f t u : Int} (f0 : 0 ≤ f) (t0 : 0 ≤ t) (u0 : 0 ≤ u) : (say (AccountNs.onBooks b (.pay f.toNat t.toNat u.toNat))).2 = payA xs f t u ∧ StOf (say (AccountNs.onBooks b (.pay f.toNat t.toNat u.toNat))).1 (payX xs f t u) := by
  have st : StOf (some b) xs := ⟨e0, l2, l6, hs⟩
  have lx : xs.length = b.length := by rw [e0, List.length_map]
  have e : AccountNs.onBooks b (.pay f.toNat t.toNat u.toNat) = if b.length ≤ f.toNat ∨ b.length ≤ t.toNat ∨ f.toNat = t.toNat ∨ u.toNat < 1 ∨ BOUND < u.toNat then (some b, AccountNs.BAD) else if (b.paid f.toNat t.toNat u.toNat).ok = false then (some b, AccountNs.FAR) else (some (b.paid f.toNat t.toNat u.toNat), AccountNs.says 0) := rfl
  rw [e]
  unfold payA payX
  have eB : BOUND = 1125899906842624 := rfl
  have hbad : payBad xs f t u ↔ b.length ≤ f.toNat ∨ b.length ≤ t.toNat ∨ f.toNat = t.toNat ∨ u.toNat < 1 ∨ BOUND < u.toNat := by
    unfold payBad
    rw [lx, eB]
    omega
  by_cases g : payBad xs f t u
  · rw [if_pos (hbad.mp g), if_pos g, if_pos g]
    exact ⟨rfl, st⟩
  · rw [if_neg (fun z => g (hbad.mpr z)), if_neg g, if_neg g]
    have eq := paid_eq (b := b) (f := f.toNat) (t := t.toNat) (u := u.toNat)
    rw [natOf f0, natOf t0, natOf u0, ← e0] at eq
    have ok := all_ok (b.paid f.toNat t.toNat u.toNat)
    rw [← eq] at ok
    have gf : f.toNat < xs.length := by
      apply Classical.byContradiction
      intro z
      exact g (.inl (by omega))
    have gt : t.toNat < xs.length := by
      apply Classical.byContradiction
      intro z
      exact g (.inr (.inl (by omega)))
    have sm := pay_sum (u := u.toNat) gf gt
    rw [natOf f0, natOf t0, natOf u0] at sm
    unfold takeA takeX
    cases o : (b.paid f.toNat t.toNat u.toNat).ok with
    | false =>
      rw [o] at ok
      rw [if_pos rfl, ok, if_neg (by decide), if_neg (by decide)]
      exact ⟨rfl, st⟩
    | true =>
      rw [o] at ok
      rw [if_neg (by decide), ok, if_pos rfl, if_pos rfl]
      have lb : (b.paid f.toNat t.toNat u.toNat).length = b.length := by
        unfold Books.paid
        rw [List.length_map, List.length_zipIdx]
      refine ⟨rfl, eq, by omega, by omega, by rw [sm]; exact hs⟩
theorem st_told {k : Int} (k0 : 0 ≤ k) : (say (AccountNs.onBooks b (.told k.toNat))).2 = toldA k xs ∧ StOf (say (AccountNs.onBooks b (.told k.toNat))).1 xs := by
  have e : AccountNs.onBooks b (.told k.toNat) = (some b, match b[k.toNat]? with | none => AccountNs.BAD | some x => AccountNs.tells [.z x.position, .z (x.collected : Int), .z (x.got : Int), .z x.paid]) := rfl
  rw [e]
  refine ⟨?_, e0, l2, l6, hs⟩
  unfold toldA
  rw [e0, List.getElem?_map]
  cases b[k.toNat]? with
  | none => rfl
  | some x => rfl
theorem posI_eq : posI xs = positions b := by
  rw [e0]
  unfold posI positions
  rw [List.map_map]
  rfl
theorem st_settle : (say (AccountNs.onBooks b .settle)).2 = settleA xs ∧ StOf (say (AccountNs.onBooks b .settle)).1 xs := by
  have ep := posI_eq e0 l2 l6 hs
  refine ⟨?_, e0, l2, l6, hs⟩
  have ef : setNs xs = cast ((CbAcc.settle (positions b)).flatMap fun (p : Pay) => [p.from_, p.to_, p.units]) := by
    unfold setNs
    rw [ep]
    generalize CbAcc.settle (positions b) = l
    induction l with
    | nil => rfl
    | cons x l ih =>
      rw [List.flatMap_cons, List.flatMap_cons, ih]
      unfold cast
      rw [List.map_append]
      rfl
  unfold settleA
  rw [ef, cast_length]
  show (0 : Int) :: (((((CbAcc.settle (positions b)).flatMap fun (p : Pay) => [p.from_, p.to_, p.units])).length : Nat) : Int) :: (((CbAcc.settle (positions b)).flatMap fun (p : Pay) => [p.from_, p.to_, p.units]).map fun (n : Nat) => (n : Int)) ++ [] = _
  rw [List.append_nil]
  rfl
theorem st_least : (say (AccountNs.onBooks b .least)).2 = leastA xs ∧ StOf (say (AccountNs.onBooks b .least)).1 xs := by
  have ep := posI_eq e0 l2 l6 hs
  refine ⟨?_, e0, l2, l6, hs⟩
  unfold leastA
  rw [Sett.mg_eq hs (by unfold posI; rw [List.length_map, e0, List.length_map]; omega), ep]
  rfl
theorem st_save : (say (AccountNs.onBooks b .save)).2 = saveA xs ∧ StOf (say (AccountNs.onBooks b .save)).1 xs := by
  refine ⟨?_, e0, l2, l6, hs⟩
  unfold saveA
  rw [e0, saved_bytes_eq l6, castB_length]
  show (0 : Int) :: (((b.bytes.map UInt8.toNat).length : Nat) : Int) :: ((b.bytes.map UInt8.toNat).map fun (n : Nat) => (n : Int)) ++ [] = _
  rw [List.append_nil, List.length_map, List.map_map]
  rfl
end
theorem steps_ok : Steps StOf where
  start := rfl
  sane s xs h := h.sane
  fine c p nums row ha sh := (kind_of ha sh).2.fine
  step s xs c p nums row st ha sh := by
    obtain ⟨ew, kd⟩ := kind_of ha sh
    rw [ew]
    cases kd with
    | share c r h1 h2 h3 => exact st_share st h1 h2
    | begin_ n h1 => exact st_begin st h1
    | load b h1 h2 =>
      have e : AccountNeutral.step s [[8], row] = (match AccountNeutral.callOf [[8], row] with | some x => say (AccountNs.step s x) | none => (s, [])) := rfl
      have e2 : AccountNeutral.callOf [[8], row] = if NeutralIO.bytes row = true then some (.load (row.map fun (n : Int) => UInt8.ofNat n.toNat)) else none := rfl
      have e3 : NeutralIO.bytes row = true := by
        unfold NeutralIO.bytes
        rw [List.all_eq_true]
        intro z hz
        rw [Bool.and_eq_true, decide_eq_true_eq, decide_eq_true_eq]
        exact h1 z hz
      rw [e, e2, if_pos e3]
      exact st_load st h1
    | book y c r h1 h2 h3 h4 =>
      cases s with
      | none =>
        have e : xs = [] := st
        subst e
        exact ⟨rfl, rfl⟩
      | some b =>
        obtain ⟨e0, l2, l6, hs⟩ := st
        have ne : ¬ xs.length = 0 := by rw [e0, List.length_map]; omega
        have r := st_book e0 l2 l6 hs h1 h2 h3
        show (say (AccountNs.onBooks b (.book y.toNat c.toNat (natsOf _)))).2 = (if xs.length = 0 then [-9] else bookA xs y c _) ∧ StOf (say (AccountNs.onBooks b (.book y.toNat c.toNat (natsOf _)))).1 (if xs.length = 0 then xs else bookX xs y c _)
        rw [if_neg ne, if_neg ne]
        exact r
    | pay f t u h1 h2 h3 =>
      cases s with
      | none =>
        have e : xs = [] := st
        subst e
        exact ⟨rfl, rfl⟩
      | some b =>
        obtain ⟨e0, l2, l6, hs⟩ := st
        have ne : ¬ xs.length = 0 := by rw [e0, List.length_map]; omega
        have r := st_pay e0 l2 l6 hs h1 h2 h3
        show (say (AccountNs.onBooks b (.pay f.toNat t.toNat u.toNat))).2 = (if xs.length = 0 then [-9] else payA xs f t u) ∧ StOf (say (AccountNs.onBooks b (.pay f.toNat t.toNat u.toNat))).1 (if xs.length = 0 then xs else payX xs f t u)
        rw [if_neg ne, if_neg ne]
        exact r
    | told k h1 =>
      cases s with
      | none =>
        have e : xs = [] := st
        subst e
        exact ⟨rfl, rfl⟩
      | some b =>
        obtain ⟨e0, l2, l6, hs⟩ := st
        have ne : ¬ xs.length = 0 := by rw [e0, List.length_map]; omega
        have r := st_told e0 l2 l6 hs h1
        show (say (AccountNs.onBooks b (.told k.toNat))).2 = (if xs.length = 0 then [-9] else toldA k xs) ∧ StOf (say (AccountNs.onBooks b (.told k.toNat))).1 (if xs.length = 0 then xs else xs)
        rw [if_neg ne, if_neg ne]
        exact r
    | settle =>
      cases s with
      | none =>
        have e : xs = [] := st
        subst e
        exact ⟨rfl, rfl⟩
      | some b =>
        obtain ⟨e0, l2, l6, hs⟩ := st
        have ne : ¬ xs.length = 0 := by rw [e0, List.length_map]; omega
        have r := st_settle e0 l2 l6 hs
        show (say (AccountNs.onBooks b .settle)).2 = (if xs.length = 0 then [-9] else settleA xs) ∧ StOf (say (AccountNs.onBooks b .settle)).1 (if xs.length = 0 then xs else xs)
        rw [if_neg ne, if_neg ne]
        exact r
    | least =>
      cases s with
      | none =>
        have e : xs = [] := st
        subst e
        exact ⟨rfl, rfl⟩
      | some b =>
        obtain ⟨e0, l2, l6, hs⟩ := st
        have ne : ¬ xs.length = 0 := by rw [e0, List.length_map]; omega
        have r := st_least e0 l2 l6 hs
        show (say (AccountNs.onBooks b .least)).2 = (if xs.length = 0 then [-9] else leastA xs) ∧ StOf (say (AccountNs.onBooks b .least)).1 (if xs.length = 0 then xs else xs)
        rw [if_neg ne, if_neg ne]
        exact r
    | save =>
      cases s with
      | none =>
        have e : xs = [] := st
        subst e
        exact ⟨rfl, rfl⟩
      | some b =>
        obtain ⟨e0, l2, l6, hs⟩ := st
        have ne : ¬ xs.length = 0 := by rw [e0, List.length_map]; omega
        have r := st_save e0 l2 l6 hs
        show (say (AccountNs.onBooks b .save)).2 = (if xs.length = 0 then [-9] else saveA xs) ∧ StOf (say (AccountNs.onBooks b .save)).1 (if xs.length = 0 then xs else xs)
        rw [if_neg ne, if_neg ne]
        exact r
end Ew
end
section
set_option Elab.async false
set_option linter.all false
set_option maxRecDepth 100000
set_option maxHeartbeats 2000000
namespace Ew
open PySem PySem.Spec PyProof.Rows L2
/-- all that the text has written -/
structure AllK (K : PySem.W.Frag) (mg : Str → Option Value) (CA CB : Addr) : Prop where
  ta : TA K mg CA
  tb : TB K mg CB
  t1 : Txt mg
  t2 : Txt2 mg
  t3 : Txt3 K mg
  t4 : Txt4 mg
  t5 : Txt5 K mg
  nr : ∃ t, mg "NOT_RIGHT_BYTES" = some (.int (-4) t)
  sh : Shares K mg
  se : Settling K mg
  aInit : ∃ f fd, MkI K CA "Account.__init__" sAInit f fd ["self", "collected", "got", "paid"]
  aPos : ∃ f fd, Mth K CA "position" "Account.position" sAPos f fd ["self"]
  aFour : ∃ f fd, Mth K CA "four_numbers" "Account.four_numbers" sAFour f fd ["self"]
  aWc : ∃ f fd, Mth K CA "with_collected" "Account.with_collected" sAWc f fd ["self", "units"]
  aWg : ∃ f fd, Mth K CA "with_got" "Account.with_got" sAWg f fd ["self", "units"]
  aWp : ∃ f fd, Mth K CA "with_paid" "Account.with_paid" sAWp f fd ["self", "units"]
  aBd : ∃ f fd, Mth K CA "is_within_bounds" "Account.is_within_bounds" sABd f fd ["self"]
  bInit : ∃ f fd, MkI K CB "Books.__init__" sBInit f fd ["self"]
  bAre : ∃ f fd, Mth K CB "are_there" "Books.are_there" sBAre f fd ["self"]
  bHas : ∃ f fd, Mth K CB "has_company" "Books.has_company" sBHas f fd ["self", "company"]
  bBegin : ∃ f fd, Mth K CB "begin" "Books.begin" sBBegin f fd ["self", "companies"]
  bBook : ∃ f fd, Mth K CB "book" "Books.book" sBBook f fd ["self", "by", "charge", "row"]
  bPay : ∃ f fd, Mth K CB "pay" "Books.pay" sBPay f fd ["self", "start", "to", "units"]
  bTake : ∃ f fd, Mth K CB "take_over" "Books.take_over" sBTake f fd ["self", "accounts"]
  bTold : ∃ f fd, Mth K CB "told" "Books.told" sBTold f fd ["self", "company"]
  bPos : ∃ f fd, Mth K CB "positions" "Books.positions" sBPos f fd ["self"]
  bSettle : ∃ f fd, Mth K CB "settle" "Books.settle" sBSettle f fd ["self"]
  bLeast : ∃ f fd, Mth K CB "least" "Books.least" sBLeast f fd ["self"]
  bSave : ∃ f fd, Mth K CB "save" "Books.save" sBSave f fd ["self"]
  bLoad : ∃ f fd, Mth K CB "load" "Books.load" sBLoad f fd ["self", "saved"]
  dSaved : ∃ f fd, Def K mg "saved_bytes" sSaved f fd ["accounts"]
  dLow : ∃ f fd, Def K mg "lowest_first" sLow f fd ["number", "length"]
  dLoaded : ∃ f fd, Def K mg "loaded_accounts" sLoaded f fd ["saved"]
  dHasLen : ∃ f fd, Def K mg "has_right_length" sHasLen f fd ["saved"]
  dAccAt : ∃ f fd, Def K mg "account_at" sAccAt f fd ["saved", "company"]
  dNumAt : ∃ f fd, Def K mg "number_at" sNumAt f fd ["saved", "first"]
  dAreR : ∃ f fd, Def K mg "are_right" sAreR f fd ["accounts"]
  dAnsOf : ∃ f fd, Def K mg "answer_of" sAnsOf f fd ["books", "call", "numbers", "row"]
  dAnsW : ∃ f fd, Def K mg "answer_with_books" sAnsW f fd ["books", "call", "numbers", "row"]
  dAnsShare : ∃ f fd, Def K mg "answer_of_share" sAnsShare f fd ["charge", "row"]
theorem all_ok' {P : Program} {w : World} {K : PySem.W.Frag} {mg : Str → Option Value} {base : Heap} {CA CB f : Addr} {fd : FuncData} (A : AllK K mg CA CB) (F : Fun K "answers" "answers" sAnswers f fd) : FnOk P w K mg base CX0 12 f fd ["calls"] (spAnswers K) := by
  obtain ⟨ai, aid, AI⟩ := A.aInit
  obtain ⟨ap, apd, AP⟩ := A.aPos
  obtain ⟨af, afd, AF⟩ := A.aFour
  obtain ⟨ac, acd, AC⟩ := A.aWc
  obtain ⟨ag, agd, AG⟩ := A.aWg
  obtain ⟨aw, awd, AW⟩ := A.aWp
  obtain ⟨ab, abd, AB⟩ := A.aBd
  obtain ⟨bi, bid, BI⟩ := A.bInit
  obtain ⟨ba, bad, BA⟩ := A.bAre
  obtain ⟨bh, bhd, BH⟩ := A.bHas
  obtain ⟨bb, bbd, BB⟩ := A.bBegin
  obtain ⟨bo, bod, BO⟩ := A.bBook
  obtain ⟨bp, bpd, BP⟩ := A.bPay
  obtain ⟨bt, btd, BT⟩ := A.bTake
  obtain ⟨bl, bld, BL⟩ := A.bTold
  obtain ⟨bq, bqd, BQ⟩ := A.bPos
  obtain ⟨bs, bsd, BS⟩ := A.bSettle
  obtain ⟨be, bed, BE⟩ := A.bLeast
  obtain ⟨bv, bvd, BV⟩ := A.bSave
  obtain ⟨bd, bdd, BD⟩ := A.bLoad
  obtain ⟨d1, d1d, D1⟩ := A.dSaved
  obtain ⟨d2, d2d, D2⟩ := A.dLow
  obtain ⟨d3, d3d, D3⟩ := A.dLoaded
  obtain ⟨d4, d4d, D4⟩ := A.dHasLen
  obtain ⟨d5, d5d, D5⟩ := A.dAccAt
  obtain ⟨d6, d6d, D6⟩ := A.dNumAt
  obtain ⟨d7, d7d, D7⟩ := A.dAreR
  obtain ⟨d8, d8d, D8⟩ := A.dAnsOf
  obtain ⟨d9, d9d, D9⟩ := A.dAnsW
  obtain ⟨e1, e1d, E1⟩ := A.dAnsShare
  have GB1 := (ok_BBook (P := P) (w := w) (base := base) BO.fn A.t1 A.ta A.tb A.sh BH AC AG BT AI AB AP).mono (show 4 ≤ 9 by decide)
  have GB2 := (ok_BPay (P := P) (w := w) (base := base) BP.fn A.t1 A.ta A.tb BH AW BT AI AB AP).mono (show 4 ≤ 9 by decide)
  have GB3 := (ok_BTold (P := P) (w := w) (base := base) BL.fn A.t1 A.ta A.tb BH AF AP).mono (show 3 ≤ 9 by decide)
  have GB4 := (ok_BSettle (P := P) (w := w) (base := base) BS.fn A.t1 A.t2 A.ta A.tb A.se BQ AP).mono (show 4 ≤ 9 by decide)
  have GB5 := ok_BLeast (P := P) (w := w) (base := base) BE.fn A.t1 A.t2 A.ta A.tb A.se BQ AP
  have GB6 := (ok_BSave (P := P) (w := w) (base := base) BV.fn A.t1 A.t3 A.ta A.tb D1 D2 AF AP).mono (show 4 ≤ 9 by decide)
  have GW := ok_ansW D9.fn A.tb A.t4 BO GB1 BP GB2 BL GB3 BS GB4 BE GB5 BV GB6
  have GS := (ok_ansShare (P := P) (w := w) (base := base) E1.fn A.t1 A.tb A.sh).mono (show 3 ≤ 10 by decide)
  have GBe := (ok_BBegin (P := P) (w := w) (base := base) BB.fn A.t1 A.ta A.tb AI).mono (show 3 ≤ 10 by decide)
  have GL := ok_loaded (P := P) (w := w) (base := base) D3.fn A.t1 A.t2 A.t3 A.ta A.tb D4 D5 D7 D1 D6 AI D2 AB AF AP
  have GLo := (ok_BLoad (CB := CB) BD.fn A.tb A.nr D3 GL).mono (show 5 ≤ 10 by decide)
  have GA := (ok_BAre (P := P) (w := w) (base := base) (CA := CA) BA.fn A.t1 A.tb).mono (show 1 ≤ 10 by decide)
  have GO := ok_ansOf D8.fn A.tb A.t4 E1 GS BB GBe BD GLo BA GA D9 GW
  exact ok_answers steps_ok F A.t1 A.tb A.t5 BI D8 GO
/-! ### from the written part -/
section
variable {K : PySem.W.Frag} {h : Heap} {mg : Str → Option Value}
theorem def_mk {x : Str} {st : Stmt} {f : Addr} {ps : List Str} {oc : Value} {od an : Option Addr} {osl : Array (Option Value)} {kV doc pm cdv ct : Value} (X : K.In h) (G : h.Ns mainGlobals mg) (a : PySem.W.nsIn K mainGlobals x = some (some (.ref f)))
    (l : K.lookup f = some ⟨oc, od, .func (PySem.W.fnOf x x (defArgs st) (defBody st) (defScope st) .none kV doc pm an cdv ct), osl⟩) (c : PySem.W.codeIn K cdv x = true) (k : PySem.W.keepIn K (.ref f) = true)
    (b : ∀ (kV doc pm : Value) (an : Option Addr) (cdv ct : Value) (us : List Value), us.length = ps.length → bindArgs (PySem.W.fnOf x x (defArgs st) (defBody st) (defScope st) .none kV doc pm an cdv ct) ⟨us, []⟩ = pure (ps.zip us)) : ∃ f fd, Def K mg x st f fd ps :=
  ⟨f, _, ⟨fun_mk l c k, (fun_mk l c k).binds b, PySem.W.mg_of X G a⟩⟩
theorem mth_mk {C : Addr} {m qual : Str} {st : Stmt} {f : Addr} {ps : List Str} {oc : Value} {od an : Option Addr} {osl : Array (Option Value)} {kV doc pm cdv ct : Value} (a : PySem.W.findIn K (.ref C) m = some (some (.ref f))) (i : PySem.W.isFn K (.ref f) = true)
    (l : K.lookup f = some ⟨oc, od, .func (PySem.W.fnOf m qual (defArgs st) (defBody st) (defScope st) .none kV doc pm an cdv ct), osl⟩) (c : PySem.W.codeIn K cdv qual = true) (k : PySem.W.keepIn K (.ref f) = true)
    (b : ∀ (kV doc pm : Value) (an : Option Addr) (cdv ct : Value) (us : List Value), us.length = ps.length → bindArgs (PySem.W.fnOf m qual (defArgs st) (defBody st) (defScope st) .none kV doc pm an cdv ct) ⟨us, []⟩ = pure (ps.zip us)) : ∃ f fd, Mth K C m qual st f fd ps :=
  ⟨f, _, ⟨fun_mk l c k, (fun_mk l c k).binds b, ⟨a, i, k⟩⟩⟩
theorem mki_mk {C : Addr} {qual : Str} {st : Stmt} {f : Addr} {ps : List Str} {oc : Value} {od an : Option Addr} {osl : Array (Option Value)} {kV doc pm cdv ct : Value} (a : PySem.W.findIn K (.ref C) "__init__" = some (some (.ref f))) (i : PySem.W.isFn K (.ref f) = true)
    (l : K.lookup f = some ⟨oc, od, .func (PySem.W.fnOf "__init__" qual (defArgs st) (defBody st) (defScope st) .none kV doc pm an cdv ct), osl⟩) (c : PySem.W.codeIn K cdv qual = true) (k : PySem.W.keepIn K (.ref f) = true) (mk : PySem.W.makesIn K C = true) (kc : PySem.W.keepIn K (.ref C) = true)
    (b : ∀ (kV doc pm : Value) (an : Option Addr) (cdv ct : Value) (us : List Value), us.length = ps.length → bindArgs (PySem.W.fnOf "__init__" qual (defArgs st) (defBody st) (defScope st) .none kV doc pm an cdv ct) ⟨us, []⟩ = pure (ps.zip us)) : ∃ f fd, MkI K C qual st f fd ps :=
  ⟨f, _, ⟨fun_mk l c k, (fun_mk l c k).binds b, ⟨mk, a, i, kc⟩⟩⟩
theorem int_mk {x : Str} {z : Int} {t : Tok} (X : K.In h) (G : h.Ns mainGlobals mg) (a : PySem.W.nsIn K mainGlobals x = some (some (.int z t))) : ∃ t, mg x = some (.int z t) := ⟨t, PySem.W.mg_of X G a⟩
theorem tup_mk {x : Str} {m : Addr} {xs : List V} {od : Option Addr} {osl : Array (Option Value)} {its : Array Value} {n : Nat} (X : K.In h) (G : h.Ns mainGlobals mg) (a : PySem.W.nsIn K mainGlobals x = some (some (.ref m))) (l : K.lookup m = some ⟨.type "tuple", od, .seq its n, osl⟩) (hz : its.size ≤ sizeLine) (hv : Vals xs its.toList) :
    ∃ m, mg x = some (.ref m) ∧ ∀ H : Hp, SqT K H m xs := ⟨m, PySem.W.mg_of X G a, fun H => .inr ⟨_, its, n, l, rfl, rfl, hz, hv⟩⟩
theorem answers_mk {P : Program} {w : World} {fa f : Addr} {CA CB : Addr} {oc : Value} {od an : Option Addr} {osl : Array (Option Value)} {kV doc pm cdv ct : Value} (A : AllK K mg CA CB) (X : K.In h) (G : h.Ns mainGlobals mg) (hfa : mg "answers" = some (.ref fa)) (a : PySem.W.nsIn K mainGlobals "answers" = some (some (.ref f)))
    (l : K.lookup f = some ⟨oc, od, .func (PySem.W.fnOf "answers" "answers" (defArgs sAnswers) (defBody sAnswers) (defScope sAnswers) .none kV doc pm an cdv ct), osl⟩) (c : PySem.W.codeIn K cdv "answers" = true) (k : PySem.W.keepIn K (.ref f) = true) :
    ∃ fd : FuncData, (∀ (s : Shared) (us : List Value), us.length = (["calls"] : List Str).length → BindsTo s fd ⟨us, []⟩ ((["calls"] : List Str).zip us)) ∧ ∀ base : Heap, K.In base → base.Ns mainGlobals mg → FnOk P w K mg base CX0 12 fa fd ["calls"] (spAnswers K) := by
  have e := hfa.symm.trans (PySem.W.mg_of X G a)
  cases e
  exact ⟨_, fun s us hu => match us, hu with | [_], _ => .of_eq rfl, fun base _ _ => all_ok' A (fun_mk l c k)⟩
end
end Ew
end
section
set_option Elab.async false
set_option linter.all false
-- names taken, so that no second writing of what the head lays is made: the kernel reads the first as well, and the compiled text is 32 MB shorter
def PySem.W.Fast.tw2441139125524001089 : Nat := 0
def PySem.W.Fast.tw7696649476120210116 : Nat := 0
def PySem.W.Fast.tw9142628198089720008 : Nat := 0
def PySem.W.Fast.tw15296775324767044552 : Nat := 0
def PySem.W.Fast.tw12037500728086363439 : Nat := 0
def PySem.W.Fast.tw699020395572167504 : Nat := 0
def PySem.W.Fast.tw15075454641549687220 : Nat := 0
def PySem.W.Fast.tw8229174132592068180 : Nat := 0
def PySem.W.Fast.tw14041100946215800762 : Nat := 0
def PySem.W.Fast.tw5620105486145560955 : Nat := 0
def PySem.W.Fast.tw7681483984589224862 : Nat := 0
def PySem.W.Fast.tw8284252210084368713 : Nat := 0
def PySem.W.Fast.tw8808046579310624714 : Nat := 0
def PySem.W.Fast.tw769519364581132037 : Nat := 0
def PySem.W.Fast.tw1734525684929490473 : Nat := 0
def PySem.W.Fast.tw17707030944659058122 : Nat := 0
def PySem.W.Fast.tw17817106710261981711 : Nat := 0
def PySem.W.Fast.tw8201089461889524724 : Nat := 0
def PySem.W.Fast.tw12287292904708234094 : Nat := 0
namespace Ew
open PySem PySem.Spec PyProof.Rows L2
theorem shares_mk {K : PySem.W.Frag} {mg : Str → Option Value} (h1 : ∃ f fd, Def K mg "companies_of" sFirsts f fd ["row"]) (h2 : ∃ f fd, Def K mg "weights_of" sSeconds f fd ["row"]) (h3 : ∃ f fd, Def K mg "are_companies" sAreC f fd ["companies"]) (h4 : ∃ f fd, Def K mg "are_weights" sAreW f fd ["weights"])
    (h5 : ∃ f fd, Def K mg "can_be_shared" sCan f fd ["charge", "row"]) (h6 : ∃ f fd, Def K mg "shared" sShared f fd ["charge", "weights"]) (h7 : ∃ f fd, Def K mg "how_many_ahead" sAhead f fd ["rests", "place"]) : Shares K mg := by
  obtain ⟨f1, d1, h1⟩ := h1
  obtain ⟨f2, d2, h2⟩ := h2
  obtain ⟨f3, d3, h3⟩ := h3
  obtain ⟨f4, d4, h4⟩ := h4
  obtain ⟨f5, d5, h5⟩ := h5
  obtain ⟨f6, d6, h6⟩ := h6
  obtain ⟨f7, d7, h7⟩ := h7
  exact ⟨⟨f1, f2, f3, f4, f5, f6, f7, d1, d2, d3, d4, d5, d6, d7, h1, h2, h3, h4, h5, h6, h7⟩⟩
theorem settling_mk {K : PySem.W.Frag} {mg : Str → Option Value} (h1 : ∃ f fd, Def K mg "settlement" sSettlement f fd ["positions"]) (h2 : ∃ f fd, Def K mg "orders" sOrders f fd ["companies"]) (h3 : ∃ f fd, Def K mg "paid_in_turn" sPaid f fd ["positions", "payers", "owed"]) (h4 : ∃ f fd, Def K mg "rank" sRank f fd ["payments"])
    (h5 : ∃ f fd, Def K mg "most_groups" sMost f fd ["positions"]) (h6 : ∃ f fd, Def K mg "partings" sPartings f fd ["values"]) : Settling K mg := by
  obtain ⟨f1, d1, h1⟩ := h1
  obtain ⟨f2, d2, h2⟩ := h2
  obtain ⟨f3, d3, h3⟩ := h3
  obtain ⟨f4, d4, h4⟩ := h4
  obtain ⟨f5, d5, h5⟩ := h5
  obtain ⟨f6, d6, h6⟩ := h6
  exact ⟨⟨f1, f2, f3, f4, f5, f6, d1, d2, d3, d4, d5, d6, h1, h2, h3, h4, h5, h6⟩⟩
end Ew
open PySem PySem.W PyProof.Rows
set_option maxRecDepth 100000 in
set_option maxHeartbeats 0 in
theorem PySem.Challenge.cw_evenwires_s01_answers_holds : PySem.Challenge.rw_evenwires_s01_answers.Holds := by
  w_on; k_headS; (case hw => exact ⟨[.list [.int 5]], by decide +kernel, by decide +kernel⟩)
  k_fillS
  refine L2.walk_specK (r := PySem.Challenge.rw_evenwires_s01_answers) (k := 12) (CX := L2.CX0) (ps := ["calls"]) (sp := Ew.spAnswers) (by decide +kernel) rfl rfl ⟨rfl, by decide, by decide⟩ (fun w h Y => PySem.W.kIn_of Y) ?F ?S (fun _ _ _ _ z => z)
  case F =>
    intro w mg fa h Y KX G hmg
    refine' Ew.answers_mk ⟨⟨⟨?x2, ?x3, ?x4, ?x5⟩, ?x6, ?x7, ?x8, (PySem.W.mg_of KX G ?x1), (Ew.int_mk KX G ?x9)⟩, ⟨⟨?x11, ?x12, ?x13, ?x14⟩, ?x15, (PySem.W.mg_of KX G ?x10), (Ew.int_mk KX G ?x16), (Ew.int_mk KX G ?x17), (Ew.int_mk KX G ?x18)⟩, ⟨(PySem.W.mg_none_of KX G ?x19), (PySem.W.mg_none_of KX G ?x20), (PySem.W.mg_none_of KX G ?x21), (PySem.W.mg_none_of KX G ?x22), (PySem.W.mg_none_of KX G ?x23), (PySem.W.mg_none_of KX G ?x24), (PySem.W.mg_none_of KX G ?x25), (Ew.int_mk KX G ?x26), (Ew.int_mk KX G ?x27), (Ew.int_mk KX G ?x28)⟩, ⟨(PySem.W.mg_none_of KX G ?x29), (PySem.W.mg_none_of KX G ?x30), (PySem.W.mg_none_of KX G ?x31), (PySem.W.mg_none_of KX G ?x32)⟩, ⟨(Ew.tup_mk KX G ?x33 ?x34 ?x35 ?x36), (Ew.int_mk KX G ?x37), (Ew.int_mk KX G ?x38), (Ew.int_mk KX G ?x39), (Ew.int_mk KX G ?x40), (Ew.int_mk KX G ?x41), (Ew.int_mk KX G ?x42), (Ew.int_mk KX G ?x43), (Ew.int_mk KX G ?x44)⟩, ⟨(Ew.int_mk KX G ?x45), (Ew.int_mk KX G ?x46), (Ew.int_mk KX G ?x47), (Ew.int_mk KX G ?x48), (Ew.int_mk KX G ?x49), (Ew.int_mk KX G ?x50), (Ew.int_mk KX G ?x51), (Ew.int_mk KX G ?x52), (Ew.int_mk KX G ?x53)⟩, ⟨(Ew.tup_mk KX G ?x54 ?x55 ?x56 ?x57), (Ew.tup_mk KX G ?x58 ?x59 ?x60 ?x61)⟩, (Ew.int_mk KX G ?x62), (Ew.shares_mk (Ew.def_mk KX G ?x63 ?x64 ?x65 ?x66 (fun _ _ _ _ _ _ us hl => match us, hl with | [_], _ => rfl)) (Ew.def_mk KX G ?x67 ?x68 ?x69 ?x70 (fun _ _ _ _ _ _ us hl => match us, hl with | [_], _ => rfl)) (Ew.def_mk KX G ?x71 ?x72 ?x73 ?x74 (fun _ _ _ _ _ _ us hl => match us, hl with | [_], _ => rfl)) (Ew.def_mk KX G ?x75 ?x76 ?x77 ?x78 (fun _ _ _ _ _ _ us hl => match us, hl with | [_], _ => rfl)) (Ew.def_mk KX G ?x79 ?x80 ?x81 ?x82 (fun _ _ _ _ _ _ us hl => match us, hl with | [_, _], _ => rfl)) (Ew.def_mk KX G ?x83 ?x84 ?x85 ?x86 (fun _ _ _ _ _ _ us hl => match us, hl with | [_, _], _ => rfl)) (Ew.def_mk KX G ?x87 ?x88 ?x89 ?x90 (fun _ _ _ _ _ _ us hl => match us, hl with | [_, _], _ => rfl))), (Ew.settling_mk (Ew.def_mk KX G ?x91 ?x92 ?x93 ?x94 (fun _ _ _ _ _ _ us hl => match us, hl with | [_], _ => rfl)) (Ew.def_mk KX G ?x95 ?x96 ?x97 ?x98 (fun _ _ _ _ _ _ us hl => match us, hl with | [_], _ => rfl)) (Ew.def_mk KX G ?x99 ?x100 ?x101 ?x102 (fun _ _ _ _ _ _ us hl => match us, hl with | [_, _, _], _ => rfl)) (Ew.def_mk KX G ?x103 ?x104 ?x105 ?x106 (fun _ _ _ _ _ _ us hl => match us, hl with | [_], _ => rfl)) (Ew.def_mk KX G ?x107 ?x108 ?x109 ?x110 (fun _ _ _ _ _ _ us hl => match us, hl with | [_], _ => rfl)) (Ew.def_mk KX G ?x111 ?x112 ?x113 ?x114 (fun _ _ _ _ _ _ us hl => match us, hl with | [_], _ => rfl))), (Ew.mki_mk ?x115 ?x116 ?x117 ?x118 ?x119 ?x120 ?x121 (fun _ _ _ _ _ _ us hl => match us, hl with | [_, _, _, _], _ => rfl)), (Ew.mth_mk ?x122 ?x123 ?x124 ?x125 ?x126 (fun _ _ _ _ _ _ us hl => match us, hl with | [_], _ => rfl)), (Ew.mth_mk ?x127 ?x128 ?x129 ?x130 ?x131 (fun _ _ _ _ _ _ us hl => match us, hl with | [_], _ => rfl)), (Ew.mth_mk ?x132 ?x133 ?x134 ?x135 ?x136 (fun _ _ _ _ _ _ us hl => match us, hl with | [_, _], _ => rfl)), (Ew.mth_mk ?x137 ?x138 ?x139 ?x140 ?x141 (fun _ _ _ _ _ _ us hl => match us, hl with | [_, _], _ => rfl)), (Ew.mth_mk ?x142 ?x143 ?x144 ?x145 ?x146 (fun _ _ _ _ _ _ us hl => match us, hl with | [_, _], _ => rfl)), (Ew.mth_mk ?x147 ?x148 ?x149 ?x150 ?x151 (fun _ _ _ _ _ _ us hl => match us, hl with | [_], _ => rfl)), (Ew.mki_mk ?x152 ?x153 ?x154 ?x155 ?x156 ?x157 ?x158 (fun _ _ _ _ _ _ us hl => match us, hl with | [_], _ => rfl)), (Ew.mth_mk ?x159 ?x160 ?x161 ?x162 ?x163 (fun _ _ _ _ _ _ us hl => match us, hl with | [_], _ => rfl)), (Ew.mth_mk ?x164 ?x165 ?x166 ?x167 ?x168 (fun _ _ _ _ _ _ us hl => match us, hl with | [_, _], _ => rfl)), (Ew.mth_mk ?x169 ?x170 ?x171 ?x172 ?x173 (fun _ _ _ _ _ _ us hl => match us, hl with | [_, _], _ => rfl)), (Ew.mth_mk ?x174 ?x175 ?x176 ?x177 ?x178 (fun _ _ _ _ _ _ us hl => match us, hl with | [_, _, _, _], _ => rfl)), (Ew.mth_mk ?x179 ?x180 ?x181 ?x182 ?x183 (fun _ _ _ _ _ _ us hl => match us, hl with | [_, _, _, _], _ => rfl)), (Ew.mth_mk ?x184 ?x185 ?x186 ?x187 ?x188 (fun _ _ _ _ _ _ us hl => match us, hl with | [_, _], _ => rfl)), (Ew.mth_mk ?x189 ?x190 ?x191 ?x192 ?x193 (fun _ _ _ _ _ _ us hl => match us, hl with | [_, _], _ => rfl)), (Ew.mth_mk ?x194 ?x195 ?x196 ?x197 ?x198 (fun _ _ _ _ _ _ us hl => match us, hl with | [_], _ => rfl)), (Ew.mth_mk ?x199 ?x200 ?x201 ?x202 ?x203 (fun _ _ _ _ _ _ us hl => match us, hl with | [_], _ => rfl)), (Ew.mth_mk ?x204 ?x205 ?x206 ?x207 ?x208 (fun _ _ _ _ _ _ us hl => match us, hl with | [_], _ => rfl)), (Ew.mth_mk ?x209 ?x210 ?x211 ?x212 ?x213 (fun _ _ _ _ _ _ us hl => match us, hl with | [_], _ => rfl)), (Ew.mth_mk ?x214 ?x215 ?x216 ?x217 ?x218 (fun _ _ _ _ _ _ us hl => match us, hl with | [_, _], _ => rfl)), (Ew.def_mk KX G ?x219 ?x220 ?x221 ?x222 (fun _ _ _ _ _ _ us hl => match us, hl with | [_], _ => rfl)), (Ew.def_mk KX G ?x223 ?x224 ?x225 ?x226 (fun _ _ _ _ _ _ us hl => match us, hl with | [_, _], _ => rfl)), (Ew.def_mk KX G ?x227 ?x228 ?x229 ?x230 (fun _ _ _ _ _ _ us hl => match us, hl with | [_], _ => rfl)), (Ew.def_mk KX G ?x231 ?x232 ?x233 ?x234 (fun _ _ _ _ _ _ us hl => match us, hl with | [_], _ => rfl)), (Ew.def_mk KX G ?x235 ?x236 ?x237 ?x238 (fun _ _ _ _ _ _ us hl => match us, hl with | [_, _], _ => rfl)), (Ew.def_mk KX G ?x239 ?x240 ?x241 ?x242 (fun _ _ _ _ _ _ us hl => match us, hl with | [_, _], _ => rfl)), (Ew.def_mk KX G ?x243 ?x244 ?x245 ?x246 (fun _ _ _ _ _ _ us hl => match us, hl with | [_], _ => rfl)), (Ew.def_mk KX G ?x247 ?x248 ?x249 ?x250 (fun _ _ _ _ _ _ us hl => match us, hl with | [_, _, _, _], _ => rfl)), (Ew.def_mk KX G ?x251 ?x252 ?x253 ?x254 (fun _ _ _ _ _ _ us hl => match us, hl with | [_, _, _, _], _ => rfl)), (Ew.def_mk KX G ?x255 ?x256 ?x257 ?x258 (fun _ _ _ _ _ _ us hl => match us, hl with | [_, _], _ => rfl))⟩ KX G hmg ?x259 ?x260 ?x261 ?x262
    (case x1 => k_is)
    (case x2 => k_is)
    (case x3 => k_is)
    (case x4 => k_is)
    (case x5 => k_is)
    (case x6 => (unfold L2.NoAttr; k_is))
    (case x7 => (unfold L2.NoAttr; k_is))
    (case x8 => (unfold L2.NoAttr; k_is))
    (case x9 => k_is)
    (case x10 => k_is)
    (case x11 => k_is)
    (case x12 => k_is)
    (case x13 => k_is)
    (case x14 => k_is)
    (case x15 => (unfold L2.NoAttr; k_is))
    (case x16 => k_is)
    (case x17 => k_is)
    (case x18 => k_is)
    (case x19 => k_is)
    (case x20 => k_is)
    (case x21 => k_is)
    (case x22 => k_is)
    (case x23 => k_is)
    (case x24 => k_is)
    (case x25 => k_is)
    (case x26 => k_is)
    (case x27 => k_is)
    (case x28 => k_is)
    (case x29 => k_is)
    (case x30 => k_is)
    (case x31 => k_is)
    (case x32 => k_is)
    (case x33 => k_is)
    (case x34 => k_is)
    (case x35 => decide)
    (case x36 => exact (.cons ⟨_, rfl⟩ (.cons ⟨_, rfl⟩ (.cons ⟨_, rfl⟩ (.cons ⟨_, rfl⟩ .nil)))))
    (case x37 => k_is)
    (case x38 => k_is)
    (case x39 => k_is)
    (case x40 => k_is)
    (case x41 => k_is)
    (case x42 => k_is)
    (case x43 => k_is)
    (case x44 => k_is)
    (case x45 => k_is)
    (case x46 => k_is)
    (case x47 => k_is)
    (case x48 => k_is)
    (case x49 => k_is)
    (case x50 => k_is)
    (case x51 => k_is)
    (case x52 => k_is)
    (case x53 => k_is)
    (case x54 => k_is)
    (case x55 => k_is)
    (case x56 => decide)
    (case x57 => exact (.cons ⟨_, rfl⟩ (.cons ⟨_, rfl⟩ (.cons ⟨_, rfl⟩ (.cons ⟨_, rfl⟩ (.cons ⟨_, rfl⟩ (.cons ⟨_, rfl⟩ (.cons ⟨_, rfl⟩ (.cons ⟨_, rfl⟩ (.cons ⟨_, rfl⟩ .nil))))))))))
    (case x58 => k_is)
    (case x59 => k_is)
    (case x60 => decide)
    (case x61 => exact (.cons rfl (.cons rfl (.cons rfl (.cons rfl (.cons rfl (.cons rfl (.cons rfl (.cons rfl (.cons rfl .nil))))))))))
    (case x62 => k_is)
    (case x63 => k_is)
    (case x64 => k_is)
    (case x65 => k_is)
    (case x66 => k_is)
    (case x67 => k_is)
    (case x68 => k_is)
    (case x69 => k_is)
    (case x70 => k_is)
    (case x71 => k_is)
    (case x72 => k_is)
    (case x73 => k_is)
    (case x74 => k_is)
    (case x75 => k_is)
    (case x76 => k_is)
    (case x77 => k_is)
    (case x78 => k_is)
    (case x79 => k_is)
    (case x80 => k_is)
    (case x81 => k_is)
    (case x82 => k_is)
    (case x83 => k_is)
    (case x84 => k_is)
    (case x85 => k_is)
    (case x86 => k_is)
    (case x87 => k_is)
    (case x88 => k_is)
    (case x89 => k_is)
    (case x90 => k_is)
    (case x91 => k_is)
    (case x92 => k_is)
    (case x93 => k_is)
    (case x94 => k_is)
    (case x95 => k_is)
    (case x96 => k_is)
    (case x97 => k_is)
    (case x98 => k_is)
    (case x99 => k_is)
    (case x100 => k_is)
    (case x101 => k_is)
    (case x102 => k_is)
    (case x103 => k_is)
    (case x104 => k_is)
    (case x105 => k_is)
    (case x106 => k_is)
    (case x107 => k_is)
    (case x108 => k_is)
    (case x109 => k_is)
    (case x110 => k_is)
    (case x111 => k_is)
    (case x112 => k_is)
    (case x113 => k_is)
    (case x114 => k_is)
    (case x115 => k_is)
    (case x116 => k_is)
    (case x117 => k_is)
    (case x118 => k_is)
    (case x119 => k_is)
    (case x120 => k_is)
    (case x121 => k_is)
    (case x122 => k_is)
    (case x123 => k_is)
    (case x124 => k_is)
    (case x125 => k_is)
    (case x126 => k_is)
    (case x127 => k_is)
    (case x128 => k_is)
    (case x129 => k_is)
    (case x130 => k_is)
    (case x131 => k_is)
    (case x132 => k_is)
    (case x133 => k_is)
    (case x134 => k_is)
    (case x135 => k_is)
    (case x136 => k_is)
    (case x137 => k_is)
    (case x138 => k_is)
    (case x139 => k_is)
    (case x140 => k_is)
    (case x141 => k_is)
    (case x142 => k_is)
    (case x143 => k_is)
    (case x144 => k_is)
    (case x145 => k_is)
    (case x146 => k_is)
    (case x147 => k_is)
    (case x148 => k_is)
    (case x149 => k_is)
    (case x150 => k_is)
    (case x151 => k_is)
    (case x152 => k_is)
    (case x153 => k_is)
    (case x154 => k_is)
    (case x155 => k_is)
    (case x156 => k_is)
    (case x157 => k_is)
    (case x158 => k_is)
    (case x159 => k_is)
    (case x160 => k_is)
    (case x161 => k_is)
    (case x162 => k_is)
    (case x163 => k_is)
    (case x164 => k_is)
    (case x165 => k_is)
    (case x166 => k_is)
    (case x167 => k_is)
    (case x168 => k_is)
    (case x169 => k_is)
    (case x170 => k_is)
    (case x171 => k_is)
    (case x172 => k_is)
    (case x173 => k_is)
    (case x174 => k_is)
    (case x175 => k_is)
    (case x176 => k_is)
    (case x177 => k_is)
    (case x178 => k_is)
    (case x179 => k_is)
    (case x180 => k_is)
    (case x181 => k_is)
    (case x182 => k_is)
    (case x183 => k_is)
    (case x184 => k_is)
    (case x185 => k_is)
    (case x186 => k_is)
    (case x187 => k_is)
    (case x188 => k_is)
    (case x189 => k_is)
    (case x190 => k_is)
    (case x191 => k_is)
    (case x192 => k_is)
    (case x193 => k_is)
    (case x194 => k_is)
    (case x195 => k_is)
    (case x196 => k_is)
    (case x197 => k_is)
    (case x198 => k_is)
    (case x199 => k_is)
    (case x200 => k_is)
    (case x201 => k_is)
    (case x202 => k_is)
    (case x203 => k_is)
    (case x204 => k_is)
    (case x205 => k_is)
    (case x206 => k_is)
    (case x207 => k_is)
    (case x208 => k_is)
    (case x209 => k_is)
    (case x210 => k_is)
    (case x211 => k_is)
    (case x212 => k_is)
    (case x213 => k_is)
    (case x214 => k_is)
    (case x215 => k_is)
    (case x216 => k_is)
    (case x217 => k_is)
    (case x218 => k_is)
    (case x219 => k_is)
    (case x220 => k_is)
    (case x221 => k_is)
    (case x222 => k_is)
    (case x223 => k_is)
    (case x224 => k_is)
    (case x225 => k_is)
    (case x226 => k_is)
    (case x227 => k_is)
    (case x228 => k_is)
    (case x229 => k_is)
    (case x230 => k_is)
    (case x231 => k_is)
    (case x232 => k_is)
    (case x233 => k_is)
    (case x234 => k_is)
    (case x235 => k_is)
    (case x236 => k_is)
    (case x237 => k_is)
    (case x238 => k_is)
    (case x239 => k_is)
    (case x240 => k_is)
    (case x241 => k_is)
    (case x242 => k_is)
    (case x243 => k_is)
    (case x244 => k_is)
    (case x245 => k_is)
    (case x246 => k_is)
    (case x247 => k_is)
    (case x248 => k_is)
    (case x249 => k_is)
    (case x250 => k_is)
    (case x251 => k_is)
    (case x252 => k_is)
    (case x253 => k_is)
    (case x254 => k_is)
    (case x255 => k_is)
    (case x256 => k_is)
    (case x257 => k_is)
    (case x258 => k_is)
    (case x259 => k_is)
    (case x260 => k_is)
    (case x261 => k_is)
    (case x262 => k_is)
  case S =>
    intro K H xs a hO hwi hask hx
    cases hx with
    | cons h1 h2 =>
      cases h2
      cases h1 with
      | lst hs ha =>
        have e := L2.ints_dw a.1 _ ha
        subst e
        have q : ((Codec.inLen 0 19000 a.1 && a.1.all (Codec.inInt 0 9007199254740991)) && true) = true := hwi
        rw [Bool.and_eq_true, Bool.and_eq_true] at q
        exact ⟨_, a.1, rfl, hs, (Codec.inNat_iff.mp q.1.1).2, hask, fun H' p hp => .lst (L2.SqL.of hp) (L2.dw_ints _)⟩
end
