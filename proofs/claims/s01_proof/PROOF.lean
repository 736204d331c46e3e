import PyProof.Rows.All
import Wide.All
import OpenK.AllK
import Wide.FinOn
import PyProof.EqAt
import PyProof.EqKinds
import PyProof.TupleCall
import KE.BitLaws
import Open.SpecLaws
import KE.OsHead
import KE.OsGo
import PySem.Challenge.RW_nodeline_s01_answers
set_option Elab.async false
set_option linter.all false
set_option maxRecDepth 100000
namespace L2
open PySem PySem.Spec PyProof.Rows
/-- a key: an int or a str -/
abbrev Key := Sum Int Str
def keyIs : Key → Value → Bool
  | .inl k, v => Value.isInt k v
  | .inr x, v => Value.isStrOf x v
def keyH (w : World) : Key → Int
  | .inl k => hashInt k
  | .inr x => hashStr w x
theorem keyIs_shape : ∀ {k : Key} {v : Value}, keyIs k v = true → (∃ i t, k = Sum.inl i ∧ v = Value.int i t) ∨ (∃ x t, k = Sum.inr x ∧ v = Value.str x t)
  | .inl i, v, h => by
    obtain ⟨t, e⟩ := Value.isInt_shape (k := i) (v := v) h
    exact .inl ⟨i, t, rfl, e⟩
  | .inr x, v, h => by
    obtain ⟨t, e⟩ := Value.isStrOf_shape (x := x) (v := v) h
    exact .inr ⟨x, t, rfl, e⟩
theorem key_ll (a b : Int) : decide ((Sum.inl a : Key) = Sum.inl b) = (a == b) := by
  by_cases e : a = b
  · subst e; simp
  · have h : ¬ (Sum.inl a : Key) = Sum.inl b := fun q => e (Sum.inl.inj q)
    rw [decide_eq_false h]
    exact (beq_eq_false_iff_ne.mpr e).symm
theorem key_rr (a b : Str) : decide ((Sum.inr a : Key) = Sum.inr b) = decide (a = b) := by
  by_cases e : a = b
  · subst e; simp
  · have h : ¬ (Sum.inr a : Key) = Sum.inr b := fun q => e (Sum.inr.inj q)
    rw [decide_eq_false h, decide_eq_false e]
theorem key_lr (a : Int) (b : Str) : decide ((Sum.inl a : Key) = Sum.inr b) = false := decide_eq_false (fun q => nomatch q)
theorem key_rl (a : Str) (b : Int) : decide ((Sum.inr a : Key) = Sum.inl b) = false := decide_eq_false (fun q => nomatch q)
def mixKind (prog : Program) (w : World) : PySem.KeyKind prog w Key where
  is := keyIs
  hash := keyH w
  inj := fun v a b ha hb => by
    rcases keyIs_shape ha with ⟨i, t, rfl, rfl⟩ | ⟨x, t, rfl, rfl⟩
    · rcases keyIs_shape hb with ⟨j, u, rfl, e⟩ | ⟨y, u, rfl, e⟩
      · injection e with e1 _; rw [e1]
      · exact nomatch e
    · rcases keyIs_shape hb with ⟨j, u, rfl, e⟩ | ⟨y, u, rfl, e⟩
      · exact nomatch e
      · injection e with e1 _; rw [e1]
  byValue := fun k v h => by
    rcases keyIs_shape h with ⟨i, t, rfl, rfl⟩ | ⟨x, t, rfl, rfl⟩ <;> rfl
  pyHash := fun hv h => by
    rcases keyIs_shape hv with ⟨i, t, rfl, rfl⟩ | ⟨x, t, rfl, rfl⟩
    · exact wpAny_pyHash_int h
    · exact wpAny_pyHash_str h
  eqBool := fun hu hv h => by
    rcases keyIs_shape hu with ⟨i, t, rfl, rfl⟩ | ⟨x, t, rfl, rfl⟩
    · rcases keyIs_shape hv with ⟨j, u, rfl, rfl⟩ | ⟨y, u, rfl, rfl⟩
      · rw [key_ll] at h; exact wpAny_eqBool_int h
      · rw [key_lr] at h; exact SeqAt.EqAt.int_str i t y u _ _ _ _ h
    · rcases keyIs_shape hv with ⟨j, u, rfl, rfl⟩ | ⟨y, u, rfl, rfl⟩
      · rw [key_rl] at h; exact SeqAt.EqAt.str_int x t j u _ _ _ _ h
      · rw [key_rr] at h; exact wpAny_eqBool_str h
  «strs» := fun k x t v h => by
    rcases keyIs_shape h with ⟨i, u, rfl, e⟩ | ⟨y, u, rfl, e⟩
    · exact nomatch e
    · injection e with e1 _
      subst e1
      cases v <;> rfl
end L2
namespace L2
open PySem PySem.Spec PyProof.Rows
/-- a value, without the heap -/
inductive V where
  | non | bl (b : Bool) | int (i : Int) | str (x : Str) | byt (b : Array UInt8) | flt (b : UInt64) | ref (a : Addr) | ty (n : String)
  deriving DecidableEq
def RelV : V → Value → Prop
  | .non, u => u = Value.none
  | .bl b, u => u = Value.bool b
  | .int i, u => ∃ t, u = Value.int i t
  | .str x, u => ∃ t, u = Value.str x t
  | .byt b, u => ∃ t, u = Value.bytes b t
  | .flt b, u => ∃ t, u = Value.float b t
  | .ref a, u => u = Value.ref a
  | .ty n, u => u = Value.type n
abbrev Vals : List V → List Value → Prop := Paired RelV
theorem Vals.length {xs : List V} {us : List Value} (r : Vals xs us) : xs.length = us.length := Paired.length r
theorem Vals.get : ∀ {xs : List V} {us : List Value} {i : Nat} {x : V}, Vals xs us → xs[i]? = some x → ∃ u, us[i]? = some u ∧ RelV x u
  | _, _, _, _, .nil, e => by simp at e
  | _, _, 0, _, .cons r _, e => by simp at e; subst e; exact ⟨_, rfl, r⟩
  | _, _, i + 1, x, .cons _ t, e => by
    obtain ⟨u, h1, h2⟩ := Vals.get (i := i) (x := x) t (by simpa using e)
    exact ⟨u, by simpa using h1, h2⟩
theorem Vals.append : ∀ {xs ys : List V} {us ws : List Value}, Vals xs us → Vals ys ws → Vals (xs ++ ys) (us ++ ws)
  | _, _, _, _, .nil, s => s
  | _, _, _, _, .cons r t, s => .cons r (Vals.append t s)
theorem Vals.take : ∀ {xs : List V} {us : List Value} (n : Nat), Vals xs us → Vals (xs.take n) (us.take n)
  | _, _, 0, _ => .nil
  | _, _, _ + 1, .nil => .nil
  | _, _, n + 1, .cons r t => .cons r (Vals.take n t)
theorem Vals.drop : ∀ {xs : List V} {us : List Value} (n : Nat), Vals xs us → Vals (xs.drop n) (us.drop n)
  | _, _, 0, r => r
  | _, _, _ + 1, .nil => .nil
  | _, _, n + 1, .cons _ t => Vals.drop n t
def RelO : Option V → Option Value → Prop
  | some v, some u => RelV v u
  | none, none => True
  | _, _ => False
def KV {κ : Type} : List (κ × V) → List (κ × Value) → Prop := Paired fun (p : κ × V) (q : κ × Value) => p.1 = q.1 ∧ RelV p.2 q.2
/-- a key of a dict (00_mix): an int or a text -/
def kV : Key → V
  | .inl i => .int i
  | .inr x => .str x
/-- what stands at a tracked address -/
inductive HO where
  /-- a list -/
  | lst (xs : List V)
  /-- a tuple (never changes) -/
  | tup (xs : List V)
  /-- a dict whose keys are ints and texts; one whose keys are tuples of ints and texts (the empty one is both) -/
  | dK (kvs : List (Key × V)) | dT (kvs : List (List Key × V))
  /-- a set of ints: its members, its size -/
  | set (S : Int → Bool) (n : Nat)
  /-- an instance of the class at C, its dict at dx, its attributes -/
  | ins (C dx : Addr) (fs : List (Str × V))
  /-- the dict of the instance at x -/
  | own (x : Addr)
  /-- the dict of an exception -/
  | xd (fs : List (Str × V))
  /-- a bound method, f of x -/
  | met (f x : Addr)
  /-- a range object lo, lo + 1, .. below hi -/
  | rng (lo hi : Int)
  /-- a thing that is known to the object (the script; a dict while a loop walks it): read, never written while it is so -/
  | frz (o : Obj) (u : HO)
  /-- a code object's table -/
  | tbl (ps : Array Value)
  /-- any other thing, by what is true of its one object (a def of one's own: SetO a S n := HO.ext fun h => ..) -/
  | ext (φ : Heap → Prop)
abbrev Hp := Addr → Option HO
def upd (H : Hp) (a : Addr) (o : HO) : Hp := fun b => if b = a then some o else H b
theorem upd_same {H : Hp} {a : Addr} {o : HO} : upd H a o a = some o := by unfold upd; rw [if_pos rfl]
theorem upd_ne {H : Hp} {a b : Addr} {o : HO} (h : b ≠ a) : upd H a o b = H b := by unfold upd; rw [if_neg h]
/-- two objects of different content stand apart -/
theorem ne_of {H : Hp} {a b : Addr} {o u : HO} (h : H a = some o) (h' : H b = some u) (d : o ≠ u) : a ≠ b := by
  intro e; subst e; rw [h] at h'; exact d (Option.some.inj h')
theorem ne_of_none {H : Hp} {a b : Addr} {o : HO} (h : H a = some o) (h' : H b = none) : a ≠ b := by
  intro e; subst e; rw [h] at h'; cases h'
section
variable (P : Program) (w : World)
def ObjOk (H : Hp) (h : Heap) (a : Addr) : HO → Prop
  | .lst xs => xs.length ≤ sizeLine ∧ ∃ (its : List Value) (n : Nat), Vals xs its ∧ h.get? a = some { cls := .type "list", data := .seq its.toArray n }
  | .tup xs => xs.length ≤ sizeLine ∧ ∃ its : List Value, Vals xs its ∧ IsTup h a its.toArray
  | .dK kvs => kvs.length ≤ sizeLine ∧ (a == sysModules) = false ∧ ∃ vs, KV kvs vs ∧ h.DictOf (mixKind P w) a vs
  | .dT kvs => kvs.length ≤ sizeLine ∧ (a == sysModules) = false ∧ ∃ xs : List (List Key × Addr × Value),
      Paired (fun (p : List Key × V) (q : List Key × Addr × Value) => p.1 = q.1 ∧ H q.2.1 = some (.tup (p.1.map kV)) ∧ RelV p.2 q.2.2) kvs xs ∧
      ∃ o es ep, h.get? a = some o ∧ o.ExactDict ∧ o.data = .dict es ep ∧ es.toList = xs.map (entryOfKey (tupleKind (mixKind P w))) ∧ (xs.map (·.1)).Nodup
  | .set S n => h.SetOf (intKind P w) a S n
  | .ins C dx fs => H dx = some (.own a) ∧ fs.length ≤ 1000 ∧ dx ≠ a ∧ h.get? a = some (PySem.W.instObj C dx) ∧
      ∃ mA, h.Ns1 dx mA ∧ (∀ f, RelO (fs.lookup f) (mA f)) ∧ PySem.Within mA (fs.map (·.1))
  | .own _ => ∃ o, h.get? a = some o
  | .xd fs => ∃ mA, h.Ns1 a mA ∧ ∀ f, RelO (fs.lookup f) (mA f)
  | .rng lo hi => ∃ t u v, h.get? a = some { cls := .type "range", data := .fields #[.int lo t, .int hi u, .int 1 v] }
  | .frz o u => h.get? a = some o ∧ ObjOk H h a u
  | .tbl ps => h.get? a = some { cls := .none, data := .fields ps }
  | .met f x => h.get? a = some (PySem.W.methodObj (.ref f) (.ref x))
  | .ext φ => φ h ∧ (∃ o, h.get? a = some o) ∧ ∀ h1 h2 : Heap, φ h1 → (∀ o, h1.get? a = some o → h2.get? a = some o) → φ h2
/-- the abstract heap is held -/
def HOk (H : Hp) (h : Heap) : Prop := ∀ a o, H a = some o → ObjOk P w H h a o
end
section
variable {P : Program} {w : World} {H H' : Hp} {h h' : Heap} {a : Addr} {o : HO}
theorem ObjOk.lt (x : ObjOk P w H h a o) : a < h.objs.size := by
  cases o with
  | lst xs => obtain ⟨_, _, _, _, e⟩ := x; exact Heap.lt_size e
  | tup xs => obtain ⟨_, _, _, p⟩ := x; exact p.lt
  | dK kvs => obtain ⟨_, _, _, _, o, _, _, e, _⟩ := x; exact Heap.lt_size e
  | dT kvs => obtain ⟨_, _, _, _, o, _, _, e, _⟩ := x; exact Heap.lt_size e
  | set S n => obtain ⟨o, _, _, _, e, _⟩ := x; exact Heap.lt_size e
  | ins C dx fs => obtain ⟨_, _, _, e, _⟩ := x; exact Heap.lt_size e
  | own y => obtain ⟨_, e⟩ := x; exact Heap.lt_size e
  | xd fs => obtain ⟨_, ⟨_, _, _, e, _⟩, _⟩ := x; exact Heap.lt_size e
  | rng lo hi => obtain ⟨_, _, _, e⟩ := x; exact Heap.lt_size e
  | frz ob u => obtain ⟨e, _⟩ := x; exact Heap.lt_size e
  | tbl ps => exact Heap.lt_size (show h.get? a = some _ from x)
  | met f y => exact Heap.lt_size (show h.get? a = some _ from x)
  | ext φ => obtain ⟨_, ⟨_, e⟩, _⟩ := x; exact Heap.lt_size e
theorem Paired.mapP {α β : Type} {F G : α → β → Prop} : ∀ {l₁ : List α} {l₂ : List β}, Paired F l₁ l₂ → (∀ a b, F a b → G a b) → Paired G l₁ l₂
  | _, _, .nil, _ => .nil
  | _, _, .cons r t, f => .cons (f _ _ r) (Paired.mapP t f)
/-- what an object's description leans on: its own object, its own dict, the tuples -/
theorem ObjOk.stay (x : ObjOk P w H h a o) (k : ∀ b u, (b = a ∨ H b = some (.own a)) → h.get? b = some u → h'.get? b = some u)
    (ho : ∀ b, H b = some (.own a) → H' b = some (.own a)) (ht : ∀ b xs, H b = some (.tup xs) → H' b = some (.tup xs)) : ObjOk P w H' h' a o := by
  induction o with
  | lst xs => obtain ⟨z, its, n, r, e⟩ := x; exact ⟨z, its, n, r, k _ _ (.inl rfl) e⟩
  | tup xs => obtain ⟨z, its, r, ob, e, c⟩ := x; exact ⟨z, its, r, ob, k _ _ (.inl rfl) e, c⟩
  | dK kvs => obtain ⟨z, y, vs, r, ob, es, ep, e, c⟩ := x; exact ⟨z, y, vs, r, ob, es, ep, k _ _ (.inl rfl) e, c⟩
  | dT kvs =>
    obtain ⟨z, y, xs, r, ob, es, ep, e, c⟩ := x
    exact ⟨z, y, xs, Paired.mapP r fun p q z => ⟨z.1, ht _ _ z.2.1, z.2.2⟩, ob, es, ep, k _ _ (.inl rfl) e, c⟩
  | set S n => obtain ⟨ob, es, ep, t, e, c⟩ := x; exact ⟨ob, es, ep, t, k _ _ (.inl rfl) e, c⟩
  | ins C dx fs =>
    obtain ⟨d, z, ne, e, mA, ⟨od, es, ep, e2, c⟩, r⟩ := x
    exact ⟨ho _ d, z, ne, k _ _ (.inl rfl) e, mA, ⟨od, es, ep, k _ _ (.inr d) e2, c⟩, r⟩
  | own y => obtain ⟨ob, e⟩ := x; exact ⟨ob, k _ _ (.inl rfl) e⟩
  | xd fs => obtain ⟨mA, ⟨od, es, ep, e, c⟩, r⟩ := x; exact ⟨mA, ⟨od, es, ep, k _ _ (.inl rfl) e, c⟩, r⟩
  | rng lo hi => obtain ⟨t, u, v, e⟩ := x; exact ⟨t, u, v, k _ _ (.inl rfl) e⟩
  | frz ob u ih => obtain ⟨e, q⟩ := x; exact ⟨k _ _ (.inl rfl) e, ih q⟩
  | tbl ps =>
    have e : h.get? a = some { cls := .none, data := .fields ps } := x
    show h'.get? a = some { cls := .none, data := .fields ps }
    exact k a _ (.inl rfl) e
  | met f y =>
    have e : h.get? a = some (PySem.W.methodObj (.ref f) (.ref y)) := x
    show h'.get? a = some (PySem.W.methodObj (.ref f) (.ref y))
    exact k a _ (.inl rfl) e
  | ext φ => obtain ⟨p, ⟨o, e⟩, st⟩ := x; exact ⟨st _ _ p fun o q => k _ _ (.inl rfl) q, ⟨o, k _ _ (.inl rfl) e⟩, st⟩
theorem HOk.lt (x : HOk P w H h) (e : H a = some o) : a < h.objs.size := (x a o e).lt
theorem HOk.fresh (x : HOk P w H h) (e : h.objs.size ≤ a) : H a = none := by
  cases q : H a with
  | none => rfl
  | some u => exact absurd (Nat.lt_of_lt_of_le (x.lt q) e) (Nat.lt_irrefl _)
/-- every object of the heap is kept -/
theorem HOk.kept (x : HOk P w H h) (k : ∀ b u, h.get? b = some u → h'.get? b = some u) : HOk P w H h' := fun a o e =>
  (x a o e).stay (fun b u _ q => k b u q) (fun _ q => q) fun _ _ q => q
/-- a new object is laid and tracked -/
theorem HOk.laid (x : HOk P w H h) (k : ∀ b u, h.get? b = some u → h'.get? b = some u) (hp : h.objs.size ≤ a) (new : ObjOk P w (upd H a o) h' a o) : HOk P w (upd H a o) h' := fun b u e => by
  have hn := x.fresh hp
  by_cases hb : b = a
  · subst hb; rw [upd_same] at e; cases e; exact new
  · rw [upd_ne hb] at e
    exact (x b u e).stay (fun c v _ q => k c v q) (fun c q => by rw [upd_ne (ne_of_none q hn)]; exact q) fun c xs q => by rw [upd_ne (ne_of_none q hn)]; exact q
end
/-- what may be read as u: it is u, or a known u -/
def Rd (H : Hp) (a : Addr) (u : HO) : Prop := H a = some u ∨ ∃ o, H a = some (.frz o u)
theorem Rd.ok {P : Program} {w : World} {H : Hp} {h : Heap} {a : Addr} {u : HO} (r : Rd H a u) (x : HOk P w H h) : ObjOk P w H h a u := by
  rcases r with r | ⟨o, r⟩
  · exact x a u r
  · obtain ⟨_, q⟩ := x a _ r
    exact q
/-- what may be written -/
def Mut : Option HO → Prop
  | some (.lst _) => True
  | some (.dK _) => True
  | some (.dT _) => True
  | some (.set _ _) => True
  | some (.ins _ _ _) => True
  | some (.ext _) => True
  | _ => False
section
variable {P : Program} {w : World} {H : Hp} {h h' : Heap} {x e : Addr} {o' : HO}
/-- the object at e is changed: x itself, or the dict of the instance x -/
theorem HOk.write (ok : HOk P w H h) (mu : Mut (H x)) (he : e = x ∨ H e = some (.own x)) (k : ∀ b u, b ≠ e → h.get? b = some u → h'.get? b = some u) (heo : ∃ u, h'.get? e = some u)
    (new : ObjOk P w (upd H x o') h' x o') : HOk P w (upd H x o') h' := fun b u q => by
  have nown : ∀ c y, H c = some (.own y) → c ≠ x := fun c y r z => by subst z; rw [r] at mu; exact mu
  have ntup : ∀ c xs, H c = some (.tup xs) → c ≠ x := fun c xs r z => by subst z; rw [r] at mu; exact mu
  by_cases hb : b = x
  · subst hb; rw [upd_same] at q; cases q; exact new
  · rw [upd_ne hb] at q
    by_cases hbe : b = e
    · have q' : H b = some (.own x) := by
        rcases he with z | z
        · exact absurd (hbe.trans z) hb
        · rw [hbe]; exact z
      rw [q] at q'; cases q'
      obtain ⟨v, hv⟩ := heo
      exact ⟨v, by rw [hbe]; exact hv⟩
    · refine (ok b u q).stay (fun c v hc r => k c v ?_ r) (fun c r => by rw [upd_ne (nown c b r)]; exact r) fun c xs r => by rw [upd_ne (ntup c xs r)]; exact r
      rcases hc with rfl | hc
      · exact hbe
      · rintro rfl
        rcases he with z | z
        · exact nown c b hc z
        · rw [hc] at z; cases z; exact hb rfl
end
structure Un (fs ex : List Addr) (H H' : Hp) (h h' : Heap) : Prop where
  keep : ∀ b o, h.get? b = some o → H b = none → b ∉ fs → b ∉ ex → h'.get? b = some o
  slot : ∀ b o, h.get? b = some o → H b = none → b ∈ fs → b ∉ ex → ∃ sl, h'.get? b = some { o with slots := sl }
  free : ∀ b o, h.get? b = some o → H b = none → b ∉ ex → H' b = none
  there : ∀ b o, h.get? b = some o → b ∉ ex → ∃ o', h'.get? b = some o'
  tups : ∀ b xs, H b = some (.tup xs) → H' b = some (.tup xs)
  frzs : ∀ b o u, H b = some (.frz o u) → H' b = some (.frz o u)
  tbls : ∀ b ps, H b = some (.tbl ps) → ∃ more, H' b = some (.tbl (ps ++ more))
section
variable {fs fs' ex ex' : List Addr} {H H1 H2 : Hp} {h h1 h2 h' : Heap} {a x e : Addr} {o : HO}
theorem Un.any (u : Un fs ex H H1 h h1) {b : Addr} {ob : Obj} (q : h.get? b = some ob) (n : H b = none) (hx : b ∉ ex) : ∃ sl, h1.get? b = some { ob with slots := sl } := by
  by_cases hb : b ∈ fs
  · exact u.slot b ob q n hb hx
  · exact ⟨ob.slots, u.keep b ob q n hb hx⟩
theorem Un.kept (k : ∀ b u, h.get? b = some u → h'.get? b = some u) : Un fs ex H H h h' :=
  ⟨fun b ob q _ _ _ => k b ob q, fun b ob q _ _ _ => ⟨ob.slots, k b ob q⟩, fun _ _ _ n _ => n, fun b ob q _ => ⟨ob, k b ob q⟩, fun _ _ q => q, fun _ _ _ q => q, fun _ ps q => ⟨#[], by rw [q]; simp⟩⟩
theorem Un.refl : Un fs ex H H h h := Un.kept fun _ _ q => q
theorem Un.laid (k : ∀ b u, h.get? b = some u → h'.get? b = some u) (hp : h.objs.size ≤ a) (hn : H a = none) : Un fs ex H (upd H a o) h h' where
  keep := fun b u q _ _ _ => k b u q
  slot := fun b u q _ _ _ => ⟨u.slots, k b u q⟩
  free := fun b u q n _ => by rw [upd_ne (Nat.ne_of_lt (Nat.lt_of_lt_of_le (Heap.lt_size q) hp))]; exact n
  there := fun b u q _ => ⟨u, k b u q⟩
  tups := fun b xs q => by rw [upd_ne (ne_of_none q hn)]; exact q
  frzs := fun b u xs q => by rw [upd_ne (ne_of_none q hn)]; exact q
  tbls := fun b ps q => ⟨#[], by rw [upd_ne (ne_of_none q hn), q]; simp⟩
theorem Un.write (mu : Mut (H x)) (he : e = x ∨ H e = some (.own x)) (k : ∀ b u, b ≠ e → h.get? b = some u → h'.get? b = some u) (heo : ∃ u, h'.get? e = some u) : Un fs ex H (upd H x o) h h' := by
  have hx : ∀ b, H b = none → b ≠ x := fun b n z => by subst z; rw [n] at mu; exact mu
  have hb : ∀ b, H b = none → b ≠ e := fun b n z => by
    subst z
    rcases he with r | r
    · exact hx b n r
    · rw [n] at r; cases r
  have hm : ∀ b u, H b = some u → ¬ Mut (some u) → b ≠ x := fun b u q nm z => by subst z; rw [q] at mu; exact nm mu
  refine ⟨fun b u q n _ _ => k b u (hb b n) q, fun b u q n _ _ => ⟨u.slots, k b u (hb b n) q⟩, fun b u q n _ => by rw [upd_ne (hx b n)]; exact n, fun b u q _ => ?_,
    fun b xs q => by rw [upd_ne (hm b _ q fun z => z)]; exact q, fun b u xs q => by rw [upd_ne (hm b _ q fun z => z)]; exact q, fun b ps q => ⟨#[], by rw [upd_ne (hm b _ q fun z => z), q]; simp⟩⟩
  by_cases hbe : b = e
  · subst hbe; exact heo
  · exact ⟨u, k b u hbe q⟩
end
def trk (h : Heap) (H : Hp) : List Addr := (List.range h.objs.size).filter fun a => (H a).isSome
def hidT (h : Heap) (H : Hp) : Heap := PySem.W.hideAll h (trk h H)
theorem hidT_size (h : Heap) (H : Hp) : (hidT h H).objs.size = h.objs.size := PySem.W.hideAll_size _ _
theorem hidT_get {h : Heap} {H : Hp} {b : Addr} {o : Obj} (e : h.get? b = some o) (n : H b = none) : (hidT h H).get? b = some o :=
  PySem.W.hideAll_get _ e fun hm => by
    have q : (H b).isSome = true := (List.mem_filter.mp hm).2
    rw [n] at q; simp at q
theorem of_hidT {h : Heap} {H : Hp} {b : Addr} {o : Obj} (e : (hidT h H).get? b = some o) : h.get? b = some o ∧ H b = none := by
  have e' : h.get? b = some o := PySem.W.of_hideAll (trk h H) e
  refine ⟨e', ?_⟩
  cases q : H b with
  | none => rfl
  | some x =>
    have hm : b ∈ trk h H := List.mem_filter.mpr ⟨List.mem_range.mpr (Heap.lt_size e'), by simp [q]⟩
    have z : (hidT h H).get? b = none := PySem.W.hideAll_none (trk h H) hm
    rw [z] at e; cases e
end L2
namespace L2
open PySem PySem.Spec PyProof.Rows
/-- the module's facts, over the base: the heap at the law's entry without what is tracked there -/
structure Mod (K : PySem.W.Frag) (mg : Str → Option Value) (base : Heap) : Prop where
  kin : K.In base
  glob : base.Ns mainGlobals mg
  blt : ∃ mb, base.Ns builtinsNs mb ∧ ∀ x : Str, x ≠ "__name__" → mb x = bootBuiltins x
  nolimit : base.NoLimit
/-- the context: a def's body (or a comprehension's block) running. base: fixed through the whole law; s₀, H₀: the entry; outer: the frames whose slots others may change (a def's callers); stack: all frames that run;
   ex: iterators that were made ahead of the entry and are walked here (a comprehension's); fn: the names whose cells were made at the entry (a def: all; a comprehension's block: its own); calm: not within an except suite; pn: pins that every state bears; xe: what is wanted of an exception that leaves the code -/
structure Cx where
  prog : Program
  w : World
  K : PySem.W.Frag
  mg : Str → Option Value
  base : Heap
  A : Around
  N : List Str
  s_0 : Shared
  H_0 : Hp
  env : Env
  outer : List Env
  stack : List Env
  ex : List Addr
  fn : Str → Bool
  calm : Bool
  pn : List (Addr × Obj)
  xe : Value → Shared → Prop
/-- the callers' frames -/
def frs (l : List Env) : List Addr := l.filterMap (·.frame)
abbrev Cx.fs (X : Cx) : List Addr := frs X.outer
def Vis (sc : Scope) (x : Str) : Prop := sc.names.lookup x = some .local ∨ sc.names.lookup x = some .cell ∨ sc.names.lookup x = some .free
def Loc (sc : Scope) (x : Str) : Prop := sc.names.lookup x = some .local ∨ sc.names.lookup x = some .cell
def Look (env : Env) (h : Heap) (m : Str → Option Value) (x : Str) (u : Value) : Prop :=
  (env.kindOf x = some .local ∧ m x = some u) ∨ ((env.kindOf x = some .cell ∨ env.kindOf x = some .free) ∧ ∃ c, env.cells.lookup x = some c ∧ h.IsCell c (some u))
structure Cx.Ok (X : Cx) : Prop where
  mod : Mod X.K X.mg X.base
  kind : X.env.scope.kind = .function
  glob : X.env.globals = mainGlobals
  blt : X.env.builtins = builtinsNs
  above : X.s_0.heap.objs.size ≤ X.env.locals
  inj : ∀ x y c, X.env.cells.lookup x = some c → X.env.cells.lookup y = some c → x = y
  has : ∀ x, (X.env.kindOf x = some .cell ∨ X.env.kindOf x = some .free) → ∃ c, X.env.cells.lookup x = some c
  cab : ∀ x c, X.fn x = true → X.env.cells.lookup x = some c → X.s_0.heap.objs.size ≤ c
  hd : X.calm = true → X.A.handled = none
  frames : X.A.frames = some X.stack
  stk : X.stack = X.outer ∨ (X.stack = X.env :: X.outer ∧ X.env.frame = some X.env.locals)
  exf : ∀ b ∈ X.ex, b ≠ X.env.locals ∧ ∀ x c, X.env.cells.lookup x = some c → c ≠ b
  bs : ∀ b o, X.base.get? b = some o → X.s_0.heap.get? b = some o ∧ X.H_0 b = none
  bsz : X.base.objs.size ≤ X.s_0.heap.objs.size
  noex : ∀ b o, X.base.get? b = some o → b ∉ X.ex
  exfs : ∀ b ∈ X.ex, b ∉ X.fs
  funs : X.s_0.heap.FunFrames X.base X.outer
  frf : ∀ b ∈ X.fs, X.H_0 b = none
structure Inv (X : Cx) (pins : List (Addr × Obj)) (σ : List (Option V)) (H : Hp) (s : Shared) : Prop where
  ok : X.Ok
  os : s.os = X.s_0.os
  bare : AllBare s.gens
  base : Un X.fs X.ex X.H_0 H X.s_0.heap s.heap
  loc : ∃ m, s.heap.Ns X.env.locals m ∧ ∀ (i : Nat) (x : Str) (v : V), X.N[i]? = some x → σ[i]? = some (some v) → Vis X.env.scope x → ∃ u, RelV v u ∧ Look X.env s.heap m x u
  cell : ∀ x c, X.env.cells.lookup x = some c → ∃ v, s.heap.IsCell c v
  free : H X.env.locals = none
  freeC : ∀ x c, X.env.cells.lookup x = some c → H c = none
  pin : ∀ p ∈ X.pn ++ pins, s.heap.get? p.1 = some p.2 ∧ H p.1 = none ∧ p.1 ≠ X.env.locals ∧ p.1 ∉ X.fs ∧ ∀ v, p.2.data ≠ .cell v
  hok : HOk X.prog X.w H s.heap
  len : σ.length = X.N.length
section
variable {X : Cx} {pins : List (Addr × Obj)} {σ : List (Option V)} {H H' : Hp} {s : Shared} {h' : Heap}
theorem Cx.Ok.nofr (ok : X.Ok) {b : Addr} {o : Obj} (e : X.base.get? b = some o) : b ∉ X.fs := fun hb => by
  have := (ok.funs.mem hb).1
  rw [e] at this; cases this
theorem Inv.bs (I : Inv X pins σ H s) : ∀ b o, X.base.get? b = some o → s.heap.get? b = some o ∧ H b = none := fun b o e =>
  ⟨I.base.keep b o (I.ok.bs b o e).1 (I.ok.bs b o e).2 (I.ok.nofr e) (I.ok.noex b o e), I.base.free b o (I.ok.bs b o e).1 (I.ok.bs b o e).2 (I.ok.noex b o e)⟩
theorem Inv.bk (I : Inv X pins σ H s) : ∀ b o, X.base.get? b = some o → s.heap.get? b = some o := fun b o e => (I.bs b o e).1
theorem Inv.mod (I : Inv X pins σ H s) : Mod X.K X.mg X.base := I.ok.mod
theorem Inv.kIn (I : Inv X pins σ H s) : X.K.In s.heap := I.ok.mod.kin.keeps I.bk
theorem Inv.lt (I : Inv X pins σ H s) : X.env.locals < s.heap.objs.size := let ⟨_, hn, _⟩ := I.loc; hn.lt
theorem Inv.sz (I : Inv X pins σ H s) : X.s_0.heap.objs.size ≤ s.heap.objs.size := Nat.le_trans I.ok.above (Nat.le_of_lt I.lt)
theorem Inv.nofs (I : Inv X pins σ H s) {a : Addr} (h : s.heap.objs.size ≤ a) : a ∉ X.fs := fun hb => by
  obtain ⟨_, o, ho, _⟩ := I.ok.funs.mem hb
  exact absurd (Nat.lt_of_lt_of_le (Heap.lt_size ho) (Nat.le_trans I.sz h)) (Nat.lt_irrefl _)
theorem Inv.cne (I : Inv X pins σ H s) : ∀ x c, X.env.cells.lookup x = some c → c ≠ X.env.locals := fun x c e z => by
  obtain ⟨v, o, ho, hd⟩ := I.cell x c e
  obtain ⟨m, ⟨o', es, ep, ho', hd', _⟩, _⟩ := I.loc
  rw [z, ho'] at ho; cases ho; rw [hd'] at hd; cases hd
theorem Inv.funs (I : Inv X pins σ H s) : s.heap.FunFrames X.base X.outer := by
  have all : ∀ (l : List Env), (∀ b ∈ frs l, b ∈ X.fs) → X.s_0.heap.FunFrames X.base l → s.heap.FunFrames X.base l := by
    intro l
    induction l with
    | nil => intro _ _; trivial
    | cons env r ih =>
      intro hs hl
      obtain ⟨hk, ⟨L, o, hf, hn, ho, hd⟩, hr⟩ := hl
      have hL : L ∈ X.fs := hs L (by unfold frs; rw [List.filterMap_cons, hf]; exact List.mem_cons_self)
      obtain ⟨sl, e⟩ := I.base.slot L o ho (I.ok.frf L hL) hL fun z => I.ok.exfs L z hL
      exact ⟨hk, ⟨L, _, hf, hn, e, hd⟩, ih (fun b hb => hs b (by unfold frs; rw [List.filterMap_cons, hf]; exact List.mem_cons_of_mem _ hb)) hr⟩
  exact all X.outer (fun _ hb => hb) I.ok.funs
/-- the frames that run, for a call -/
theorem Inv.stack (I : Inv X pins σ H s) : s.heap.FunFrames X.base X.stack := by
  rcases I.ok.stk with e | ⟨e, hf⟩
  · rw [e]; exact I.funs
  · rw [e]
    obtain ⟨m, hn, _⟩ := I.loc
    refine .cons (by rw [I.ok.kind]; decide) hf hn ?_ I.funs
    exact Heap.get?_none_of_le (Nat.le_trans I.ok.bsz I.ok.above)
theorem Inv.stkSub (I : Inv X pins σ H s) : ∀ b ∈ frs X.stack, b ∈ X.env.locals :: X.fs := fun b hb => by
  rcases I.ok.stk with e | ⟨e, hf⟩
  · rw [e] at hb; exact List.mem_cons_of_mem _ hb
  · rw [e] at hb
    unfold frs at hb
    rw [List.filterMap_cons, hf] at hb
    exact hb
theorem Inv.stkFree (I : Inv X pins σ H s) : ∀ b ∈ frs X.stack, H b = none := fun b hb => by
  rcases List.mem_cons.mp (I.stkSub b hb) with e | hb
  · rw [e]; exact I.free
  · obtain ⟨_, o, ho, _⟩ := I.ok.funs.mem hb
    exact I.base.free b o ho (I.ok.frf b hb) fun z => I.ok.exfs b z hb
/-- THE STEP: the untracked objects but the frame and the records at ch are kept (the callers' frames up to slots), the frame's map is kept, the new abstract heap is held -/
theorem Inv.step {g' : Array GenState} {t' : Nat} {d' : Drawn} {ch : List Addr} (I : Inv X pins σ H s)
    (hch : ∀ b ∈ ch, (b ∈ X.ex ∨ X.s_0.heap.objs.size ≤ b) ∧ b ≠ X.env.locals ∧ (∀ x c, X.env.cells.lookup x = some c → c ≠ b) ∧ ∀ p ∈ X.pn ++ pins, p.1 ≠ b)
    (keep : ∀ b o, b ≠ X.env.locals → b ∉ X.fs → b ∉ ch → s.heap.get? b = some o → H b = none → h'.get? b = some o)
    (slot : ∀ b o, b ≠ X.env.locals → b ∈ X.fs → b ∉ ch → s.heap.get? b = some o → H b = none → ∃ sl, h'.get? b = some { o with slots := sl }) (free : ∀ b o, b ∉ ch → s.heap.get? b = some o → H b = none → H' b = none)
    (there : ∀ b o, b ∉ ch → s.heap.get? b = some o → ∃ o', h'.get? b = some o')
    (tups : ∀ b xs, H b = some (.tup xs) → H' b = some (.tup xs)) (frzs : ∀ b o u, H b = some (.frz o u) → H' b = some (.frz o u)) (tbls : ∀ b ps, H b = some (.tbl ps) → ∃ more, H' b = some (.tbl (ps ++ more)))
    (ns : ∀ m, s.heap.Ns X.env.locals m → h'.Ns X.env.locals m) (hok : HOk X.prog X.w H' h') (hg : AllBare g') :
    Inv X pins σ H' { s with heap := h', gens := g', drawn := d', toks := t' } := by
  have neL : ∀ b o, X.s_0.heap.get? b = some o → b ≠ X.env.locals := fun b o e => Nat.ne_of_lt (Nat.lt_of_lt_of_le (Heap.lt_size e) I.ok.above)
  have neC : ∀ b o, X.s_0.heap.get? b = some o → b ∉ X.ex → b ∉ ch := fun b o e hx hb => by
    rcases (hch b hb).1 with z | z
    · exact hx z
    · exact absurd (Nat.lt_of_lt_of_le (Heap.lt_size e) z) (Nat.lt_irrefl _)
  have cellK : ∀ x c, X.env.cells.lookup x = some c → ∀ v, s.heap.IsCell c v → h'.IsCell c v := fun x c e v ⟨o, ho, hd⟩ => by
    have nch : c ∉ ch := fun z => (hch c z).2.2.1 x c e rfl
    by_cases hc : c ∈ X.fs
    · obtain ⟨sl, q⟩ := slot c o (I.cne x c e) hc nch ho (I.freeC x c e)
      exact ⟨_, q, hd⟩
    · exact ⟨o, keep c o (I.cne x c e) hc nch ho (I.freeC x c e), hd⟩
  refine ⟨I.ok, I.os, hg, ⟨fun b o e n hb hx => ?_, fun b o e n hb hx => ?_, fun b o e n hx => ?_, fun b o e hx => ?_, fun b xs e => tups b xs (I.base.tups b xs e), fun b o xs e => frzs b o xs (I.base.frzs b o xs e), fun b ps e => ?_⟩, ?_, fun x c e => ?_, ?_, fun x c e => ?_, fun p hp => ?_, hok, I.len⟩
  · exact keep b o (neL b o e) hb (neC b o e hx) (I.base.keep b o e n hb hx) (I.base.free b o e n hx)
  · obtain ⟨sl, e1⟩ := I.base.slot b o e n hb hx
    obtain ⟨sl', e2⟩ := slot b _ (neL b o e) hb (neC b o e hx) e1 (I.base.free b o e n hx)
    exact ⟨sl', e2⟩
  · obtain ⟨o', e1⟩ := I.base.there b o e hx
    exact free b o' (neC b o e hx) e1 (I.base.free b o e n hx)
  · obtain ⟨o', e1⟩ := I.base.there b o e hx
    exact there b o' (neC b o e hx) e1
  · obtain ⟨m1, e1⟩ := I.base.tbls b ps e
    obtain ⟨m2, e2⟩ := tbls b _ e1
    exact ⟨m1 ++ m2, by rw [e2, Array.append_assoc]⟩
  · obtain ⟨m, hn, hl⟩ := I.loc
    refine ⟨m, ns m hn, fun i x v e1 e2 e3 => ?_⟩
    obtain ⟨u, r, l⟩ := hl i x v e1 e2 e3
    refine ⟨u, r, ?_⟩
    rcases l with l | ⟨k, c, e, z⟩
    · exact .inl l
    · exact .inr ⟨k, c, e, cellK x c e _ z⟩
  · obtain ⟨v, z⟩ := I.cell x c e
    exact ⟨v, cellK x c e v z⟩
  · obtain ⟨m, ⟨o, _, _, ho, _⟩, _⟩ := I.loc
    exact free _ o (fun z => (hch _ z).2.1 rfl) ho I.free
  · obtain ⟨v, o, ho, hd⟩ := I.cell x c e
    exact free c o (fun z => (hch c z).2.2.1 x c e rfl) ho (I.freeC x c e)
  · obtain ⟨e, n, ne, nf, d⟩ := I.pin p hp
    have nch : p.1 ∉ ch := fun z => (hch p.1 z).2.2.2 p hp rfl
    exact ⟨keep p.1 p.2 ne nf nch e n, free p.1 p.2 nch e n, ne, nf, d⟩
/-- .. where the frame's own object is kept too -/
theorem Inv.un {t' : Nat} (I : Inv X pins σ H s) (u : Un X.fs [] H H' s.heap h') (hok : HOk X.prog X.w H' h') : Inv X pins σ H' { s with heap := h', toks := t' } := by
  obtain ⟨m, ⟨o, es, ep, ho, r⟩, _⟩ := id I.loc
  obtain ⟨sl, hL⟩ := u.any ho I.free (by simp)
  exact I.step (g' := s.gens) (d' := s.drawn) (ch := []) (fun _ z => nomatch z) (fun b o _ hb _ e n => u.keep b o e n hb (by simp)) (fun b o _ hb _ e n => u.slot b o e n hb (by simp)) (fun b o _ e n => u.free b o e n (by simp)) (fun b o _ e => u.there b o e (by simp)) u.tups u.frzs u.tbls (fun m' hm => by
    obtain ⟨o', es', ep', ho', r'⟩ := hm
    rw [ho] at ho'; cases ho'
    exact ⟨_, es', ep', hL, r'⟩) hok I.bare
/-- behind a call (or a comprehension's block): the slots of this frame may have changed too, the records at ch may have turned -/
theorem Inv.call {g' : Array GenState} {t' : Nat} {d' : Drawn} {ch : List Addr} (I : Inv X pins σ H s) (u : Un (frs X.stack) ch H H' s.heap h') (hok : HOk X.prog X.w H' h') (hg : AllBare g')
    (hch : ∀ b ∈ ch, (b ∈ X.ex ∨ X.s_0.heap.objs.size ≤ b) ∧ b ≠ X.env.locals ∧ (∀ x c, X.env.cells.lookup x = some c → c ≠ b) ∧ ∀ p ∈ X.pn ++ pins, p.1 ≠ b) :
    Inv X pins σ H' { s with heap := h', gens := g', drawn := d', toks := t' } := by
  obtain ⟨m, ⟨o, es, ep, ho, r⟩, _⟩ := id I.loc
  obtain ⟨sl, hL⟩ := u.any ho I.free fun z => (hch _ z).2.1 rfl
  exact I.step (ch := ch) hch (fun b o hL hb hc e n => u.keep b o e n (fun z => (List.mem_cons.mp (I.stkSub b z)).elim hL hb) hc) (fun b o _ _ hc e n => u.any e n hc) (fun b o hc e n => u.free b o e n hc) (fun b o hc e => u.there b o e hc) u.tups u.frzs u.tbls (fun m' hm => by
    obtain ⟨o', es', ep', ho', r'⟩ := hm
    rw [ho] at ho'; cases ho'
    exact ⟨_, es', ep', hL, r'⟩) hok hg
/-- an untracked record of ours (an iterator) has turned -/
theorem Inv.turned {t' : Nat} {it : Addr} (I : Inv X pins σ H s) (k : ∀ b o, b ≠ it → s.heap.get? b = some o → h'.get? b = some o) (hn : H it = none) (hL : it ≠ X.env.locals)
    (h1 : it ∈ X.ex ∨ X.s_0.heap.objs.size ≤ it) (h2 : ∀ x c, X.env.cells.lookup x = some c → c ≠ it) (h3 : ∀ p ∈ X.pn ++ pins, p.1 ≠ it) : Inv X pins σ H { s with heap := h', toks := t' } := by
  have nit : ∀ b u, H b = some u → b ≠ it := fun b u e z => by rw [z, hn] at e; cases e
  refine I.step (g' := s.gens) (d' := s.drawn) (ch := [it]) (fun b hb => ?_) (fun b o _ _ hc e _ => k b o (fun z => hc (by simp [z])) e) (fun b o _ _ hc e _ => ⟨o.slots, k b o (fun z => hc (by simp [z])) e⟩) (fun _ _ _ _ n => n)
    (fun b o hc e => ⟨o, k b o (fun z => hc (by simp [z])) e⟩) (fun _ _ e => e) (fun _ _ _ e => e) (fun b ps e => ⟨#[], by rw [e]; simp⟩) (fun m hm => ?_) (fun b u e => ?_) I.bare
  · have e : b = it := by simpa using hb
    subst e
    exact ⟨h1, hL, h2, h3⟩
  · obtain ⟨o, es, ep, ho, r⟩ := hm
    exact ⟨o, es, ep, k _ o (Ne.symm hL) ho, r⟩
  · refine (I.hok b u e).stay (fun c v hc q => k c v ?_ q) (fun _ q => q) fun _ _ q => q
    rcases hc with z | z
    · rw [z]; exact nit b u e
    · exact nit c _ z
theorem Inv.tok (I : Inv X pins σ H s) (t : Nat) : Inv X pins σ H { s with toks := t } := I.un (h' := s.heap) (t' := t) Un.refl I.hok
/-- all objects kept -/
theorem Inv.kept {t' : Nat} (I : Inv X pins σ H s) (k : ∀ b u, s.heap.get? b = some u → h'.get? b = some u) : Inv X pins σ H { s with heap := h', toks := t' } := I.un (Un.kept k) (I.hok.kept k)
/-- a new object laid and tracked -/
theorem Inv.laid {a : Addr} {o : HO} {t' : Nat} (I : Inv X pins σ H s) (k : ∀ b u, s.heap.get? b = some u → h'.get? b = some u) (hp : s.heap.objs.size ≤ a) (new : ObjOk X.prog X.w (upd H a o) h' a o) :
    Inv X pins σ (upd H a o) { s with heap := h', toks := t' } := I.un (Un.laid k hp (I.hok.fresh hp)) (I.hok.laid k hp new)
/-- an object written -/
theorem Inv.write {x e : Addr} {o : HO} {t' : Nat} (I : Inv X pins σ H s) (mu : Mut (H x)) (he : e = x ∨ H e = some (.own x)) (k : ∀ b u, b ≠ e → s.heap.get? b = some u → h'.get? b = some u) (heo : ∃ u, h'.get? e = some u)
    (new : ObjOk X.prog X.w (upd H x o) h' x o) : Inv X pins σ (upd H x o) { s with heap := h', toks := t' } := I.un (Un.write mu he k heo) (I.hok.write mu he k heo new)
/-- forgetting slots, pins -/
theorem Inv.weak {σ' : List (Option V)} (I : Inv X pins σ H s) (hl : σ'.length = σ.length) (w : ∀ (i : Nat) v, σ'[i]? = some (some v) → σ[i]? = some (some v)) : Inv X pins σ' H s :=
  ⟨I.ok, I.os, I.bare, I.base, let ⟨m, hn, hl'⟩ := I.loc; ⟨m, hn, fun i x v e1 e2 e3 => hl' i x v e1 (w i v e2) e3⟩, I.cell, I.free, I.freeC, I.pin, I.hok, hl.trans I.len⟩
theorem Inv.pins_of {pins' : List (Addr × Obj)} (I : Inv X pins σ H s) (h : ∀ p ∈ pins', s.heap.get? p.1 = some p.2 ∧ H p.1 = none ∧ p.1 ≠ X.env.locals ∧ p.1 ∉ X.fs ∧ ∀ v, p.2.data ≠ .cell v) : Inv X pins' σ H s :=
  ⟨I.ok, I.os, I.bare, I.base, I.loc, I.cell, I.free, I.freeC, fun p hp => (List.mem_append.mp hp).elim (fun z => I.pin p (List.mem_append_left _ z)) (h p), I.hok, I.len⟩
theorem nodup_ix {N : List Str} (hN : N.Nodup) {i j : Nat} {x : Str} (a : N[i]? = some x) (b : N[j]? = some x) : i = j := by
  obtain ⟨h1, e1⟩ := List.getElem?_eq_some_iff.mp a
  obtain ⟨h2, e2⟩ := List.getElem?_eq_some_iff.mp b
  exact (List.getElem_inj hN).mp (e1.trans e2.symm)
/-- a name is stored; what changed -/
theorem store_ok2 {M : Model} {A : Around} {E : Value → Shared → Prop} {i : Nat} {x : Str} {v : V} {u : Value} {Q : Unit → Shared → Prop} (I : Inv X pins σ H s) (hN : X.N.Nodup) (hi : X.N[i]? = some x) (hx : Loc X.env.scope x) (r : RelV v u)
    (h : ∀ s', Inv X pins (σ.set i (some v)) H s' → (∃ a, Heap.SameBut a s.heap s'.heap ∧ (a = X.env.locals ∨ X.env.cells.lookup x = some a)) → Q () s') (hf : X.fn x = true ∨ X.env.scope.names.lookup x = some .local := by first | exact .inl rfl | exact .inr rfl | assumption) : wpAny M A (storeName X.env x u) Q E s := by
  obtain ⟨m, hn, hl⟩ := id I.loc
  have hcls : (X.env.scope.kind == .class || (X.env.scope.kind == .module && X.env.locals != X.env.globals)) = false := by rw [I.ok.kind]; rfl
  have hiσ : i < σ.length := by rw [I.len]; exact (List.getElem?_eq_some_iff.mp hi).1
  have cne := I.cne
  have tracked : ∀ {a : Addr} {h' : Heap}, (∃ o, s.heap.get? a = some o ∧ H a = none) → Heap.SameBut a s.heap h' → HOk X.prog X.w H h' := fun {a h'} ha hs b ob e => by
    obtain ⟨_, _, hfree⟩ := ha
    refine (I.hok b ob e).stay (fun c w' hc q => (hs.2 c ?_).trans q) (fun _ q => q) fun _ _ q => q
    rintro rfl
    rcases hc with rfl | hc
    · rw [hfree] at e; cases e
    · rw [hfree] at hc; cases hc
  rcases hx with hk | hk
  · refine wpAny_storeName_local hk hn (fun h' hn' hs => ?_) hcls
    obtain ⟨oL, _, _, hoL, _⟩ := id hn
    refine h _ ⟨I.ok, I.os, I.bare, ⟨fun b o e n hb hx => ?_, fun b o e n hb hx => ?_, I.base.free, fun b o e hx => ?_, I.base.tups, I.base.frzs, I.base.tbls⟩, ⟨_, hn', fun j y v' e1 e2 e3 => ?_⟩, fun y c e => ?_, I.free, I.freeC, fun p hp => ?_, tracked ⟨oL, hoL, I.free⟩ hs, by simpa using I.len⟩ ⟨_, hs, .inl rfl⟩
    · exact (hs.2 b (Nat.ne_of_lt (Nat.lt_of_lt_of_le (Heap.lt_size e) I.ok.above))).trans (I.base.keep b o e n hb hx)
    · obtain ⟨sl, e1⟩ := I.base.slot b o e n hb hx
      exact ⟨sl, (hs.2 b (Nat.ne_of_lt (Nat.lt_of_lt_of_le (Heap.lt_size e) I.ok.above))).trans e1⟩
    · obtain ⟨o', e1⟩ := I.base.there b o e hx
      exact ⟨o', (hs.2 b (Nat.ne_of_lt (Nat.lt_of_lt_of_le (Heap.lt_size e) I.ok.above))).trans e1⟩
    · by_cases hj : j = i
      · subst hj
        rw [hi] at e1; cases e1
        rw [List.getElem?_set_self hiσ] at e2
        cases e2
        exact ⟨u, r, .inl ⟨hk, by simp⟩⟩
      · rw [List.getElem?_set_ne (Ne.symm hj)] at e2
        obtain ⟨u', r', q⟩ := hl j y v' e1 e2 e3
        refine ⟨u', r', ?_⟩
        rcases q with ⟨k, e⟩ | ⟨k, c, e, z⟩
        · refine .inl ⟨k, ?_⟩
          have : y ≠ x := fun e => hj (nodup_ix hN e1 (e ▸ hi))
          simp [this, e]
        · exact .inr ⟨k, c, e, z.sameBut hs (cne y c e)⟩
    · obtain ⟨w', z⟩ := I.cell y c e
      exact ⟨w', z.sameBut hs (cne y c e)⟩
    · obtain ⟨e, n, ne, nf, d⟩ := I.pin p hp
      exact ⟨(hs.2 p.1 ne).trans e, n, ne, nf, d⟩
  · have hfn : X.fn x = true := by
      rcases hf with z | z
      · exact z
      · rw [z] at hk; cases hk
    obtain ⟨c, hc⟩ := I.ok.has x (.inl hk)
    obtain ⟨w', z⟩ := I.cell x c hc
    refine wpAny_storeName_cell I.ok.kind hk hc z (fun h' hc' hs => ?_)
    obtain ⟨oc, hoc, hocd⟩ := id z
    refine h { s with heap := h' } ⟨I.ok, I.os, I.bare, ⟨fun b o e n hb hx => ?_, fun b o e n hb hx => ?_, I.base.free, fun b o e hx => ?_, I.base.tups, I.base.frzs, I.base.tbls⟩, ⟨m, hn.sameBut hs (Ne.symm (cne x c hc)), fun j y v' e1 e2 e3 => ?_⟩, fun y c' e => ?_, I.free, I.freeC, fun p hp => ?_, tracked ⟨oc, hoc, I.freeC x c hc⟩ hs, by simpa using I.len⟩ ⟨c, hs, .inr hc⟩
    · exact (hs.2 b (Nat.ne_of_lt (Nat.lt_of_lt_of_le (Heap.lt_size e) (I.ok.cab x c hfn hc)))).trans (I.base.keep b o e n hb hx)
    · obtain ⟨sl, e1⟩ := I.base.slot b o e n hb hx
      exact ⟨sl, (hs.2 b (Nat.ne_of_lt (Nat.lt_of_lt_of_le (Heap.lt_size e) (I.ok.cab x c hfn hc)))).trans e1⟩
    · obtain ⟨o', e1⟩ := I.base.there b o e hx
      exact ⟨o', (hs.2 b (Nat.ne_of_lt (Nat.lt_of_lt_of_le (Heap.lt_size e) (I.ok.cab x c hfn hc)))).trans e1⟩
    · by_cases hj : j = i
      · subst hj
        rw [hi] at e1; cases e1
        rw [List.getElem?_set_self hiσ] at e2
        cases e2
        exact ⟨u, r, .inr ⟨.inl hk, c, hc, hc'⟩⟩
      · rw [List.getElem?_set_ne (Ne.symm hj)] at e2
        obtain ⟨u', r', q⟩ := hl j y v' e1 e2 e3
        refine ⟨u', r', ?_⟩
        rcases q with q | ⟨k, c', e, z'⟩
        · exact .inl q
        · refine .inr ⟨k, c', e, z'.sameBut hs ?_⟩
          rintro rfl
          exact hj (nodup_ix hN e1 (I.ok.inj _ _ _ e hc ▸ hi))
    · by_cases hcc : c' = c
      · subst hcc; exact ⟨_, hc'⟩
      · obtain ⟨w2, z2⟩ := I.cell y c' e
        exact ⟨w2, z2.sameBut hs hcc⟩
    · obtain ⟨e, n, ne, nf, d⟩ := I.pin p hp
      refine ⟨(hs.2 p.1 ?_).trans e, n, ne, nf, d⟩
      intro q
      rw [q, hoc] at e
      have q' : oc = p.2 := Option.some.inj e
      exact d w' (by rw [← q']; exact hocd)
theorem store_ok {M : Model} {A : Around} {E : Value → Shared → Prop} {i : Nat} {x : Str} {v : V} {u : Value} {Q : Unit → Shared → Prop} (I : Inv X pins σ H s) (hN : X.N.Nodup) (hi : X.N[i]? = some x) (hx : Loc X.env.scope x) (r : RelV v u)
    (h : ∀ s', Inv X pins (σ.set i (some v)) H s' → Q () s') (hf : X.fn x = true ∨ X.env.scope.names.lookup x = some .local := by first | exact .inl rfl | exact .inr rfl | assumption) : wpAny M A (storeName X.env x u) Q E s :=
  store_ok2 I hN hi hx r (fun s' I' _ => h s' I') hf
/-- behind a call or a block, the state as it is -/
theorem Inv.call' {s' : Shared} {ch : List Addr} (I : Inv X pins σ H s) (ho : s'.os = s.os) (u : Un (frs X.stack) ch H H' s.heap s'.heap) (hok : HOk X.prog X.w H' s'.heap) (hg : AllBare s'.gens)
    (hch : ∀ b ∈ ch, (b ∈ X.ex ∨ X.s_0.heap.objs.size ≤ b) ∧ b ≠ X.env.locals ∧ (∀ x c, X.env.cells.lookup x = some c → c ≠ b) ∧ ∀ p ∈ X.pn ++ pins, p.1 ≠ b) : Inv X pins σ H' s' := by
  obtain ⟨h', g', d', t', o'⟩ := s'
  have e : o' = s.os := ho
  subst e
  exact I.call (g' := g') (t' := t') (d' := d') u hok hg hch
end
/-- an exception: its class, its own dict's address (where it has one), the abstract heap behind it -/
abbrev XK := Value → Option Addr → Hp → Prop
abbrev St := List (Option V)
abbrev VK := V → Hp → Prop
/-- an expression's reading; a test's; an argument list's -/
abbrev TE := St → Hp → VK → Prop
abbrev TT := St → Hp → (Bool → Hp → Prop) → Prop
abbrev TA := St → Hp → (List V → Hp → Prop) → Prop
/-- what is wanted behind a statement -/
structure Ends where
  nx : St → Hp → Prop
  rt : VK
  bk : St → Hp → Prop := fun _ _ => False
  ct : St → Hp → Prop := fun _ _ => False
abbrev TS := Ends → St → Hp → Prop
def EP (X : Cx) (pins : List (Addr × Obj)) (σ : St) (Q : VK) (u : Value) (s' : Shared) : Prop := ∃ v H', Inv X pins σ H' s' ∧ RelV v u ∧ Q v H'
def TP (X : Cx) (pins : List (Addr × Obj)) (σ : St) (Q : Bool → Hp → Prop) (b : Bool) (s' : Shared) : Prop := ∃ H', Inv X pins σ H' s' ∧ Q b H'
def AP (X : Cx) (pins : List (Addr × Obj)) (σ : St) (Q : List V → Hp → Prop) (us : List Value) (s' : Shared) : Prop := ∃ vs H', Inv X pins σ H' s' ∧ Vals vs us ∧ Q vs H'
def SP (X : Cx) (pins : List (Addr × Obj)) (D : Ends) (f : Flow) (s' : Shared) : Prop :=
  match f with
  | .next => ∃ σ' H', Inv X pins σ' H' s' ∧ D.nx σ' H'
  | .brk => ∃ σ' H', Inv X pins σ' H' s' ∧ D.bk σ' H'
  | .cont => ∃ σ' H', Inv X pins σ' H' s' ∧ D.ct σ' H'
  | .ret u => ∃ v σ' H', Inv X pins σ' H' s' ∧ RelV v u ∧ D.rt v H'
def PE (X : Cx) (e : Expr) (t : TE) : Prop :=
  ∀ (pins : List (Addr × Obj)) (s : Shared) (σ : St) (H : Hp) (Q : VK), Inv X pins σ H s → t σ H Q → wpAny (model X.prog X.w) X.A (eval e X.env) (EP X pins σ Q) X.xe s
def PT (X : Cx) (e : Expr) (t : TT) : Prop :=
  ∀ (pins : List (Addr × Obj)) (s : Shared) (σ : St) (H : Hp) (Q : Bool → Hp → Prop), Inv X pins σ H s → t σ H Q → wpAny (model X.prog X.w) X.A (isTrue e X.env (eval e X.env)) (TP X pins σ Q) X.xe s
/-- a test whatever its 'whole' is (and, or) -/
def PW (X : Cx) (e : Expr) (t : TT) : Prop :=
  ∀ (whole : Sem Value) (pins : List (Addr × Obj)) (s : Shared) (σ : St) (H : Hp) (Q : Bool → Hp → Prop), Inv X pins σ H s → t σ H Q → wpAny (model X.prog X.w) X.A (isTrue e X.env whole) (TP X pins σ Q) X.xe s
theorem PW.pt {X : Cx} {e : Expr} {t : TT} (h : PW X e t) : PT X e t := h _
/-- an argument list (no star), from the left -/
def PA (X : Cx) (es : List Expr) (t : TA) : Prop :=
  ∀ (pos : Pos) (pins : List (Addr × Obj)) (s : Shared) (σ : St) (H : Hp) (Q : List V → Hp → Prop), Inv X pins σ H s → t σ H Q → wpAny (model X.prog X.w) X.A (spliced (backTo pos (starEach es X.env))) (AP X pins σ Q) X.xe s
def PS (X : Cx) (st : Stmt) (t : TS) : Prop :=
  ∀ (pins : List (Addr × Obj)) (s : Shared) (σ : St) (H : Hp) (D : Ends), Inv X pins σ H s → t D σ H → wpAny (model X.prog X.w) X.A (exec st X.env) (SP X pins D) X.xe s
def PSs (X : Cx) (st : List Stmt) (t : TS) : Prop :=
  ∀ (pins : List (Addr × Obj)) (s : Shared) (σ : St) (H : Hp) (D : Ends), Inv X pins σ H s → t D σ H → wpAny (model X.prog X.w) X.A (execs st X.env) (SP X pins D) X.xe s
/-- weaken the end -/
theorem thn {α : Type} {t : Sem α} {Q Q' : α → Shared → Prop} {M : Model} {A : Around} {E : Value → Shared → Prop} {s : Shared} (h : wpAny M A t Q E s) (hQ : ∀ a s, Q a s → Q' a s) : wpAny M A t Q' E s := wpAny_mono h hQ fun _ _ x => x
end L2
namespace L2
open PySem PySem.Spec PyProof.Rows
section
variable {X : Cx}
def tVar (i : Nat) : TE := fun σ H Q => ∃ v, σ[i]? = some (some v) ∧ Q v H
def tC (v : V) : TE := fun _ H Q => Q v H
theorem pe_var {i : Nat} {x : Str} {pos : Pos} (hN : X.N[i]? = some x) (hv : Vis X.env.scope x) (hd : (x == ("__debug__" : Str)) = false := by decide) (hcd : (x == ("__classdict__" : Str)) = false := by decide) : PE X (.Name x pos) (tVar i) := by
  intro pins s σ H Q I h
  obtain ⟨v, e, h⟩ := h
  obtain ⟨m, hn, hl⟩ := I.loc
  obtain ⟨u, r, l⟩ := hl i x v hN e hv
  have fin : EP X pins σ Q u s := ⟨v, H, I, r, h⟩
  rcases l with ⟨hk, hm⟩ | ⟨hk, c, hc, hcell⟩
  · exact wpAny_Name (wpAny_loadName_local I.ok.kind hk hn hm fin) hd
  · rcases hk with hk | hk
    · exact wpAny_Name (wpAny_loadName_cell I.ok.kind hk hc hcell fin) hd
    · exact wpAny_Name (wpAny_loadName_free I.ok.kind hk hc hcell fin hcd) hd
theorem pe_int {i j pos} : PE X (.Constant (.int i) j pos) (tC (.int i)) := fun _ _ _ H _ I h => wpAny_Constant_int ⟨.int i, H, I.tok _, ⟨_, rfl⟩, h⟩
theorem pe_bl {b j pos} : PE X (.Constant (.bool b) j pos) (tC (.bl b)) := fun _ _ _ H _ I h => Constant_bool ⟨.bl b, H, I, rfl, h⟩
theorem pe_non {j pos} : PE X (.Constant .none j pos) (tC .non) := fun _ _ _ H _ I h => Constant_none ⟨.non, H, I, rfl, h⟩
/-- a global name of the def -/
def Gl (X : Cx) (x : Str) : Prop := X.env.kindOf x = some .globalImplicit
theorem ld_glob {E : Value → Shared → Prop} {pins : List (Addr × Obj)} {s : Shared} {σ : St} {H : Hp} {x : Str} {u : Value} {pos : Pos} {Q : Value → Shared → Prop} (I : Inv X pins σ H s) (hg : Gl X x) (hm : X.mg x = some u) (h : Q u s)
    (hd : (x == ("__debug__" : Str)) = false := by decide) : wpAny (model X.prog X.w) X.A (eval (.Name x pos) X.env) Q E s :=
  Calls.Name_function_global I.ok.kind hg (Calls.loadGlobal_global (by rw [I.ok.glob]; exact I.mod.glob.keeps I.bk) hm h) hd
theorem ld_blt {E : Value → Shared → Prop} {pins : List (Addr × Obj)} {s : Shared} {σ : St} {H : Hp} {x : Str} {u : Value} {pos : Pos} {Q : Value → Shared → Prop} (I : Inv X pins σ H s) (hg : Gl X x) (hm : X.mg x = none) (hv : bootBuiltins x = some u) (h : Q u s)
    (hn : x ≠ "__name__" := by decide) (hd : (x == ("__debug__" : Str)) = false := by decide) : wpAny (model X.prog X.w) X.A (eval (.Name x pos) X.env) Q E s := by
  obtain ⟨mb, h1, h2⟩ := I.mod.blt
  exact Calls.Name_function_global I.ok.kind hg (Calls.loadGlobal_builtin (by rw [I.ok.glob]; exact I.mod.glob.keeps I.bk) hm (by rw [I.ok.blt]; exact h1.keeps I.bk) ((h2 x hn).trans hv) h) hd
/-- a module's constant, a class, a function, as a value -/
theorem pe_glob {x : Str} {v : V} {u : Value} {pos : Pos} (hg : Gl X x) (hm : X.mg x = some u) (r : RelV v u) (hd : (x == ("__debug__" : Str)) = false := by decide) : PE X (.Name x pos) (tC v) :=
  fun _ _ _ H _ I h => ld_glob I hg hm ⟨v, H, I, r, h⟩ hd
variable {a b : Expr} {ta tb : TE} {pos : Pos}
def PC (X : Cx) (op : CmpOp) (a b : Expr) (t : TE) : Prop :=
  ∀ (pins : List (Addr × Obj)) (s : Shared) (σ : St) (H : Hp) (Q : VK), Inv X pins σ H s → t σ H Q →
    wpAny (model X.prog X.w) X.A (eval a X.env) (fun v s₁ => wpAny (model X.prog X.w) X.A (eval b X.env) (fun u s₂ => wpAny (model X.prog X.w) X.A (compareOp op v u) (EP X pins σ Q) X.xe s₂) X.xe s₁) X.xe s
theorem nobehind (b : Expr) {op : CmpOp} (h : op ≠ .In) (h2 : op ≠ .NotIn) : behindInMarks op b = false := by
  have e1 : (op == CmpOp.In) = false := by cases op <;> first | rfl | exact absurd rfl h
  have e2 : (op == CmpOp.NotIn) = false := by cases op <;> first | rfl | exact absurd rfl h2
  cases b <;> simp [behindInMarks, e1, e2]
/-- is None -/
def tIsN (ta : TE) : TE := fun σ H Q => ta σ H fun x H1 => Q (.bl (decide (x = .non))) H1
theorem RelV.none_iff {x : V} {v : Value} (r : RelV x v) : (v == Value.none) = decide (x = .non) := by
  cases x with
  | non => cases r; rfl
  | bl _ => cases r; rfl
  | int _ => obtain ⟨t, rfl⟩ := r; rfl
  | str _ => obtain ⟨t, rfl⟩ := r; rfl
  | byt _ => obtain ⟨t, rfl⟩ := r; rfl
  | flt _ => obtain ⟨t, rfl⟩ := r; rfl
  | ref _ => cases r; rfl
  | ty _ => cases r; rfl
theorem pc_isN {j pos'} (ha : PE X a ta) : PC X .Is a (.Constant .none j pos') (tIsN ta) := by
  intro pins s σ H Q I h
  refine thn (ha pins s σ H _ I h) fun v s1 ⟨x, H1, I1, r1, q1⟩ => ?_
  exact Constant_none (is_none_gen ⟨.bl _, H1, I1, by rw [r1.none_iff]; rfl, q1⟩)
/-- a comparison as a value, as a test -/
def tB (t : TE) : TT := fun σ H Q => t σ H fun x H1 => ∃ c, x = .bl c ∧ Q c H1
theorem pt_cmp {op : CmpOp} {t : TE} (h : PC X op a b t) (h1 : behindInMarks op b = false := by first | exact nobehind _ (by decide) (by decide) | rfl) : PT X (.Compare a [op] [b] pos) (tB t) := by
  intro pins s σ H Q I hw
  refine wpAny_isTrue_Compare1 (thn (h pins s σ H _ I hw) fun v s1 h1 => thn h1 fun u s2 h2 => thn h2 fun c s3 ⟨x, H1, I1, r1, q1⟩ => ?_) h1
  obtain ⟨d, rfl, q⟩ := q1
  cases r1
  exact wpAny_truthy_bool ⟨H1, I1, q⟩
/-- an expression whose value is a bool, as a test -/
theorem pt_val {e : Expr} {t : TE} (h : PE X e t) (he : ∀ whole, isTrue e X.env whole = (do let v ← whole; standAt e.pos; holding [v] (truthy v)) := by intro _; rfl) : PT X e (tB t) := by
  intro pins s σ H Q I hw
  refine isTrue_plain (thn (h pins s σ H _ I hw) fun v s1 ⟨x, H1, I1, r1, q1⟩ => ?_) (he _)
  obtain ⟨d, rfl, q⟩ := q1
  cases r1
  exact wpAny_truthy_bool ⟨H1, I1, q⟩
variable {tA tB' : TT} {rest : List Expr}
def tOr (t u : TT) : TT := fun σ H Q => t σ H fun c H1 => if c = true then Q true H1 else u σ H1 Q
def tNot (t : TT) : TT := fun σ H Q => t σ H fun c H1 => Q (!c) H1
theorem pw_or1 (ha : PT X a tA) : PW X (.BoolOp .Or [a] pos) tA := by
  intro wh pins s σ H Q I h
  refine isTrue_or (thn (ha pins s σ H Q I h) fun c s1 e => ?_)
  cases c with
  | false => exact isTrue_or_nil e
  | true => exact e
theorem pw_or (ha : PT X a tA) (hb : PW X (.BoolOp .Or (b :: rest) pos) tB') : PW X (.BoolOp .Or (a :: b :: rest) pos) (tOr tA tB') := by
  intro wh pins s σ H Q I h
  refine isTrue_or (thn (ha pins s σ H _ I h) fun c s1 ⟨H1, I1, q1⟩ => ?_)
  cases c with
  | true => exact ⟨H1, I1, q1⟩
  | false => exact hb wh pins s1 σ H1 Q I1 q1
theorem pt_not (ha : PT X a tA) : PT X (.UnaryOp .Not a pos) (tNot tA) := by
  intro pins s σ H Q I h
  exact isTrue_not (ha pins s σ H (fun c H1 => Q (!c) H1) I h)
/-- a if t else b -/
def tIf (t : TT) (ta tb : TE) : TE := fun σ H Q => t σ H fun c H1 => if c = true then ta σ H1 Q else tb σ H1 Q
theorem pe_ifExp {c : Expr} (hc : PT X c tA) (ha : PE X a ta) (hb : PE X b tb) : PE X (.IfExp c a b pos) (tIf tA ta tb) := by
  intro pins s σ H Q I h
  refine wpAny_IfExp (thn (hc pins s σ H _ I h) fun d s1 ⟨H1, I1, q1⟩ => ?_)
  cases d with
  | true => exact ha pins s1 σ H1 Q I1 q1
  | false => exact hb pins s1 σ H1 Q I1 q1
end
end L2
namespace L2
open PySem PySem.Spec PyProof.Rows
def SqL (K : PySem.W.Frag) (H : Hp) (a : Addr) (xs : List V) : Prop :=
  Rd H a (.lst xs) ∨
    ∃ (o : Obj) (its : Array Value) (n : Nat), K.lookup a = some o ∧ o.cls = .type "list" ∧ o.dict = none ∧ o.data = .seq its n ∧ its.size ≤ sizeLine ∧ Vals xs its.toList
def SqT (K : PySem.W.Frag) (H : Hp) (a : Addr) (xs : List V) : Prop :=
  Rd H a (.tup xs) ∨
    ∃ (o : Obj) (its : Array Value) (n : Nat), K.lookup a = some o ∧ o.cls = .type "tuple" ∧ o.data = .seq its n ∧ its.size ≤ sizeLine ∧ Vals xs its.toList
def absV : Value → Option V
  | .none => some .non
  | .bool b => some (.bl b)
  | .int i _ => some (.int i)
  | .str x _ => some (.str x)
  | .bytes b _ => some (.byt b)
  | .float b _ => some (.flt b)
  | .ref a => some (.ref a)
  | .type n => some (.ty n)
  | _ => none
theorem RelV.abs {x : V} {u : Value} (r : RelV x u) : absV u = some x := by
  cases x with
  | non => cases r; rfl
  | bl _ => cases r; rfl
  | int _ => obtain ⟨t, rfl⟩ := r; rfl
  | str _ => obtain ⟨t, rfl⟩ := r; rfl
  | byt _ => obtain ⟨t, rfl⟩ := r; rfl
  | flt _ => obtain ⟨t, rfl⟩ := r; rfl
  | ref _ => cases r; rfl
  | ty _ => cases r; rfl
theorem RelV.inj {x y : V} {u : Value} (r : RelV x u) (q : RelV y u) : x = y := Option.some.inj (r.abs.symm.trans q.abs)
theorem Vals.inj : ∀ {xs ys : List V} {us : List Value}, Vals xs us → Vals ys us → xs = ys
  | _, _, _, .nil, .nil => rfl
  | _, _, _, .cons r t, .cons r' t' => by rw [r.inj r', Vals.inj t t']
section
variable {X : Cx} {pins : List (Addr × Obj)} {σ : St} {H : Hp} {s : Shared} {a : Addr} {xs ys : List V}
theorem SqL.of {K : PySem.W.Frag} (h : H a = some (.lst xs)) : SqL K H a xs := .inl (.inl h)
theorem SqT.of {K : PySem.W.Frag} (h : H a = some (.tup xs)) : SqT K H a xs := .inl (.inl h)
theorem Inv.list (I : Inv X pins σ H s) (h : SqL X.K H a xs) : ∃ its : List Value, Vals xs its ∧ PlainL s.heap a its.toArray ∧ xs.length ≤ sizeLine := by
  rcases h with h | ⟨o, its, n, hk, hc, hd, hs, hz, r⟩
  · obtain ⟨z, its, n, r, e⟩ := h.ok I.hok
    exact ⟨its, r, ⟨_, n, e, rfl, rfl, rfl⟩, z⟩
  · refine ⟨its.toList, r, ⟨o, n, I.kIn a o hk, hc, hd, by simpa using hs⟩, ?_⟩
    have e := r.length
    simp only [Array.length_toList] at e
    omega
theorem Inv.tuple (I : Inv X pins σ H s) (h : SqT X.K H a xs) : ∃ its : List Value, Vals xs its ∧ IsTup s.heap a its.toArray ∧ xs.length ≤ sizeLine := by
  rcases h with h | ⟨o, its, n, hk, hc, hs, hz, r⟩
  · obtain ⟨z, its, r, p⟩ := h.ok I.hok
    exact ⟨its, r, p, z⟩
  · refine ⟨its.toList, r, ⟨o, I.kIn a o hk, hc, n, by simpa using hs⟩, ?_⟩
    have e := r.length
    simp only [Array.length_toList] at e
    omega
theorem Inv.list_inj (I : Inv X pins σ H s) (h : SqL X.K H a xs) (h' : SqL X.K H a ys) : xs = ys := by
  obtain ⟨its, r, ⟨o, n, e, _, _, d⟩, _⟩ := I.list h
  obtain ⟨its', r', ⟨o', n', e', _, _, d'⟩, _⟩ := I.list h'
  rw [e] at e'; cases e'
  rw [d] at d'
  injection d' with d1 _
  have : its = its' := by simpa using congrArg Array.toList d1
  subst this
  exact r.inj r'
theorem Inv.tuple_inj (I : Inv X pins σ H s) (h : SqT X.K H a xs) (h' : SqT X.K H a ys) : xs = ys := by
  obtain ⟨its, r, ⟨o, e, _, n, d⟩, _⟩ := I.tuple h
  obtain ⟨its', r', ⟨o', e', _, n', d'⟩, _⟩ := I.tuple h'
  rw [e] at e'; cases e'
  rw [d] at d'
  injection d' with d1 _
  have : its = its' := by simpa using congrArg Array.toList d1
  subst this
  exact r.inj r'
end
abbrev Cx.wish (X : Cx) (E : Value → Shared → Prop) : Cx := { X with xe := E }
/-- no exception leaves -/
abbrev Cx.nox (X : Cx) : Cx := X.wish fun _ _ => False
theorem Cx.Ok.wish {X : Cx} (ok : X.Ok) (E : Value → Shared → Prop) : (X.wish E).Ok :=
  ⟨ok.mod, ok.kind, ok.glob, ok.blt, ok.above, ok.inj, ok.has, ok.cab, ok.hd, ok.frames, ok.stk, ok.exf, ok.bs, ok.bsz, ok.noex, ok.exfs, ok.funs, ok.frf⟩
theorem Cx.Ok.unwish {X : Cx} {E : Value → Shared → Prop} (ok : (X.wish E).Ok) : X.Ok :=
  ⟨ok.mod, ok.kind, ok.glob, ok.blt, ok.above, ok.inj, ok.has, ok.cab, ok.hd, ok.frames, ok.stk, ok.exf, ok.bs, ok.bsz, ok.noex, ok.exfs, ok.funs, ok.frf⟩
section
variable {X : Cx} {pins : List (Addr × Obj)} {σ : St} {H : Hp} {s : Shared} {E : Value → Shared → Prop}
theorem Inv.wish (I : Inv X pins σ H s) (E : Value → Shared → Prop) : Inv (X.wish E) pins σ H s := ⟨I.ok.wish E, I.os, I.bare, I.base, I.loc, I.cell, I.free, I.freeC, I.pin, I.hok, I.len⟩
theorem Inv.unwish (I : Inv (X.wish E) pins σ H s) : Inv X pins σ H s := ⟨I.ok.unwish, I.os, I.bare, I.base, I.loc, I.cell, I.free, I.freeC, I.pin, I.hok, I.len⟩
theorem SP.unwish {D : Ends} {f : Flow} {s' : Shared} (h : SP (X.wish E) pins D f s') : SP X pins D f s' := by
  cases f with
  | next => obtain ⟨σ', H', I, q⟩ := h; exact ⟨σ', H', I.unwish, q⟩
  | brk => obtain ⟨σ', H', I, q⟩ := h; exact ⟨σ', H', I.unwish, q⟩
  | cont => obtain ⟨σ', H', I, q⟩ := h; exact ⟨σ', H', I.unwish, q⟩
  | ret u => obtain ⟨v, σ', H', I, r, q⟩ := h; exact ⟨v, σ', H', I.unwish, r, q⟩
theorem PSs.nox {st : List Stmt} {t : TS} (h : PSs X.nox st t) : PSs X st t := fun pins s σ H D I hw =>
  wpAny_mono (h pins s σ H D (I.wish _) hw) (fun _ _ q => q.unwish) fun _ _ z => False.elim z
end
section
variable {X : Cx} {st : Stmt} {rest : List Stmt} {t u : TS} {e : Expr} {te : TE} {pos : Pos}
def tNext : TS := fun D σ H => D.nx σ H
def tSeq (t u : TS) : TS := fun D σ H => t { D with nx := u D } σ H
theorem pss_nil : PSs X [] tNext := fun _ _ σ H _ I h => wpAny_execs_nil ⟨σ, H, I, h⟩
theorem pss_cons (h1 : PS X st t) (h2 : PSs X rest u) : PSs X (st :: rest) (tSeq t u) := by
  intro pins s σ H D I h
  refine wpAny_execs_cons (thn (h1 pins s σ H { D with nx := u D } I h) fun f s1 q => ?_)
  cases f with
  | next =>
    obtain ⟨σ', H', I', q⟩ := q
    exact h2 pins s1 σ' H' D I' q
  | ret v => exact q
  | brk => exact q
  | cont => exact q
theorem pss_one (h1 : PS X st t) : PSs X [st] t := by
  intro pins s σ H D I h
  refine wpAny_execs_cons (thn (h1 pins s σ H D I h) fun f s1 q => ?_)
  cases f with
  | next => exact wpAny_execs_nil q
  | ret v => exact q
  | brk => exact q
  | cont => exact q
/-- in a def's body nothing is shown -/
theorem Inv.quiet {pins : List (Addr × Obj)} {σ : St} {H : Hp} {s : Shared} (I : Inv X pins σ H s) : interactive X.env = false := by simp [interactive, I.ok.kind]
/-- an expression whose value is dropped -/
def tDrop (te : TE) : TS := fun D σ H => te σ H fun _ H1 => D.nx σ H1
theorem ps_expr (he : PE X e te) (hs : swapsWith e none pos.line X.env = pure false := by rfl) : PS X (.Expr e pos) (tDrop te) := by
  intro pins s σ H D I h
  exact wpAny_Expr_any (thn (he pins s σ H _ I h) fun v s1 ⟨x, H1, I1, r1, q1⟩ => ⟨σ, H1, I1, q1⟩) I.quiet hs
def tRet (te : TE) : TS := fun D σ H => te σ H D.rt
theorem ps_ret (he : PE X e te) : PS X (.Return (some e) pos) (tRet te) := by
  intro pins s σ H D I h
  exact wpAny_Return_some (thn (he pins s σ H _ I h) fun v s1 ⟨x, H1, I1, r1, q1⟩ => ⟨x, σ, H1, I1, r1, q1⟩)
def tIfS (c : TT) (t u : TS) : TS := fun D σ H => c σ H fun b H1 => if b = true then t D σ H1 else u D σ H1
theorem ps_if {c : Expr} {a b : List Stmt} {tc : TT} (hc : PT X c tc) (ha : PSs X a t) (hb : PSs X b u) : PS X (.If c a b pos) (tIfS tc t u) := by
  intro pins s σ H D I h
  refine wpAny_If (thn (hc pins s σ H _ I h) fun d s1 ⟨H1, I1, q1⟩ => ?_)
  cases d with
  | true => exact ha pins s1 σ H1 D I1 q1
  | false => exact hb pins s1 σ H1 D I1 q1
end
abbrev TG := V → St → Hp → (St → Hp → Prop) → Prop
abbrev TGs := List V → St → Hp → (St → Hp → Prop) → Prop
def PG (X : Cx) (target : Expr) (t : TG) : Prop :=
  ∀ (pins : List (Addr × Obj)) (s : Shared) (σ : St) (H : Hp) (v : V) (u : Value) (Q : St → Hp → Prop), Inv X pins σ H s → RelV v u → t v σ H Q →
    wpAny (model X.prog X.w) X.A (assign target X.env u) (fun _ s' => ∃ σ' H', Inv X pins σ' H' s' ∧ Q σ' H') X.xe s
/-- several targets, one after another -/
def PGs (X : Cx) (ts : List Expr) (t : TGs) : Prop :=
  ∀ (pins : List (Addr × Obj)) (s : Shared) (σ : St) (H : Hp) (vs : List V) (us : List Value) (Q : St → Hp → Prop), Inv X pins σ H s → Vals vs us → t vs σ H Q →
    wpAny (model X.prog X.w) X.A (assignInOrder ((assignEach ts X.env).map (·.2)) us) (fun _ s' => ∃ σ' H', Inv X pins σ' H' s' ∧ Q σ' H') X.xe s
/-- a op= b, by values -/
abbrev TIp := V → V → Hp → VK → Prop
def PIp (X : Cx) (op : Operator) (t : TIp) : Prop :=
  ∀ (pins : List (Addr × Obj)) (s : Shared) (σ : St) (H : Hp) (x y : V) (v u : Value) (Q : VK), Inv X pins σ H s → RelV x v → RelV y u → t x y H Q →
    wpAny (model X.prog X.w) X.A (inplaceOp op v u) (EP X pins σ Q) X.xe s
section
variable {X : Cx} {pos : Pos}
def gName (i : Nat) : TG := fun v σ H Q => Q (σ.set i (some v)) H
theorem pg_name {i : Nat} {x : Str} (hN : X.N.Nodup) (hi : X.N[i]? = some x) (hx : Loc X.env.scope x) (hf : X.fn x = true ∨ X.env.scope.names.lookup x = some .local := by first | exact .inl rfl | exact .inr rfl | assumption) : PG X (.Name x pos) (gName i) := by
  intro pins s σ H v u Q I r h
  exact wpAny_assign_Name (store_ok I hN hi hx r (fun s' I' => ⟨_, H, I', h⟩) hf)
def gNil : TGs := fun vs σ H Q => vs = [] ∧ Q σ H
def gCons (t : TG) (u : TGs) : TGs := fun vs σ H Q => ∃ v r, vs = v :: r ∧ t v σ H fun σ' H' => u r σ' H' Q
theorem pgs_nil : PGs X [] gNil := by
  intro pins s σ H vs us Q I r h
  obtain ⟨e, h⟩ := h
  subst e
  cases r
  exact assignInOrder_nil ⟨σ, H, I, h⟩
theorem pgs_cons {e : Expr} {es : List Expr} {t : TG} {u : TGs} (h1 : PG X e t) (h2 : PGs X es u)
    (hs : (assignEach (e :: es) X.env).map (·.2) = assign e X.env :: (assignEach es X.env).map (·.2) := by rfl) : PGs X (e :: es) (gCons t u) := by
  intro pins s σ H vs us Q I r h
  obtain ⟨v, vr, e1, h⟩ := h
  subst e1
  cases r with
  | cons r rr =>
    rw [hs]
    refine assignInOrder_cons (thn (h1 pins s σ H _ _ _ I r h) fun _ s1 ⟨σ1, H1, I1, q1⟩ => ?_)
    exact h2 pins s1 σ1 H1 _ _ Q I1 rr q1
/-- (a, b, ..) = a tuple of that length -/
def gTup (K : PySem.W.Frag) (n : Nat) (t : TGs) : TG := fun v σ H Q => ∃ a xs, v = .ref a ∧ SqT K H a xs ∧ xs.length = n ∧ t xs σ H Q
theorem pg_tup {es : List Expr} {k : Nat} {t : TGs} {n : Nat} (hc : X.calm = true) (h : PGs X es t)
    (hn : (assignEach es X.env).length = n := by rfl) (hst : (assignEach es X.env).findIdx? (·.1) = none := by rfl) : PG X (.Tuple es k pos) (gTup X.K n t) := by
  intro pins s σ H v u Q I r hw
  obtain ⟨a, xs, e1, hq, hl, hw⟩ := hw
  subst e1
  cases r
  obtain ⟨its, rv, ht, hz⟩ := I.tuple hq
  refine assign_Tuple_tuple (I.ok.hd hc) ht (by simp [hn, ← hl, rv.length]) hst fun h' hx => ?_
  have I1 : Inv X pins σ H { s with heap := h' } := I.kept (t' := s.toks) fun b o e => hx b o (Nat.ne_of_lt (Heap.lt_size e)) e
  exact h pins _ σ H xs _ Q I1 (by simpa using rv) hw
/-- target = value -/
def tAsg (te : TE) (g : TG) : TS := fun D σ H => te σ H fun x H1 => g x σ H1 D.nx
/-- name = value -/
theorem ps_set {i : Nat} {x : Str} {e : Expr} {te : TE} {pos' : Pos} (hN : X.N.Nodup) (hi : X.N[i]? = some x) (hx : Loc X.env.scope x) (he : PE X e te) (hs : swapsWith e (some (.Name x pos')) pos.line X.env = pure false := by rfl) (hf : X.fn x = true ∨ X.env.scope.names.lookup x = some .local := by first | exact .inl rfl | exact .inr rfl | assumption) :
    PS X (.Assign [.Name x pos'] e pos) (tAsg te (gName i)) := by
  intro pins s σ H D I h
  refine wpAny_Assign_Name (thn (he pins s σ H _ I h) fun v s1 ⟨y, H1, I1, r1, q1⟩ => ?_) hs
  exact store_ok I1 hN hi hx r1 (fun s2 I2 => ⟨_, H1, I2, q1⟩) hf
/-- name op= e -/
def tAug (i : Nat) (te : TE) (ti : TIp) : TS := fun D σ H => ∃ x, σ[i]? = some (some x) ∧ te σ H fun y H1 => ti x y H1 fun z H2 => D.nx (σ.set i (some z)) H2
theorem ps_aug {i : Nat} {x : Str} {e : Expr} {te : TE} {op : Operator} {ti : TIp} {pos' : Pos} (hN : X.N.Nodup) (hi : X.N[i]? = some x) (hx : Loc X.env.scope x) (he : PE X e te) (ho : PIp X op ti) (hf : X.fn x = true ∨ X.env.scope.names.lookup x = some .local := by first | exact .inl rfl | exact .inr rfl | assumption) :
    PS X (.AugAssign (.Name x pos') op e pos) (tAug i te ti) := by
  intro pins s σ H D I h
  obtain ⟨v, e1, h⟩ := h
  obtain ⟨m, hn, hl⟩ := I.loc
  have vis : Vis X.env.scope x := by rcases hx with k | k; exact .inl k; exact .inr (.inl k)
  obtain ⟨u, r, l⟩ := hl i x v hi e1 vis
  refine wpAny_AugAssign_Name ?_
  have go : wpAny (model X.prog X.w) X.A (eval e X.env) (fun w s₂ => wpAny (model X.prog X.w) X.A (inplaceOp op u w) (fun r s₃ => wpAny (model X.prog X.w) X.A (storeName X.env x r) (fun _ => SP X pins D .next) X.xe s₃) X.xe s₂) X.xe s := by
    refine thn (he pins s σ H _ I h) fun w s1 ⟨y, H1, I1, r1, q1⟩ => ?_
    refine thn (ho pins s1 σ H1 v y u w _ I1 r r1 q1) fun z s2 ⟨zv, H2, I2, r2, q2⟩ => ?_
    exact store_ok I2 hN hi hx r2 (fun s3 I3 => ⟨_, H2, I3, q2⟩) hf
  rcases l with ⟨hk, hm⟩ | ⟨hk, c, hc, hcell⟩
  · exact wpAny_loadName_local I.ok.kind hk hn hm go
  · rcases hk with hk | hk
    · exact wpAny_loadName_cell I.ok.kind hk hc hcell go
    · rcases hx with k | k
      · have : X.env.scope.names.lookup x = some .free := hk
        rw [k] at this; cases this
      · have : X.env.scope.names.lookup x = some .free := hk
        rw [k] at this; cases this
/-- ints -/
def ipI (f : Int → Int → Int) : TIp := fun x y H Q => ∃ i j, x = .int i ∧ y = .int j ∧ Q (.int (f i j)) H
theorem ip_add : PIp X .Add (ipI fun i j => i + j) := by
  intro pins s σ H x y v u Q I r1 r2 h
  obtain ⟨i, j, e1, e2, q⟩ := h
  subst e1; subst e2
  obtain ⟨t, rfl⟩ := r1
  obtain ⟨t', rfl⟩ := r2
  exact iadd_int ⟨.int _, H, I.tok _, ⟨_, rfl⟩, q⟩
end
section
variable {X : Cx} {pos : Pos}
/-- the invariant W with its measure -/
def tWhile (c : TT) (tb : TS) : TS := fun D σ H => ∃ W : Nat → St → Hp → Prop, (∃ m, W m σ H) ∧ ∀ m σ H, W m σ H →
  c σ H fun b H1 => if b = true then ∃ N : St → Hp → Prop, (∀ σ' H', N σ' H' → ∃ m', m' < m ∧ W m' σ' H') ∧ tb { D with nx := N, ct := N, bk := D.nx } σ H1 else D.nx σ H1
theorem ps_while {c : Expr} {body : List Stmt} {tc : TT} {tb : TS} (hp : PassesOwn (model X.prog X.w) X.A X.env X.xe) (hc : PT X c tc) (hb : PSs X body tb) : PS X (.While c body [] pos) (tWhile tc tb) := by
  intro pins s σ H D I h
  obtain ⟨W, ⟨m0, w0⟩, turn⟩ := h
  refine wpAny_While (codeAny_whileLoop (fun n s' => ∃ σ' H', Inv X pins σ' H' s' ∧ W n σ' H') ?_ m0 ⟨σ, H, I, w0⟩)
  rintro n s1 ⟨σ1, H1, I1, w1⟩
  refine wpAny_passesOwn hp (thn (hc pins s1 σ1 H1 _ I1 (turn n σ1 H1 w1)) fun b s2 ⟨H2, I2, q2⟩ => ?_)
  cases b with
  | true =>
    obtain ⟨N, hN, q2⟩ := q2
    rw [if_pos rfl]
    refine wpAny_passesOwn hp (thn (hb pins s2 σ1 H2 _ I2 q2) fun f s3 q3 => ?_)
    cases f with
    | next =>
      obtain ⟨σ3, H3, I3, n3⟩ := q3
      obtain ⟨m', hm, w3⟩ := hN σ3 H3 n3
      exact ⟨m', hm, σ3, H3, I3, w3⟩
    | cont =>
      obtain ⟨σ3, H3, I3, n3⟩ := q3
      obtain ⟨m', hm, w3⟩ := hN σ3 H3 n3
      exact ⟨m', hm, σ3, H3, I3, w3⟩
    | brk => exact q3
    | ret v => exact q3
  | false =>
    rw [if_neg Bool.false_ne_true]
    exact wpAny_execs_nil ⟨σ1, H2, I2, q2⟩
end
/-- at turn i: it yields x (the heap may grow), or it stops -/
structure It where
  go : Nat → Hp → Prop
  yld : Nat → Hp → V → Hp → Prop
  stop : Nat → Hp → Prop
/-- the iterator's own objects may turn: they are not the frame's, not pinned, younger than the entry (or a comprehension's own) -/
def FpOk (X : Cx) (pins : List (Addr × Obj)) (H : Hp) (b : Addr) : Prop :=
  H b = none ∧ b ≠ X.env.locals ∧ b ∉ X.fs ∧ (b ∈ X.ex ∨ X.s_0.heap.objs.size ≤ b) ∧ (∀ x c, X.env.cells.lookup x = some c → c ≠ b) ∧ ∀ p ∈ X.pn ++ pins, p.1 ≠ b
theorem Inv.fpOk {X : Cx} {pins : List (Addr × Obj)} {σ : St} {H H' : Hp} {s : Shared} {b : Addr} (I : Inv X pins σ H s) (hb : s.heap.objs.size ≤ b) (hn : H' b = none) : FpOk X pins H' b := by
  refine ⟨hn, Nat.ne_of_gt (Nat.lt_of_lt_of_le I.lt hb), I.nofs hb, .inr (Nat.le_trans I.sz hb), fun x c e z => ?_, fun p hp z => ?_⟩
  · obtain ⟨v, q⟩ := I.cell x c e
    exact absurd (Nat.lt_of_lt_of_le q.lt (by rw [z]; exact hb)) (Nat.lt_irrefl _)
  · exact absurd (Nat.lt_of_lt_of_le (Heap.lt_size (I.pin p hp).1) (by rw [z]; exact hb)) (Nat.lt_irrefl _)
structure Turn (P : Program) (w : World) (K : PySem.W.Frag) (tg : Expr) (J : It) (fp : List Addr) (it : Addr) (tn : Nat → Heap → Prop) : Prop where
  mem : it ∈ fp
  obj : ∀ i h, tn i h → ∀ b ∈ fp, ∃ o, h.get? b = some o ∧ ∀ v, o.data ≠ .cell v
  keep : ∀ i h h', tn i h → (∀ b ∈ fp, ∀ o, h.get? b = some o → h'.get? b = some o) → tn i h'
  item : ∀ (X : Cx), X.prog = P → X.w = w → X.K = K → X.calm = true → ∀ (i : Nat) (pins : List (Addr × Obj)) (s : Shared) (σ : St) (H : Hp) (E : Value → Shared → Prop), Inv X pins σ H s → (∀ b ∈ fp, FpOk X pins H b) → tn i s.heap → J.go i H →
    wpAny (model P w) X.A (pyNext (.ref it)) (fun r s1 => ∃ u, r = some u ∧
      wpAny (model P w) X.A (letOwnedTupleGo tg (.ref it) u) (fun _ s2 => ∃ x H', Inv X pins σ H' s2 ∧ RelV x u ∧ J.yld i H x H' ∧ tn (i + 1) s2.heap ∧ ∀ b ∈ fp, H' b = none) E s1) E s
  done : ∀ (X : Cx), X.prog = P → X.w = w → X.K = K → X.calm = true → ∀ (i : Nat) (pins : List (Addr × Obj)) (s : Shared) (σ : St) (H : Hp) (E : Value → Shared → Prop), Inv X pins σ H s → (∀ b ∈ fp, FpOk X pins H b) → tn i s.heap → J.stop i H →
    wpAny (model P w) X.A (pyNext (.ref it)) (fun r s1 => r = none ∧ Inv X pins σ H s1) E s
  self : ∀ (A : Around) (i : Nat) (s : Shared) (Q : Value → Shared → Prop) (E : Value → Shared → Prop), tn i s.heap → Q (.ref it) s → wpAny (model P w) A (pyIter (.ref it)) Q E s
abbrev TI := St → Hp → (It → Hp → Prop) → Prop
/-- an iterator has come -/
def PIE (X : Cx) (pins : List (Addr × Obj)) (σ : St) (tg : Expr) (R : It → Hp → Prop) (itv : Value) (s2 : Shared) : Prop :=
  ∃ (it : Addr) (fp : List Addr) (tn : Nat → Heap → Prop) (J : It) (H' : Hp), itv = .ref it ∧ Inv X pins σ H' s2 ∧ Turn X.prog X.w X.K tg J fp it tn ∧ tn 0 s2.heap ∧ (∀ b ∈ fp, FpOk X pins H' b) ∧ R J H'
def PI (X : Cx) (tg iter : Expr) (wi : TI) : Prop :=
  ∀ (pins : List (Addr × Obj)) (s : Shared) (σ : St) (H : Hp) (R : It → Hp → Prop), Inv X pins σ H s → wi σ H R →
    wpAny (model X.prog X.w) X.A (eval iter X.env) (fun v s1 => wpAny (model X.prog X.w) X.A (pyIter v) (PIE X pins σ tg R) X.xe s1) X.xe s
/-- the step ahead of the store is nothing for an iterator that keeps no tuple -/
theorem go_of {M : Model} {A : Around} {E : Value → Shared → Prop} {s : Shared} {tg : Expr} {it : Addr} {u : Value} {o : Obj} {n : String} {vs : Array Value} {Q : Unit → Shared → Prop} (ho : s.heap.get? it = some o) (hc : o.cls = .type n) (hd : o.data = .fields vs)
    (hn : ["enumerate", "zip", "dict_itemiterator", "dict_reverseitemiterator", "odict_iterator", "itertools.zip_longest", "itertools.pairwise"].contains n = false) (hQ : Q () s) : wpAny M A (letOwnedTupleGo tg (.ref it) u) Q E s := by
  unfold letOwnedTupleGo
  cases tg <;> first
    | exact wpAny_pure hQ
    | (cases u <;> first
        | exact wpAny_pure hQ
        | (refine wpAny_bind (wpAny_load ho ?_)
           rw [hc, hd]
           show wpAny M A (if (["enumerate", "zip", "dict_itemiterator", "dict_reverseitemiterator", "odict_iterator", "itertools.zip_longest", "itertools.pairwise"].contains n && vs[0]? == some (rawInt _)) = true then _ else _) Q E s
           rw [if_neg (by intro h; rw [hn, Bool.false_and] at h; cases h)]
           exact wpAny_pure hQ))
/-- the list at a, as it stands at each turn (a loop may append to it) -/
def Itl (K : PySem.W.Frag) (a : Addr) : It :=
  ⟨fun i H => ∃ xs x, SqL K H a xs ∧ xs[i]? = some x, fun i H x H' => H' = H ∧ ∀ xs, SqL K H a xs → xs[i]? = some x, fun i H => ∃ xs, SqL K H a xs ∧ xs.length ≤ i⟩
def Itt (K : PySem.W.Frag) (a : Addr) : It :=
  ⟨fun i H => ∃ xs x, SqT K H a xs ∧ xs[i]? = some x, fun i H x H' => H' = H ∧ ∀ xs, SqT K H a xs → xs[i]? = some x, fun i H => ∃ xs, SqT K H a xs ∧ xs.length ≤ i⟩
theorem turn_list {P : Program} {w : World} {K : PySem.W.Frag} {tg : Expr} (a it : Addr) : Turn P w K tg (Itl K a) [it] it (fun i h => h.IsListIter it a i) where
  mem := by simp
  obj := fun i h st b hb => by
    have e : b = it := by simpa using hb
    subst e
    obtain ⟨o, e, c, d⟩ := st
    exact ⟨o, e, fun v z => by rw [d] at z; cases z⟩
  keep := fun i h h' st k => st.at fun o e => k it (by simp) o e
  item := by
    intro X hP hw hK hc i pins s σ H E I hf st hg
    subst hP hw hK
    obtain ⟨xs, x, hq, hx⟩ := hg
    obtain ⟨its, rv, p, hz⟩ := I.list hq
    obtain ⟨u, hu, ru⟩ := rv.get hx
    obtain ⟨f0, f1, f2, f3, f4, f5⟩ := hf it (by simp)
    refine wpAny_pyNext_list_item st p.isList (x := u) (by simpa using hu) fun h' st' sb => ?_
    have I1 : Inv X pins σ H { s with heap := h' } := I.turned (t' := s.toks) (fun b o hb e => (sb.2 b hb).trans e) f0 f1 f3 f4 f5
    obtain ⟨o, e, c, d⟩ := id st'
    exact ⟨u, rfl, go_of (s := { s with heap := h' }) e c d (by decide) ⟨x, H, I1, ru, ⟨rfl, fun ys hy => by rw [I.list_inj hy hq]; exact hx⟩, st', fun b hb => (hf b hb).1⟩⟩
  done := by
    intro X hP hw hK hc i pins s σ H E I hf st hg
    subst hP hw hK
    obtain ⟨xs, hq, hx⟩ := hg
    obtain ⟨its, rv, p, hz⟩ := I.list hq
    obtain ⟨f0, f1, f2, f3, f4, f5⟩ := hf it (by simp)
    have hl := rv.length
    exact wpAny_pyNext_list_end (I.ok.hd hc) st p.isList (by simp; omega) fun h' eb => ⟨rfl, I.turned (t' := s.toks) (fun b o hb e => eb b o hb e) f0 f1 f3 f4 f5⟩
  self := fun _ _ _ _ _ st h => wpAny_pyIter_listiter st h
theorem turn_tuple {P : Program} {w : World} {K : PySem.W.Frag} {tg : Expr} (a it : Addr) : Turn P w K tg (Itt K a) [it] it (fun i h => h.IsTupleIter it a i) where
  mem := by simp
  obj := fun i h st b hb => by
    have e : b = it := by simpa using hb
    subst e
    obtain ⟨o, e, c, d⟩ := st
    exact ⟨o, e, fun v z => by rw [d] at z; cases z⟩
  keep := fun i h h' st k => st.at fun o e => k it (by simp) o e
  item := by
    intro X hP hw hK hc i pins s σ H E I hf st hg
    subst hP hw hK
    obtain ⟨xs, x, hq, hx⟩ := hg
    obtain ⟨its, rv, p, hz⟩ := I.tuple hq
    obtain ⟨u, hu, ru⟩ := rv.get hx
    obtain ⟨f0, f1, f2, f3, f4, f5⟩ := hf it (by simp)
    refine wpAny_pyNext_tuple_item st (show s.heap.IsTuple a its.toArray from p) (x := u) (by simpa using hu) fun h' st' sb => ?_
    have I1 : Inv X pins σ H { s with heap := h' } := I.turned (t' := s.toks) (fun b o hb e => (sb.2 b hb).trans e) f0 f1 f3 f4 f5
    obtain ⟨o, e, c, d⟩ := id st'
    exact ⟨u, rfl, go_of (s := { s with heap := h' }) e c d (by decide) ⟨x, H, I1, ru, ⟨rfl, fun ys hy => by rw [I.tuple_inj hy hq]; exact hx⟩, st', fun b hb => (hf b hb).1⟩⟩
  done := by
    intro X hP hw hK hc i pins s σ H E I hf st hg
    subst hP hw hK
    obtain ⟨xs, hq, hx⟩ := hg
    obtain ⟨its, rv, p, hz⟩ := I.tuple hq
    obtain ⟨f0, f1, f2, f3, f4, f5⟩ := hf it (by simp)
    have hl := rv.length
    exact wpAny_pyNext_tuple_end (I.ok.hd hc) st (show s.heap.IsTuple a its.toArray from p) (by simp; omega) fun h' eb => ⟨rfl, I.turned (t' := s.toks) (fun b o hb e => eb b o hb e) f0 f1 f3 f4 f5⟩
  self := fun _ _ _ _ _ st h => wpAny_pyIter_tupleiter st h
end L2
namespace L2
open PySem PySem.Spec PyProof.Rows
section
variable {X : Cx} {tg : Expr}
def iList (K : PySem.W.Frag) (tl : TE) : TI := fun σ H R => tl σ H fun x H1 => ∃ a, x = .ref a ∧ (∃ xs, SqL K H1 a xs) ∧ R (Itl K a) H1
def iTup (K : PySem.W.Frag) (tl : TE) : TI := fun σ H R => tl σ H fun x H1 => ∃ a, x = .ref a ∧ (∃ xs, SqT K H1 a xs) ∧ R (Itt K a) H1
theorem pi_list {l : Expr} {tl : TE} (hl : PE X l tl) : PI X tg l (iList X.K tl) := by
  intro pins s σ H R I h
  refine thn (hl pins s σ H _ I h) fun v s1 ⟨x, H1, I1, r1, q1⟩ => ?_
  obtain ⟨a, e, ⟨xs, hq⟩, q⟩ := q1
  subst e
  cases r1
  obtain ⟨its, rv, p, hz⟩ := I1.list hq
  refine wpAny_pyIter_list p.isList ?_
  refine ⟨s1.heap.objs.size, [s1.heap.objs.size], _, _, H1, rfl, I1.kept (t' := s1.toks) fun b o e => Heap.get?_push_of_some _ e, turn_list a _, ⟨_, Heap.get?_push_size _ rfl, rfl, rfl⟩, fun b hb => ?_, q⟩
  have e : b = s1.heap.objs.size := by simpa using hb
  subst e
  exact I1.fpOk (Nat.le_refl _) (I1.hok.fresh (Nat.le_refl _))
theorem pi_tup {l : Expr} {tl : TE} (hl : PE X l tl) : PI X tg l (iTup X.K tl) := by
  intro pins s σ H R I h
  refine thn (hl pins s σ H _ I h) fun v s1 ⟨x, H1, I1, r1, q1⟩ => ?_
  obtain ⟨a, e, ⟨xs, hq⟩, q⟩ := q1
  subst e
  cases r1
  obtain ⟨its, rv, p, hz⟩ := I1.tuple hq
  refine wpAny_pyIter_tuple (show s1.heap.IsTuple a its.toArray from p) ?_
  refine ⟨s1.heap.objs.size, [s1.heap.objs.size], _, _, H1, rfl, I1.kept (t' := s1.toks) fun b o e => Heap.get?_push_of_some _ e, turn_tuple a _, ⟨_, Heap.get?_push_size _ rfl, rfl, rfl⟩, fun b hb => ?_, q⟩
  have e : b = s1.heap.objs.size := by simpa using hb
  subst e
  exact I1.fpOk (Nat.le_refl _) (I1.hok.fresh (Nat.le_refl _))
/-- W: the invariant by the turn and a measure; N: what the body is to reach -/
def tFor (wi : TI) (g : TG) (tb : TS) : TS := fun D σ H => wi σ H fun J H1 => ∃ W : Nat → Nat → St → Hp → Prop, (∃ m, W 0 m σ H1) ∧ ∀ i m σ H, W i m σ H →
  (J.stop i H ∧ D.nx σ H) ∨ (J.go i H ∧ ∃ N : St → Hp → Prop, (∀ σ' H', N σ' H' → ∃ m', m' < m ∧ W (i + 1) m' σ' H') ∧ ∀ x H', J.yld i H x H' → g x σ H' fun σ2 H2 => tb { D with nx := N, ct := N, bk := D.nx } σ2 H2)
/-- the records at fp as they stand -/
def pinsAt (fp : List Addr) (h : Heap) : List (Addr × Obj) := fp.filterMap fun b => (h.get? b).map fun o => (b, o)
theorem mem_pinsAt {fp : List Addr} {h : Heap} {b : Addr} {o : Obj} (hb : b ∈ fp) (e : h.get? b = some o) : (b, o) ∈ pinsAt fp h := List.mem_filterMap.mpr ⟨b, hb, by rw [e]; rfl⟩
theorem of_pinsAt {fp : List Addr} {h : Heap} {p : Addr × Obj} (hp : p ∈ pinsAt fp h) : p.1 ∈ fp ∧ h.get? p.1 = some p.2 := by
  obtain ⟨b, hb, e⟩ := List.mem_filterMap.mp hp
  cases q : h.get? b with
  | none => rw [q] at e; cases e
  | some o =>
    rw [q] at e
    have e' : (b, o) = p := Option.some.inj e
    subst e'
    exact ⟨hb, q⟩
theorem Inv.pinned {pins : List (Addr × Obj)} {σ : St} {H : Hp} {s : Shared} {fp : List Addr} (I : Inv X pins σ H s) (hf : ∀ b ∈ fp, FpOk X pins H b) (ho : ∀ b ∈ fp, ∃ o, s.heap.get? b = some o ∧ ∀ v, o.data ≠ .cell v) : Inv X (pins ++ pinsAt fp s.heap) σ H s :=
  I.pins_of fun p hp => (List.mem_append.mp hp).elim (fun z => I.pin p (List.mem_append_right _ z)) fun z => by
    obtain ⟨hb, e⟩ := of_pinsAt z
    obtain ⟨f0, f1, f2, _⟩ := hf p.1 hb
    obtain ⟨o, e', d⟩ := ho p.1 hb
    rw [e] at e'; cases e'
    exact ⟨e, f0, f1, f2, d⟩
theorem Inv.unpinned {pins pl : List (Addr × Obj)} {σ : St} {H : Hp} {s : Shared} (I : Inv X (pins ++ pl) σ H s) : Inv X pins σ H s := I.pins_of fun p hp => I.pin p (List.mem_append_right _ (List.mem_append_left _ hp))
theorem ps_for {iter : Expr} {body : List Stmt} {wi : TI} {g : TG} {tb : TS} {pos : Pos} (hp : PassesOwn (model X.prog X.w) X.A X.env X.xe) (hc : X.calm = true) (hi : PI X tg iter wi) (hg : PG X tg g) (hb : PSs X body tb)
    (hs : ∀ x, foldedSetIterable iter X.env x = pure x := by intro _; rfl) : PS X (.For tg iter body [] pos) (tFor wi g tb) := by
  intro pins s σ H D I h
  refine wpAny_For (thn (hi pins s σ H _ I h) fun v s1 h1 => thn h1 fun itv s2 h2 => ?_) hs
  obtain ⟨it, fp, tn, J, H2, e, I2, T, st2, f2, W, ⟨m0, w0⟩, turn⟩ := h2
  subst e
  -- what stays true of the iterator's objects through the loop
  have stat : ∀ {H' : Hp}, (∀ b ∈ fp, H' b = none) → ∀ b ∈ fp, FpOk X pins H' b := fun hn b hb => ⟨hn b hb, (f2 b hb).2⟩
  refine codeAny_forLoop_any (fun n s' => ∃ i σ' H', Inv X pins σ' H' s' ∧ tn i s'.heap ∧ (∀ b ∈ fp, H' b = none) ∧ W i n σ' H') ?_ m0 ⟨0, σ, H2, I2, st2, fun b hb => (f2 b hb).1, w0⟩
  rintro n s3 ⟨i, σ3, H3, I3, st3, fr3, w3⟩
  rcases turn i n σ3 H3 w3 with ⟨stop, qn⟩ | ⟨go, N, hN, step⟩
  · refine wpAny_passesOwn hp (thn (T.done X rfl rfl rfl hc i pins s3 σ3 H3 X.xe I3 (stat fr3) st3 stop) fun r s4 ⟨hr, I4⟩ => ?_)
    subst hr
    exact wpAny_execs_nil ⟨σ3, H3, I4, qn⟩
  · refine wpAny_passesOwn hp (thn (T.item X rfl rfl rfl hc i pins s3 σ3 H3 X.xe I3 (stat fr3) st3 go) fun r s4 ⟨u, hr, h4⟩ => ?_)
    subst hr
    refine wpAny_passesOwn hp (thn h4 fun _ s5 ⟨x, H5, I5, r5, y5, st5, fr5⟩ => ?_)
    have I5' := I5.pinned (stat fr5) (T.obj _ _ st5)
    refine wpAny_passesOwn hp (thn (hg _ s5 σ3 H5 x u _ I5' r5 (step x H5 y5)) fun _ s6 ⟨σ6, H6, I6, q6⟩ => ?_)
    refine wpAny_passesOwn hp (thn (hb _ s6 σ6 H6 _ I6 q6) fun f s7 q7 => ?_)
    have again : ∀ {σ7 : St} {H7 : Hp}, Inv X (pins ++ pinsAt fp s5.heap) σ7 H7 s7 → N σ7 H7 → ∃ m, m < n ∧ ∃ i σ' H', Inv X pins σ' H' s7 ∧ tn i s7.heap ∧ (∀ b ∈ fp, H' b = none) ∧ W i m σ' H' := fun {σ7 H7} I7 n7 => by
      obtain ⟨m', hm, w7⟩ := hN σ7 H7 n7
      refine ⟨m', hm, i + 1, σ7, H7, I7.unpinned, T.keep _ _ _ st5 fun b hb o e => (I7.pin (b, o) (List.mem_append_right _ (List.mem_append_right _ (mem_pinsAt hb e)))).1, fun b hb => ?_, w7⟩
      obtain ⟨o, e, d⟩ := T.obj _ _ st5 b hb
      exact (I7.pin (b, o) (List.mem_append_right _ (List.mem_append_right _ (mem_pinsAt hb e)))).2.1
    cases f with
    | next => obtain ⟨σ7, H7, I7, n7⟩ := q7; exact again I7 n7
    | cont => obtain ⟨σ7, H7, I7, n7⟩ := q7; exact again I7 n7
    | brk => obtain ⟨σ7, H7, I7, q7⟩ := q7; exact ⟨σ7, H7, I7.unpinned, q7⟩
    | ret v => obtain ⟨x7, σ7, H7, I7, r7, q7⟩ := q7; exact ⟨x7, σ7, H7, I7.unpinned, r7, q7⟩
end
/-- over a list that the body leaves as it is -/
theorem for_list {K : PySem.W.Frag} {a : Addr} {xs : List V} {g : TG} {tb : TS} {D : Ends} {σ : St} {H : Hp} (Pv : Nat → St → Hp → Prop) (h0 : Pv 0 σ H) (hl : ∀ i σ H, i ≤ xs.length → Pv i σ H → SqL K H a xs)
    (hs : ∀ i x σ H, xs[i]? = some x → Pv i σ H → g x σ H fun σ2 H2 => tb { D with nx := Pv (i + 1), ct := Pv (i + 1), bk := D.nx } σ2 H2) (hd : ∀ σ H, Pv xs.length σ H → D.nx σ H) :
    ∃ W : Nat → Nat → St → Hp → Prop, (∃ m, W 0 m σ H) ∧ ∀ i m σ H, W i m σ H →
      ((Itl K a).stop i H ∧ D.nx σ H) ∨ ((Itl K a).go i H ∧ ∃ N : St → Hp → Prop, (∀ σ' H', N σ' H' → ∃ m', m' < m ∧ W (i + 1) m' σ' H') ∧ ∀ x H', (Itl K a).yld i H x H' → g x σ H' fun σ2 H2 => tb { D with nx := N, ct := N, bk := D.nx } σ2 H2) := by
  refine ⟨fun i m σ H => m = xs.length - i ∧ i ≤ xs.length ∧ Pv i σ H, ⟨xs.length, by simp, Nat.zero_le _, h0⟩, ?_⟩
  rintro i m σ H ⟨rfl, hi, p⟩
  have q := hl i σ H hi p
  by_cases hlt : i < xs.length
  · refine .inr ⟨⟨xs, xs[i], q, by simp [hlt]⟩, Pv (i + 1), fun σ' H' p' => ⟨xs.length - (i + 1), by omega, rfl, hlt, p'⟩, fun x H' y => ?_⟩
    obtain ⟨e, y⟩ := y
    subst e
    exact hs i x σ _ (y xs q) p
  · have e : i = xs.length := by omega
    subst e
    exact .inl ⟨⟨xs, q, Nat.le_refl _⟩, hd σ H p⟩
theorem for_tup {K : PySem.W.Frag} {a : Addr} {xs : List V} {g : TG} {tb : TS} {D : Ends} {σ : St} {H : Hp} (Pv : Nat → St → Hp → Prop) (h0 : Pv 0 σ H) (hl : ∀ i σ H, i ≤ xs.length → Pv i σ H → SqT K H a xs)
    (hs : ∀ i x σ H, xs[i]? = some x → Pv i σ H → g x σ H fun σ2 H2 => tb { D with nx := Pv (i + 1), ct := Pv (i + 1), bk := D.nx } σ2 H2) (hd : ∀ σ H, Pv xs.length σ H → D.nx σ H) :
    ∃ W : Nat → Nat → St → Hp → Prop, (∃ m, W 0 m σ H) ∧ ∀ i m σ H, W i m σ H →
      ((Itt K a).stop i H ∧ D.nx σ H) ∨ ((Itt K a).go i H ∧ ∃ N : St → Hp → Prop, (∀ σ' H', N σ' H' → ∃ m', m' < m ∧ W (i + 1) m' σ' H') ∧ ∀ x H', (Itt K a).yld i H x H' → g x σ H' fun σ2 H2 => tb { D with nx := N, ct := N, bk := D.nx } σ2 H2) := by
  refine ⟨fun i m σ H => m = xs.length - i ∧ i ≤ xs.length ∧ Pv i σ H, ⟨xs.length, by simp, Nat.zero_le _, h0⟩, ?_⟩
  rintro i m σ H ⟨rfl, hi, p⟩
  have q := hl i σ H hi p
  by_cases hlt : i < xs.length
  · refine .inr ⟨⟨xs, xs[i], q, by simp [hlt]⟩, Pv (i + 1), fun σ' H' p' => ⟨xs.length - (i + 1), by omega, rfl, hlt, p'⟩, fun x H' y => ?_⟩
    obtain ⟨e, y⟩ := y
    subst e
    exact hs i x σ _ (y xs q) p
  · have e : i = xs.length := by omega
    subst e
    exact .inl ⟨⟨xs, q, Nat.le_refl _⟩, hd σ H p⟩
end L2
namespace L2
open PySem PySem.Spec PyProof.Rows
abbrev R2 := V → V → Hp → VK → Prop
/-- a two-place operation on values: f is binaryOp op, inplaceOp op or compareOp op -/
def OpR (X : Cx) (f : Value → Value → Sem Value) (r : R2) : Prop :=
  ∀ (pins : List (Addr × Obj)) (s : Shared) (σ : St) (H : Hp) (x y : V) (v u : Value) (Q : VK), Inv X pins σ H s → RelV x v → RelV y u → r x y H Q →
    wpAny (model X.prog X.w) X.A (f v u) (EP X pins σ Q) X.xe s
/-- a call of a value that is known (a builtin, a type) with values -/
def CallR (X : Cx) (f : Value) (r : List V → Hp → VK → Prop) : Prop :=
  ∀ (pins : List (Addr × Obj)) (s : Shared) (σ : St) (H : Hp) (xs : List V) (us : List Value) (Q : VK), Inv X pins σ H s → Vals xs us → r xs H Q →
    wpAny (model X.prog X.w) X.A (call f us) (EP X pins σ Q) X.xe s
def tOp (r : R2) (ta tb : TE) : TE := fun σ H Q => ta σ H fun x H1 => tb σ H1 fun y H2 => r x y H2 Q
/-- ints in, under C, and a value out -/
def rI (C : Int → Int → Prop) (g : Int → Int → V) : R2 := fun x y H Q => ∃ i j, x = .int i ∧ y = .int j ∧ C i j ∧ Q (g i j) H
def rI0 (g : Int → Int → V) : R2 := fun x y H Q => ∃ i j, x = .int i ∧ y = .int j ∧ Q (g i j) H
section
variable {X : Cx} {a b c : Expr} {ta tb tc : TE} {pos : Pos}
theorem binT (ha : PE X a ta) (hb : PE X b tb) {pins : List (Addr × Obj)} {s : Shared} {σ : St} {H : Hp} {R : V → V → Hp → Prop} (I : Inv X pins σ H s)
    (h : ta σ H fun x H1 => tb σ H1 fun y H2 => R x y H2) {Q : Value → Shared → Prop} {f : Value → Value → Sem Value}
    (hf : ∀ v u s2 x y H2, Inv X pins σ H2 s2 → RelV x v → RelV y u → R x y H2 → wpAny (model X.prog X.w) X.A (f v u) Q X.xe s2) :
    wpAny (model X.prog X.w) X.A (eval a X.env) (fun v s₁ => wpAny (model X.prog X.w) X.A (eval b X.env) (fun u s₂ => wpAny (model X.prog X.w) X.A (f v u) Q X.xe s₂) X.xe s₁) X.xe s := by
  refine thn (ha pins s σ H _ I h) fun v s1 ⟨x, H1, I1, r1, q1⟩ => ?_
  refine thn (hb pins s1 σ H1 _ I1 q1) fun u s2 ⟨y, H2, I2, r2, q2⟩ => ?_
  exact hf v u s2 x y H2 I2 r1 r2 q2
theorem pe_op {op : Operator} {r : R2} (ho : OpR X (binaryOp op) r) (ha : PE X a ta) (hb : PE X b tb) : PE X (.BinOp a op b pos) (tOp r ta tb) := by
  intro pins s σ H Q I h
  exact wpAny_BinOp (binT ha hb I h fun v u s2 x y H2 I2 rx ry q => ho pins s2 σ H2 x y v u Q I2 rx ry q)
theorem opI {f : Value → Value → Sem Value} {C : Int → Int → Prop} {g : Int → Int → Int}
    (rule : ∀ (i j : Int) (t u : Tok) (s : Shared) (Q : Value → Shared → Prop) (E : Value → Shared → Prop), C i j → Q (.int (g i j) s.toks) { s with toks := s.toks + 1 } → wpAny (model X.prog X.w) X.A (f (.int i t) (.int j u)) Q E s) :
    OpR X f (rI C fun i j => .int (g i j)) := by
  intro pins s σ H x y v u Q I rx ry h
  obtain ⟨i, j, rfl, rfl, hc, q⟩ := h
  obtain ⟨t, rfl⟩ := rx
  obtain ⟨t', rfl⟩ := ry
  exact rule i j t t' s _ _ hc ⟨.int (g i j), H, I.tok _, ⟨_, rfl⟩, q⟩
theorem opI0 {f : Value → Value → Sem Value} {g : Int → Int → Int}
    (rule : ∀ (i j : Int) (t u : Tok) (s : Shared) (Q : Value → Shared → Prop) (E : Value → Shared → Prop), Q (.int (g i j) s.toks) { s with toks := s.toks + 1 } → wpAny (model X.prog X.w) X.A (f (.int i t) (.int j u)) Q E s) :
    OpR X f (rI0 fun i j => .int (g i j)) := by
  intro pins s σ H x y v u Q I rx ry h
  obtain ⟨i, j, rfl, rfl, q⟩ := h
  obtain ⟨t, rfl⟩ := rx
  obtain ⟨t', rfl⟩ := ry
  exact rule i j t t' s _ _ ⟨.int (g i j), H, I.tok _, ⟨_, rfl⟩, q⟩
theorem opB0 {f : Value → Value → Sem Value} {g : Int → Int → Bool}
    (rule : ∀ (i j : Int) (t u : Tok) (s : Shared) (Q : Value → Shared → Prop) (E : Value → Shared → Prop), Q (.bool (g i j)) s → wpAny (model X.prog X.w) X.A (f (.int i t) (.int j u)) Q E s) :
    OpR X f (rI0 fun i j => .bl (g i j)) := by
  intro pins s σ H x y v u Q I rx ry h
  obtain ⟨i, j, rfl, rfl, q⟩ := h
  obtain ⟨t, rfl⟩ := rx
  obtain ⟨t', rfl⟩ := ry
  exact rule i j t t' s _ _ ⟨.bl (g i j), H, I, rfl, q⟩
def CPow (i j : Int) : Prop := 0 ≤ j ∧ j ≤ 1000000 ∧ i.natAbs < 2 ^ 64
theorem two_pow_nn (k : Nat) : (0 : Int) ≤ 2 ^ k := by
  rw [two_pow_cast]
  exact Int.natCast_nonneg _
theorem op_add : OpR X (binaryOp .Add) (rI0 fun i j => .int (i + j)) := opI0 fun _ _ _ _ _ _ _ q => add_int q
theorem op_sub : OpR X (binaryOp .Sub) (rI0 fun i j => .int (i - j)) := opI0 fun _ _ _ _ _ _ _ q => sub_int q
theorem op_shl : OpR X (binaryOp .LShift) (rI CPow fun i j => .int (i * 2 ^ j.toNat)) := opI fun _ _ _ _ _ _ _ hc q => lshift_int_small hc.1 hc.2.1 hc.2.2 q
theorem op_shr : OpR X (binaryOp .RShift) (rI (fun _ j => 0 ≤ j) fun i j => .int (i / 2 ^ j.toNat)) := opI fun i j _ _ _ _ _ hc q =>
  rshift_int hc (by rw [Int.fdiv_eq_ediv_of_nonneg i (two_pow_nn _)]; exact q)
theorem op_and : OpR X (binaryOp .BitAnd) (rI0 fun i j => .int (Builtin.bitAnd i j)) := opI0 fun _ _ _ _ _ _ _ q => and_int q
theorem op_or : OpR X (binaryOp .BitOr) (rI0 fun i j => .int (Builtin.bitOr i j)) := opI0 fun _ _ _ _ _ _ _ q => or_int q
theorem op_xor : OpR X (binaryOp .BitXor) (rI0 fun i j => .int (Builtin.bitXor i j)) := opI0 fun _ _ _ _ _ _ _ q => xor_int q
end
/-- the scalars that == tells apart as data does -/
def scal : V → V → Bool
  | .non, .non => true | .non, .int _ => true | .int _, .non => true | .non, .bl _ => true | .bl _, .non => true | .non, .str _ => true | .str _, .non => true
  | .int _, .int _ => true | .bl _, .bl _ => true | .str _, .str _ => true | .byt _, .byt _ => true
  | .int _, .str _ => true | .str _, .int _ => true | .bl _, .str _ => true | .str _, .bl _ => true
  | _, _ => false
def rEq : R2 := fun x y H Q => scal x y = true ∧ Q (.bl (decide (x = y))) H
def rNe : R2 := fun x y H Q => scal x y = true ∧ Q (.bl (!decide (x = y))) H
theorem dec_int {i j : Int} : decide (V.int i = V.int j) = (i == j) := by
  rw [Bool.eq_iff_iff]
  simp
theorem dec_bl {i j : Bool} : decide (V.bl i = V.bl j) = (i == j) := by
  rw [Bool.eq_iff_iff]
  simp
theorem dec_str {i j : Str} : decide (V.str i = V.str j) = (i == j) := by
  rw [Bool.eq_iff_iff]
  simp
theorem dec_byt {i j : Array UInt8} : decide (V.byt i = V.byt j) = (i.toList == j.toList) := by
  rw [Bool.eq_iff_iff]
  cases i
  cases j
  simp
section
variable {X : Cx} {a b c : Expr} {ta tb tc : TE} {pos : Pos}
theorem fin_bl {pins : List (Addr × Obj)} {σ : St} {H : Hp} {s : Shared} {Q : VK} {k k' : Bool} (I : Inv X pins σ H s) (q : Q (.bl k) H) (e : k = k') : EP X pins σ Q (.bool k') s := by
  subst e
  exact ⟨.bl k, H, I, rfl, q⟩
theorem op_eq : OpR X (compareOp .Eq) rEq := by
  intro pins s σ H x y v u Q I rx ry h
  obtain ⟨hs, q⟩ := h
  cases x with
  | non =>
    cases rx
    cases y with
    | non => cases ry; exact PySem.EqNone.eq_none_none (fin_bl I q (by simp))
    | bl j => cases ry; exact PySem.EqNone.eq_none_bool (fin_bl I q (by simp))
    | int j => obtain ⟨t', rfl⟩ := ry; exact PySem.EqNone.eq_none_int (fin_bl I q (by simp))
    | str j => obtain ⟨t', rfl⟩ := ry; exact PySem.EqNone.eq_none_str (fin_bl I q (by simp))
    | _ => exact absurd (show false = true from hs) Bool.false_ne_true
  | bl i =>
    cases rx
    cases y with
    | non => cases ry; exact PySem.EqNone.eq_bool_none (fin_bl I q (by simp))
    | bl j => cases ry; exact eq_bool (fin_bl I q dec_bl)
    | str j => obtain ⟨t', rfl⟩ := ry; exact PySem.EqMixed.eq_bool_str (fin_bl I q (by simp))
    | _ => exact absurd (show false = true from hs) Bool.false_ne_true
  | int i =>
    obtain ⟨t, rfl⟩ := rx
    cases y with
    | non => cases ry; exact PySem.EqNone.eq_int_none (fin_bl I q (by simp))
    | int j => obtain ⟨t', rfl⟩ := ry; exact eq_int (fin_bl I q dec_int)
    | str j => obtain ⟨t', rfl⟩ := ry; exact PySem.EqMixed.eq_int_str (fin_bl I q (by simp))
    | _ => exact absurd (show false = true from hs) Bool.false_ne_true
  | str i =>
    obtain ⟨t, rfl⟩ := rx
    cases y with
    | non => cases ry; exact PySem.EqNone.eq_str_none (fin_bl I q (by simp))
    | bl j => cases ry; exact PySem.EqMixed.eq_str_bool (fin_bl I q (by simp))
    | int j => obtain ⟨t', rfl⟩ := ry; exact PySem.EqMixed.eq_str_int (fin_bl I q (by simp))
    | str j => obtain ⟨t', rfl⟩ := ry; exact eq_str (fin_bl I q dec_str)
    | _ => exact absurd (show false = true from hs) Bool.false_ne_true
  | byt i =>
    obtain ⟨t, rfl⟩ := rx
    cases y with
    | byt j => obtain ⟨t', rfl⟩ := ry; exact PySem.W.eq_bytes (fin_bl I q dec_byt)
    | _ => exact absurd (show false = true from hs) Bool.false_ne_true
  | _ => cases y <;> exact absurd (show false = true from hs) Bool.false_ne_true
theorem op_ne : OpR X (compareOp .NotEq) rNe := by
  intro pins s σ H x y v u Q I rx ry h
  obtain ⟨hs, q⟩ := h
  cases x with
  | non =>
    cases rx
    cases y with
    | non => cases ry; exact PySem.EqNone.ne_none_none (fin_bl I q (by simp))
    | bl j => cases ry; exact PySem.EqNone.ne_none_bool (fin_bl I q (by simp))
    | int j => obtain ⟨t', rfl⟩ := ry; exact PySem.EqNone.ne_none_int (fin_bl I q (by simp))
    | str j => obtain ⟨t', rfl⟩ := ry; exact PySem.EqNone.ne_none_str (fin_bl I q (by simp))
    | _ => exact absurd (show false = true from hs) Bool.false_ne_true
  | bl i =>
    cases rx
    cases y with
    | non => cases ry; exact PySem.EqNone.ne_bool_none (fin_bl I q (by simp))
    | bl j => cases ry; exact ne_bool (fin_bl I q (congrArg not dec_bl))
    | str j => obtain ⟨t', rfl⟩ := ry; exact PySem.EqMixed.ne_bool_str (fin_bl I q (by simp))
    | _ => exact absurd (show false = true from hs) Bool.false_ne_true
  | int i =>
    obtain ⟨t, rfl⟩ := rx
    cases y with
    | non => cases ry; exact PySem.EqNone.ne_int_none (fin_bl I q (by simp))
    | int j => obtain ⟨t', rfl⟩ := ry; exact ne_int (fin_bl I q (congrArg not dec_int))
    | str j => obtain ⟨t', rfl⟩ := ry; exact PySem.EqMixed.ne_int_str (fin_bl I q (by simp))
    | _ => exact absurd (show false = true from hs) Bool.false_ne_true
  | str i =>
    obtain ⟨t, rfl⟩ := rx
    cases y with
    | non => cases ry; exact PySem.EqNone.ne_str_none (fin_bl I q (by simp))
    | bl j => cases ry; exact PySem.EqMixed.ne_str_bool (fin_bl I q (by simp))
    | int j => obtain ⟨t', rfl⟩ := ry; exact PySem.EqMixed.ne_str_int (fin_bl I q (by simp))
    | str j => obtain ⟨t', rfl⟩ := ry; exact ne_str (fin_bl I q (congrArg not dec_str))
    | _ => exact absurd (show false = true from hs) Bool.false_ne_true
  | byt i =>
    obtain ⟨t, rfl⟩ := rx
    cases y with
    | byt j => obtain ⟨t', rfl⟩ := ry; exact PySem.W.ne_bytes (fin_bl I q (congrArg not dec_byt))
    | _ => exact absurd (show false = true from hs) Bool.false_ne_true
  | _ => cases y <;> exact absurd (show false = true from hs) Bool.false_ne_true
theorem op_lt : OpR X (compareOp .Lt) (rI0 fun i j => .bl (decide (i < j))) := opB0 fun _ _ _ _ _ _ _ q => lt_int q
theorem op_le : OpR X (compareOp .LtE) (rI0 fun i j => .bl (decide (i ≤ j))) := opB0 fun _ _ _ _ _ _ _ q => le_int q
theorem op_gt : OpR X (compareOp .Gt) (rI0 fun i j => .bl (decide (j < i))) := opB0 fun _ _ _ _ _ _ _ q => gt_int q
theorem nomark (b : Expr) {op : CmpOp} (h : op ≠ .In := by decide) (h2 : op ≠ .NotIn := by decide) : behindInMarks op b = false := by
  have e1 : (op == CmpOp.In) = false := by cases op <;> first | rfl | exact absurd rfl h
  have e2 : (op == CmpOp.NotIn) = false := by cases op <;> first | rfl | exact absurd rfl h2
  cases b <;> simp [behindInMarks, e1, e2]
/-- a comparison as a value; hm: nomark b, or (for in, not in) by with_unfolding_all rfl -/
theorem pe_cmpR {op : CmpOp} {r : R2} (ho : OpR X (compareOp op) r) (ha : PE X a ta) (hb : PE X b tb) (hm : behindInMarks op b = false) : PE X (.Compare a [op] [b] pos) (tOp r ta tb) := by
  intro pins s σ H Q I h
  exact wpAny_Compare1 (binT ha hb I h fun v u s2 x y H2 I2 rx ry q => ho pins s2 σ H2 x y v u Q I2 rx ry q) hm
/-- a reading of a value as a test -/
def tTest (t : TE) : TT := fun σ H Q => t σ H fun x H' => ∃ k, x = .bl k ∧ Q k H'
theorem pt_cmpR {op : CmpOp} {r : R2} (ho : OpR X (compareOp op) r) (ha : PE X a ta) (hb : PE X b tb) (hm : behindInMarks op b = false) : PT X (.Compare a [op] [b] pos) (tTest (tOp r ta tb)) := by
  intro pins s σ H Q I h
  refine wpAny_isTrue_Compare1 (thn (ha pins s σ H _ I h) fun v s1 ⟨x, H1, I1, r1, q1⟩ => thn (hb pins s1 σ H1 _ I1 q1) fun u s2 ⟨y, H2, I2, r2, q2⟩ =>
    thn (ho pins s2 σ H2 x y v u _ I2 r1 r2 q2) fun c s3 ⟨z, H3, I3, r3, k, e, q3⟩ => ?_) hm
  subst e
  cases r3
  exact wpAny_truthy_bool ⟨H3, I3, q3⟩
/-- a op1 b op2 c -/
def tChain (r r' : R2) (ta tb tc : TE) : TE := fun σ H Q => ta σ H fun x H1 => tb σ H1 fun y H2 => r x y H2 fun z H3 => ∃ k, z = .bl k ∧
  (if k = true then tc σ H3 fun w' H4 => r' y w' H4 Q else Q (.bl false) H3)
theorem pe_chain {op op' : CmpOp} {r r' : R2} (ho : OpR X (compareOp op) r) (ho' : OpR X (compareOp op') r') (ha : PE X a ta) (hb : PE X b tb) (hc : PE X c tc)
    (hm : lastMarks [op, op'] [b, c] = false := by with_unfolding_all rfl) : PE X (.Compare a [op, op'] [b, c] pos) (tChain r r' ta tb tc) := by
  intro pins s σ H Q I h
  refine Compare_chain (thn (ha pins s σ H _ I h) fun v s1 ⟨x, H1, I1, r1, q1⟩ => chain_link (thn (hb pins s1 σ H1 _ I1 q1) fun u s2 ⟨y, H2, I2, r2, q2⟩ =>
    thn (ho pins s2 σ H2 x y v u _ I2 r1 r2 q2) fun d s3 ⟨z, H3, I3, r3, k, e, q3⟩ => ?_)) hm
  subst e
  cases r3
  refine wpAny_truthy_bool ?_
  cases k with
  | false => exact ite_ff ⟨.bl false, H3, I3, rfl, q3⟩
  | true => exact ite_tt (chain_last (thn (hc pins s3 σ H3 _ I3 q3) fun w' s4 ⟨z', H4, I4, r4, q4⟩ => ho' pins s4 σ H4 y z' u w' Q I4 r2 r4 q4))
theorem pt_chain {op op' : CmpOp} {r r' : R2} (ho : OpR X (compareOp op) r) (ho' : OpR X (compareOp op') r') (ha : PE X a ta) (hb : PE X b tb) (hc : PE X c tc)
    (hm : lastMarks [op, op'] [b, c] = false := by with_unfolding_all rfl) : PT X (.Compare a [op, op'] [b, c] pos) (tTest (tChain r r' ta tb tc)) := by
  intro pins s σ H Q I h
  refine isTrue_chain (thn (ha pins s σ H _ I h) fun v s1 ⟨x, H1, I1, r1, q1⟩ => test_link (thn (hb pins s1 σ H1 _ I1 q1) fun u s2 ⟨y, H2, I2, r2, q2⟩ =>
    thn (ho pins s2 σ H2 x y v u _ I2 r1 r2 q2) fun d s3 ⟨z, H3, I3, r3, k, e, q3⟩ => ?_)) hm
  subst e
  cases r3
  refine wpAny_truthy_bool ?_
  cases k with
  | false =>
    obtain ⟨k', e', q'⟩ := q3
    cases e'
    exact ite_ff ⟨H3, I3, q'⟩
  | true =>
    refine ite_tt (test_last (thn (hc pins s3 σ H3 _ I3 q3) fun w' s4 ⟨z', H4, I4, r4, q4⟩ => thn (ho' pins s4 σ H4 y z' u w' _ I4 r2 r4 q4) fun d' s5 ⟨z2, H5, I5, r5, k2, e2, q5⟩ => ?_))
    subst e2
    cases r5
    exact wpAny_truthy_bool ⟨H5, I5, q5⟩
theorem line63 : (sizeLine : Nat) < 2 ^ 63 := by rw [sizeLine_eq]; decide
theorem vals1 {x : V} {us : List Value} (r : Vals [x] us) : ∃ u, us = [u] ∧ RelV x u := by
  cases r with
  | cons r1 r2 => cases r2; exact ⟨_, rfl, r1⟩
end
end L2
namespace L2
open PySem PySem.Spec PyProof.Rows
structure ObjM (h : Heap) (x dx C : Addr) (mA : Str → Option Value) : Prop where
  obj : h.get? x = some (PySem.W.instObj C dx)
  ns : h.Ns1 dx mA
  ne : dx ≠ x
theorem lookIn_ns {h : Heap} {dx : Addr} {mA : Str → Option Value} (n : h.Ns1 dx mA) : ∃ od, h.get? dx = some od ∧ ∀ name, PySem.W.lookIn name od = some (mA name) := by
  obtain ⟨o, es, ep, ho, hd, hk, _, hm⟩ := n
  refine ⟨o, ho, fun name => ?_⟩
  have e := hm name
  unfold nsFind findBy at e
  rw [← Array.find?_toList] at e
  unfold PySem.W.lookIn
  rw [hd]
  dsimp only
  split
  · rename_i y q
    rw [q] at e
    exact congrArg some e
  · rename_i q
    rw [q] at e
    have a : es.toList.any (·.refKey) = false := by
      rw [List.any_eq_false]
      intro y hy
      obtain ⟨z, t, hkey⟩ := hk y (Array.mem_toList_iff.mp hy)
      simp [DictEntry.refKey, hkey]
    have a' : ¬ es.toList.any (·.refKey) = true := by rw [a]; exact Bool.false_ne_true
    rw [if_neg a']
    exact congrArg some e
theorem ObjM.look {h : Heap} {x dx C : Addr} {mA : Str → Option Value} (I : ObjM h x dx C mA) : ∃ od, PySem.W.InstAt h x (PySem.W.instObj C dx) C (some od) ∧ ∀ name, PySem.W.lookIn name od = some (mA name) :=
  let ⟨od, ho, hl⟩ := lookIn_ns I.ns
  ⟨od, ⟨I.obj, rfl, rfl, ho⟩, hl⟩
section
variable {prog : Program} {w : World} {A : Around} {E : Value → Shared → Prop} {s : Shared} {K : PySem.W.Frag} {x dx C f : Addr} {mA : Str → Option Value} {name : Str} {v : Value}
theorem get_map {expr : Bool} {Q : Value → Shared → Prop} (X : K.In s.heap) (I : ObjM s.heap x dx C mA) (hg : PySem.W.plainGet K C name = true) (hh : PySem.W.hasDictIn K C = true)
    (ha : PySem.W.findIn K (.ref C) name = some none) (hv : mA name = some v) (hv' : PySem.W.handedIn v = true) (h : Q v { s with toks := s.toks + 1 }) :
    wpAny (model prog w) A (getAttr (.ref x) name expr) Q E s := by
  obtain ⟨od, J, hl⟩ := I.look
  exact PySem.W.get_value X J (PySem.W.plainGet_of hg).1 (PySem.W.findObj_own hh ha rfl (by rw [hl, hv])) hv' h
theorem get_meth {pl : Sem Bool} {Q : Value × List Value → Shared → Prop} (X : K.In s.heap) (I : ObjM s.heap x dx C mA) (hg : PySem.W.plainGet K C name = true)
    (hf : PySem.W.findIn K (.ref C) name = some (some (.ref f))) (ht : PySem.W.isFn K (.ref f) = true) (hv : mA name = none) (h : Q (.ref f, [.ref x]) s) :
    wpAny (model prog w) A (getMethod (.ref x) name pl) Q E s := by
  obtain ⟨od, J, hl⟩ := I.look
  exact PySem.W.method_fn X J (PySem.W.plainGet_of hg).1 (PySem.W.plainGet_of hg).2 hf (beq_iff_eq.mp ht) (by show (PySem.W.lookIn name od).map (·.isSome) = some false; rw [hl, hv]; rfl) h
theorem set_map {ns : List Str} {Q : Unit → Shared → Prop} (X : K.In s.heap) (I : ObjM s.heap x dx C mA)
    (hs : PySem.W.findIn K (.ref C) "__setattr__" = some (some (.builtin "object.__setattr__"))) (hp : PySem.W.plainOver K C = true) (ht : PySem.W.takerIn K C name = some none) (hh : PySem.W.hasDictIn K C = true)
    (hw : PySem.Within mA ns) (hsz : ns.length ≤ sizeLine)
    (h : ∀ h', ObjM h' x dx C (fun y => if y = name then some v else mA y) → Heap.SameBut dx s.heap h' → Q () { s with heap := h', toks := s.toks + 2 }) :
    wpAny (model prog w) A (setAttr (.ref x) name v) Q E s := by
  obtain ⟨od, J, hl⟩ := I.look
  refine PySem.W.set_plain X J hs (PySem.W.osa_open (s := { s with toks := s.toks + 1 }) (r := none) X J hp ht fun b => ?_)
  obtain ⟨cd, hc, hd'⟩ := PySem.W.any_some hh
  have hx : s.heap.get? x = some ⟨.ref C, some dx, .plain, #[]⟩ := I.obj
  refine wpAny_bind (wpAny_pure (wpAny_bind (wpAny_bind (wpAny_loadPart hx (wpAny_bind (PySem.W.Looks.here (s := { s with toks := s.toks + 1 }) (PySem.W.looks_clsIn X hc) ?_))))))
  rw [hd']
  refine wpAny_pure (a := some dx) (wpAny_bind (wpAny_pure (wpAny_bind ?_)))
  refine wpAny_nsSet1 (s := { s with toks := s.toks + 1 }) I.ns fun h' hn2 hs2 => ?_
  obtain ⟨oD, esD, epD, hoD, hdD, hcD⟩ := hn2.count (PySem.Within.cons name v hw)
  refine wpAny_bind (wpAny_lookBehind hoD (by rw [hdD]; exact pastItsLine_dict (Nat.le_trans hcD (by rw [List.length_cons]; omega))) ?_)
  exact wpAny_pure (h _ ⟨(hs2.2 _ (Ne.symm I.ne)).trans I.obj, hn2, I.ne⟩ hs2)
/-- C(..): the dict at the heap's end, the instance behind it; then its __init__ -/
theorem make_map {R : Result → Shared → Prop} {vs : List Value} {kw : List (Str × Value)} (X : K.In s.heap) (hm : PySem.W.makesIn K C = true)
    (hi : PySem.W.findIn K (.ref C) "__init__" = some (some (.ref f))) (hf : PySem.W.typeIn K (.ref f) = some (.type "function"))
    (h : codeAny (model prog w) (A.under (.builtin "type.__call__" ⟨.ref C :: vs, kw⟩)) (.call (.ref f) ⟨.ref (s.heap.objs.size + 1) :: vs, kw⟩) (PySem.W.InitBack (s.heap.objs.size + 1) R)
      { s with heap := (s.heap.push PySem.W.emptyDict).push (PySem.W.instObj C s.heap.objs.size) }) :
    codeAny (model prog w) A (.call (.ref C) ⟨vs, kw⟩) R s := by
  obtain ⟨hh, g, d, t, os⟩ := s
  exact PySem.W.make_core (PySem.W.makes_of X hm) (PySem.W.looks_findIn X hi) (fun self => PySem.W.bind_fn X self hf) (.inl rfl) h
end
def putF (f : Str) (v : V) : List (Str × V) → List (Str × V)
  | [] => [(f, v)]
  | (g, x) :: r => if g = f then (g, v) :: r else (g, x) :: putF f v r
theorem lookup_putF (f g : Str) (v : V) : ∀ fs : List (Str × V), (putF f v fs).lookup g = if g = f then some v else fs.lookup g
  | [] => by
    show List.lookup g [(f, v)] = _
    by_cases h : g = f
    · have hb : (g == f) = true := beq_iff_eq.mpr h
      simp only [List.lookup, hb, if_pos h]
    · have hb : (g == f) = false := beq_eq_false_iff_ne.mpr h
      simp only [List.lookup, hb, if_neg h]
  | (k, x) :: r => by
    have ih := lookup_putF f g v r
    rw [show putF f v ((k, x) :: r) = (if k = f then (k, v) :: r else (k, x) :: putF f v r) from rfl]
    by_cases hk : k = f
    · rw [if_pos hk]
      by_cases h : g = k
      · have hb : (g == k) = true := beq_iff_eq.mpr h
        simp only [List.lookup, hb, if_pos (h.trans hk)]
      · have hb : (g == k) = false := beq_eq_false_iff_ne.mpr h
        simp only [List.lookup, hb, if_neg (fun e : g = f => h (e.trans hk.symm))]
    · rw [if_neg hk]
      by_cases h : g = k
      · have hb : (g == k) = true := beq_iff_eq.mpr h
        simp only [List.lookup, hb, if_neg (fun e : g = f => hk (h.symm.trans e))]
      · have hb : (g == k) = false := beq_eq_false_iff_ne.mpr h
        simp only [List.lookup, hb]
        exact ih
theorem keys_putF (f : Str) (v : V) : ∀ fs : List (Str × V), f ∈ (putF f v fs).map (·.1) ∧ ∀ g, g ∈ fs.map (·.1) → g ∈ (putF f v fs).map (·.1)
  | [] => ⟨by simp [putF], fun g h => by simp at h⟩
  | (k, x) :: r => by
    obtain ⟨i1, i2⟩ := keys_putF f v r
    rw [show putF f v ((k, x) :: r) = (if k = f then (k, v) :: r else (k, x) :: putF f v r) from rfl]
    by_cases hk : k = f
    · rw [if_pos hk]
      subst hk
      exact ⟨by simp, fun g h => by simpa using h⟩
    · rw [if_neg hk]
      refine ⟨?_, fun g h => ?_⟩
      · rw [List.map_cons]
        exact List.mem_cons_of_mem _ i1
      · rw [List.map_cons] at h ⊢
        rcases List.mem_cons.mp h with e | e
        · exact List.mem_cons.mpr (.inl e)
        · exact List.mem_cons_of_mem _ (i2 g e)
theorem length_putF (f : Str) (v : V) : ∀ fs : List (Str × V), (putF f v fs).length ≤ fs.length + 1
  | [] => by simp [putF]
  | (k, x) :: r => by
    have ih := length_putF f v r
    rw [show putF f v ((k, x) :: r) = (if k = f then (k, v) :: r else (k, x) :: putF f v r) from rfl]
    by_cases hk : k = f
    · rw [if_pos hk, List.length_cons, List.length_cons]; omega
    · rw [if_neg hk, List.length_cons, List.length_cons]; omega
theorem RelO.some_of {v : V} {o : Option Value} (r : RelO (some v) o) : ∃ u, o = some u ∧ RelV v u := by
  cases o with
  | none => exact (show False from r).elim
  | some u => exact ⟨u, rfl, r⟩
theorem RelO.none_of {o : Option Value} (r : RelO none o) : o = none := by
  cases o with
  | none => rfl
  | some u => exact (show False from r).elim
theorem handed_of {v : V} {u : Value} (r : RelV v u) : PySem.W.handedIn u = true := by
  cases v with
  | non => cases (show u = Value.none from r); rfl
  | bl b => cases (show u = Value.bool b from r); rfl
  | int i => obtain ⟨t, e⟩ := (show ∃ t, u = Value.int i t from r); cases e; rfl
  | str x => obtain ⟨t, e⟩ := (show ∃ t, u = Value.str x t from r); cases e; rfl
  | byt b => obtain ⟨t, e⟩ := (show ∃ t, u = Value.bytes b t from r); cases e; rfl
  | flt b => obtain ⟨t, e⟩ := (show ∃ t, u = Value.float b t from r); cases e; rfl
  | ref a => cases (show u = Value.ref a from r); rfl
  | ty n => cases (show u = Value.type n from r); rfl
section
variable {P : Program} {w : World} {H H' : Hp} {h h' : Heap} {a C dx : Addr} {fs fs' : List (Str × V)}
theorem ins_get (hok : HOk P w H h) (e : H a = some (.ins C dx fs)) : ∃ mA, ObjM h a dx C mA ∧ (∀ f, RelO (fs.lookup f) (mA f)) ∧ PySem.Within mA (fs.map (·.1)) ∧ fs.length ≤ 1000 ∧ H dx = some (.own a) := by
  obtain ⟨d, z, ne, ob, mA, n, r, q⟩ := (show ObjOk P w H h a (.ins C dx fs) from hok a _ e)
  exact ⟨mA, ⟨ob, n, ne⟩, r, q, z, d⟩
end
structure Cls (K : PySem.W.Frag) (C : Addr) : Prop where
  pg : PySem.W.plainGet K C Str.empty = true
  hd : PySem.W.hasDictIn K C = true
  po : PySem.W.plainOver K C = true
  sa : PySem.W.findIn K (.ref C) "__setattr__" = some (some (.builtin "object.__setattr__"))
theorem Cls.get {K : PySem.W.Frag} {C : Addr} (c : Cls K C) (f : Str) : PySem.W.plainGet K C f = true := c.pg
/-- no class of it has the name -/
def NoAttr (K : PySem.W.Frag) (C : Addr) (f : Str) : Prop := PySem.W.findIn K (.ref C) f = some none
theorem NoAttr.taker {K : PySem.W.Frag} {C : Addr} {f : Str} (n : NoAttr K C f) : PySem.W.takerIn K C f = some none := by
  unfold PySem.W.takerIn
  rw [show PySem.W.findIn K (.ref C) f = some none from n]
  rfl
/-- a constant of the class -/
structure Con (K : PySem.W.Frag) (C : Addr) (f : Str) (v : V) (u : Value) : Prop where
  at_ : PySem.W.findIn K (.ref C) f = some (some u)
  rel : RelV v u
  get : PySem.W.specialIn K u "__get__" = some none
  cp : PySem.W.copiedNames.contains f = false
/-- a method: a plain def of the class or of one above it -/
structure Meth (K : PySem.W.Frag) (C : Addr) (m : Str) (f : Addr) : Prop where
  at_ : PySem.W.findIn K (.ref C) m = some (some (.ref f))
  fn : PySem.W.isFn K (.ref f) = true
  kp : PySem.W.keepIn K (.ref f) = true
section
variable {X : Cx} {pins : List (Addr × Obj)} {σ : St} {H : Hp} {s : Shared} {a C dx : Addr} {fs : List (Str × V)} {f : Str} {v : V} {A : Around} {E : Value → Shared → Prop}
theorem getattr_ok {b : Bool} {Q : Value → Shared → Prop} (I : Inv X pins σ H s) (e : H a = some (.ins C dx fs)) (c : Cls X.K C) (n : NoAttr X.K C f) (l : fs.lookup f = some v)
    (h : ∀ u s', Inv X pins σ H s' → RelV v u → Q u s') : wpAny (model X.prog X.w) A (getAttr (.ref a) f b) Q E s := by
  obtain ⟨mA, O, r, _, _, _⟩ := ins_get I.hok e
  obtain ⟨u, hu, ru⟩ := RelO.some_of (v := v) (o := mA f) (by rw [← l]; exact r f)
  exact get_map I.kIn O (c.get f) c.hd n hu (handed_of ru) (h u _ (I.tok _) ru)
theorem getmeth_ok {m : Str} {g : Addr} {pl : Sem Bool} {Q : Value × List Value → Shared → Prop} (I : Inv X pins σ H s) (e : H a = some (.ins C dx fs)) (c : Cls X.K C) (k : Meth X.K C m g) (l : fs.lookup m = none)
    (h : Q (.ref g, [.ref a]) s) : wpAny (model X.prog X.w) A (getMethod (.ref a) m pl) Q E s := by
  obtain ⟨mA, O, r, _, _, _⟩ := ins_get I.hok e
  have hn : mA m = none := RelO.none_of (by rw [← l]; exact r m)
  exact get_meth I.kIn O (c.get m) k.at_ k.fn hn h
theorem setattr_ok {y : V} {u : Value} {Q : Unit → Shared → Prop} (I : Inv X pins σ H s) (e : H a = some (.ins C dx fs)) (c : Cls X.K C) (n : NoAttr X.K C f) (hl : fs.length < 1000) (ry : RelV y u)
    (h : ∀ s', Inv X pins σ (upd H a (.ins C dx (putF f y fs))) s' → Q () s') : wpAny (model X.prog X.w) A (setAttr (.ref a) f u) Q E s := by
  obtain ⟨mA, O, r, wi, _, ho⟩ := ins_get I.hok e
  have hz : (fs.map (·.1)).length ≤ sizeLine := by rw [List.length_map, sizeLine_eq]; omega
  refine set_map I.kIn O c.sa c.po n.taker c.hd wi hz fun h' O' sb => h _ ?_
  have hd : ∃ o, h'.get? dx = some o := let ⟨o, _, _, e', _⟩ := O'.ns; ⟨o, e'⟩
  refine I.write (x := a) (e := dx) (by rw [e]; exact True.intro) (.inr ho) (fun b q hb z => (sb.2 b hb).trans z) hd ?_
  refine ⟨by rw [upd_ne O.ne]; exact ho, ?_, O.ne, O'.obj, _, O'.ns, fun g => ?_, fun g hg => ?_⟩
  · have := length_putF f y fs; omega
  · show RelO ((putF f y fs).lookup g) (if g = f then some u else mA g)
    rw [lookup_putF]
    by_cases q : g = f
    · rw [if_pos q, if_pos q]; exact ry
    · rw [if_neg q, if_neg q]; exact r g
  · by_cases q : g = f
    · rw [q]; exact (keys_putF f y fs).1
    · refine (keys_putF f y fs).2 g (wi g fun z => hg ?_)
      show (if g = f then some u else mA g) = none
      rw [if_neg q]; exact z
/-- a new instance, tracked, without attributes -/
theorem Inv.made (I : Inv X pins σ H s) : Inv X pins σ (upd (upd H s.heap.objs.size (.own (s.heap.objs.size + 1))) (s.heap.objs.size + 1) (.ins C s.heap.objs.size []))
    { s with heap := (s.heap.push PySem.W.emptyDict).push (PySem.W.instObj C s.heap.objs.size) } := by
  have e1 : (s.heap.push PySem.W.emptyDict).get? s.heap.objs.size = some PySem.W.emptyDict := Heap.get?_push_size s.heap rfl
  have e2 : ((s.heap.push PySem.W.emptyDict).push (PySem.W.instObj C s.heap.objs.size)).get? (s.heap.objs.size + 1) = some (PySem.W.instObj C s.heap.objs.size) := by
    have := Heap.get?_push_size (s.heap.push PySem.W.emptyDict) (o := PySem.W.instObj C s.heap.objs.size) rfl
    rwa [Heap.size_push] at this
  have e3 : (s.heap.push PySem.W.emptyDict).Ns s.heap.objs.size (fun _ => none) := ⟨PySem.W.emptyDict, #[], _, e1, rfl, (fun e he => absurd he (by simp)), fun _ => rfl⟩
  have I1 := I.laid (a := s.heap.objs.size) (o := .own (s.heap.objs.size + 1)) (h' := s.heap.push PySem.W.emptyDict) (t' := s.toks) (fun b u q => Heap.get?_push_of_some _ q) (Nat.le_refl _) ⟨_, e1⟩
  refine I1.laid (a := s.heap.objs.size + 1) (o := .ins C s.heap.objs.size []) (t' := s.toks) (fun b u q => Heap.get?_push_of_some _ q) (Nat.le_of_eq (Heap.size_push _ _)) ?_
  have ne : s.heap.objs.size ≠ s.heap.objs.size + 1 := Nat.ne_of_lt (Nat.lt_succ_self _)
  refine ⟨by rw [upd_ne ne, upd_same], Nat.zero_le _, ne, e2, fun _ => none, (Heap.Ns1.of_empty e3).at fun o q => Heap.get?_push_of_some _ q, fun _ => True.intro, fun y hy => absurd rfl hy⟩
/-- e.f where nothing but the object is asked: through attributeBase (super) and the last hold -/
theorem attr_of {prog : Program} {w : World} {env : Env} {e : Expr} {f : Str} {pos : Pos} {s : Shared} {Q : Value → Shared → Prop} (hb : attributeBase e f env (eval e env) = eval e env)
    (h : wpAny (model prog w) A (eval e env) (fun o s₁ => wpAny (model prog w) A (getAttr o f true) Q E s₁) E s) : wpAny (model prog w) A (eval (.Attribute e f pos) env) Q E s :=
  Attribute_any_ h (by rw [arm_eval_Attribute, hb])
end
/-- e.f, an attribute of the instance -/
def tFld (K : PySem.W.Frag) (ta : TE) (f : Str) : TE := fun σ H Q => ta σ H fun x H1 => ∃ a C dx fs v, x = .ref a ∧ H1 a = some (.ins C dx fs) ∧ Cls K C ∧ NoAttr K C f ∧ fs.lookup f = some v ∧ Q v H1
/-- e.f = value -/
def sFld (K : PySem.W.Frag) (ta tv : TE) (f : Str) : TS := fun D σ H => tv σ H fun y H1 => ta σ H1 fun x H2 => ∃ a C dx fs, x = .ref a ∧ H2 a = some (.ins C dx fs) ∧ Cls K C ∧ NoAttr K C f ∧ fs.length < 1000 ∧
  D.nx σ (upd H2 a (.ins C dx (putF f y fs)))
/-- an augmented operator on two values -/
def InOp (X : Cx) (op : Operator) (rd : V → V → Hp → VK → Prop) : Prop :=
  ∀ (pins : List (Addr × Obj)) (s : Shared) (σ : St) (H : Hp) (x y : V) (u v : Value) (Q : VK), Inv X pins σ H s → RelV x u → RelV y v → rd x y H Q → wpAny (model X.prog X.w) X.A (inplaceOp op u v) (EP X pins σ Q) X.xe s
/-- e.f op= value -/
def sFldAug (K : PySem.W.Frag) (ta tv : TE) (rd : V → V → Hp → VK → Prop) (f : Str) : TS := fun D σ H => ta σ H fun x H1 => ∃ a C dx fs v, x = .ref a ∧ H1 a = some (.ins C dx fs) ∧ Cls K C ∧ NoAttr K C f ∧ fs.lookup f = some v ∧
  tv σ H1 fun y H2 => rd v y H2 fun z H3 => ∃ dx' fs', H3 a = some (.ins C dx' fs') ∧ fs'.length < 1000 ∧ D.nx σ (upd H3 a (.ins C dx' (putF f z fs')))
section
variable {X : Cx} {o e value : Expr} {f : Str} {pos pos' tpos : Pos} {ta tv : TE}
theorem pe_fld (he : PE X e ta) (hb : attributeBase e f X.env (eval e X.env) = eval e X.env) : PE X (.Attribute e f pos) (tFld X.K ta f) := by
  intro pins s σ H Q I h
  refine attr_of hb (thn (he pins s σ H _ I h) fun u s1 ⟨x, H1, I1, rx, a, C, dx, fs, v, ex, ea, c, n, l, q⟩ => ?_)
  subst ex
  obtain rfl : u = Value.ref a := rx
  exact getattr_ok I1 ea c n l fun u' s2 I2 ru => ⟨v, H1, I2, ru, q⟩
theorem ps_fld (ha : PE X o ta) (hv : PE X value tv) (hs : swapsWith value (some (.Attribute o f pos')) pos.line X.env = pure false) : PS X (.Assign [.Attribute o f pos'] value pos) (sFld X.K ta tv f) := by
  intro pins s σ H D I h
  refine plainObj_wpAny_Assign_Attribute (thn (hv pins s σ H _ I h) fun u s1 ⟨y, H1, I1, ry, q⟩ => thn (ha pins s1 σ H1 _ I1 q) fun ov s2 ⟨x, H2, I2, rx, a, C, dx, fs, ex, ea, c, n, l, q2⟩ => ?_) hs
  subst ex
  obtain rfl : ov = Value.ref a := rx
  exact setattr_ok I2 ea c n l ry fun s3 I3 => ⟨σ, _, I3, q2⟩
theorem ps_fldaug {op : Operator} {rd : V → V → Hp → VK → Prop} (ha : PE X o ta) (hv : PE X value tv) (hop : InOp X op rd) : PS X (.AugAssign (.Attribute o f tpos) op value pos) (sFldAug X.K ta tv rd f) := by
  intro pins s σ H D I h
  refine wpAny_AugAssign_AttributeAny (thn (ha pins s σ H _ I h) fun ov s1 ⟨x, H1, I1, rx, a, C, dx, fs, v, ex, ea, c, n, l, q⟩ => ?_)
  subst ex
  obtain rfl : ov = Value.ref a := rx
  refine getattr_ok I1 ea c n l fun u s2 I2 ru => thn (hv pins s2 σ H1 _ I2 q) fun w3 s3 ⟨y, H2, I3, ry, q3⟩ => thn (hop pins s3 σ H2 v y u w3 _ I3 ru ry q3) fun w4 s4 ⟨z, H3, I4, rz, dx', fs', ea', l', q4⟩ => ?_
  exact setattr_ok I4 ea' c n l' rz fun s5 I5 => ⟨σ, _, I5, q4⟩
def rAdd : V → V → Hp → VK → Prop := fun x y H Q => ∃ i j, x = .int i ∧ y = .int j ∧ Q (.int (i + j)) H
theorem in_add : InOp X .Add rAdd := by
  rintro pins s σ H x y u v Q I rx ry ⟨i, j, rfl, rfl, q⟩
  obtain ⟨t, rfl⟩ := (show ∃ t, u = Value.int i t from rx)
  obtain ⟨t', rfl⟩ := (show ∃ t', v = Value.int j t' from ry)
  exact PyProof.Rows.iadd_int ⟨.int (i + j), H, I.tok _, ⟨_, rfl⟩, q⟩
end
section
variable {X : Cx} {pins : List (Addr × Obj)} {σ : St} {H : Hp} {s : Shared} {A : Around} {E : Value → Shared → Prop} {Q : Value → Shared → Prop} {c : Value} {b : Bool}
/-- the type of a value, as the fragment's deciders take it; for an instance its class -/
inductive TyOf (K : PySem.W.Frag) (H : Hp) : V → Value → Prop where
  | non : TyOf K H .non (.type "NoneType")
  | bl (x : Bool) : TyOf K H (.bl x) (.type "bool")
  | int (i : Int) : TyOf K H (.int i) (.type "int")
  | str (x : Str) : TyOf K H (.str x) (.type "str")
  | flt (x : UInt64) : TyOf K H (.flt x) (.type "float")
  | lst {a : Addr} {xs : List V} (e : H a = some (.lst xs)) : TyOf K H (.ref a) (.type "list")
  | frz {a : Addr} {o : Obj} {xs : List V} (e : H a = some (.frz o (.lst xs))) : TyOf K H (.ref a) (.type "list")
  | tup {a : Addr} {xs : List V} (e : H a = some (.tup xs)) : TyOf K H (.ref a) (.type "tuple")
  | dK {a : Addr} {kvs : List (Key × V)} (e : H a = some (.dK kvs)) : TyOf K H (.ref a) (.type "dict")
  | dT {a : Addr} {kvs : List (List Key × V)} (e : H a = some (.dT kvs)) : TyOf K H (.ref a) (.type "dict")
  | ins {a C dx : Addr} {fs : List (Str × V)} (e : H a = some (.ins C dx fs)) (cl : Cls K C) (ha : PySem.W.findIn K (.ref C) "__class__" = some (some (.builtin "object.__class__")))
      (hn : PySem.W.specialIn K (.builtin "object.__class__") "__get__" = some (some (.builtin "getset_descriptor.__get__"))) (htk : PySem.W.takesIn K (.builtin "object.__class__") = some true)
      (hm : PySem.W.mroIn K C (.type "object") = some true) : TyOf K H (.ref a) (.ref C)
end
end L2
namespace L2
open PySem PySem.Spec PyProof.Rows
structure Room (k : Nat) (A : Around) : Prop where
  hd : A.handled = none
  dp : A.depth + 3 * k + 5 < recursionLimit
  un : A.units + 16 * k + 200 < cLine
theorem Room.mono {j k : Nat} {A : Around} (r : Room k A) (h : j ≤ k) : Room j A := ⟨r.hd, by have := r.dp; omega, by have := r.un; omega⟩
theorem Room.deeper {k : Nat} {A : Around} (r : Room (k + 1) A) (env : Env) : Room k (A.deeper env) :=
  ⟨r.hd, by have := r.dp; show A.depth + 1 + 3 * k + 5 < _; omega, by have := r.un; show A.units + 3 + 16 * k + 200 < _; omega⟩
theorem make_depth {A : Around} {C : Addr} {us : List Value} {kw : List (Str × Value)} : (A.under (.builtin "type.__call__" ⟨.ref C :: us, kw⟩)).depth = A.depth + 1 := by
  first | rfl | simp [Around.under, Code.weight, Code.isCreation, Code.isGuard, Code.isCaller, Code.frames, Code.isFrame, guardIds]
theorem make_units {A : Around} {C : Addr} {us : List Value} {kw : List (Str × Value)} : (A.under (.builtin "type.__call__" ⟨.ref C :: us, kw⟩)).units = A.units + 1 := by
  first | rfl | simp [Around.under, Code.cUnits, Code.frames, Code.isFrame]
theorem Room.make {k : Nat} {A : Around} (r : Room (k + 1) A) (C : Addr) (us : List Value) (kw : List (Str × Value)) : Room k (A.under (.builtin "type.__call__" ⟨.ref C :: us, kw⟩)) :=
  ⟨r.hd, by have := r.dp; rw [make_depth]; omega, by have := r.un; rw [make_units]; omega⟩
theorem Room.depth {k : Nat} {A : Around} (r : Room k A) : A.depth < recursionLimit := by have := r.dp; omega
theorem Room.units {k : Nat} {A : Around} (r : Room k A) : A.units + 64 < cLine := by have := r.un; omega
theorem Room.units0 {k : Nat} {A : Around} (r : Room k A) : A.units < cLine := by have := r.un; omega
def tNil : TA := fun _ H Q => Q [] H
def tCons (ta : TE) (tr : TA) : TA := fun σ H Q => ta σ H fun x H1 => tr σ H1 fun xs H2 => Q (x :: xs) H2
section
variable {X : Cx} {e : Expr} {es : List Expr} {te : TE} {t : TA} {pos : Pos}
theorem pa_nil : PA X [] tNil := fun _ _ _ _ H Q I h => Calls.spliced_nil ⟨[], H, I, .nil, h⟩
theorem pa_cons (ha : PE X e te) (hr : PA X es t) (hs : starEach (e :: es) X.env = (false, eval e X.env) :: starEach es X.env := by rfl) : PA X (e :: es) (tCons te t) := by
  intro pos pins s σ H Q I h
  rw [hs]
  show wpAny _ _ (spliced ((false, eval e X.env) :: backTo pos (starEach es X.env))) _ _ s
  refine Calls.spliced_cons (thn (ha pins s σ H _ I h) fun u s1 ⟨x, H1, I1, r1, q1⟩ => ?_)
  exact thn (hr pos pins s1 σ H1 _ I1 q1) fun us s2 ⟨xs, H2, I2, r2, q2⟩ => ⟨x :: xs, H2, I2, .cons r1 r2, q2⟩
/-- a tuple, a list of written items -/
def tTup (t : TA) : TE := fun σ H Q => t σ H fun xs H1 => xs.length ≤ sizeLine ∧ ∀ p, H1 p = none → Q (.ref p) (upd H1 p (.tup xs))
def tLst (t : TA) : TE := fun σ H Q => t σ H fun xs H1 => xs.length ≤ sizeLine ∧ ∀ p, H1 p = none → Q (.ref p) (upd H1 p (.lst xs))
theorem pe_tup {x1} (h : PA X es t) : PE X (.Tuple es x1 pos) (tTup t) := by
  intro pins s σ H Q I hq
  refine wpAny_Tuple_spliced (thn (h pos pins s σ H _ I hq) fun us s1 ⟨xs, H1, I1, r, z, q⟩ => ⟨by rw [← r.length]; exact z, ?_⟩)
  have hf : H1 s1.heap.objs.size = none := I1.hok.fresh (Nat.le_refl _)
  refine ⟨.ref s1.heap.objs.size, upd H1 s1.heap.objs.size (.tup xs), I1.laid (t' := s1.toks) (fun b u e => Heap.get?_push_of_some _ e) (Nat.le_refl _) ?_, rfl, q _ hf⟩
  exact ⟨z, us, r, ⟨_, Heap.get?_push_size _ rfl, rfl, _, rfl⟩⟩
theorem pe_lst (h : PA X es t) : PE X (.List es pos) (tLst t) := by
  intro pins s σ H Q I hq
  refine wpAny_List_spliced (thn (h pos pins s σ H _ I hq) fun us s1 ⟨xs, H1, I1, r, z, q⟩ => ⟨by rw [← r.length]; exact z, ?_⟩)
  have hf : H1 s1.heap.objs.size = none := I1.hok.fresh (Nat.le_refl _)
  refine ⟨.ref s1.heap.objs.size, upd H1 s1.heap.objs.size (.lst xs), I1.laid (t' := s1.toks) (fun b u e => Heap.get?_push_of_some _ e) (Nat.le_refl _) ?_, rfl, q _ hf⟩
  exact ⟨z, us, 0, r, Heap.get?_push_size _ rfl⟩
end
/-- a def's promise: the bound arguments in the parameters' order, the heap, the wanted end, the wanted exception -/
abbrev Sp := List V → Hp → VK → XK → Prop
/-- how an exception lies behind a call (file 08 gives it): the callers' frames, abstract heap and state ahead of the call, the wish, the exception, the state -/
abbrev CXT := List Env → Hp → Shared → XK → Value → Shared → Prop
/-- the state at a call -/
structure Env0 (P : Program) (w : World) (K : PySem.W.Frag) (mg : Str → Option Value) (base : Heap) (A : Around) (outer : List Env) (s : Shared) (H : Hp) : Prop where
  frames : A.frames = some outer
  mod : Mod K mg base
  bs : ∀ b o, base.get? b = some o → s.heap.get? b = some o ∧ H b = none
  bsz : base.objs.size ≤ s.heap.objs.size
  funs : s.heap.FunFrames base outer
  frf : ∀ b ∈ frs outer, H b = none
  hok : HOk P w H s.heap
  bare : AllBare s.gens
/-- a call's end -/
def CE (outer : List Env) (P : Program) (w : World) (H : Hp) (s : Shared) (Q : VK) (u : Value) (s' : Shared) : Prop :=
  ∃ v H', s'.os = s.os ∧ AllBare s'.gens ∧ Un (frs outer) [] H H' s.heap s'.heap ∧ HOk P w H' s'.heap ∧ RelV v u ∧ Q v H'
def CR (CX : CXT) (outer : List Env) (P : Program) (w : World) (H : Hp) (s : Shared) (Q : VK) (E : XK) (r : Result) (s' : Shared) : Prop :=
  match r with
  | .ok (.ret u) => CE outer P w H s Q u s'
  | .ok _ => False
  | .error e => CX outer H s E e s'
structure FnOk (P : Program) (w : World) (K : PySem.W.Frag) (mg : Str → Option Value) (base : Heap) (CX : CXT) (k : Nat) (f : Addr) (fd : FuncData) (ps : List Str) (sp : Sp) : Prop where
  len : ∀ vs H Q E, sp vs H Q E → vs.length = ps.length
  run : ∀ (A : Around) (outer : List Env) (s : Shared) (H : Hp) (args : Args) (us : List Value) (vs : List V) (Q : VK) (E : XK), Room k A → Env0 P w K mg base A outer s H → BindsTo s fd args (ps.zip us) → Vals vs us → sp vs H Q E →
    codeAny (model P w) A (.call (.ref f) args) (CR CX outer P w H s Q E) s
theorem Env0.make {P : Program} {w : World} {K : PySem.W.Frag} {mg : Str → Option Value} {base : Heap} {A : Around} {outer : List Env} {s : Shared} {H : Hp} (e : Env0 P w K mg base A outer s H) (C : Addr) (us : List Value) (kw : List (Str × Value)) :
    Env0 P w K mg base (A.under (.builtin "type.__call__" ⟨.ref C :: us, kw⟩)) outer s H := ⟨by first | exact e.frames | (simpa [Around.under, Code.envs, Code.isFrame, pushEnvs] using e.frames), e.mod, e.bs, e.bsz, e.funs, e.frf, e.hok, e.bare⟩
section
variable {X : Cx} {pins : List (Addr × Obj)} {σ : St} {H : Hp} {s s' : Shared}
/-- from a body: what a callee wants -/
theorem Inv.env0 (I : Inv X pins σ H s) : Env0 X.prog X.w X.K X.mg X.base X.A X.stack s H :=
  ⟨I.ok.frames, I.ok.mod, I.bs, Nat.le_trans I.ok.bsz I.sz, I.stack, I.stkFree, I.hok, I.bare⟩
/-- behind a call -/
theorem Inv.after {Q : VK} {u : Value} (I : Inv X pins σ H s) (h : CE X.stack X.prog X.w H s Q u s') : EP X pins σ Q u s' := by
  obtain ⟨v, H', os, bare, un, hok, r, q⟩ := h
  obtain ⟨hh, g, d, t, os'⟩ := s'
  obtain rfl : os' = s.os := os
  exact ⟨v, H', I.call (h' := hh) (g' := g) (d' := d) (t' := t) (ch := []) un hok bare (fun b z => absurd z (by simp)), r, q⟩
end
/-- f(..): the written arguments, then the defaults dvs; E: what is wanted of an exception -/
def tCall (sp : Sp) (dvs : List V) (E : XK) (t : TA) : TE := fun σ H Q => t σ H fun vs H1 => sp (vs ++ dvs) H1 Q E
/-- o.m(..) of an instance of the class at C -/
def tMeth (C : Addr) (m : Str) (sp : Sp) (dvs : List V) (E : XK) (ta : TE) (t : TA) : TE := fun σ H Q => ta σ H fun x H1 => ∃ a dx fs, x = .ref a ∧ H1 a = some (.ins C dx fs) ∧ fs.lookup m = none ∧
  t σ H1 fun vs H2 => sp (x :: (vs ++ dvs)) H2 Q E
/-- C(..): a new instance and its dict, then __init__ -/
def tMake (C : Addr) (sp : Sp) (dvs : List V) (E : XK) (t : TA) : TE := fun σ H Q => t σ H fun vs H1 => ∀ x dx, H1 x = none → H1 dx = none → dx ≠ x →
  sp (.ref x :: (vs ++ dvs)) (upd (upd H1 dx (.own x)) x (.ins C dx [])) (fun v H2 => v = .non ∧ Q (.ref x) H2) E
/-- how the parameters are bound: us the positional arguments, kw the keywords' values by name, ds the defaults that fill up -/
def Binds (K : PySem.W.Frag) (fd : FuncData) (ps : List Str) (ds : List Value) : Prop :=
  ∀ (s : Shared) (us : List Value), K.In s.heap → (us ++ ds).length = ps.length → BindsTo s fd ⟨us, []⟩ (ps.zip (us ++ ds))
/-- every parameter is given -/
theorem Binds.all {K : PySem.W.Frag} {fd : FuncData} {ps : List Str} (h : ∀ us : List Value, us.length = ps.length → bindArgs fd ⟨us, []⟩ = pure (ps.zip us)) : Binds K fd ps [] := fun s us _ hl => by
  rw [List.append_nil] at hl ⊢
  exact .of_eq (h us hl)
/-- an exception of a callee reaches what this body wants of exceptions -/
def Passes (CX : CXT) (X : Cx) (E : XK) : Prop := ∀ (pins : List (Addr × Obj)) (σ : St) (H : Hp) (s : Shared) (e : Value) (s' : Shared), Inv X pins σ H s → CX X.stack H s E e s' → X.xe e s'
section
variable {X : Cx} {CX : CXT} {k : Nat} {f C : Addr} {fd : FuncData} {ps : List Str} {sp : Sp} {dvs : List V} {ds : List Value} {E : XK} {x m : Str} {p pos apos : Pos} {e o : Expr} {es : List Expr} {ta : TE} {t : TA}
/-- the callee runs -/
theorem run_fn {pins : List (Addr × Obj)} {σ : St} {H : Hp} {s : Shared} {Q : VK} {us : List Value} {vs : List V} (F : FnOk X.prog X.w X.K X.mg X.base CX k f fd ps sp) (hr : Room k X.A) (hb : Binds X.K fd ps ds) (hd : Vals dvs ds) (hx : Passes CX X E)
    (I : Inv X pins σ H s) (r : Vals vs us) (h : sp (vs ++ dvs) H Q E) : wpAny (model X.prog X.w) X.A (call (.ref f) us) (EP X pins σ Q) X.xe s := by
  have r2 : Vals (vs ++ dvs) (us ++ ds) := r.append hd
  have hl : (us ++ ds).length = ps.length := by rw [← r2.length]; exact F.len _ _ _ _ h
  refine wpAny_call (codeAny_mono (F.run X.A X.stack s H ⟨us, []⟩ (us ++ ds) (vs ++ dvs) Q E hr I.env0 (hb s us I.kIn hl) r2 h) fun r s' hq => ?_)
  cases r with
  | error e => exact hx pins σ H s e s' I hq
  | ok fl =>
    cases fl with
    | ret u => exact I.after hq
    | next => exact False.elim hq
    | brk => exact False.elim hq
    | cont => exact False.elim hq
theorem pe_call (F : FnOk X.prog X.w X.K X.mg X.base CX k f fd ps sp) (hr : Room k X.A) (hg : Gl X x) (hm : X.mg x = some (.ref f)) (hk : PySem.W.keepIn X.K (.ref f) = true) (hb : Binds X.K fd ps ds) (hd : Vals dvs ds) (hx : Passes CX X E)
    (ha : PA X (e :: es) t) (hdb : (x == ("__debug__" : Str)) = false := by decide) (he : starEach (e :: es) X.env = (false, eval e X.env) :: starEach es X.env := by rfl) (hpl : (backTo pos (starEach es X.env)).any (·.1) = false := by rfl) :
    PE X (.Call (.Name x p) (e :: es) [] pos) (tCall sp dvs E t) := by
  intro pins s σ H Q I h
  refine wpAny_Call_Name_kw (ld_glob I hg hm ?_ hdb)
  refine PySem.W.callWith_K (h₀ := X.base) I.ok.mod.kin hk (thn (ha pos pins s σ H _ I h) fun us s1 ⟨vs, H1, I1, r, q⟩ => ⟨I1.kIn, ?_⟩) he hpl
  exact run_fn F hr hb hd hx I1 r q
/-- o.m(e, ..) -/
theorem pe_meth {pl : Sem Bool} (he : PE X o ta) (c : Cls X.K C) (hm : Meth X.K C m f) (F : FnOk X.prog X.w X.K X.mg X.base CX k f fd ps sp) (hr : Room k X.A) (hb : Binds X.K fd ps ds) (hd : Vals dvs ds) (hx : Passes CX X E) (ha : PA X (e :: es) t)
    (hst : starEach (e :: es) X.env = (false, eval e X.env) :: starEach es X.env := by rfl) (hpl : (backTo pos (starEach es X.env)).any (·.1) = false := by rfl)
    (ht : eval (.Call (.Attribute o m apos) (e :: es) [] pos) X.env = (do
      let ov ← eval o X.env
      standAt apos.atName
      let (f, first) ← holding [ov] (getMethod ov m pl)
      callWith pos f first (backTo pos (starEach (e :: es) X.env)) (backToKw pos (keywordEach [] X.env))) := by rfl) :
    PE X (.Call (.Attribute o m apos) (e :: es) [] pos) (tMeth C m sp dvs E ta t) := by
  intro pins s σ H Q I h
  refine PySem.W.methodCall_KW (pl := pl) (thn (he pins s σ H _ I h) fun u s1 ⟨x, H1, I1, rx, a, dx, fs, ex, ea, l, q⟩ => ?_) ht
  subst ex
  obtain rfl : u = Value.ref a := rx
  refine getmeth_ok I1 ea c hm l ?_
  refine PySem.W.callWith_K (first := [.ref a]) (h₀ := X.base) I.ok.mod.kin hm.kp (thn (ha pos pins s1 σ H1 _ I1 q) fun us s2 ⟨vs, H2, I2, r, q2⟩ => ⟨I2.kIn, ?_⟩) hst hpl
  exact run_fn (us := .ref a :: us) (vs := .ref a :: vs) F hr hb hd hx I2 (.cons rfl r) q2
/-- o.m() -/
theorem pe_meth0 {pl : Sem Bool} (he : PE X o ta) (c : Cls X.K C) (hm : Meth X.K C m f) (F : FnOk X.prog X.w X.K X.mg X.base CX k f fd ps sp) (hr : Room k X.A) (hb : Binds X.K fd ps ds) (hd : Vals dvs ds) (hx : Passes CX X E)
    (ht : eval (.Call (.Attribute o m apos) [] [] pos) X.env = (do
      let ov ← eval o X.env
      standAt apos.atName
      let (f, first) ← holding [ov] (getMethod ov m pl)
      callWith pos f first (backTo pos (starEach [] X.env)) (backToKw pos (keywordEach [] X.env))) := by rfl) :
    PE X (.Call (.Attribute o m apos) [] [] pos) (tMeth C m sp dvs E ta tNil) := by
  intro pins s σ H Q I h
  refine PySem.W.methodCall_KW (pl := pl) (thn (he pins s σ H _ I h) fun u s1 ⟨x, H1, I1, rx, a, dx, fs, ex, ea, l, q⟩ => ?_) ht
  subst ex
  obtain rfl : u = Value.ref a := rx
  refine getmeth_ok I1 ea c hm l ?_
  exact PySem.W.callWith_K0 (first := [.ref a]) I1.kIn hm.kp (run_fn (us := [.ref a]) (vs := [.ref a]) F hr hb hd hx I1 (.cons rfl .nil) q)
/-- what a class must have to be made -/
structure Mk (K : PySem.W.Frag) (C f : Addr) : Prop where
  makes : PySem.W.makesIn K C = true
  init : PySem.W.findIn K (.ref C) "__init__" = some (some (.ref f))
  fn : PySem.W.isFn K (.ref f) = true
  kp : PySem.W.keepIn K (.ref C) = true
theorem run_make {pins : List (Addr × Obj)} {σ : St} {H : Hp} {s : Shared} {Q : VK} {us : List Value} {vs : List V} (M : Mk X.K C f) (F : FnOk X.prog X.w X.K X.mg X.base CX k f fd ps sp) (hr : Room (k + 1) X.A) (hb : Binds X.K fd ps ds) (hd : Vals dvs ds)
    (hx : Passes CX X E) (I : Inv X pins σ H s) (r : Vals vs us)
    (h : ∀ x dx, H x = none → H dx = none → dx ≠ x → sp (.ref x :: (vs ++ dvs)) (upd (upd H dx (.own x)) x (.ins C dx [])) (fun v H2 => v = .non ∧ Q (.ref x) H2) E) :
    wpAny (model X.prog X.w) X.A (call (.ref C) us) (EP X pins σ Q) X.xe s := by
  have hq := h (s.heap.objs.size + 1) s.heap.objs.size (I.hok.fresh (Nat.le_succ _)) (I.hok.fresh (Nat.le_refl _)) (Nat.ne_of_lt (Nat.lt_succ_self _))
  have I2 := Inv.made (C := C) I
  have r2 : Vals (V.ref (s.heap.objs.size + 1) :: (vs ++ dvs)) (Value.ref (s.heap.objs.size + 1) :: (us ++ ds)) := .cons rfl (r.append hd)
  have hl : (Value.ref (s.heap.objs.size + 1) :: us ++ ds).length = ps.length := by
    have e := r2.length
    rw [F.len _ _ _ _ hq] at e
    exact e.symm
  refine wpAny_call (make_map (f := f) I.kIn M.makes M.init (beq_iff_eq.mp M.fn) (codeAny_mono (F.run _ X.stack _ _ ⟨Value.ref (s.heap.objs.size + 1) :: us, []⟩ (Value.ref (s.heap.objs.size + 1) :: (us ++ ds)) _ _ E (hr.make C us [])
    (I2.env0.make C us []) (hb _ (Value.ref (s.heap.objs.size + 1) :: us) I2.kIn hl) r2 hq) fun r s' hq' => ?_))
  cases r with
  | error e => exact hx pins σ _ _ e s' I2 hq'
  | ok fl =>
    cases fl with
    | ret u =>
      obtain ⟨v, H', I3, rv, ev, q3⟩ := I2.after hq'
      subst ev
      exact ⟨rv, ⟨V.ref (s.heap.objs.size + 1), H', I3, rfl, q3⟩⟩
    | next => exact False.elim hq'
    | brk => exact False.elim hq'
    | cont => exact False.elim hq'
theorem pe_make (M : Mk X.K C f) (F : FnOk X.prog X.w X.K X.mg X.base CX k f fd ps sp) (hr : Room (k + 1) X.A) (hg : Gl X x) (hm : X.mg x = some (.ref C)) (hb : Binds X.K fd ps ds) (hd : Vals dvs ds) (hx : Passes CX X E)
    (ha : PA X (e :: es) t) (hdb : (x == ("__debug__" : Str)) = false := by decide) (he : starEach (e :: es) X.env = (false, eval e X.env) :: starEach es X.env := by rfl) (hpl : (backTo pos (starEach es X.env)).any (·.1) = false := by rfl) :
    PE X (.Call (.Name x p) (e :: es) [] pos) (tMake C sp dvs E t) := by
  intro pins s σ H Q I h
  refine wpAny_Call_Name_kw (ld_glob I hg hm ?_ hdb)
  refine PySem.W.callWith_K (h₀ := X.base) I.ok.mod.kin M.kp (thn (ha pos pins s σ H _ I h) fun us s1 ⟨vs, H1, I1, r, q⟩ => ⟨I1.kIn, ?_⟩) he hpl
  exact run_make M F hr hb hd hx I1 r q
theorem pe_make0 (M : Mk X.K C f) (F : FnOk X.prog X.w X.K X.mg X.base CX k f fd ps sp) (hr : Room (k + 1) X.A) (hg : Gl X x) (hm : X.mg x = some (.ref C)) (hb : Binds X.K fd ps ds) (hd : Vals dvs ds) (hx : Passes CX X E)
    (hdb : (x == ("__debug__" : Str)) = false := by decide) : PE X (.Call (.Name x p) [] [] pos) (tMake C sp dvs E tNil) := by
  intro pins s σ H Q I h
  refine wpAny_Call_Name_kw (ld_glob I hg hm ?_ hdb)
  exact PySem.W.callWith_K0 I.kIn M.kp (run_make (us := []) M F hr hb hd hx I .nil h)
end
section
variable {X : Cx} {CX : CXT} {k : Nat} {f C : Addr} {fd : FuncData} {ps ks : List Str} {sp : Sp} {E : XK} {x m : Str} {p pos apos kpos : Pos} {e o : Expr} {es : List Expr} {kws : List Keyword} {te ta : TE} {t tk : TA} {nm : Option Str}
/-- how a call with keywords binds: g puts the positional values us and the keywords' values ws (names ks) in the parameters' order, defaults among them -/
structure KBinds (K : PySem.W.Frag) (fd : FuncData) (ps ks : List Str) (g : List Value → List Value → List Value) (gV : List V → List V → List V) : Prop where
  to : ∀ (s : Shared) (us ws : List Value), K.In s.heap → (g us ws).length = ps.length → BindsTo s fd ⟨us, ks.zip ws⟩ (ps.zip (g us ws))
  rel : ∀ {vs : List V} {us : List Value} {zs : List V} {ws : List Value}, Vals vs us → Vals zs ws → Vals (gV vs zs) (g us ws)
variable {g : List Value → List Value → List Value} {gV : List V → List V → List V}
end
/-- names: the parameters first -/
structure FnScope (N P : List Str) (sc : Scope) : Prop where
  kind : sc.kind = .function
  co : sc.isCoroutine = false
  gen : sc.isGenerator = false
  nd : N.Nodup
  pre : N.take P.length = P
  par : ∀ x ∈ P, sc.names.lookup x = some .local ∨ sc.names.lookup x = some .cell
  nofree : ∀ y ∈ sc.names, y.2 ≠ .free
theorem bindL_out {kindOf : Str → Option NameKind} {x : Str} : ∀ {binds : List (Str × Value)} {m : Str → Option Value}, (∀ v, (x, v) ∉ binds) → bindL kindOf binds m x = m x
  | [], _, _ => rfl
  | (n, v) :: r, m, h => by
    unfold bindL
    rw [bindL_out fun w hw => h w (List.mem_cons_of_mem _ hw)]
    split
    · have : x ≠ n := by rintro rfl; exact h v List.mem_cons_self
      simp [this]
    · rfl
theorem bindC_out {kindOf : Str → Option NameKind} {x : Str} : ∀ {binds : List (Str × Value)} {m : Str → Option Value}, (∀ v, (x, v) ∉ binds) → bindC kindOf binds m x = m x
  | [], _, _ => rfl
  | (n, v) :: r, m, h => by
    unfold bindC
    rw [bindC_out fun w hw => h w (List.mem_cons_of_mem _ hw)]
    split
    · rfl
    · have : x ≠ n := by rintro rfl; exact h v List.mem_cons_self
      simp [this]
theorem bindL_get {kindOf : Str → Option NameKind} {x : Str} {v : Value} : ∀ {P : List Str} {vs : List Value} {i : Nat} {m : Str → Option Value}, P.Nodup → P[i]? = some x → vs[i]? = some v → kindOf x = some .local →
    bindL kindOf (P.zip vs) m x = some v
  | [], _, _, _, _, h, _, _ => by simp at h
  | _ :: _, [], _, _, _, _, h, _ => by simp at h
  | p :: P, w :: vs, 0, m, nd, h1, h2, hk => by
    simp at h1 h2; subst h1; subst h2
    show bindL kindOf ((p, w) :: P.zip vs) m p = _
    unfold bindL
    rw [bindL_out fun v hv => (List.nodup_cons.mp nd).1 (List.of_mem_zip hv).1, if_pos hk]
    simp
  | p :: P, w :: vs, i + 1, m, nd, h1, h2, hk => by
    show bindL kindOf ((p, w) :: P.zip vs) m x = _
    unfold bindL
    exact bindL_get (i := i) (List.nodup_cons.mp nd).2 (by simpa using h1) (by simpa using h2) hk
theorem bindC_get {kindOf : Str → Option NameKind} {x : Str} {v : Value} : ∀ {P : List Str} {vs : List Value} {i : Nat} {m : Str → Option Value}, P.Nodup → P[i]? = some x → vs[i]? = some v → kindOf x ≠ some .local →
    bindC kindOf (P.zip vs) m x = some v
  | [], _, _, _, _, h, _, _ => by simp at h
  | _ :: _, [], _, _, _, _, h, _ => by simp at h
  | p :: P, w :: vs, 0, m, nd, h1, h2, hk => by
    simp at h1 h2; subst h1; subst h2
    show bindC kindOf ((p, w) :: P.zip vs) m p = _
    unfold bindC
    rw [bindC_out fun v hv => (List.nodup_cons.mp nd).1 (List.of_mem_zip hv).1, if_neg hk]
    simp
  | p :: P, w :: vs, i + 1, m, nd, h1, h2, hk => by
    show bindC kindOf ((p, w) :: P.zip vs) m x = _
    unfold bindC
    exact bindC_get (i := i) (List.nodup_cons.mp nd).2 (by simpa using h1) (by simpa using h2) hk
/-- the names' values at the entry -/
def start (N : List Str) (vs : List V) : St := vs.map some ++ List.replicate (N.length - vs.length) none
/-- the context of a def's body, at its entry; an exception leaves the frame, then lies as CX says -/
def cxOf (CX : CXT) (P : Program) (w : World) (K : PySem.W.Frag) (mg : Str → Option Value) (base : Heap) (N : List Str) (qual : Str) (scope : Scope) (f : Addr) (cd : Value) (A : Around) (outer : List Env) (s : Shared) (H : Hp) (E : XK) : Cx where
  prog := P
  w := w
  K := K
  mg := mg
  base := base
  A := A.deeper (envOfC qual scope s.heap.objs.size f cd)
  N := N
  s_0 := s
  H_0 := H
  env := envOfC qual scope s.heap.objs.size f cd
  outer := outer
  stack := envOfC qual scope s.heap.objs.size f cd :: outer
  ex := []
  calm := true
  fn := fun _ => true
  pn := []
  xe := fun e s' => wpAny (model P w) (A.deeper (envOfC qual scope s.heap.objs.size f cd)) (leaving (envOfC qual scope s.heap.objs.size f cd) e) (fun _ s'' => CX outer H s E e s'') (fun e' s'' => CX outer H s E e' s'') s'
theorem cell_has {sc : Scope} {n : Nat} {x : Str} (h : sc.names.lookup x = some .cell) : ∃ c, (cellsFrom n sc.names []).lookup x = some c := by
  have q := PySem.W.cellsFrom_some sc.names n [] (.inl h)
  exact Option.isSome_iff_exists.mp q
theorem inv_start {CX : CXT} {P : Program} {w : World} {K : PySem.W.Frag} {mg : Str → Option Value} {base : Heap} {N ps : List Str} {qual : Str} {scope : Scope} {f : Addr} {cd : Value} {A : Around} {outer : List Env} {s s1 : Shared} {H : Hp} {E : XK} {us : List Value} {vs : List V}
    (S : FnScope N ps scope) (hd : A.handled = none) (e0 : Env0 P w K mg base A outer s H) (hl : vs.length = ps.length) (r : Vals vs us)
    (x : InCallC s s.heap.objs.size (bindL (envOfC qual scope s.heap.objs.size f cd).kindOf (ps.zip us) fun _ => none) (cellsFrom (s.heap.objs.size + 1) scope.names []) (bindC (envOfC qual scope s.heap.objs.size f cd).kindOf (ps.zip us) fun _ => none) s1) :
    Inv (cxOf CX P w K mg base N qual scope f cd A outer s H E) [] (start N vs) H s1 := by
  have hpl : ps.length ≤ N.length := by have := congrArg List.length S.pre; rw [List.length_take] at this; omega
  obtain ⟨h1, tk, rfl, hk⟩ := x.done
  have noA : ∀ b : Addr, b ∉ (cxOf CX P w K mg base N qual scope f cd A outer s H E).ex := fun b z => absurd (show b ∈ ([] : List Addr) from z) (by simp)
  refine ⟨⟨e0.mod, S.kind, rfl, rfl, Nat.le_refl _, fun y z c h1 h2 => ?_, fun y hy => ?_, fun y c _ h => ?_, fun _ => hd, Around.frames_deeper e0.frames, .inr ⟨rfl, rfl⟩, fun b z => absurd z (noA b), e0.bs, e0.bsz, fun b _ _ => noA b, fun b z => absurd z (noA b), e0.funs, e0.frf⟩,
    rfl, e0.bare, Un.kept hk, ⟨_, x.toInCall.ns, fun i y v h1 h2 h3 => ?_⟩, fun y c h => ⟨_, x.cell y c h⟩, e0.hok.fresh (Nat.le_refl _), fun y c h => ?_, fun p hp => absurd (show p ∈ ([] : List (Addr × Obj)) from hp) (by simp), e0.hok.kept hk, ?_⟩
  · exact name_of_addr x.apart (PySem.mem_of_lookup h1) (PySem.mem_of_lookup h2)
  · have hy : scope.names.lookup y = some .cell ∨ scope.names.lookup y = some .free := hy
    rcases hy with hy | hy
    · exact cell_has hy
    · exact absurd rfl (S.nofree _ (PySem.mem_of_lookup hy))
  · exact Nat.le_of_lt (x.above y c (PySem.mem_of_lookup h))
  · have hi : i < vs.length := by
      unfold start at h2
      by_cases hi : i < vs.length
      · exact hi
      · rw [List.getElem?_append_right (by simpa using hi)] at h2
        rw [List.getElem?_replicate] at h2
        split at h2 <;> cases h2
    have ha : vs[i]? = some v := by
      unfold start at h2
      rw [List.getElem?_append_left (by simpa using hi), List.getElem?_map] at h2
      cases e : vs[i]? with
      | none => rw [e] at h2; cases h2
      | some a => rw [e] at h2; cases h2; rfl
    obtain ⟨u, hu, rv⟩ := r.get ha
    have hp : ps[i]? = some y := by
      rw [← S.pre, List.getElem?_take_of_lt (by omega)]; exact h1
    have ndP : ps.Nodup := by rw [← S.pre]; exact S.nd.sublist (List.take_sublist _ _)
    refine ⟨u, rv, ?_⟩
    rcases S.par y (List.mem_of_getElem? hp) with k | k
    · exact .inl ⟨k, bindL_get ndP hp hu k⟩
    · obtain ⟨c, e⟩ := cell_has (n := s.heap.objs.size + 1) k
      refine .inr ⟨.inl k, c, e, ?_⟩
      have q := x.cell y c e
      rw [bindC_get ndP hp hu (by show scope.names.lookup y ≠ _; rw [k]; decide)] at q
      exact q
  · exact e0.hok.fresh (Nat.le_of_lt (x.above y c (PySem.mem_of_lookup h)))
  · unfold start
    show _ = N.length
    rw [List.length_append, List.length_map, List.length_replicate]
    omega
/-- THE RULE: a def (or a method) of the text, by its body. The body's reading t is chosen for each entry; it is run at the parameters' values -/
theorem fn_of {CX : CXT} {P : Program} {w : World} {K : PySem.W.Frag} {mg : Str → Option Value} {base : Heap} {k : Nat} {f : Addr} {name qual : Str} {params : Arguments} {body : List Stmt} {scope : Scope} {dV kV doc pm cdv ct oc : Value} {an od : Option Addr}
    {osl : Array (Option Value)} {N ps : List Str} {sp : Sp} (lk : K.lookup f = some ⟨oc, od, .func (PySem.W.fnOf name qual params body scope dV kV doc pm an cdv ct), osl⟩) (hcd : PySem.W.codeIn K cdv qual = true) (S : FnScope N ps scope)
    (len : ∀ vs H Q E, sp vs H Q E → vs.length = ps.length)
    (hbody : ∀ (A : Around) (outer : List Env) (s : Shared) (H : Hp) (vs : List V) (Q : VK) (E : XK), Room k (A.deeper (envOfC qual scope s.heap.objs.size f cdv)) → sp vs H Q E →
      ∃ t, PSs (cxOf CX P w K mg base N qual scope f cdv A outer s H E) body t ∧ t { nx := fun _ H' => Q .non H', rt := Q } (start N vs) H) :
    FnOk P w K mg base CX (k + 1) f (PySem.W.fnOf name qual params body scope dV kV doc pm an cdv ct) ps sp := by
  refine ⟨len, fun A outer s H args us vs Q E hr e0 hb r hsp => ?_⟩
  have hl := len _ _ _ _ hsp
  have KX : K.In s.heap := e0.mod.kin.keeps fun b o e => (e0.bs b o e).1
  have lim : s.heap.NoLimit := e0.mod.nolimit.keeps fun b o e => (e0.bs b o e).1
  have hkind : ∀ y ∈ ps.zip us, scope.names.lookup y.1 = some .local ∨ (scope.names.lookup y.1 = some .cell ∧ ((cellsFrom (s.heap.objs.size + 1) scope.names []).lookup y.1).isSome = true) := fun ⟨n, v⟩ hy => by
    rcases S.par n (List.of_mem_zip hy).1 with q | q
    · exact .inl q
    · exact .inr ⟨q, PySem.W.cellsFrom_some _ _ _ (.inl q)⟩
  refine codeAny_call_function hr.depth (KX _ _ lk) rfl S.co S.gen rfl (PySem.W.codeRec_of KX hcd) (hb _ _ _ _ ?_)
  refine wpAny_newFunctionEnv_cells S.kind hkind fun env he s1 x => ?_
  subst he
  refine ⟨lim.keeps x.toInCall.keep, codeAny_func ?_⟩
  obtain ⟨t, ht, hq⟩ := hbody A outer s H vs Q E (hr.deeper _) hsp
  have I : Inv (cxOf CX P w K mg base N qual scope f cdv A outer s H E) [] (start N vs) H s1 := inv_start S hr.hd e0 hl r x
  refine wpAny_mono (ht [] s1 (start N vs) H _ I hq) (fun fl s' hs => ?_) fun e s' hs => hs
  have fin : ∀ {σ' : St} {H' : Hp} {v : V} {u : Value}, Inv (cxOf CX P w K mg base N qual scope f cdv A outer s H E) [] σ' H' s' → RelV v u → Q v H' → CE outer P w H s Q u s' :=
    fun {σ' H' v u} J rv q => ⟨v, H', J.os, J.bare, J.base, J.hok, rv, q⟩
  cases fl with
  | ret u =>
    obtain ⟨v, σ', H', J, rv, q⟩ := hs
    exact fin J rv q
  | next =>
    obtain ⟨σ', H', J, q⟩ := hs
    exact fin (v := V.non) (u := Value.none) J rfl q
  | brk =>
    obtain ⟨_, _, _, q⟩ := hs
    exact False.elim q
  | cont =>
    obtain ⟨_, _, _, q⟩ := hs
    exact False.elim q
end L2
namespace L2
open PySem PySem.Spec PyProof.Rows
section
variable {X : Cx} {x : Str} {p pos : Pos} {e : Expr} {es : List Expr} {t : TA} {id T : String} {r : List V → Hp → VK → Prop}
def tCB (r : List V → Hp → VK → Prop) (t : TA) : TE := fun σ H Q => t σ H fun vs H1 => r vs H1 Q
/-- f(e, ..), f a built-in function -/
theorem pe_callB (hc : CallR X (.builtin id) r) (hg : Gl X x) (hm : X.mg x = none) (hv : bootBuiltins x = some (.builtin id)) (ha : PA X (e :: es) t) (hn : x ≠ "__name__" := by decide) (hdb : (x == ("__debug__" : Str)) = false := by decide)
    (he : starEach (e :: es) X.env = (false, eval e X.env) :: starEach es X.env := by rfl) (hpl : (backTo pos (starEach es X.env)).any (·.1) = false := by rfl) : PE X (.Call (.Name x p) (e :: es) [] pos) (tCB r t) := by
  intro pins s σ H Q I h
  refine wpAny_Call_Name_kw (ld_blt I hg hm hv ?_ hn hdb)
  exact PyProof.Rows.callWith_builtin1 (thn (ha pos pins s σ H _ I h) fun us s1 ⟨vs, H1, I1, r1, q1⟩ => hc pins s1 σ H1 vs us Q I1 r1 q1) he hpl
end
end L2
namespace HT
open PySem PyProof.Rows
/-- t < u of tuples of ints -/
def lexLt : List Int → List Int → Bool
  | [], [] => false
  | [], _ :: _ => true
  | _ :: _, [] => false
  | x :: xs, y :: ys => if x = y then lexLt xs ys else decide (x < y)
theorem lexLt_cons (x y : Int) (xs ys : List Int) : lexLt (x :: xs) (y :: ys) = if x = y then lexLt xs ys else decide (x < y) := rfl
theorem lexLt_nil_nil : lexLt [] [] = false := rfl
theorem lexLt_nil_cons (y : Int) (ys : List Int) : lexLt [] (y :: ys) = true := rfl
theorem lexLt_cons_nil (x : Int) (xs : List Int) : lexLt (x :: xs) [] = false := rfl
theorem eqAt_int (A : Around) (s : Shared) (a : Int) (t : Tok) (c : Int) (u : Tok) : ∃ e, SeqAt.EqAt A s (.int a t) (.int c u) e ∧ (e = true ↔ a = c) :=
  ⟨(a == c), SeqAt.EqAt.int_int a t c u, by simp⟩
theorem rcLt_int (A : Around) (s : Shared) (a : Int) (t : Tok) (c : Int) (u : Tok) (prog : Program) (w : World) (E : Value → Shared → Prop) (Q : Value → Shared → Prop) (h : Q (.bool (decide (a < c))) s) :
    wpAny (model prog w) A (richCompare .Lt (.int a t) (.int c u)) Q E s :=
  (PyProof.Rows.lt_int h : wpAny (model prog w) A (compareOp .Lt (.int a t) (.int c u)) Q E s)
section
open PySem.SeqAt
open PySem.AutoSeq1 (wpAny_loadPart')
open PySem.MeetsSeq PySem.MeetsSeq2 PySem.MeetsSeq3
theorem tuple_lt_ints (l b : Addr) (items items2 : Array Value) (n n2 : Nat) (dd dd2 : Option Addr) (sl sl2 : Array (Option Value)) (ns ms : List Int) (hi : IntsAre items.toList ns) (hj : IntsAre items2.toList ms) :
    Meets (Builtin.«tuple.__lt__» ⟨[.ref l, .ref b], []⟩)
      (fun _ R s => s.heap.get? l = some { cls := .type "tuple", dict := dd, data := .seq items n, slots := sl } ∧ s.heap.get? b = some { cls := .type "tuple", dict := dd2, data := .seq items2 n2, slots := sl2 } ∧
        R (.ok (.ret (.bool (lexLt ns ms)))) s) :=
  .of_wp fun prog w A R s h => by
    obtain ⟨hp, g, d, tk, os⟩ := s; obtain ⟨hl, hb, h⟩ := h
    have f2 := AutoSeq1.sub_tuple_tuple
    have z1 : items.size = ns.length := by rw [← hi.length]; simp
    have z2 : items2.size = ms.length := by rw [← hj.length]; simp
    wp_walk using wpAny_loadPart' hl, wpAny_loadPart' hb, wpAny_forIn_list _ (fun rest b s' => b.1 = none ∧ s' = ⟨hp, g, d, tk, os⟩ ∧ ∃ (vs ws : List Value) (ns' ms' : List Int), rest = vs.zip ws ∧
      IntsAre vs ns' ∧ IntsAre ws ms' ∧ ns'.length + items2.size = ms'.length + items.size ∧ R (.ok (.ret (.bool (lexLt ns' ms')))) ⟨hp, g, d, tk, os⟩) _
    case turn =>
      rintro ⟨y, x⟩ rest b s' ⟨hb', rfl, vs, ws, ns', ms', hz, hvi, hwi, hlen, hR⟩
      cases hvi with
      | nil => rw [List.zip_nil_left] at hz; cases hz
      | cons a t hvi' =>
        cases hwi with
        | nil => rw [List.zip_nil_right] at hz; cases hz
        | cons c u hwi' =>
          rw [List.zip_cons_cons] at hz
          injection hz with hyx hrest
          injection hyx with hy hx
          subst hy hx
          rw [lexLt_cons] at hR
          simp only [List.length_cons] at hlen
          obtain ⟨e, he, hiff⟩ := eqAt_int A.in1 ⟨hp, g, d, tk, os⟩ a t c u
          refine wpAny_bind (he prog w _ _ ?_)
          cases e with
          | true =>
            rw [if_pos (hiff.mp rfl)] at hR
            wp_walk
            exact ⟨rfl, rfl, _, _, _, _, hrest, hvi', hwi', by omega, hR⟩
          | false =>
            rw [if_neg (fun q => absurd (hiff.mpr q) Bool.false_ne_true)] at hR
            have hri := rcLt_int A.in1 ⟨hp, g, d, tk, os⟩ a t c u prog w
            wp_walk using hri
            exact ⟨_, rfl, by simpa using hR⟩
    case fin =>
      rintro ⟨b1, b2⟩ s' ⟨hb', rfl, vs, ws, ns', ms', hz, hvi, hwi, hlen, hR⟩
      simp only at hb'
      subst hb'
      have hv : lexLt ns' ms' = decide (items.size < items2.size) := by
        cases hvi with
        | nil =>
          cases hwi with
          | nil =>
            simp only [List.length_nil] at hlen
            rw [lexLt_nil_nil]
            exact (decide_eq_false (by omega)).symm
          | cons c u hw =>
            simp only [List.length_nil, List.length_cons] at hlen
            rw [lexLt_nil_cons]
            exact (decide_eq_true (by omega)).symm
        | cons a t hv =>
          cases hwi with
          | nil =>
            simp only [List.length_nil, List.length_cons] at hlen
            rw [lexLt_cons_nil]
            exact (decide_eq_false (by omega)).symm
          | cons c u hw =>
            rw [List.zip_cons_cons] at hz
            cases hz
      rw [hv] at hR
      wp_walk
      exact ⟨_, rfl, by simpa [Builtin.Tuple.tupleCompareSizes] using hR⟩
    case h =>
      exact ⟨rfl, rfl, items.toList, items2.toList, ns, ms, rfl, hi, hj, by omega, h⟩
end
section
variable {prog : Program} {w : World} {A : Around} {E : Value → Shared → Prop} {s : Shared}
theorem lt_tupInts {l b : Addr} {items items2 : Array Value} {ns ms : List Int} {Q : Value → Shared → Prop} (hl : IsTup s.heap l items) (hb : IsTup s.heap b items2) (hi : IntsAre items.toList ns) (hj : IntsAre items2.toList ms)
    (hu : A.units < cLine) (h : Q (.bool (lexLt ns ms)) s) : wpAny (model prog w) A (compareOp .Lt (.ref l) (.ref b)) Q E s := by
  obtain ⟨⟨cls, dd, data, sl⟩, ho, hc, n, hd⟩ := id hl
  obtain ⟨⟨cls2, dd2, data2, sl2⟩, ho2, hc2, n2, hd2⟩ := id hb
  simp only at hc hd hc2 hd2
  subst hc hd hc2 hd2
  exact richCompare_meets_room (op := .Lt) ⟨_, ho, rfl⟩ ⟨_, ho2, rfl⟩ PySem.F.slot_tuple_lt PySem.F.entry_tuple_lt (PySem.F.args_tuple_lt_2 _ _) (tuple_lt_ints l b items items2 n n2 dd dd2 sl sl2 ns ms hi hj)
    ⟨ho, ho2, show Value.bool (lexLt ns ms) ≠ Value.notImplemented ∧ Q (.bool (lexLt ns ms)) s from ⟨(fun x => nomatch x), h⟩⟩ hu
/-- a slice's bound as a place among n (d where it is left out) -/
def sIx (n d : Nat) : Option Int → Nat
  | none => d
  | some v => if v < 0 then (v + (n : Int)).toNat else min v.toNat n
theorem sIx_none (n d : Nat) : sIx n d none = d := rfl
theorem sIx_nat (n d k : Nat) : sIx n d (some (k : Int)) = min k n := by
  show (if (k : Int) < 0 then ((k : Int) + (n : Int)).toNat else min (k : Int).toNat n) = min k n
  rw [if_neg (by omega), Int.toNat_natCast]
end
end HT
namespace L2
open PySem PySem.Spec PyProof.Rows
abbrev TO := St → Hp → (Option Int → Hp → Prop) → Prop
/-- a slice's part (left out, or an int) -/
def PO (X : Cx) (e : Option Expr) (t : TO) : Prop :=
  ∀ (pins : List (Addr × Obj)) (s : Shared) (σ : St) (H : Hp) (Q : Option Int → Hp → Prop), Inv X pins σ H s → t σ H Q →
    wpAny (model X.prog X.w) X.A (evalPart e X.env) (fun u s' => ∃ o H', Inv X pins σ H' s' ∧ IsPart u o ∧ Q o H') X.xe s
def tNoPart : TO := fun _ H Q => Q none H
def tPart (t : TE) : TO := fun σ H Q => t σ H fun x H1 => ∃ i, x = .int i ∧ Q (some i) H1
theorem intsAre_of {ns : List Int} : ∀ {us : List Value}, Vals (ns.map V.int) us → IntsAre us ns := by
  induction ns with
  | nil => intro us r; rw [List.map_nil] at r; cases r; exact .nil
  | cons n ns ih =>
    intro us r
    rw [List.map_cons] at r
    cases r with
    | cons r1 r2 =>
      obtain ⟨t, e⟩ := r1
      subst e
      exact .cons n t (ih r2)
section
variable {X : Cx} {e : Expr} {te : TE} {lo hi : Option Expr} {tl th : TO} {pos p2 : Pos}
theorem po_none : PO X none tNoPart := by
  intro pins s σ H Q I h
  rw [evalPart_none]
  exact wpAny_pure ⟨none, H, I, .none, h⟩
theorem po_some (h : PE X e te) : PO X (some e) (tPart te) := by
  intro pins s σ H Q I hw
  rw [evalPart_some]
  refine thn (h pins s σ H _ I hw) fun u s1 ⟨x, H1, I1, r1, q1⟩ => ?_
  obtain ⟨i, rfl, q⟩ := q1
  obtain ⟨t, rfl⟩ := r1
  exact ⟨some i, H1, I1, .int i t, q⟩
/-- what a slice of a value is, by values: the slice object stands at sl -/
def SlR (X : Cx) (r : V → Option Int → Option Int → Hp → VK → Prop) : Prop :=
  ∀ (pins : List (Addr × Obj)) (s : Shared) (σ : St) (H : Hp) (x : V) (v vl vu : Value) (lo hi : Option Int) (sl : Addr) (Q : VK), Inv X pins σ H s → RelV x v → s.heap.IsSliceOf sl vl vu .none → IsPart vl lo → IsPart vu hi → r x lo hi H Q →
    ∃ T id, typeLookup (.type T) "__getitem__" = pure (some (.builtin id)) ∧ s.TypeIs v T ∧ wpAny (model X.prog X.w) X.A (getItem v (.ref sl)) (EP X pins σ Q) X.xe s
def tSl (r : V → Option Int → Option Int → Hp → VK → Prop) (te : TE) (tl th : TO) : TE := fun σ H Q => te σ H fun x H1 => tl σ H1 fun l H2 => th σ H2 fun u H3 => r x l u H3 Q
/-- a[lo:hi], any a -/
theorem pe_slice {r : V → Option Int → Option Int → Hp → VK → Prop} (hr : SlR X r) (he : PE X e te) (hl : PO X lo tl) (hu : PO X hi th) : PE X (.Subscript e (.Slice lo hi none p2) pos) (tSl r te tl th) := by
  intro pins s σ H Q I h
  refine Subscript_ (thn (he pins s σ H _ I h) fun v s1 ⟨x, H1, I1, r1, q1⟩ => ?_)
  refine wpAny_Slice (thn (hl pins s1 σ H1 _ I1 q1) fun vl s2 ⟨l, H2, I2, pl, q2⟩ => thn (hu pins s2 σ H2 _ I2 q2) fun vu s3 ⟨u, H3, I3, pu, q3⟩ => ?_)
  rw [evalPart_none]
  refine wpAny_pure ?_
  have I4 : Inv X pins σ H3 { s3 with heap := s3.heap.push { cls := .type "slice", data := .fields #[vl, vu, .none] } } := I3.kept (t' := s3.toks) fun b ob q => Heap.get?_push_of_some _ q
  obtain ⟨T, id, hT, ht, hg⟩ := hr pins { s3 with heap := s3.heap.push { cls := .type "slice", data := .fields #[vl, vu, .none] } } σ H3 x v vl vu l u s3.heap.objs.size Q I4 r1 (Heap.IsSliceOf.new ..) pl pu q3
  show wpAny (model X.prog X.w) X.A (subscriptTail e (.Slice lo hi none p2) v (.ref s3.heap.objs.size)) (EP X pins σ Q) X.xe { s3 with heap := s3.heap.push { cls := .type "slice", data := .fields #[vl, vu, .none] } }
  exact tail_any (ops := [.ref s3.heap.objs.size, v]) ht hT hg (by with_unfolding_all rfl)
/-- the items of xs[lo:hi] -/
def cutV (xs : List V) (lo hi : Option Int) : List V := (xs.drop (HT.sIx xs.length 0 lo)).take (HT.sIx xs.length xs.length hi - HT.sIx xs.length 0 lo)
theorem cutV_length (xs : List V) (lo hi : Option Int) : (cutV xs lo hi).length ≤ xs.length := by
  unfold cutV
  rw [List.length_take, List.length_drop]
  omega
def rLtT (K : PySem.W.Frag) : R2 := fun x y H Q => ∃ a b ns ms, x = .ref a ∧ y = .ref b ∧ SqT K H a (ns.map V.int) ∧ SqT K H b (ms.map V.int) ∧ Q (.bl (HT.lexLt ns ms)) H
theorem op_ltT (hu : X.A.units < cLine) : OpR X (compareOp .Lt) (rLtT X.K) := by
  intro pins s σ H x y v u Q I rx ry h
  obtain ⟨a, b, ns, ms, rfl, rfl, ha, hb, q⟩ := h
  cases rx
  cases ry
  obtain ⟨its, r1, p1, _⟩ := I.tuple ha
  obtain ⟨its2, r2, p2, _⟩ := I.tuple hb
  have i1 : IntsAre its.toArray.toList ns := intsAre_of r1
  have i2 : IntsAre its2.toArray.toList ms := intsAre_of r2
  exact HT.lt_tupInts p1 p2 i1 i2 hu ⟨.bl (HT.lexLt ns ms), H, I, rfl, q⟩
end
end L2
namespace L2
open PySem PySem.Spec PyProof.Rows
/-- the place that an index of any sign means -/
def ixN (n : Nat) (i : Int) : Option Nat := if 0 ≤ i then (if i < n then some i.toNat else none) else if -(n : Int) ≤ i then some (i + n).toNat else none
def atI {α : Type} (xs : List α) (i : Int) : Option α := (ixN xs.length i).bind fun j => xs[j]?
theorem ixN_seq {n : Nat} {i : Int} {j : Nat} (h : ixN n i = some j) : seqIndex? i n = some j ∧ j < n ∧ -(n : Int) ≤ i ∧ i < n := by
  unfold ixN at h
  by_cases h0 : 0 ≤ i
  · rw [if_pos h0] at h
    by_cases h1 : i < n
    · rw [if_pos h1] at h
      have e : i.toNat = j := Option.some.inj h
      exact ⟨by rw [seqIndex_of h0 h1, e], by omega, by omega, h1⟩
    · rw [if_neg h1] at h; cases h
  · rw [if_neg h0] at h
    by_cases h1 : -(n : Int) ≤ i
    · rw [if_pos h1] at h
      have e : (i + n).toNat = j := Option.some.inj h
      exact ⟨by rw [seqIndex_neg (by omega) h1, e], by omega, h1, by omega⟩
    · rw [if_neg h1] at h; cases h
theorem atI_get {α : Type} {xs : List α} {i : Int} {v : α} (h : atI xs i = some v) : ∃ j, seqIndex? i xs.length = some j ∧ xs[j]? = some v ∧ j < xs.length ∧ -(xs.length : Int) ≤ i ∧ i < xs.length := by
  unfold atI at h
  cases e : ixN xs.length i with
  | none => rw [e] at h; cases h
  | some j =>
    rw [e] at h
    obtain ⟨h1, h2, h3, h4⟩ := ixN_seq e
    exact ⟨j, h1, h, h2, h3, h4⟩
theorem atI_nat {α : Type} {xs : List α} {j : Nat} {v : α} (h : xs[j]? = some v) : atI xs (j : Int) = some v := by
  have hj : j < xs.length := (List.getElem?_eq_some_iff.mp h).1
  have e : ixN xs.length (j : Int) = some j := by
    unfold ixN
    rw [if_pos (by omega), if_pos (by omega)]; simp
  unfold atI; rw [e]; exact h
/-- what stands as an index of a plain subscript -/
def PlainIx (b : Expr) : Prop := ∀ o i, subscripted b false o i = operate [o, i] (getItem o i)
/-- a subscript by values -/
def IxR (X : Cx) (r : R2) : Prop :=
  ∀ (value slice : Expr) (pins : List (Addr × Obj)) (s : Shared) (σ : St) (H : Hp) (x y : V) (v u : Value) (Q : VK), Inv X pins σ H s → RelV x v → RelV y u → r x y H Q →
    subscripted slice false v u = operate [v, u] (getItem v u) → wpAny (model X.prog X.w) X.A (subscriptTail value slice v u) (EP X pins σ Q) X.xe s
/-- a call of a builtin's method by values: the receiver, the arguments -/
def MtR (X : Cx) (id : String) (r : V → List V → Hp → VK → Prop) : Prop :=
  ∀ (pins : List (Addr × Obj)) (s : Shared) (σ : St) (H : Hp) (x : V) (xs : List V) (v : Value) (us : List Value) (Q : VK), Inv X pins σ H s → RelV x v → Vals xs us → r x xs H Q →
    wpAny (model X.prog X.w) X.A (call (.builtin id) (v :: us)) (EP X pins σ Q) X.xe s
section
variable {X : Cx} {a b : Expr} {ta tb : TE} {pos : Pos}
/-- a[b] -/
theorem pe_ix {r : R2} (hr : IxR X r) (ha : PE X a ta) (hb : PE X b tb) (hs : PlainIx b) : PE X (.Subscript a b pos) (tOp r ta tb) := by
  intro pins s σ H Q I h
  exact Subscript_ (binT ha hb I h fun v u s2 x y H2 I2 rx ry q => hr a b pins s2 σ H2 x y v u Q I2 rx ry q (hs _ _))
def rIxL (K : PySem.W.Frag) : R2 := fun x y H Q => ∃ p xs i v, x = .ref p ∧ y = .int i ∧ SqL K H p xs ∧ atI xs i = some v ∧ Q v H
def rIxT (K : PySem.W.Frag) : R2 := fun x y H Q => ∃ p xs i v, x = .ref p ∧ y = .int i ∧ SqT K H p xs ∧ atI xs i = some v ∧ Q v H
theorem ix_list : IxR X (rIxL X.K) := by
  intro value slice pins s σ H x y v u Q I rx ry h hs
  obtain ⟨p, xs, i, z, rfl, rfl, hq, he, q⟩ := h
  cases rx
  obtain ⟨t, rfl⟩ := ry
  obtain ⟨its, r, pl, hz⟩ := I.list hq
  obtain ⟨j, h1, h2, h3, h4, h5⟩ := atI_get he
  obtain ⟨w, ew, rw'⟩ := r.get h2
  have hl := r.length
  have hn := line63
  have fin : EP X pins σ Q w s := ⟨z, H, I, rw', q⟩
  by_cases h0 : 0 ≤ i
  · have hj : i.toNat = j := by
      rw [seqIndex_of h0 h5] at h1
      exact Option.some.inj h1
    exact item_listR pl.isList h0 (by omega) (by rw [hj]; simpa using ew) fin hs
  · have hj : (i + (its.toArray.size : Int)).toNat = j := by
      rw [seqIndex_neg (by omega) h4] at h1
      rw [List.size_toArray, ← hl]
      exact Option.some.inj h1
    exact subscriptTail_builtinR (x := w) pl.isList.typeIs slot_list_getitem.lookup
      (wpAny_getItem_list_neg (Q := fun r s' => r = w ∧ EP X pins σ Q r s') pl.isList (by omega) (by rw [List.size_toArray] <;> omega) (by omega) (by rw [hj]; simpa using ew) ⟨rfl, fin⟩) hs
theorem ix_tup : IxR X (rIxT X.K) := by
  intro value slice pins s σ H x y v u Q I rx ry h hs
  obtain ⟨p, xs, i, z, rfl, rfl, hq, he, q⟩ := h
  cases rx
  obtain ⟨t, rfl⟩ := ry
  obtain ⟨its, r, pl, hz⟩ := I.tuple hq
  obtain ⟨j, h1, h2, h3, h4, h5⟩ := atI_get he
  obtain ⟨w, ew, rw'⟩ := r.get h2
  have hl := r.length
  have hn := line63
  have fin : EP X pins σ Q w s := ⟨z, H, I, rw', q⟩
  exact subscriptTail_builtinR (x := w) pl.typeIs slot_tuple_getitem.lookup
    (getItem_tuple (j := j) (Q := fun r s' => r = w ∧ EP X pins σ Q r s') pl (by omega) (by omega) (by rw [List.size_toArray, ← hl]; exact h1) (by simpa using ew) ⟨rfl, fin⟩) hs
theorem slice_bounds (lo hi : Option Int) (n : Nat) : (sliceBounds lo hi none n).1 = ((HT.sIx n 0 lo : Nat) : Int) ∧ (sliceBounds lo hi none n).2.1 = ((HT.sIx n n hi : Nat) : Int) ∧ (sliceBounds lo hi none n).2.2 = 1 := by
  refine ⟨?_, ?_, rfl⟩
  · cases lo with
    | none => simp [sliceBounds, HT.sIx]
    | some i =>
      simp only [sliceBounds, HT.sIx, Option.getD_none, show (1 : Int) > 0 by decide, if_true]
      by_cases h : i < 0
      · simp only [h, if_true] <;> omega
      · simp only [h, if_false] <;> omega
  · cases hi with
    | none => simp [sliceBounds, HT.sIx]
    | some i =>
      simp only [sliceBounds, HT.sIx, Option.getD_none, show (1 : Int) > 0 by decide, if_true]
      by_cases h : i < 0
      · simp only [h, if_true] <;> omega
      · simp only [h, if_false] <;> omega
theorem slicePick_cut (its : List Value) (lo hi : Option Int) : slicePick its.toArray lo hi none = ((its.drop (HT.sIx its.length 0 lo)).take (HT.sIx its.length its.length hi - HT.sIx its.length 0 lo)).toArray := by
  obtain ⟨h1, h2, h3⟩ := slice_bounds lo hi its.toArray.size
  unfold slicePick
  rw [h1, h2, h3]
  simp only [sliceRange_one, pick_run, List.size_toArray] <;> rfl
/-- xs[lo:hi] of a list: a new list -/
def rSlL (K : PySem.W.Frag) : V → Option Int → Option Int → Hp → VK → Prop := fun x lo hi H Q => ∃ a xs, x = .ref a ∧ SqL K H a xs ∧ ∀ p, H p = none → Q (.ref p) (upd H p (.lst (cutV xs lo hi)))
theorem sl_list : SlR X (rSlL X.K) := by
  intro pins s σ H x v vl vu lo hi sl Q I rx hs pl pu h
  obtain ⟨a, xs, rfl, hx, q⟩ := h
  cases rx
  obtain ⟨its, r, ht, hz⟩ := I.list hx
  have hlen := r.length
  refine ⟨"list", _, slot_list_getitem.lookup, ht.isList.typeIs, ?_⟩
  refine wpAny_getItem_list_slice ht.isList hs pl pu .none (by simp) ?_ (by rw [List.size_toArray] <;> omega)
  rw [slicePick_cut, ← hlen]
  refine ⟨.ref s.heap.objs.size, _, I.laid (t' := s.toks) (o := .lst (cutV xs lo hi)) (fun b ob q => Heap.get?_push_of_some _ q) (Nat.le_refl _) ?_, rfl, q _ (I.hok.fresh (Nat.le_refl _))⟩
  exact ⟨Nat.le_trans (cutV_length xs lo hi) hz, _, 0, (r.drop (HT.sIx xs.length 0 lo)).take (HT.sIx xs.length xs.length hi - HT.sIx xs.length 0 lo), Heap.get?_push_size _ rfl⟩
theorem call_len_seq : CallR X (.builtin "len") (fun xs H Q => ∃ p ys, xs = [.ref p] ∧ (SqL X.K H p ys ∨ SqT X.K H p ys) ∧ Q (.int ys.length) H) := by
  intro pins s σ H xs us Q I r h
  obtain ⟨p, ys, rfl, hq, q⟩ := h
  obtain ⟨u, rfl, rx⟩ := vals1 r
  cases rx
  have hn := line63
  rcases hq with hq | hq
  · obtain ⟨its, r', pl, hz⟩ := I.list hq
    have hlen := r'.length
    exact Calls.call_len_list pl.isList (by simp only [List.size_toArray] <;> omega) ⟨.int ys.length, H, I.tok _, ⟨s.toks + 1, by rw [List.size_toArray, hlen]⟩, q⟩
  · obtain ⟨its, r', pl, hz⟩ := I.tuple hq
    have hlen := r'.length
    exact len_tuple pl (by simp only [List.size_toArray] <;> omega) ⟨.int ys.length, H, I.tok _, ⟨s.toks + 1, by rw [List.size_toArray, hlen]⟩, q⟩
/-- the value is of that builtin type -/
def tyV (K : PySem.W.Frag) (T : String) (x : V) (H : Hp) : Prop := match x with
  | .str _ => T = "str"
  | .int _ => T = "int"
  | .ref p => (T = "list" ∧ ∃ xs, SqL K H p xs) ∨ (T = "tuple" ∧ ∃ o, K.lookup p = some o ∧ o.cls = .type "tuple" ∧ o.dict = none) ∨
      (T = "dict" ∧ ((∃ kvs, H p = some (.dK kvs)) ∨ ∃ kvs, H p = some (.dT kvs))) ∨ (T = "set" ∧ ∃ S n, H p = some (.set S n))
  | _ => False
theorem tyV_is {pins : List (Addr × Obj)} {σ : St} {H : Hp} {s : Shared} {T : String} {x : V} {v : Value} (I : Inv X pins σ H s) (r : RelV x v) (ty : tyV X.K T x H) :
    s.TypeIs v T ∧ ∀ a, v = .ref a → ∃ ob, s.heap.get? a = some ob ∧ ob.dict = none := by
  cases x with
  | str z =>
    obtain ⟨t, rfl⟩ := r
    cases (show T = "str" from ty)
    exact ⟨typeIs_str s z t, fun _ e => nomatch e⟩
  | int i =>
    obtain ⟨t, rfl⟩ := r
    cases (show T = "int" from ty)
    exact ⟨typeIs_int s i t, fun _ e => nomatch e⟩
  | ref p =>
    cases r
    rcases ty with ⟨rfl, xs, hq⟩ | ⟨rfl, o, hk, hc, hd⟩ | ⟨rfl, hk⟩ | ⟨rfl, S, n, hk⟩
    · obtain ⟨its, _, pl, _⟩ := I.list hq
      refine ⟨pl.isList.typeIs, fun a e => ?_⟩
      cases e
      obtain ⟨o, n, e, c, hd, _⟩ := pl
      exact ⟨o, e, hd⟩
    · refine ⟨⟨o, I.kIn p o hk, hc⟩, fun a e => ?_⟩
      cases e
      exact ⟨o, I.kIn _ o hk, hd⟩
    · have z : ∃ o, s.heap.get? p = some o ∧ o.ExactDict := by
        rcases hk with ⟨kvs, hk⟩ | ⟨kvs, hk⟩
        · obtain ⟨_, _, _, _, o, _, _, e, ex, _⟩ := I.hok p _ hk
          exact ⟨o, e, ex⟩
        · obtain ⟨_, _, _, _, o, _, _, e, ex, _⟩ := I.hok p _ hk
          exact ⟨o, e, ex⟩
      obtain ⟨o, e, ex⟩ := z
      refine ⟨⟨o, e, ex.1⟩, fun a e2 => ?_⟩
      cases e2
      exact ⟨o, e, ex.2.1⟩
    · obtain ⟨o, _, _, _, e, ex, _⟩ := I.hok p _ hk
      refine ⟨⟨o, e, ex.1⟩, fun a e2 => ?_⟩
      cases e2
      exact ⟨o, e, ex.2.1⟩
  | _ => exact False.elim ty
def tBM (K : PySem.W.Frag) (T : String) (r : V → List V → Hp → VK → Prop) (to : TE) (t : TA) : TE := fun σ H Q => to σ H fun x H1 => tyV K T x H1 ∧ t σ H1 fun xs H2 => r x xs H2 Q
variable {o e : Expr} {es : List Expr} {to : TE} {t : TA} {name : Str} {apos cpos : Pos} {T id : String} {r : V → List V → Hp → VK → Prop}
theorem pe_bm (pa : PlainAttrs T) (slot : Slot T name id) (hty : typeOf (.builtin id) = pure (.type "method_descriptor")) (hm : MtR X id r) (ho : PE X o to) (ha : PA X (e :: es) t)
    (hbase : attributeBase o name X.env (eval o X.env) = eval o X.env := by rfl)
    (hfew : ((backTo cpos (starEach (e :: es) X.env)).all (fun x => !x.1) && (backToKw cpos (keywordEach [] X.env)).all (fun x => x.1.isSome)
      && decide ((e :: es).length + ([] : List Keyword).length + (if ([] : List Keyword).isEmpty then 0 else 1) < 30)) = true := by rfl)
    (hline : (apos.endLine == cpos.line) = true := by rfl) (hs : starEach (e :: es) X.env = (false, eval e X.env) :: starEach es X.env := by rfl) (hplain : (backTo cpos (starEach es X.env)).any (·.1) = false := by rfl) :
    PE X (.Call (.Attribute o name apos) (e :: es) [] cpos) (tBM X.K T r to t) := by
  intro pins s σ H Q I h
  refine wpAny_Call_method_late hbase hfew hline rfl (thn (ho pins s σ H _ I h) fun v s1 ⟨x, H1, I1, r1, ty, q1⟩ => ?_)
  obtain ⟨h1, h2⟩ := tyV_is I1 r1 ty
  refine ⟨T, id, pa, slot, hty, h1, h2, ?_⟩
  have hA := ha cpos pins s1 σ H1 _ I1 q1
  rw [hs] at hA ⊢
  refine Calls.callWith_builtin (by show (false || (backTo cpos (starEach es X.env)).any (·.1)) = false; rw [hplain] <;> rfl) (Calls.evalArgs_plain ?_)
  exact thn hA fun us s2 ⟨vs, H2, I2, r2, q2⟩ => hm pins s2 σ H2 x vs v us Q I2 r1 r2 q2
end
end L2
namespace L2
open PySem PySem.Spec PyProof.Rows
def MtM (X : Cx) (id : String) (r : V → List V → Hp → VK → Prop) : Prop :=
  ∀ (pins : List (Addr × Obj)) (s : Shared) (σ : St) (H : Hp) (x : V) (xs : List V) (v : Value) (us : List Value) (Q : VK), Inv X pins σ H s → RelV x v → Vals xs us → r x xs H Q →
    wpAny (model X.prog X.w) X.A (call (.builtin id) (v :: us)) (EP X pins σ Q) X.xe s
theorem Vals.one : ∀ {x : V} {us : List Value}, Vals [x] us → ∃ u, us = [u] ∧ RelV x u
  | _, _, .cons r .nil => ⟨_, rfl, r⟩
section
variable {X : Cx} {pins : List (Addr × Obj)} {σ : St} {H : Hp} {s : Shared} {l b : Addr} {xs ys zs : List V}
theorem Inv.lset {its its' : List Value} {n : Nat} {f : Array Value → Array Value} {t' : Nat} (I : Inv X pins σ H s) (hH : H l = some (.lst xs))
    (e : s.heap.get? l = some { cls := .type "list", data := .seq its.toArray n }) (hf : f its.toArray = its'.toArray) (hv : Vals ys its') (hz : ys.length ≤ sizeLine) :
    Inv X pins σ (upd H l (.lst ys)) { s with heap := s.heap.update l (Obj.mapSeq f), toks := t' } := by
  have q := PySem.IsL.update e f
  rw [hf] at q
  refine I.write (x := l) (e := l) (by rw [hH]; exact trivial) (.inl rfl) (fun b' u hb hu => (Heap.get?_update_other s.heap (Obj.mapSeq f) (Ne.symm hb)).trans hu) ⟨_, q⟩ ?_
  exact ⟨hz, its', _, hv, q⟩
theorem Inv.lnew {its : List Value} {t' : Nat} (I : Inv X pins σ H s) (hv : Vals ys its) (hz : ys.length ≤ sizeLine) :
    Inv X pins σ (upd H s.heap.objs.size (.lst ys)) { s with heap := s.heap.push { cls := .type "list", data := .seq its.toArray }, toks := t' } :=
  I.laid (fun _ _ q => Heap.get?_push_of_some _ q) (Nat.le_refl _) ⟨hz, its, 0, hv, Heap.get?_push_size _ rfl⟩
theorem Inv.fresh (I : Inv X pins σ H s) : H s.heap.objs.size = none := I.hok.fresh (Nat.le_refl _)
theorem Inv.lstM (I : Inv X pins σ H s) (hH : H l = some (.lst xs)) : xs.length ≤ sizeLine ∧ ∃ (its : List Value) (n : Nat), Vals xs its ∧ xs.length = its.length ∧ s.heap.get? l = some { cls := .type "list", data := .seq its.toArray n } := by
  obtain ⟨z, its, n, r, e⟩ := I.hok l _ hH
  exact ⟨z, its, n, r, r.length, e⟩
theorem notLongL {n : Nat} (h : n ≤ sizeLine) : Builtin.List.listTooLong n = false := by
  unfold Builtin.List.listTooLong
  exact decide_eq_false (by omega)
end
section
variable {X : Cx}
def rAppend : V → List V → Hp → VK → Prop := fun x vs H Q => ∃ l xs y, x = .ref l ∧ vs = [y] ∧ H l = some (.lst xs) ∧ xs.length < sizeLine ∧ Q .non (upd H l (.lst (xs ++ [y])))
theorem mt_append : MtM X "list.append" rAppend := by
  intro pins s σ H x vs v us Q I rx rv h
  obtain ⟨l, xs, y, rfl, rfl, hH, hz, q⟩ := h
  cases rx
  obtain ⟨u, rfl, ru⟩ := rv.one
  obtain ⟨z, its, n, r, hl, e⟩ := I.lstM hH
  refine call_meets F.slot_list_append ⟨_, e, rfl⟩ F.entry_list_append (F.args_list_append_2 _ _) (PySem.list_append l its.toArray n u (by rw [List.size_toArray]; omega)) ⟨e, ?_⟩
  refine ⟨.non, _, I.lset (its' := its ++ [u]) hH e (by simp) (r.append (.cons ru .nil)) ?_, rfl, q⟩
  rw [List.length_append, List.length_singleton]
  omega
def rExtend : V → List V → Hp → VK → Prop := fun x vs H Q => ∃ l b xs zs, x = .ref l ∧ vs = [.ref b] ∧ H l = some (.lst xs) ∧ H b = some (.lst zs) ∧ xs.length + zs.length ≤ sizeLine ∧ Q .non (upd H l (.lst (xs ++ zs)))
theorem mt_extend : MtM X "list.extend" rExtend := by
  intro pins s σ H x vs v us Q I rx rv h
  obtain ⟨l, b, xs, zs, rfl, rfl, hH, hB, hz, q⟩ := h
  cases rx
  obtain ⟨u, rfl, ru⟩ := rv.one
  cases ru
  obtain ⟨z, its, n, r, hl, e⟩ := I.lstM hH
  obtain ⟨z2, its2, n2, r2, hl2, e2⟩ := I.lstM hB
  have hsz : its.toArray.size + its2.toArray.size ≤ sizeLine := by rw [List.size_toArray, List.size_toArray]; omega
  have hlong : ¬ (!its.toArray.isEmpty && Builtin.List.listTooLong (its.toArray.size + its2.toArray.size)) = true := by
    rw [notLongL hsz, Bool.and_false]
    exact Bool.false_ne_true
  refine call_meets F.slot_list_extend ⟨_, e, rfl⟩ F.entry_list_extend (F.args_list_extend_2 _ _)
    (AutoSeq1.list_extend_list_list_0 l its.toArray n b its2.toArray n2 hlong (by rw [List.size_toArray]; omega) (by omega)) ⟨e, e2, ?_⟩
  refine ⟨.non, _, I.lset (its' := its ++ its2) hH e (by simp) (r.append r2) ?_, rfl, q⟩
  rw [List.length_append]
  omega
def rCat : R2 := fun x y H Q => ∃ l b xs zs, x = .ref l ∧ y = .ref b ∧ H l = some (.lst xs) ∧ H b = some (.lst zs) ∧ xs.length + zs.length ≤ sizeLine ∧ ∀ p, H p = none → Q (.ref p) (upd H p (.lst (xs ++ zs)))
theorem op_cat : OpR X (binaryOp .Add) rCat := by
  intro pins s σ H x y v u Q I rx ry h
  obtain ⟨l, b, xs, zs, rfl, rfl, hH, hB, hz, q⟩ := h
  cases rx
  cases ry
  obtain ⟨z, its, n, r, hl, e⟩ := I.lstM hH
  obtain ⟨z2, its2, n2, r2, hl2, e2⟩ := I.lstM hB
  refine PySem.P.add_list e e2 ?_ (by rw [List.size_toArray, List.size_toArray]; omega)
  have ea : its.toArray ++ its2.toArray = (its ++ its2).toArray := by simp
  rw [ea]
  exact ⟨.ref _, _, I.lnew (t' := s.toks) (r.append r2) (by rw [List.length_append]; omega), rfl, q _ I.fresh⟩
end
section
variable {prog : Program} {w : World} {A : Around} {E : Value → Shared → Prop} {s : Shared}
set_option maxRecDepth 100000 in
end
section
variable {X : Cx}
end
end L2
namespace L2
open PySem PySem.Spec PyProof.Rows
section
variable {prog : Program} {w : World} {A : Around} {E : Value → Shared → Prop} {s : Shared} {l : Addr} {its : List Value} {ns : List Int} {Q : Value → Shared → Prop}
end
section
variable {X : Cx}
end
section
variable {X : Cx}
end
section
variable {X : Cx}
end
section
variable {X : Cx}
end
mutual
inductive Dp (K : PySem.W.Frag) (H : Hp) : V → PyData → Prop
  | non : Dp K H .non .none
  | bl (b : Bool) : Dp K H (.bl b) (.bool b)
  | int (i : Int) : Dp K H (.int i) (.int i)
  | str (x : Str) : Dp K H (.str x) (.str x)
  | lst {a : Addr} {xs : List V} {ds : List PyData} : SqL K H a xs → DpAll K H xs ds → Dp K H (.ref a) (.list ds)
  | tup {a : Addr} {xs : List V} {ds : List PyData} : SqT K H a xs → DpAll K H xs ds → Dp K H (.ref a) (.tuple ds)
inductive DpAll (K : PySem.W.Frag) (H : Hp) : List V → List PyData → Prop
  | nil : DpAll K H [] []
  | cons {v : V} {vs : List V} {d : PyData} {ds : List PyData} : Dp K H v d → DpAll K H vs ds → DpAll K H (v :: vs) (d :: ds)
end
section
variable {X : Cx} {pins : List (Addr × Obj)} {σ : St} {H : Hp} {s : Shared}
mutual
theorem Dp.reads (I : Inv X pins σ H s) : ∀ (d : PyData) (v : V) (u : Value), Dp X.K H v d → RelV v u → ∃ as, Reads s.heap u d as
  | .none, _, _, h, r => by
    cases h
    cases r
    exact ⟨_, Reads.none⟩
  | .bool b, _, _, h, r => by
    cases h
    cases r
    exact ⟨_, Reads.bool b⟩
  | .int i, _, _, h, r => by
    cases h
    obtain ⟨t, rfl⟩ := r
    exact ⟨_, Reads.int i t⟩
  | .str x, _, _, h, r => by
    cases h
    obtain ⟨t, rfl⟩ := r
    exact ⟨_, Reads.str x t⟩
  | .list ds, _, _, h, r => by
    cases h with
    | lst hs ha =>
      cases r
      obtain ⟨its, rv, ⟨o, n, ho, hc, _, hd⟩, _⟩ := I.list hs
      obtain ⟨as, hr⟩ := Dp.readsAll I ds _ its ha rv
      exact ⟨_, Reads.list ho hc hd hr⟩
  | .tuple ds, _, _, h, r => by
    cases h with
    | tup hs ha =>
      cases r
      obtain ⟨its, rv, ⟨o, ho, hc, n, hd⟩, _⟩ := I.tuple hs
      obtain ⟨as, hr⟩ := Dp.readsAll I ds _ its ha rv
      exact ⟨_, Reads.tuple ho hc hd hr⟩
  | .dict _, _, _, h, _ => by cases h
theorem Dp.readsAll (I : Inv X pins σ H s) : ∀ (ds : List PyData) (vs : List V) (us : List Value), DpAll X.K H vs ds → Vals vs us → ∃ as, ReadsAll s.heap us ds as
  | [], _, _, h, r => by
    cases h
    cases r
    exact ⟨_, ReadsAll.nil⟩
  | d :: ds, _, _, h, r => by
    cases h with
    | cons h1 h2 =>
      cases r with
      | cons r1 r2 =>
        obtain ⟨as, q1⟩ := Dp.reads I d _ _ h1 r1
        obtain ⟨bs, q2⟩ := Dp.readsAll I ds _ _ h2 r2
        exact ⟨_, ReadsAll.cons q1 q2⟩
end
end
section
variable {X : Cx}
def rEqD (K : PySem.W.Frag) : R2 := fun x y H Q => ∃ d e, Dp K H x d ∧ Dp K H y e ∧ SeqAt.shaped d = true ∧ SeqAt.shaped e = true ∧ Q (.bl (PyData.eqv d e)) H
theorem op_eqD (hu : X.A.units + 64 < cLine) : OpR X (compareOp .Eq) (rEqD X.K) := by
  intro pins s σ H x y v u Q I rx ry h
  obtain ⟨d, e, hd, he, sd, se, q⟩ := h
  obtain ⟨as, r1⟩ := Dp.reads I d x v hd rx
  obtain ⟨bs, r2⟩ := Dp.reads I e y u he ry
  exact SeqAt.compareEq_shaped r1 r2 sd se hu ⟨.bl _, H, I, rfl, q⟩
end
end L2
namespace L2
open PySem PySem.Spec PyProof.Rows
abbrev CellAt (h : Heap) (c : Addr) (v : Option Value) : Prop := h.IsCell c v
def relS (scope sc : Scope) : Scope :=
  { scope with names := scope.names.map fun (n, k) => if (k == .free && sc.kind == .function && sc.names.lookup n == some .cell) then (n, .cell) else (n, k) }
def cloFrom (cells : List (Str × Addr)) : List (Str × NameKind) → List (Str × Addr) → List (Str × Addr)
  | [], acc => acc
  | (n, k) :: r, acc => if k == .free then cloFrom cells r ((n, (cells.lookup n).getD 0) :: acc) else cloFrom cells r acc
theorem closure_loop (env : Env) (f : Str × NameKind → List (Str × Addr) → Sem (ForInStep (List (Str × Addr))))
    (hf : ∀ n k c, f (n, k) c = if k == .free then (do let a ← cellOf env n; pure (.yield ((n, a) :: c))) else pure (.yield c)) :
    ∀ (names : List (Str × NameKind)) (acc : List (Str × Addr)), (∀ y ∈ names, y.2 = .free → ∃ c, env.cells.lookup y.1 = some c) → forIn names acc f = pure (cloFrom env.cells names acc)
  | [], acc, _ => by rw [List.forIn_nil]; rfl
  | (n, k) :: r, acc, h => by
    rw [List.forIn_cons, hf]
    have ih := fun acc => closure_loop env f hf r acc fun y hy => h y (List.mem_cons_of_mem _ hy)
    unfold cloFrom
    by_cases hk : (k == NameKind.free) = true
    · rw [if_pos hk, if_pos hk]
      obtain ⟨c, hc⟩ := h (n, k) List.mem_cons_self (by simpa using hk)
      have e : cellOf env n = pure c := by unfold cellOf; rw [hc]
      rw [e]
      have e2 : (env.cells.lookup n).getD 0 = c := by rw [hc]; rfl
      rw [e2]
      exact ih _
    · rw [if_neg hk, if_neg hk]
      exact ih _
theorem closure_ok {scope : Scope} {env : Env} (h : ∀ y ∈ scope.names, y.2 = .free → ∃ c, env.cells.lookup y.1 = some c) : closureFor scope env = pure (cloFrom env.cells scope.names []) := by
  simp only [closureFor]
  rw [closure_loop env _ (fun n k c => rfl) scope.names [] h]
  rfl
theorem mem_lookup {α : Type} : ∀ {l : List (Str × α)} {n : Str} {c : α}, (n, c) ∈ l → ∃ c', l.lookup n = some c'
  | (k, v) :: r, n, c, h => by
    rw [List.lookup_cons]
    cases hb : n == k with
    | true => exact ⟨_, rfl⟩
    | false =>
      rcases List.mem_cons.mp h with e | h
      · cases e; simp at hb
      · exact mem_lookup h
theorem cloFrom_mem {cells : List (Str × Addr)} : ∀ {names : List (Str × NameKind)} {acc : List (Str × Addr)} {n : Str} {c : Addr}, (n, c) ∈ cloFrom cells names acc → (n, c) ∈ acc ∨ ((n, .free) ∈ names ∧ c = (cells.lookup n).getD 0)
  | [], _, _, _, h => .inl h
  | (m, k) :: r, acc, n, c, h => by
    unfold cloFrom at h
    split at h
    · rename_i hk
      have hk : k = .free := by simpa using hk
      rcases cloFrom_mem h with h | ⟨h1, h2⟩
      · rcases List.mem_cons.mp h with e | h
        · cases e; exact .inr ⟨hk ▸ List.mem_cons_self, rfl⟩
        · exact .inl h
      · exact .inr ⟨List.mem_cons_of_mem _ h1, h2⟩
    · rcases cloFrom_mem h with h | ⟨h1, h2⟩
      · exact .inl h
      · exact .inr ⟨List.mem_cons_of_mem _ h1, h2⟩
theorem cloFrom_acc {cells : List (Str × Addr)} : ∀ {names : List (Str × NameKind)} {acc : List (Str × Addr)} {p : Str × Addr}, p ∈ acc → p ∈ cloFrom cells names acc
  | [], _, _, h => h
  | (m, k) :: r, acc, p, h => by
    unfold cloFrom
    split
    · exact cloFrom_acc (List.mem_cons_of_mem _ h)
    · exact cloFrom_acc h
theorem cloFrom_has {cells : List (Str × Addr)} : ∀ {names : List (Str × NameKind)} {acc : List (Str × Addr)} {n : Str}, (n, .free) ∈ names → (n, (cells.lookup n).getD 0) ∈ cloFrom cells names acc
  | (m, k) :: r, acc, n, h => by
    unfold cloFrom
    rcases List.mem_cons.mp h with e | h
    · cases e
      exact cloFrom_acc List.mem_cons_self
    · split
      · exact cloFrom_has h
      · exact cloFrom_has h
theorem cells_mem : ∀ {names : List (Str × NameKind)} {h : Heap} {acc : List (Str × Addr)} {x : Str} {c : Addr}, (x, c) ∈ cellsFrom h.objs.size names acc →
    (x, c) ∈ acc ∨ ((x, .cell) ∈ names ∧ h.objs.size ≤ c ∧ CellAt (pushCells h names) c none)
  | [], _, _, _, _, h => .inl h
  | (n, k) :: r, h, acc, x, c, hm => by
    unfold cellsFrom at hm
    unfold pushCells
    split at hm
    · rename_i hk
      rw [if_pos hk]
      have hk : k = .cell := by simpa using hk
      rw [← Heap.size_push h { cls := .type "cell", data := .cell none }] at hm
      rcases cells_mem hm with hm | ⟨h1, h2, h3⟩
      · rcases List.mem_cons.mp hm with e | hm
        · cases e
          exact .inr ⟨hk ▸ List.mem_cons_self, Nat.le_refl _, _, pushCells_keeps r _ _ _ (Heap.get?_push_size _ rfl), rfl⟩
        · exact .inl hm
      · rw [Heap.size_push] at h2
        exact .inr ⟨List.mem_cons_of_mem _ h1, Nat.le_of_succ_le h2, h3⟩
    · rename_i hk
      rw [if_neg hk]
      rcases cells_mem hm with hm | ⟨h1, h2, h3⟩
      · exact .inl hm
      · exact .inr ⟨List.mem_cons_of_mem _ h1, h2, h3⟩
theorem cells_acc : ∀ {names : List (Str × NameKind)} {n : Nat} {acc : List (Str × Addr)} {p : Str × Addr}, p ∈ acc → p ∈ cellsFrom n names acc
  | [], _, _, _, h => h
  | (m, k) :: r, n, acc, p, h => by
    unfold cellsFrom
    split
    · exact cells_acc (List.mem_cons_of_mem _ h)
    · exact cells_acc h
theorem cells_has : ∀ {names : List (Str × NameKind)} {n : Nat} {acc : List (Str × Addr)} {x : Str}, (x, .cell) ∈ names → ∃ c, (x, c) ∈ cellsFrom n names acc
  | (m, k) :: r, n, acc, x, h => by
    unfold cellsFrom
    rcases List.mem_cons.mp h with e | h
    · cases e
      exact ⟨n, cells_acc List.mem_cons_self⟩
    · split
      · exact cells_has h
      · exact cells_has h
theorem cells_inj : ∀ {names : List (Str × NameKind)} {h : Heap} {acc : List (Str × Addr)} {x y : Str} {c : Addr}, (∀ p ∈ acc, p.2 < h.objs.size) → (∀ x y c, (x, c) ∈ acc → (y, c) ∈ acc → x = y) →
    (x, c) ∈ cellsFrom h.objs.size names acc → (y, c) ∈ cellsFrom h.objs.size names acc → x = y
  | [], _, _, _, _, _, _, hi, h1, h2 => hi _ _ _ h1 h2
  | (n, k) :: r, h, acc, x, y, c, hl, hi, h1, h2 => by
    unfold cellsFrom at h1 h2
    split at h1
    · rename_i hk
      rw [if_pos hk] at h2
      rw [← Heap.size_push h { cls := .type "cell", data := .cell none }] at h1 h2
      refine cells_inj (h := h.push _) (fun p hp => ?_) (fun x y c a b => ?_) h1 h2
      · rw [Heap.size_push]
        rcases List.mem_cons.mp hp with rfl | hp
        · exact Nat.lt_succ_self _
        · exact Nat.lt_succ_of_lt (hl p hp)
      · rcases List.mem_cons.mp a with e | a <;> rcases List.mem_cons.mp b with e' | b
        · cases e; cases e'; rfl
        · cases e; exact absurd (hl _ b) (Nat.lt_irrefl _)
        · cases e'; exact absurd (hl _ a) (Nat.lt_irrefl _)
        · exact hi _ _ _ a b
    · rename_i hk
      rw [if_neg hk] at h2
      exact cells_inj hl hi h1 h2
theorem newEnv_comp {M : Model} {A : Around} {E : Value → Shared → Prop} {s : Shared} {scope : Scope} {globals : Addr} {closure : List (Str × Addr)} {qual : Str} {func : Option Addr} {code : Value} {around : Env} {builtins : Addr} {Q : Env → Shared → Prop}
    (h : Q (newEnv scope s.heap.objs.size globals (cellsFrom (s.heap.objs.size + 1) scope.names closure) qual func code (some around) builtins)
      { s with heap := pushCells (s.heap.push { cls := .type "dict", data := .dict #[] }) scope.names }) :
    wpAny M A (newFunctionEnv scope globals closure [] qual func code (some around) builtins) Q E s := by
  simp only [newFunctionEnv, Option.isSome_some, if_true]
  refine wpAny_bind (wpAny_alloc ?_)
  refine wpAny_bind (wpAny_layCells _ (fun n k c => rfl) scope.names closure _ _ ?_)
  rw [show ({ s with heap := s.heap.push { cls := .type "dict", data := .dict #[] } } : Shared).heap.objs.size = s.heap.objs.size + 1 from Heap.size_push ..]
  rw [List.forIn_nil]
  exact wpAny_bind (wpAny_pure (wpAny_pure h))
/-- every name of the written scope, in the scope that runs -/
theorem lookup_relS {sc : Scope} : ∀ {names : List (Str × NameKind)} {x : Str} {k : NameKind},
    (names.map fun (n, k) => if (k == NameKind.free && sc.kind == .function && sc.names.lookup n == some .cell) then (n, NameKind.cell) else (n, k)).lookup x = some k →
    ∃ k', names.lookup x = some k' ∧ (k = k' ∨ (k' = .free ∧ k = .cell))
  | [], _, _, h => by simp at h
  | (n, k₀) :: r, x, k, h => by
    have ih := @lookup_relS sc r x k
    have h' : List.lookup x ((if (k₀ == NameKind.free && sc.kind == .function && sc.names.lookup n == some .cell) = true then (n, NameKind.cell) else (n, k₀)) :: (r.map _)) = some k := h
    cases hx : x == n with
    | true =>
      simp only [List.lookup_cons, hx]
      by_cases hc : (k₀ == NameKind.free && sc.kind == .function && sc.names.lookup n == some .cell) = true
      · rw [if_pos hc] at h'
        simp only [List.lookup_cons, hx] at h'
        cases h'
        simp only [Bool.and_eq_true, beq_iff_eq] at hc
        exact ⟨k₀, rfl, .inr ⟨hc.1.1, rfl⟩⟩
      · rw [if_neg hc] at h'
        simp only [List.lookup_cons, hx] at h'
        cases h'
        exact ⟨_, rfl, .inl rfl⟩
    | false =>
      simp only [List.lookup_cons, hx]
      by_cases hc : (k₀ == NameKind.free && sc.kind == .function && sc.names.lookup n == some .cell) = true
      · rw [if_pos hc] at h'
        simp only [List.lookup_cons, hx] at h'
        exact ih h'
      · rw [if_neg hc] at h'
        simp only [List.lookup_cons, hx] at h'
        exact ih h'
/-- the names of a comprehension's block: its own (with their places in N), or captured -/
structure BlkOk (N : List Str) (sc scope : Scope) (own : List (Str × Nat)) : Prop where
  kind : scope.kind = .function
  uniq : ∀ y ∈ scope.names, scope.names.lookup y.1 = some y.2
  ix : ∀ p ∈ own, N[p.2]? = some p.1
  free : ∀ y ∈ scope.names, y.2 = .free → sc.names.lookup y.1 = some .cell ∨ sc.names.lookup y.1 = some .free
  own : ∀ y ∈ scope.names, y.2 = .local ∨ y.2 = .cell → y.1 ∈ own.map (·.1) ∨ y.1 ∉ N
/-- the slots of the block's own names forgotten -/
def wipe (σ : St) : List Nat → St
  | [] => σ
  | v :: vs => (wipe σ vs).set v none
theorem wipe_length (σ : St) : ∀ vs : List Nat, (wipe σ vs).length = σ.length
  | [] => rfl
  | v :: vs => by unfold wipe; rw [List.length_set, wipe_length σ vs]
theorem wipe_some {σ : St} {i : Nat} {x : V} : ∀ {vs : List Nat}, (wipe σ vs)[i]? = some (some x) → σ[i]? = some (some x) ∧ i ∉ vs
  | [], h => ⟨h, by simp⟩
  | v :: vs, h => by
    unfold wipe at h
    by_cases hi : v = i
    · subst hi
      by_cases hv : v < (wipe σ vs).length
      · rw [List.getElem?_set_self hv] at h; cases h
      · rw [List.getElem?_eq_none (by simpa using hv)] at h; cases h
    · rw [List.getElem?_set_ne hi] at h
      obtain ⟨h1, h2⟩ := wipe_some h
      exact ⟨h1, by simp only [List.mem_cons, not_or]; exact ⟨fun e => hi e.symm, h2⟩⟩
/-- the context of a block that starts at s, its iterator's objects at fp -/
abbrev Cx.blk (X : Cx) (s : Shared) (H : Hp) (scope : Scope) (cenv : Env) (fp : List Addr) : Cx := { X with s_0 := s, H_0 := H, env := cenv, outer := X.stack, ex := fp, fn := fun x => scope.names.lookup x == some .cell, pn := [], xe := fun _ _ => False }
section
variable {X : Cx} {pins : List (Addr × Obj)} {σ : St} {H : Hp} {s : Shared}
theorem block_start {scope : Scope} {own : List (Str × Nat)} {fp : List Addr} (I : Inv X pins σ H s) (ok : BlkOk X.N X.env.scope scope own) (hN : X.N.Nodup) (hfp : ∀ b ∈ fp, FpOk X pins H b ∧ b < s.heap.objs.size) :
    Inv (X.blk s H scope (compEnvC scope (cellsFrom (s.heap.objs.size + 1) scope.names (cloFrom X.env.cells scope.names [])) s.heap.objs.size X.env) fp) [] (wipe σ (own.map (·.2))) H { s with heap := pushCells (s.heap.push { cls := .type "dict", data := .dict #[] }) scope.names } := by
  have hfree : ∀ y ∈ scope.names, y.2 = .free → ∃ c, X.env.cells.lookup y.1 = some c := fun y hy e => by
    rcases ok.free y hy e with k | k
    · exact I.ok.has _ (.inl k)
    · exact I.ok.has _ (.inr k)
  generalize hcenv : compEnvC scope (cellsFrom (s.heap.objs.size + 1) scope.names (cloFrom X.env.cells scope.names [])) s.heap.objs.size X.env = cenv
  have kp : ∀ b o, s.heap.get? b = some o → (pushCells (s.heap.push { cls := .type "dict", data := .dict #[] }) scope.names).get? b = some o := fun b o e => pushCells_keeps _ _ _ _ (Heap.get?_push_of_some _ e)
  have hL : cenv.locals = s.heap.objs.size := by rw [← hcenv]; rfl
  have hcl : cenv.cells = cellsFrom (s.heap.objs.size + 1) scope.names (cloFrom X.env.cells scope.names []) := by rw [← hcenv]; rfl
  have hsc : cenv.scope = relS scope X.env.scope := by rw [← hcenv]; rfl
  rw [← Heap.size_push s.heap { cls := .type "dict", data := .dict #[] }] at hcl
  have cm : ∀ {y c}, (y, c) ∈ cloFrom X.env.cells scope.names [] → X.env.cells.lookup y = some c ∧ c < s.heap.objs.size := fun {y c} hm => by
    rcases cloFrom_mem hm with hm | ⟨h1, rfl⟩
    · cases hm
    · obtain ⟨c, hc⟩ := hfree _ h1 rfl
      rw [hc]
      obtain ⟨w, z⟩ := I.cell _ _ hc
      exact ⟨rfl, z.lt⟩
  have mem : ∀ {y c}, cenv.cells.lookup y = some c → (X.env.cells.lookup y = some c ∧ c < s.heap.objs.size) ∨ (s.heap.objs.size + 1 ≤ c ∧ CellAt (pushCells (s.heap.push { cls := .type "dict", data := .dict #[] }) scope.names) c none) := fun {y c} e => by
    rw [hcl] at e
    rcases cells_mem (PySem.mem_of_lookup e) with hm | ⟨_, h2, h3⟩
    · exact .inl (cm hm)
    · rw [Heap.size_push] at h2; exact .inr ⟨h2, h3⟩
  have look : ∀ {y}, scope.names.lookup y = some .free → ∃ c, cenv.cells.lookup y = some c ∧ X.env.cells.lookup y = some c := fun {y} hl => by
    have hy : (y, NameKind.free) ∈ scope.names := PySem.mem_of_lookup hl
    obtain ⟨c', e'⟩ := mem_lookup (cells_acc (names := scope.names) (n := (s.heap.push { cls := .type "dict", data := .dict #[] }).objs.size) (cloFrom_has (cells := X.env.cells) (acc := []) hy))
    rw [← hcl] at e'
    refine ⟨c', e', ?_⟩
    rw [hcl] at e'
    rcases cells_mem (PySem.mem_of_lookup e') with hm | ⟨h1, _, _⟩
    · exact (cm hm).1
    · have := ok.uniq _ h1
      rw [hl] at this; cases this
  have okB : (X.blk s H scope cenv fp).Ok := by
    refine ⟨I.ok.mod, by show cenv.scope.kind = _; rw [hsc]; exact ok.kind, by show cenv.globals = _; rw [← hcenv]; exact I.ok.glob, by show cenv.builtins = _; rw [← hcenv]; exact I.ok.blt, by show s.heap.objs.size ≤ cenv.locals; rw [hL]; exact Nat.le_refl _,
      fun y z c e1 e2 => ?_, fun y hy => ?_, fun y c z e => ?_, I.ok.hd, I.ok.frames, .inl rfl, fun b hb => ⟨?_, fun y c e z => ?_⟩, I.bs, Nat.le_trans I.ok.bsz I.sz, fun b o e hb => ?_, fun b hb z => ?_, I.stack, I.stkFree⟩
    · have e1 : cenv.cells.lookup y = some c := e1
      have e2 : cenv.cells.lookup z = some c := e2
      rw [hcl] at e1 e2
      refine cells_inj (fun p hp => ?_) (fun y z c a b => I.ok.inj y z c (cm a).1 (cm b).1) (PySem.mem_of_lookup e1) (PySem.mem_of_lookup e2)
      rw [Heap.size_push]
      exact Nat.lt_succ_of_lt (cm (y := p.1) (c := p.2) hp).2
    · show ∃ c, cenv.cells.lookup y = some c
      have key : ∀ k, cenv.kindOf y = some k → (k = .cell ∨ k = .free) → ∃ c, cenv.cells.lookup y = some c := fun k hk hk' => by
        unfold Env.kindOf at hk
        rw [hsc] at hk
        obtain ⟨k', e, r⟩ := lookup_relS hk
        have : k' = .cell ∨ k' = .free := by
          rcases r with rfl | ⟨rfl, _⟩
          · exact hk'
          · exact .inr rfl
        rcases this with rfl | rfl
        · obtain ⟨c, hm⟩ := cells_has (n := (s.heap.push { cls := .type "dict", data := .dict #[] }).objs.size) (acc := cloFrom X.env.cells scope.names []) (PySem.mem_of_lookup e)
          obtain ⟨c', e'⟩ := mem_lookup hm
          exact ⟨c', by rw [hcl]; exact e'⟩
        · obtain ⟨c, h1, _⟩ := look e
          exact ⟨c, h1⟩
      rcases hy with hy | hy
      · exact key _ hy (.inl rfl)
      · exact key _ hy (.inr rfl)
    · have z : (scope.names.lookup y == some NameKind.cell) = true := z
      have z : scope.names.lookup y = some .cell := by simpa using z
      have e : cenv.cells.lookup y = some c := e
      rw [hcl] at e
      rcases cells_mem (PySem.mem_of_lookup e) with hm | ⟨_, h2, _⟩
      · rcases cloFrom_mem hm with hm | ⟨h1, _⟩
        · cases hm
        · have q := ok.uniq _ h1
          rw [z] at q; cases q
      · rw [Heap.size_push] at h2
        exact Nat.le_of_succ_le h2
    · show b ≠ cenv.locals
      rw [hL]; exact Nat.ne_of_lt (hfp b hb).2
    · have e : cenv.cells.lookup y = some c := e
      rcases mem e with ⟨h1, _⟩ | ⟨h1, _⟩
      · exact (hfp b hb).1.2.2.2.2.1 y c h1 z
      · have h2 : s.heap.objs.size + 1 ≤ b := by rw [← z]; exact h1
        exact absurd (Nat.lt_of_lt_of_le (hfp b hb).2 (Nat.le_of_succ_le h2)) (Nat.lt_irrefl _)
    · rcases (hfp b hb).1.2.2.2.1 with z | z
      · exact I.ok.noex b o e z
      · exact absurd (Nat.lt_of_lt_of_le (Heap.lt_size e) (Nat.le_trans I.ok.bsz z)) (Nat.lt_irrefl _)
    · rcases List.mem_cons.mp (I.stkSub b z) with z | z
      · exact (hfp b hb).1.2.1 z
      · exact (hfp b hb).1.2.2.1 z
  refine ⟨okB, rfl, I.bare, Un.kept kp, ⟨fun _ => none, ?_, fun i y av e1 e2 e3 => ?_⟩, fun y c e => ?_, ?_, fun y c e => ?_, fun p hp => ?_, I.hok.kept kp, by rw [wipe_length]; exact I.len⟩
  · show Heap.Ns _ cenv.locals _
    rw [hL]
    exact Heap.Ns.keeps (Heap.Ns.new ..) fun b o e => pushCells_keeps _ _ _ _ e
  · obtain ⟨e2, hne⟩ := wipe_some e2
    have hfr : scope.names.lookup y = some .free ∧ (cenv.kindOf y = some .cell ∨ cenv.kindOf y = some .free) := by
      have key : ∀ k, cenv.scope.names.lookup y = some k → k = .local ∨ k = .cell ∨ k = .free → scope.names.lookup y = some .free ∧ (cenv.kindOf y = some .cell ∨ cenv.kindOf y = some .free) := fun k hk hk' => by
        have hk0 := hk
        rw [hsc] at hk
        obtain ⟨k', e, r⟩ := lookup_relS hk
        have no : ¬ (k' = .local ∨ k' = .cell) := fun hh => by
          rcases ok.own _ (PySem.mem_of_lookup e) hh with e' | e'
          · obtain ⟨p, hp, hpy⟩ := List.mem_map.mp e'
            have e3 := ok.ix p hp
            have : p.1 = y := hpy
            rw [this] at e3
            exact hne (List.mem_map.mpr ⟨p, hp, nodup_ix hN e3 e1⟩)
          · exact e' (List.mem_of_getElem? e1)
        rcases r with rfl | ⟨rfl, rfl⟩
        · rcases hk' with rfl | rfl | rfl
          · exact absurd (.inl rfl) no
          · exact absurd (.inr rfl) no
          · exact ⟨e, .inr hk0⟩
        · exact ⟨e, .inl hk0⟩
      have e3 : Vis cenv.scope y := e3
      rcases e3 with e3 | e3 | e3
      · exact key _ e3 (.inl rfl)
      · exact key _ e3 (.inr (.inl rfl))
      · exact key _ e3 (.inr (.inr rfl))
    obtain ⟨m, hn, hl⟩ := I.loc
    have hvis : Vis X.env.scope y := (ok.free _ (PySem.mem_of_lookup hfr.1) rfl).elim (fun k => .inr (.inl k)) (fun k => .inr (.inr k))
    obtain ⟨w, r, q⟩ := hl i y av e1 e2 hvis
    refine ⟨w, r, .inr ⟨hfr.2, ?_⟩⟩
    obtain ⟨c, h1, h2⟩ := look hfr.1
    rcases q with ⟨k, _⟩ | ⟨_, c', e', z⟩
    · have k : X.env.scope.names.lookup y = some .local := k
      rcases ok.free _ (PySem.mem_of_lookup hfr.1) rfl with k' | k' <;> rw [show X.env.scope.names.lookup y = _ from k'] at k <;> cases k
    · rw [h2] at e'; cases e'
      exact ⟨c, h1, z.keeps kp⟩
  · have e : cenv.cells.lookup y = some c := e
    rcases mem e with ⟨h1, _⟩ | ⟨_, z⟩
    · obtain ⟨w, z⟩ := I.cell y c h1
      exact ⟨w, z.keeps kp⟩
    · exact ⟨_, z⟩
  · show H cenv.locals = none
    rw [hL]; exact I.hok.fresh (Nat.le_refl _)
  · have e : cenv.cells.lookup y = some c := e
    rcases mem e with ⟨h1, _⟩ | ⟨h1, _⟩
    · exact I.freeC y c h1
    · exact I.hok.fresh (Nat.le_of_succ_le h1)
  · exact absurd (show p ∈ ([] : List (Addr × Obj)) ++ [] from hp) (by simp)
/-- an item appended to a tracked list -/
theorem app_ok {E : Value → Shared → Prop} {D : Addr} {xs : List V} {y : V} {v : Value} {Q : Value → Shared → Prop} (I : Inv X pins σ H s) (hD : H D = some (.lst xs)) (hz : xs.length < sizeLine) (r : RelV y v)
    (h : ∀ s', Inv X pins σ (upd H D (.lst (xs ++ [y]))) s' → Q .none s') : wpAny (model X.prog X.w) X.A (call (.builtin "list.append") [.ref D, v]) Q E s := by
  obtain ⟨hz', its, n, ri, e⟩ := I.hok D _ hD
  have hl := ri.length
  refine append_at (hsz := by rw [List.size_toArray]; omega) e fun h' sb ho' => ?_
  refine h { s with heap := h' } (I.write (t' := s.toks) (by rw [hD]; trivial) (.inl rfl) (fun b u hb q => (sb.2 b hb).trans q) ⟨_, ho'⟩ ⟨by rw [List.length_append]; exact hz, its ++ [v], n + 1, ri.append (.cons r .nil), ?_⟩)
  rw [ho']
  simp
/-- a clause's tests -/
def PTs (X : Cx) (ifs : List Expr) (t : TT) : Prop :=
  ∀ (pins : List (Addr × Obj)) (s : Shared) (σ : St) (H : Hp) (Q : Bool → Hp → Prop), Inv X pins σ H s → t σ H Q →
    wpAny (model X.prog X.w) X.A (forIn ifs true fun c r => if r = true then do let ok ← isTrue c X.env (eval c X.env); pure (ForInStep.yield ok) else pure (ForInStep.yield r)) (TP X pins σ Q) X.xe s
def tYes : TT := fun _ H Q => Q true H
theorem pts_nil : PTs X [] tYes := fun _ _ _ H _ I h => wpAny_tests_nil ⟨H, I, h⟩
end
theorem thnF {α : Type} {t : Sem α} {Q Q' : α → Shared → Prop} {M : Model} {A : Around} {E : Value → Shared → Prop} {s : Shared} (h : wpAny M A t Q (fun _ _ => False) s) (hQ : ∀ a s, Q a s → Q' a s) : wpAny M A t Q' E s := wpAny_mono h hQ fun _ _ z => False.elim z
/-- the loop of a list comprehension's block, the target of any form (codeAny_compLoop_tests asks a target that no tuple goes to; statement and proof follow it, PyProof/CompMap.lean:41-61, with the step letOwnedTupleGo kept) -/
theorem compLoop_any {prog : Program} {w : World} {A : Around} {R : Result → Shared → Prop} {s : Shared} {elt target iter : Expr} {ifs : List Expr} {scope : Scope} {pos : Pos} {it acc : Value} {env : Env} (I : Nat → Shared → Prop)
    (turn : ∀ n s, I n s → wpAny (model prog w) A (pyNext it) (fun r s₁ => match r with
      | none => R (.ok .next) s₁
      | some v => wpAny (model prog w) A (letOwnedTupleGo target it v) (fun _ s₁' => wpAny (model prog w) A (assign target env v) (fun _ s₂ =>
          wpAny (model prog w) A (forIn ifs true fun c r => if r = true then do let ok ← isTrue c env (eval c env); pure (ForInStep.yield ok) else pure (ForInStep.yield r)) (fun ok s₃ =>
            if ok = true then wpAny (model prog w) A (eval elt env) (fun x s₄ =>
              wpAny (model prog w) A (call (.builtin "list.append") [acc, x]) (fun _ s₅ => ∃ m, m < n ∧ I m s₅) (notedBy (model prog w) A env fun e s' => R (.error e) s') s₄) (notedBy (model prog w) A env fun e s' => R (.error e) s') s₃
            else ∃ m, m < n ∧ I m s₃) (notedBy (model prog w) A env fun e s' => R (.error e) s') s₂) (notedBy (model prog w) A env fun e s' => R (.error e) s') s₁') (notedBy (model prog w) A env fun e s' => R (.error e) s') s₁) (notedBy (model prog w) A env fun e s' => R (.error e) s') s)
    (n : Nat) (h : I n s) :
    codeAny (model prog w) A (.compLoop (.ListComp elt [⟨target, iter, ifs, 0⟩] scope pos) 0 it acc env) R s := by
  refine codeAny_loop rfl I (fun n s hI => ?_) n h
  show wpAny _ A ((compTurn (.ListComp elt [⟨target, iter, ifs, 0⟩] scope pos) 0 it acc env).onRaise (fun x => do noteFrame x env; theTreesLotGoes x)) _ _ s
  refine wpAny_noted ?_
  rw [compTurn_list]
  refine wpAny_bind (wpAny_standAt (wpAny_bind (wpAny_mono (turn n s hI) (fun r s₁ h₁ => ?_) fun _ _ h' => h')))
  cases r with
  | none => exact wpAny_pure h₁
  | some v =>
    refine wpAny_bind (wpAny_mono h₁ (fun _ s₁' h₁' => ?_) fun _ _ h' => h')
    refine wpAny_bind (wpAny_mono h₁' (fun _ s₂ h₂ => wpAny_bind (wpAny_mono h₂ (fun ok s₃ h₃ => ?_) fun _ _ h' => h')) fun _ _ h' => h')
    cases ok with
    | false => exact wpAny_pure ⟨rfl, h₃⟩
    | true =>
      exact wpAny_bind (wpAny_bind (wpAny_mono h₃ (fun x s₄ h₄ => wpAny_bind (wpAny_mono h₄ (fun _ s₅ h₅ => wpAny_pure (wpAny_pure ⟨rfl, h₅⟩)) fun _ _ h' => h')) fun _ _ h' => h'))
section
variable {X : Cx}
/-- [elt for target in iter if ..]: D the new list; W by the turn and a measure, Nx what a turn is to reach -/
def tLc (wi : TI) (g : TG) (tt : TT) (te : TE) (vs : List Nat) : TE := fun σ H Q => wi σ H fun J H1 => ∀ D, H1 D = none → ∃ W : Nat → Nat → Hp → Prop, (∃ m, W 0 m (upd H1 D (.lst []))) ∧ ∀ i m H, W i m H →
  (J.stop i H ∧ Q (.ref D) H) ∨ (J.go i H ∧ ∃ Nx : Hp → Prop, (∀ H', Nx H' → ∃ m', m' < m ∧ W (i + 1) m' H') ∧ ∀ x H', J.yld i H x H' → g x (wipe σ vs) H' fun σ2 H2 => wipe σ2 vs = wipe σ vs ∧ tt σ2 H2 fun b H3 =>
    if b = true then te σ2 H3 fun y H4 => ∃ acc, H4 D = some (.lst acc) ∧ acc.length < sizeLine ∧ Nx (upd H4 D (.lst (acc ++ [y]))) else Nx H3)
theorem lc_core {pins : List (Addr × Obj)} {s : Shared} {σ : St} {H : Hp} {Q : VK} {elt tg iter : Expr} {ifs : List Expr} {scope : Scope} {own : List (Str × Nat)} {pos pos' : Pos} {wi : TI} {g : TG} {tt : TT} {te : TE} {use : Option (Value → Sem Unit)} {Qf : Value → Shared → Prop}
    (hc : X.calm = true) (hN : X.N.Nodup) (I : Inv X pins σ H s) (hi : PI X tg iter wi) (ok : BlkOk X.N X.env.scope scope own)
    (hg : ∀ (s : Shared) (H : Hp) (C : Addr) (cl : List (Str × Addr)) (fp : List Addr), PG (X.blk s H scope (compEnvC scope cl C X.env) fp) tg g) (ht : ∀ (s : Shared) (H : Hp) (C : Addr) (cl : List (Str × Addr)) (fp : List Addr), PTs (X.blk s H scope (compEnvC scope cl C X.env) fp) ifs tt)
    (he : ∀ (s : Shared) (H : Hp) (C : Addr) (cl : List (Str × Addr)) (fp : List Addr), PE (X.blk s H scope (compEnvC scope cl C X.env) fp) elt te) (hs : ∀ x, foldedSetIterable iter X.env x = pure x)
    (h : tLc wi g tt te (own.map (·.2)) σ H Q)
    (hRR : ∀ D C s' m H', Inv X pins σ H' s' → Q (.ref D) H' → s'.heap.Ns C m → FpOk X pins H' C → compPost (model X.prog X.w) X.A X.xe use Qf (.ref D) C (.ok .next) s') :
    wpAny (model X.prog X.w) X.A (comprehension (.ListComp elt [⟨tg, iter, ifs, 0⟩] scope pos) scope X.env pos' (newList []) false (eval iter X.env) use) Qf X.xe s := by
  have hfree : ∀ y ∈ scope.names, y.2 = .free → ∃ c, X.env.cells.lookup y.1 = some c := fun y hy e => by
    rcases ok.free y hy e with k | k
    · exact I.ok.has _ (.inl k)
    · exact I.ok.has _ (.inr k)
  refine wpAny_comprehension_free (use := use) rfl hs (closure_ok hfree) ok.kind (fun y hy e => by rw [ok.uniq y hy, e])
    (thn (hi pins s σ H _ I h) fun xv s1 hx => thn hx fun itv s2 h2 => ?_)
  obtain ⟨it, fp, tn, J, H2, e, I2, T, st2, f2, q⟩ := h2
  subst e
  refine wpAny_newObj_type (newEnv_comp ?_) (by show 0 ≤ sizeLine; decide)
  generalize hD : s2.heap.objs.size = D
  have hDn : H2 D = none := I2.hok.fresh (Nat.le_of_eq hD)
  obtain ⟨W, ⟨m0, w0⟩, turn⟩ := q D hDn
  -- the new list
  generalize hs3 : ({ s2 with heap := s2.heap.push { cls := .type "list", data := .seq ([] : List Value).toArray } } : Shared) = s3
  have I3 : Inv X pins σ (upd H2 D (.lst [])) s3 := by
    rw [← hs3]
    refine I2.laid (t' := s2.toks) (fun b o e => Heap.get?_push_of_some _ e) (Nat.le_of_eq hD) ⟨Nat.zero_le _, [], 0, .nil, ?_⟩
    rw [← hD]
    exact Heap.get?_push_size _ rfl
  have h3 : s3.heap = s2.heap.push { cls := .type "list", data := .seq ([] : List Value).toArray } := by rw [← hs3]
  have sz : ∀ b ∈ fp, b < s2.heap.objs.size := fun b hb => by
    obtain ⟨o, e, _⟩ := T.obj _ _ st2 b hb
    exact Heap.lt_size e
  have f3 : ∀ b ∈ fp, FpOk X pins (upd H2 D (.lst [])) b ∧ b < s3.heap.objs.size := fun b hb => by
    have hlt := sz b hb
    refine ⟨⟨?_, (f2 b hb).2⟩, by rw [h3, Heap.size_push]; exact Nat.lt_succ_of_lt hlt⟩
    rw [upd_ne (by rw [← hD]; exact Nat.ne_of_lt hlt)]
    exact (f2 b hb).1
  have st3 : tn 0 s3.heap := T.keep _ _ _ st2 fun b _ o e => by rw [h3]; exact Heap.get?_push_of_some _ e
  have I4 := block_start I3 ok hN f3
  have pg := hg s3 (upd H2 D (.lst [])) s3.heap.objs.size (cellsFrom (s3.heap.objs.size + 1) scope.names (cloFrom X.env.cells scope.names [])) fp
  have pt := ht s3 (upd H2 D (.lst [])) s3.heap.objs.size (cellsFrom (s3.heap.objs.size + 1) scope.names (cloFrom X.env.cells scope.names [])) fp
  have pe := he s3 (upd H2 D (.lst [])) s3.heap.objs.size (cellsFrom (s3.heap.objs.size + 1) scope.names (cloFrom X.env.cells scope.names [])) fp
  show codeAny _ _ (.compStart (.ListComp elt [⟨tg, iter, ifs, 0⟩] scope pos) 0 (.ref it) (.ref D) (compEnvC scope (cellsFrom (s3.heap.objs.size + 1) scope.names (cloFrom X.env.cells scope.names [])) s3.heap.objs.size X.env)) (compPost (model X.prog X.w) X.A X.xe use Qf (.ref D) s3.heap.objs.size) { s3 with heap := pushCells (s3.heap.push { cls := .type "dict", data := .dict #[] }) scope.names }
  have nfp : ∀ b ∈ fp, (upd H2 D (.lst [])) b = none := fun b hb => (f3 b hb).1.1
  generalize hce : compEnvC scope (cellsFrom (s3.heap.objs.size + 1) scope.names (cloFrom X.env.cells scope.names [])) s3.heap.objs.size X.env = ce at I4 pg pt pe ⊢
  have cL : ce.locals = s3.heap.objs.size := by subst hce; rfl
  generalize hH3 : upd H2 D (.lst []) = H3 at I3 I4 pg pt pe w0 nfp f3
  generalize hs4 : ({ s3 with heap := pushCells (s3.heap.push { cls := .type "dict", data := .dict #[] }) scope.names } : Shared) = s4 at I4 ⊢
  have st4 : tn 0 s4.heap := T.keep _ _ _ st3 fun b _ o e => by rw [← hs4]; exact pushCells_keeps _ _ _ _ (Heap.get?_push_of_some _ e)
  have stat : ∀ {σ' : St} {H' : Hp} {s' : Shared}, Inv (X.blk s3 H3 scope ce fp) [] σ' H' s' → (∀ b ∈ fp, H' b = none) → ∀ b ∈ fp, FpOk (X.blk s3 H3 scope ce fp) [] H' b := fun {σ' H' s'} I' hn b hb =>
    ⟨hn b hb, (I'.ok.exf b hb).1, I'.ok.exfs b hb, .inl hb, fun x c e => (I'.ok.exf b hb).2 x c e, fun p hp => absurd (show p ∈ ([] : List (Addr × Obj)) ++ [] from hp) (by simp)⟩
  have loop : codeAny (model X.prog X.w) X.A (.compLoop (.ListComp elt [⟨tg, iter, ifs, 0⟩] scope pos) 0 (.ref it) (.ref D) ce) (compPost (model X.prog X.w) X.A X.xe use Qf (.ref D) s3.heap.objs.size) s4 := by
    refine compLoop_any (fun n s' => ∃ i H', Inv (X.blk s3 H3 scope ce fp) [] (wipe σ (own.map (·.2))) H' s' ∧ tn i s'.heap ∧ (∀ b ∈ fp, H' b = none) ∧ W i n H') ?_ m0 ⟨0, H3, I4, st4, nfp, w0⟩
    rintro n s5 ⟨i, H5, I5, st5, n5, w5⟩
    rcases turn i n H5 w5 with ⟨stop, qq⟩ | ⟨go, Nx, hNx, step⟩
    · have td := T.done (X.blk s3 H3 scope ce fp) rfl rfl rfl hc i [] s5 _ H5 (fun _ _ => False) I5 (stat I5 n5) st5 stop
      refine thnF td fun r s6 ⟨hr, I6⟩ => ?_
      subst hr
      -- back in the def's context
      have I7 : Inv X pins σ H5 s6 := I3.call' (ch := fp) I6.os I6.base I6.hok I6.bare fun b hb => ⟨(f3 b hb).1.2.2.2.1, (f3 b hb).1.2.1, (f3 b hb).1.2.2.2.2.1, (f3 b hb).1.2.2.2.2.2⟩
      have nC : H5 s3.heap.objs.size = none := by
        have z : H5 ce.locals = none := I6.free
        rw [cL] at z
        exact z
      obtain ⟨m, hn, _⟩ := I6.loc
      have hn : s6.heap.Ns ce.locals m := hn
      rw [cL] at hn
      exact hRR D s3.heap.objs.size s6 m H5 I7 qq hn (I3.fpOk (Nat.le_refl _) nC)
    · have ti := T.item (X.blk s3 H3 scope ce fp) rfl rfl rfl hc i [] s5 _ H5 (fun _ _ => False) I5 (stat I5 n5) st5 go
      refine thnF ti fun r s6 ⟨u, hr, h6⟩ => ?_
      subst hr
      refine thnF h6 fun _ s7 ⟨x, H7, I7, r7, y7, st7, n7⟩ => ?_
      have I7' := I7.pinned (stat I7 n7) (T.obj _ _ st7)
      refine thnF (pg _ s7 _ H7 x u _ I7' r7 (step x H7 y7)) fun _ s8 ⟨σ8, H8, I8, hw8, q8⟩ => ?_
      refine thnF (pt _ s8 σ8 H8 _ I8 q8) fun b s9 ⟨H9, I9, q9⟩ => ?_
      -- the turn's end
      have fin : ∀ {s' : Shared} {H' : Hp}, Inv (X.blk s3 H3 scope ce fp) ([] ++ pinsAt fp s7.heap) σ8 H' s' → Nx H' → ∃ m, m < n ∧ ∃ i H', Inv (X.blk s3 H3 scope ce fp) [] (wipe σ (own.map (·.2))) H' s' ∧ tn i s'.heap ∧ (∀ b ∈ fp, H' b = none) ∧ W i m H' := fun {s' H'} I' nx => by
        obtain ⟨m', hm, w'⟩ := hNx H' nx
        have pin' : ∀ b ∈ fp, ∀ o, s7.heap.get? b = some o → s'.heap.get? b = some o ∧ H' b = none := fun b hb o e =>
          let z := I'.pin (b, o) (List.mem_append_right _ (List.mem_append_right _ (mem_pinsAt hb e)))
          ⟨z.1, z.2.1⟩
        have hl : (wipe σ (own.map (·.2))).length = σ8.length := by rw [← hw8, wipe_length]
        refine ⟨m', hm, i + 1, H', (I'.unpinned (pins := [])).weak hl (fun j v e => ?_), T.keep _ _ _ st7 fun b hb o e => (pin' b hb o e).1, fun b hb => ?_, w'⟩
        · rw [← hw8] at e
          exact (wipe_some e).1
        · obtain ⟨o, e, _⟩ := T.obj _ _ st7 b hb
          exact (pin' b hb o e).2
      cases b with
      | false =>
        simp only [Bool.false_eq_true, if_false] at q9 ⊢
        exact fin I9 q9
      | true =>
        simp only [if_true] at q9 ⊢
        refine thnF (pe _ s9 σ8 H9 _ I9 q9) fun z s10 ⟨yv, H10, I10, r10, acc, hD10, hz10, nx⟩ => ?_
        exact app_ok (X := X.blk s3 H3 scope ce fp) I10 hD10 hz10 r10 fun s11 I11 => fin I11 nx
  exact codeAny_compStart_list loop (T.self X.A 0 _ _ _ st4 loop)
/-- as a value -/
theorem pe_lc {elt tg iter : Expr} {ifs : List Expr} {scope : Scope} {own : List (Str × Nat)} {pos : Pos} {wi : TI} {g : TG} {tt : TT} {te : TE} (hc : X.calm = true) (hN : X.N.Nodup) (hi : PI X tg iter wi) (ok : BlkOk X.N X.env.scope scope own)
    (hg : ∀ (s : Shared) (H : Hp) (C : Addr) (cl : List (Str × Addr)) (fp : List Addr), PG (X.blk s H scope (compEnvC scope cl C X.env) fp) tg g) (ht : ∀ (s : Shared) (H : Hp) (C : Addr) (cl : List (Str × Addr)) (fp : List Addr), PTs (X.blk s H scope (compEnvC scope cl C X.env) fp) ifs tt)
    (he : ∀ (s : Shared) (H : Hp) (C : Addr) (cl : List (Str × Addr)) (fp : List Addr), PE (X.blk s H scope (compEnvC scope cl C X.env) fp) elt te) (hs : ∀ x, foldedSetIterable iter X.env x = pure x := by intro _; rfl) :
    PE X (.ListComp elt [⟨tg, iter, ifs, 0⟩] scope pos) (tLc wi g tt te (own.map (·.2))) := by
  intro pins s σ H Q I h
  rw [eval_ListComp]
  refine lc_core hc hN I hi ok hg ht he hs h fun D C s' m H' I' q hn f => ⟨m, hn, fun h'' sb => ?_⟩
  obtain ⟨f0, f1, f2, f3, f4, f5⟩ := f
  exact ⟨.ref D, H', I'.turned (t' := s'.toks) (fun b o hb e => (sb.2 b hb).trans e) f0 f1 f3 f4 f5, rfl, q⟩
end
def blkC (N : List Str) (sc scope : Scope) (own : List (Str × Nat)) : Bool :=
  (match scope.kind with | .function => true | _ => false) && (scope.names.all fun y => decide (scope.names.lookup y.1 = some y.2)) && (own.all fun p => decide (N[p.2]? = some p.1)) &&
    (scope.names.all fun y => match y.2 with
      | .free => (match sc.names.lookup y.1 with | some .cell => true | some .free => true | _ => false)
      | .local => decide (y.1 ∈ own.map (·.1)) || decide (y.1 ∉ N)
      | .cell => decide (y.1 ∈ own.map (·.1)) || decide (y.1 ∉ N)
      | _ => true)
theorem blkOk_by {N : List Str} {sc scope : Scope} {own : List (Str × Nat)} (h : blkC N sc scope own = true) : BlkOk N sc scope own := by
  unfold blkC at h
  simp only [Bool.and_eq_true, List.all_eq_true, decide_eq_true_eq] at h
  obtain ⟨⟨⟨h1, h2⟩, h3⟩, h4⟩ := h
  refine ⟨?_, h2, h3, fun y hy e => ?_, fun y hy e => ?_⟩
  · split at h1
    · assumption
    · cases h1
  · have q := h4 y hy
    simp only [e] at q
    split at q <;> first | exact .inl (by assumption) | exact .inr (by assumption) | cases q
  · have q := h4 y hy
    rcases e with e | e <;> (simp only [e, Bool.or_eq_true, decide_eq_true_eq] at q; exact q)
end L2
namespace L2
open PySem PySem.Spec PyProof.Rows
section
variable {prog : Program} {w : World} {A : Around} {R : Result → Shared → Prop} {s : Shared} {elt t0 i0 t1 i1 : Expr} {ifs0 ifs1 : List Expr} {scope : Scope} {pos : Pos} {it acc : Value} {env : Env}
end
section
variable {X : Cx}
end
end L2
namespace L2
open PySem PySem.Spec PyProof.Rows
section
variable {κ : Type} [DecidableEq κ]
end
section
variable {P : Program} {w : World} {H : Hp} {h : Heap} {a : Addr}
end
section
variable {X : Cx} {pins : List (Addr × Obj)} {σ : St} {H : Hp} {s : Shared} {a : Addr} {y v : V} {u r : Value} {o : Option V} {A : Around} {E : Value → Shared → Prop}
end
section
variable {X : Cx} {pins : List (Addr × Obj)} {σ : St} {H : Hp} {s : Shared} {a : Addr} {kvs : List (Key × V)} {k : Key} {u : Value} {A : Around} {E : Value → Shared → Prop}
end
section
variable {X : Cx} {o i e value : Expr} {pos pos' tpos : Pos} {td ty tv : TE}
end
section
variable {X : Cx} {pos : Pos}
end
/-- a method call o.m(e) of a built-in, with one argument: what must be seen of the text -/
structure M1 (X : Cx) (o : Expr) (m : Str) (apos : Pos) (e : Expr) (cpos : Pos) : Prop where
  base : attributeBase o m X.env (eval o X.env) = eval o X.env
  few : ((backTo cpos (starEach [e] X.env)).all (fun x => !x.1) && (backToKw cpos (keywordEach [] X.env)).all (fun x => x.1.isSome)
    && decide (([e] : List Expr).length + ([] : List Keyword).length + (if ([] : List Keyword).isEmpty then 0 else 1) < 30)) = true
  line : (apos.endLine == cpos.line) = true
  trees : backTo cpos (starEach [e] X.env) = [(false, eval e X.env)]
structure M2 (X : Cx) (o : Expr) (m : Str) (apos : Pos) (e f : Expr) (cpos : Pos) : Prop where
  base : attributeBase o m X.env (eval o X.env) = eval o X.env
  few : ((backTo cpos (starEach [e, f] X.env)).all (fun x => !x.1) && (backToKw cpos (keywordEach [] X.env)).all (fun x => x.1.isSome)
    && decide (([e, f] : List Expr).length + ([] : List Keyword).length + (if ([] : List Keyword).isEmpty then 0 else 1) < 30)) = true
  line : (apos.endLine == cpos.line) = true
  trees : backTo cpos (starEach [e, f] X.env) = [(false, eval e X.env), (false, eval f X.env)]
section
variable {X : Cx} {pins : List (Addr × Obj)} {σ : St} {H : Hp} {s : Shared} {a : Addr} {y d : V} {u r : Value} {o : Option V} {A : Around} {E : Value → Shared → Prop}
end
section
variable {X : Cx} {o e f : Expr} {apos cpos : Pos} {td ty tx : TE}
end
section
variable {X : Cx} {pins : List (Addr × Obj)} {σ : St} {H : Hp} {s : Shared} {a : Addr} {kvs : List (Key × V)} {A : Around} {E : Value → Shared → Prop}
end
section
variable {X : Cx} {pins : List (Addr × Obj)} {σ : St} {H : Hp} {s : Shared} {a : Addr} {y : V} {u : Value} {A : Around} {E : Value → Shared → Prop}
end
end L2
namespace L2
open PySem PySem.Spec PyProof.Rows
section
variable {prog : Program} {w : World} {A : Around} {E : Value → Shared → Prop}
end
section
variable {X : Cx}
end
end L2
namespace L2
open PySem PySem.Spec PyProof.Rows
section
variable {X : Cx} {pins : List (Addr × Obj)} {σ : St} {H : Hp} {s : Shared} {h' : Heap}
/-- .. and one new object is laid -/
theorem Inv.turnedNew {t' : Nat} {ch : List Addr} {T : Addr} {ob : HO} (I : Inv X pins σ H s) (k : ∀ b o, b ∉ ch → s.heap.get? b = some o → h'.get? b = some o) (hf : ∀ b ∈ ch, FpOk X pins H b) (hT : s.heap.objs.size ≤ T)
    (new : ObjOk X.prog X.w (upd H T ob) h' T ob) : Inv X pins σ (upd H T ob) { s with heap := h', toks := t' } := by
  have hn : H T = none := I.hok.fresh hT
  have nit : ∀ b u, H b = some u → b ∉ ch := fun b u e z => by
    have q := (hf b z).1
    rw [q] at e; cases e
  refine I.step (g' := s.gens) (d' := s.drawn) (ch := ch) (fun b hb => ⟨(hf b hb).2.2.2.1, (hf b hb).2.1, (hf b hb).2.2.2.2.1, (hf b hb).2.2.2.2.2⟩) (fun b o _ _ hc e _ => k b o hc e) (fun b o _ _ hc e _ => ⟨o.slots, k b o hc e⟩)
    (fun b o _ e n => ?_) (fun b o hc e => ⟨o, k b o hc e⟩) (fun b xs e => ?_) (fun b o u e => ?_) (fun b ps e => ⟨#[], ?_⟩) (fun m hm => ?_) (fun b u e => ?_) I.bare
  · rw [upd_ne (Nat.ne_of_lt (Nat.lt_of_lt_of_le (Heap.lt_size e) hT))]; exact n
  · rw [upd_ne (ne_of_none e hn)]; exact e
  · rw [upd_ne (ne_of_none e hn)]; exact e
  · rw [upd_ne (ne_of_none e hn), e]; simp
  · obtain ⟨o, es, ep, ho, r⟩ := hm
    exact ⟨o, es, ep, k _ o (fun z => (hf _ z).2.1 rfl) ho, r⟩
  · by_cases hb : b = T
    · subst hb
      rw [upd_same] at e
      cases e
      exact new
    · rw [upd_ne hb] at e
      refine (I.hok b u e).stay (fun c v hc q => k c v ?_ q) (fun c q => by rw [upd_ne (ne_of_none q hn)]; exact q) fun c xs q => by rw [upd_ne (ne_of_none q hn)]; exact q
      rcases hc with z | z
      · rw [z]; exact nit b u e
      · exact nit c _ z
end
section
variable {X : Cx}
end
section
variable {X : Cx} {tg : Expr}
end
section
variable {X : Cx} {tg : Expr}
end
section
variable {prog : Program} {w : World} {A : Around} {E : Value → Shared → Prop} {s : Shared}
end
section
variable {X : Cx} {pins : List (Addr × Obj)} {σ : St} {H : Hp} {s : Shared} {d : Addr} {o : Obj}
end
section
variable {P : Program} {w : World} {K : PySem.W.Frag} {tg : Expr} {d : Addr} {o : Obj} {es : Array DictEntry} {ep : Nat}
end
section
variable {X : Cx} {tg e : Expr} {td : TE} {apos cpos : Pos}
end
/-- the list at a as it stands at each turn, each item in a new pair -/
def Ite (K : PySem.W.Frag) (a : Addr) : It :=
  ⟨fun i H => ∃ (xs : List V) (x : V), SqL K H a xs ∧ xs[i]? = some x, fun i H v H' => ∃ T x, v = .ref T ∧ H T = none ∧ H' = upd H T (.tup [.int (i : Nat), x]) ∧ ∀ xs, SqL K H a xs → xs[i]? = some x, fun i H => ∃ xs : List V, SqL K H a xs ∧ xs.length ≤ i⟩
theorem turn_enum {P : Program} {w : World} {K : PySem.W.Frag} {elts : List Expr} {kk : Nat} {tpos : Pos} (a e it : Addr) :
    Turn P w K (.Tuple elts kk tpos) (Ite K a) [e, it] e (fun i h => (∃ old, IsEnum h e it ((i : Nat) : Int) old) ∧ h.IsListIter it a i ∧ e ≠ it) where
  mem := by simp
  obj := fun i h st b hb => by
    obtain ⟨⟨old, he⟩, ⟨o, ho, hc, hd⟩, _⟩ := st
    have e' : b = e ∨ b = it := by simpa using hb
    rcases e' with z | z
    · rw [z]; exact ⟨_, he, fun v q => nomatch q⟩
    · rw [z]; exact ⟨o, ho, fun v q => by rw [hd] at q; cases q⟩
  keep := fun i h h' st k => let ⟨⟨old, he⟩, hi, hne⟩ := st; ⟨⟨old, k e (by simp) _ he⟩, hi.at fun o q => k it (by simp) o q, hne⟩
  item := by
    intro X hP hw hK hc i pins s σ H E I hf st hg
    subst hP hw hK
    obtain ⟨⟨old, he⟩, hit, hne⟩ := st
    obtain ⟨xs, x, hq, hx⟩ := hg
    obtain ⟨its, rv, p, hz⟩ := I.list hq
    obtain ⟨u, hu, ru⟩ := rv.get hx
    have hel : e < s.heap.objs.size := Heap.lt_size he
    have hil : it < s.heap.objs.size := by obtain ⟨_, q, _⟩ := hit; exact Heap.lt_size q
    refine wpAny_pyNext_enum_item he hit p.isList (x := u) (by simpa using hu) hne fun h' ho hit' hT hsz hk => ?_
    refine ⟨_, rfl, wpAny_letOwnedTupleGo_enum (s := { s with heap := h', toks := s.toks + 1 }) ho fun h'' he' sb => ?_⟩
    have hT2 : h''.get? s.heap.objs.size = some { cls := .type "tuple", data := .seq #[.int i s.toks, u] } := (sb.2 _ (Nat.ne_of_gt hel)).trans hT
    have new : ObjOk X.prog X.w (upd H s.heap.objs.size (.tup [.int (i : Nat), x])) h'' s.heap.objs.size (.tup [.int (i : Nat), x]) :=
      ⟨by show 2 ≤ sizeLine; decide, [.int i s.toks, u], .cons ⟨_, rfl⟩ (.cons ru .nil), ⟨_, hT2, rfl, _, rfl⟩⟩
    have I1 : Inv X pins σ (upd H s.heap.objs.size (.tup [.int (i : Nat), x])) { s with heap := h'', toks := s.toks + 1 } :=
      I.turnedNew (ch := [e, it]) (fun b ob hb q => (sb.2 b (fun z => hb (by simp [z]))).trans (hk b ob (fun z => hb (by simp [z])) (fun z => hb (by simp [z])) q)) hf (Nat.le_refl _) new
    refine ⟨.ref s.heap.objs.size, _, I1, rfl, ⟨_, x, rfl, I.hok.fresh (Nat.le_refl _), rfl, fun ys hy => by rw [I.list_inj hy hq]; exact hx⟩, ⟨⟨u, ?_⟩, hit'.at fun o q => (sb.2 it (Ne.symm hne)).trans q, hne⟩, fun b hb => ?_⟩
    · have e1 : ((i + 1 : Nat) : Int) = (i : Int) + 1 := by omega
      rw [e1]; exact he'
    · have hb' : b < s.heap.objs.size := by
        have e' : b = e ∨ b = it := by simpa using hb
        rcases e' with z | z
        · rw [z]; exact hel
        · rw [z]; exact hil
      rw [upd_ne (Nat.ne_of_lt hb')]
      exact (hf b hb).1
  done := by
    intro X hP hw hK hc i pins s σ H E I hf st hg
    subst hP hw hK
    obtain ⟨⟨old, he⟩, hit, hne⟩ := st
    obtain ⟨xs, hq, hx⟩ := hg
    obtain ⟨its, rv, p, hz⟩ := I.list hq
    obtain ⟨f0, f1, f2, f3, f4, f5⟩ := hf it (by simp)
    have hl := rv.length
    exact wpAny_pyNext_enum_end (I.ok.hd hc) he hit p.isList (by simp; omega) fun h' eb => ⟨rfl, I.turned (t' := s.toks) (fun b o hb q => eb b o hb q) f0 f1 f3 f4 f5⟩
  self := fun A i s Q E st h => let ⟨⟨_, he⟩, _⟩ := st; wpAny_pyIter_enum he h
def iEnum (K : PySem.W.Frag) (ta : TA) : TI := fun σ H R => ta σ H fun vs H1 => ∃ a xs, vs = [.ref a] ∧ SqL K H1 a xs ∧ R (Ite K a) H1
theorem pi_enum {X : Cx} {e : Expr} {ta : TA} {p pos tpos : Pos} {elts : List Expr} {kk : Nat} (hg : Gl X "enumerate") (hm : X.mg "enumerate" = none) (ha : PA X [e] ta) (hs : starEach [e] X.env = [(false, eval e X.env)] := by rfl) :
    PI X (.Tuple elts kk tpos) (.Call (.Name "enumerate" p) [e] [] pos) (iEnum X.K ta) := by
  intro pins s σ H R I h
  refine Call_ (ld_blt I hg hm boot_enumerate (PyProof.Rows.callWith_type1 (thn (ha pos pins s σ H _ I h) fun us s1 ⟨vs, H1, I1, r1, q1⟩ => ?_) hs rfl))
  obtain ⟨a, xs, ex, hq, q⟩ := q1
  subst ex
  cases r1 with
  | cons r rr =>
    cases rr
    cases r
    obtain ⟨its, rv, p', hz⟩ := I1.list hq
    refine call_enumerate_list p'.isList fun h' he hit hsz hk => wpAny_pyIter_enum he ?_
    have I2 : Inv X pins σ H1 { s1 with heap := h' } := I1.kept (t' := s1.toks) hk
    refine ⟨s1.heap.objs.size + 1, [s1.heap.objs.size + 1, s1.heap.objs.size], _, _, H1, rfl, I2, turn_enum a (s1.heap.objs.size + 1) s1.heap.objs.size, ⟨⟨.none, he⟩, hit, Nat.succ_ne_self _⟩, fun b hb => ?_, q⟩
    have e' : b = s1.heap.objs.size + 1 ∨ b = s1.heap.objs.size := by simpa using hb
    have hle : s1.heap.objs.size ≤ b := by
      rcases e' with z | z
      · rw [z]; exact Nat.le_add_right _ _
      · rw [z]; exact Nat.le_refl _
    exact I1.fpOk hle (I1.hok.fresh hle)
end L2
section 
namespace Bits
open PySem PyProof.Rows
theorem nat_and_mul_pow (k : Nat) : ∀ a b : Nat, a < 2 ^ k → a &&& (b * 2 ^ k) = 0 := by
  induction k with
  | zero =>
    intro a b h
    have h0 : a = 0 := by
      rw [Nat.pow_zero] at h
      omega
    subst h0
    simp
  | succ k ih =>
    intro a b h
    have hm : (b * 2 ^ (k + 1)) = (b * 2 ^ k) * 2 := by rw [Nat.pow_succ, Nat.mul_assoc]
    have hlt : a / 2 < 2 ^ k := by
      rw [Nat.pow_succ] at h
      generalize 2 ^ k = m at h ⊢
      omega
    have i := ih (a / 2) b hlt
    rw [hm]
    generalize b * 2 ^ k = B at i ⊢
    have e : (a &&& (B * 2)) / 2 = a / 2 &&& (B * 2) / 2 := Nat.and_div_two
    have e2 : (B * 2) / 2 = B := by omega
    have o := @Nat.and_mod_two_eq_one a (B * 2)
    rw [e2, i] at e
    omega
theorem natCast_mul_pow (m k : Nat) : (m : Int) * 2 ^ k = ((m * 2 ^ k : Nat) : Int) := by
  rw [two_pow_cast]
  first
    | exact (Int.natCast_mul _ _).symm
    | simp
/-- low bits a, high part b: (b << k) | a -/
theorem bitOr_join {a b : Int} {k : Nat} (h0 : 0 ≤ a) (h1 : a < 2 ^ k) (hb : 0 ≤ b) : Builtin.bitOr a (b * 2 ^ k) = a + b * 2 ^ k := by
  obtain ⟨n, rfl⟩ := Int.eq_ofNat_of_zero_le h0
  obtain ⟨m, rfl⟩ := Int.eq_ofNat_of_zero_le hb
  have hn : n < 2 ^ k := by
    rw [two_pow_cast] at h1
    omega
  have e : Builtin.bitAnd (n : Int) ((m * 2 ^ k : Nat) : Int) = 0 := by
    rw [bitAnd_pp (by omega) (by omega), Int.toNat_natCast, Int.toNat_natCast, nat_and_mul_pow k n m hn] <;> rfl
  rw [natCast_mul_pow, bitOr_and, e]
  omega
/-- x & ((1 << k) - 1) -/
theorem bitAnd_mask {x : Int} (k : Nat) (hx : 0 ≤ x) : Builtin.bitAnd x (2 ^ k - 1) = x % 2 ^ k := by
  obtain ⟨n, rfl⟩ := Int.eq_ofNat_of_zero_le hx
  have hp : 0 < 2 ^ k := Nat.two_pow_pos k
  rw [two_pow_cast]
  have e : ((2 ^ k : Nat) : Int) - 1 = ((2 ^ k - 1 : Nat) : Int) := by
    generalize (2 : Nat) ^ k = m at hp
    omega
  rw [e, bitAnd_pp (by omega) (by omega), Int.toNat_natCast, Int.toNat_natCast, Nat.and_two_pow_sub_one_eq_mod]
  first
    | rfl
    | exact Int.natCast_emod _ _
    | simp
theorem nat_xor_add_and (m : Nat) : ∀ n : Nat, (m ^^^ n) + 2 * (m &&& n) = m + n := by
  induction m using Nat.strongRecOn with
  | _ m ih =>
    intro n
    by_cases h0 : m = 0
    · subst h0
      simp
    · have ih' := ih (m / 2) (by omega) (n / 2)
      rw [← Nat.xor_div_two, ← Nat.and_div_two] at ih'
      have o1 := @Nat.xor_mod_two_eq_one m n
      have a1 := @Nat.and_mod_two_eq_one m n
      omega
theorem bitXor_pp {x y : Int} (hx : 0 ≤ x) (hy : 0 ≤ y) : Builtin.bitXor x y = ((x.toNat ^^^ y.toNat : Nat) : Int) := by
  have e := nat_xor_add_and x.toNat y.toNat
  rw [bitXor_and, bitAnd_pp hx hy]
  omega
end Bits
end 
section 
namespace TL
open PySem PySem.Builtin PySem.Builtin.Str PySem.StrLaws
end TL
end 
namespace L2
open PySem PySem.Spec PyProof.Rows
section
variable {X : Cx} {pins : List (Addr × Obj)} {σ : St} {H : Hp} {s : Shared} {Q : VK}
end
section
variable {X : Cx}
end
section
variable {X : Cx} {o e : Expr} {to te : TE}
end
end L2
namespace L2
open PySem PySem.Spec PyProof.Rows
section
variable {X : Cx}
end
end L2
namespace Att
open PySem PySem.W PySem.Calls PyProof.Rows
section
variable {prog : Program} {w : World} {A : Around} {E : Value → Shared → Prop} {s : Shared} {K : Frag}
end
end Att
namespace L2
open PySem PySem.Spec PyProof.Rows
end L2
namespace L2
open PySem PySem.Spec PyProof.Rows
abbrev KOf {K : PySem.W.Frag} {h : Heap} (_ : K.In h) : PySem.W.Frag := K
end L2
namespace L2
open PySem PySem.Spec PyProof.Rows
/-- the j-th statement of a class's body -/
def inClass (s : Stmt) (j : Nat) : Stmt := match s with
  | .ClassDef _ _ _ body _ _ _ _ _ _ _ => body.getD j (.Pass ⟨0, 0, 0, 0⟩)
  | _ => .Pass ⟨0, 0, 0, 0⟩
def defArgs (s : Stmt) : Arguments := match s with
  | .FunctionDef _ a _ _ _ _ _ _ _ _ => a
  | _ => { posonlyargs := [], args := [], vararg := none, kwonlyargs := [], kw_defaults := [], kwarg := none, defaults := [] }
def defBody (s : Stmt) : List Stmt := match s with
  | .FunctionDef _ _ b _ _ _ _ _ _ _ => b
  | _ => []
def defScope (s : Stmt) : Scope := match s with
  | .FunctionDef _ _ _ _ _ _ sc _ _ _ => sc
  | _ => { kind := .function, names := [], isGenerator := false, isCoroutine := false }
abbrev CX0 : CXT := fun _ _ _ _ _ _ => False
abbrev E0 : XK := fun _ _ _ => False
theorem pass0 {X : Cx} : Passes CX0 X E0 := fun _ _ _ _ _ _ _ h => h.elim
structure Fun (K : PySem.W.Frag) (x qual : Str) (st : Stmt) (f : Addr) (fd : FuncData) : Prop where
  ex : ∃ (oc : Value) (od : Option Addr) (kV doc pm : Value) (an : Option Addr) (cdv ct : Value) (osl : Array (Option Value)),
    fd = PySem.W.fnOf x qual (defArgs st) (defBody st) (defScope st) .none kV doc pm an cdv ct ∧ K.lookup f = some ⟨oc, od, .func fd, osl⟩ ∧ PySem.W.codeIn K cdv qual = true
  kp : PySem.W.keepIn K (.ref f) = true
section
variable {P : Program} {w : World} {K : PySem.W.Frag} {mg : Str → Option Value} {base : Heap}
/-- THE RULE for a def: its body as a term of rules, and the reading of that term -/
theorem Fun.ok {x qual : Str} {st : Stmt} {f : Addr} {fd : FuncData} {N ps : List Str} {k : Nat} {sp : Sp} (F : Fun K x qual st f fd) (S : FnScope N ps (defScope st)) (len : ∀ vs H Q E, sp vs H Q E → vs.length = ps.length)
    (hbody : ∀ (cdv : Value) (A : Around) (outer : List Env) (s : Shared) (H : Hp) (vs : List V) (Q : VK) (E : XK), Room k (A.deeper (envOfC qual (defScope st) s.heap.objs.size f cdv)) → sp vs H Q E →
      ∃ t, PSs (cxOf CX0 P w K mg base N qual (defScope st) f cdv A outer s H E).nox (defBody st) t ∧ t { nx := fun _ H' => Q .non H', rt := Q } (start N vs) H) : FnOk P w K mg base CX0 (k + 1) f fd ps sp := by
  obtain ⟨oc, od, kV, doc, pm, an, cdv, ct, osl, rfl, lk, hcd⟩ := F.ex
  refine fn_of lk hcd S len fun A outer s H vs Q E hr hsp => ?_
  obtain ⟨t, h, q⟩ := hbody cdv A outer s H vs Q E hr hsp
  exact ⟨t, h.nox, q⟩
/-- how its arguments bind (no defaults): h is «fun _ _ _ _ _ _ us hl => match us, hl with | [_, _], _ => rfl», one _ a parameter -/
theorem Fun.binds {x qual : Str} {st : Stmt} {f : Addr} {fd : FuncData} {ps : List Str} (F : Fun K x qual st f fd)
    (h : ∀ (kV doc pm : Value) (an : Option Addr) (cdv ct : Value) (us : List Value), us.length = ps.length → bindArgs (PySem.W.fnOf x qual (defArgs st) (defBody st) (defScope st) .none kV doc pm an cdv ct) ⟨us, []⟩ = pure (ps.zip us)) : Binds K fd ps [] := by
  obtain ⟨oc, od, kV, doc, pm, an, cdv, ct, osl, rfl, lk, hcd⟩ := F.ex
  exact .all (h kV doc pm an cdv ct)
theorem fun_mk {x qual : Str} {st : Stmt} {f : Addr} {oc : Value} {od an : Option Addr} {osl : Array (Option Value)} {kV doc pm cdv ct : Value} (l : K.lookup f = some ⟨oc, od, .func (PySem.W.fnOf x qual (defArgs st) (defBody st) (defScope st) .none kV doc pm an cdv ct), osl⟩)
    (c : PySem.W.codeIn K cdv qual = true) (k : PySem.W.keepIn K (.ref f) = true) : Fun K x qual st f (PySem.W.fnOf x qual (defArgs st) (defBody st) (defScope st) .none kV doc pm an cdv ct) := ⟨⟨oc, od, kV, doc, pm, an, cdv, ct, osl, rfl, l, c⟩, k⟩
end
section
variable {X : Cx}
theorem pv (i : Nat) {x : Str} {pos : Pos} (hN : X.N[i]? = some x := by rfl) (hv : Vis X.env.scope x := by first | exact Or.inl rfl | exact Or.inr (Or.inl rfl) | exact Or.inr (Or.inr rfl)) (hd : (x == ("__debug__" : Str)) = false := by decide)
    (hcd : (x == ("__classdict__" : Str)) = false := by decide) : PE X (.Name x pos) (tVar i) := pe_var hN hv hd hcd
end
theorem iteF {A B : Prop} (h : B) : if false = true then A else B := by
  rw [if_neg Bool.false_ne_true]
  exact h
theorem iteT {A B : Prop} (h : A) : if true = true then A else B := by
  rw [if_pos rfl]
  exact h
theorem ite2 {c A B : Prop} [Decidable c] (h1 : c → A) (h2 : ¬ c → B) : if c then A else B := by
  by_cases h : c
  · rw [if_pos h]
    exact h1 h
  · rw [if_neg h]
    exact h2 h
/-- all that was tracked is as it was -/
def Same (H H' : Hp) : Prop := ∀ b o, H b = some o → H' b = some o
theorem Same.refl (H : Hp) : Same H H := fun _ _ h => h
theorem Same.trans {H H1 H2 : Hp} (a : Same H H1) (b : Same H1 H2) : Same H H2 := fun c o h => b c o (a c o h)
theorem Same.free {H H' : Hp} (e : Same H H') {l : Addr} (h : H' l = Option.none) : H l = Option.none := by
  cases q : H l with
  | none => rfl
  | some o =>
    rw [e l o q] at h
    cases h
theorem Same.seq {K : PySem.W.Frag} {H H' : Hp} {a : Addr} {xs : List V} (e : Same H H') (h : SqL K H a xs) : SqL K H' a xs := by
  rcases h with (h | ⟨o, h⟩) | h
  · exact .inl (.inl (e _ _ h))
  · exact .inl (.inr ⟨o, e _ _ h⟩)
  · exact .inr h
section
variable {κ : Type} [DecidableEq κ]
end
theorem at_of {xs : List V} {z : Int} {j : Nat} {v : V} (e : z = (j : Int)) (h : xs[j]? = some v) : atI xs z = some v := by
  rw [e]
  exact atI_nat h
/-- a new instance and its __init__ leave all that was tracked as it was -/
theorem Same.made {H H1 : Hp} {x dx C : Addr} (nx : H x = Option.none) (nd : H dx = Option.none) (k : ∀ b o, (upd (upd H dx (.own x)) x (.ins C dx [])) b = some o → b ≠ x → H1 b = some o) : Same H H1 := fun b o e =>
  k b o (by rw [upd_ne (ne_of_none e nx), upd_ne (ne_of_none e nd)]; exact e) (ne_of_none e nx)
end L2
section
set_option Elab.async false
set_option linter.all false
set_option maxRecDepth 100000
set_option maxHeartbeats 2000000
namespace L2
open PySem PySem.Spec PyProof.Rows
open PySem.W (WData Codec OpenSpec Well WellAll ReadsW ReadsAllW)
mutual
/-- x stands for the datum d, lists and tuples all the way -/
inductive Dw (K : PySem.W.Frag) (H : Hp) : V → WData → Prop
  | non : Dw K H .non .none
  | bl (b : Bool) : Dw K H (.bl b) (.bool b)
  | int (i : Int) : Dw K H (.int i) (.int i)
  | str (x : Str) : Dw K H (.str x) (.str x)
  | byt (b : Array UInt8) : Dw K H (.byt b) (.bytes b.toList)
  | lst {a : Addr} {xs : List V} {ds : List WData} : SqL K H a xs → DwAll K H xs ds → Dw K H (.ref a) (.list ds)
  | tup {a : Addr} {xs : List V} {ds : List WData} : SqT K H a xs → DwAll K H xs ds → Dw K H (.ref a) (.tuple ds)
inductive DwAll (K : PySem.W.Frag) (H : Hp) : List V → List WData → Prop
  | nil : DwAll K H [] []
  | cons {v : V} {vs : List V} {d : WData} {ds : List WData} : Dw K H v d → DwAll K H vs ds → DwAll K H (v :: vs) (d :: ds)
end
theorem dw_ints {K : PySem.W.Frag} {H : Hp} : ∀ ns : List Int, DwAll K H (ns.map V.int) (ns.map WData.int)
  | [] => .nil
  | n :: r => .cons (.int n) (dw_ints r)
theorem ints_dw {K : PySem.W.Frag} {H : Hp} : ∀ (ns : List Int) (xs : List V), DwAll K H xs (ns.map WData.int) → xs = ns.map V.int
  | [], xs, h => by
    cases h
    rfl
  | n :: r, xs, h => by
    cases h with
    | cons h1 h2 =>
      cases h1
      rw [ints_dw r _ h2] <;> rfl
section
variable {P : Program} {w : World} {K : PySem.W.Frag} {H : Hp} {h : Heap} {R : PySem.W.WRecords} {cl : Str → Option Addr}
theorem sqL_at {a : Addr} {xs : List V} (hok : HOk P w H h) (KX : K.In h) (q : SqL K H a xs) : ∃ (its : List Value) (o : Obj) (n : Nat), Vals xs its ∧ h.get? a = some o ∧ o.cls = .type "list" ∧ o.data = .seq its.toArray n := by
  rcases q with q | ⟨o, its, n, e, hc, _, hd, _, hv⟩
  · obtain ⟨_, its, n, hv, e⟩ := (show ObjOk P w H h a (.lst xs) from q.ok hok)
    exact ⟨its, _, n, hv, e, rfl, rfl⟩
  · exact ⟨its.toList, o, n, hv, KX _ _ e, hc, by simp [hd]⟩
theorem sqT_at {a : Addr} {xs : List V} (hok : HOk P w H h) (KX : K.In h) (q : SqT K H a xs) : ∃ (its : List Value) (o : Obj) (n : Nat), Vals xs its ∧ h.get? a = some o ∧ o.cls = .type "tuple" ∧ o.data = .seq its.toArray n := by
  rcases q with q | ⟨o, its, n, e, hc, hd, _, hv⟩
  · obtain ⟨_, its, hv, o, e, hc, n, hd⟩ := (show ObjOk P w H h a (.tup xs) from q.ok hok)
    exact ⟨its, o, n, hv, e, hc, hd⟩
  · exact ⟨its.toList, o, n, hv, KX _ _ e, hc, by simp [hd]⟩
mutual
theorem Dw.reads (hok : HOk P w H h) (KX : K.In h) : ∀ (d : WData) (v : V) (u : Value), Dw K H v d → RelV v u → ∃ as, ReadsW R cl h u d as
  | .none, _, _, x, r => by
    cases x
    cases r
    exact ⟨_, ReadsW.none⟩
  | .bool b, _, _, x, r => by
    cases x
    cases r
    exact ⟨_, ReadsW.bool b⟩
  | .int i, _, _, x, r => by
    cases x
    obtain ⟨t, rfl⟩ := r
    exact ⟨_, ReadsW.int i t⟩
  | .str s, _, _, x, r => by
    cases x
    obtain ⟨t, rfl⟩ := r
    exact ⟨_, ReadsW.str s t⟩
  | .bytes b, _, _, x, r => by
    cases x
    obtain ⟨t, rfl⟩ := r
    exact ⟨_, ReadsW.bytes _ t⟩
  | .list ds, _, _, x, r => by
    cases x with
    | lst hs ha =>
      cases r
      obtain ⟨its, o, n, rv, ho, hc, hd⟩ := sqL_at hok KX hs
      obtain ⟨as, hr⟩ := Dw.readsAll hok KX ds _ its ha rv
      exact ⟨_, ReadsW.list ho hc hd hr⟩
  | .tuple ds, _, _, x, r => by
    cases x with
    | tup hs ha =>
      cases r
      obtain ⟨its, o, n, rv, ho, hc, hd⟩ := sqT_at hok KX hs
      obtain ⟨as, hr⟩ := Dw.readsAll hok KX ds _ its ha rv
      exact ⟨_, ReadsW.tuple ho hc hd hr⟩
  | .float _, _, _, x, _ => by cases x
  | .dict _, _, _, x, _ => by cases x
  | .bytearray _, _, _, x, _ => by cases x
  | .set _, _, _, x, _ => by cases x
  | .frozenset _, _, _, x, _ => by cases x
  | .obj _ _, _, _, x, _ => by cases x
theorem Dw.readsAll (hok : HOk P w H h) (KX : K.In h) : ∀ (ds : List WData) (vs : List V) (us : List Value), DwAll K H vs ds → Vals vs us → ∃ as, ReadsAllW R cl h us ds as
  | [], _, _, x, r => by
    cases x
    cases r
    exact ⟨_, ReadsAllW.nil⟩
  | d :: ds, _, _, x, r => by
    cases x with
    | cons h1 h2 =>
      cases r with
      | cons r1 r2 =>
        obtain ⟨as, q1⟩ := Dw.reads hok KX d _ _ h1 r1
        obtain ⟨bs, q2⟩ := Dw.readsAll hok KX ds _ _ h2 r2
        exact ⟨_, ReadsAllW.cons q1 q2⟩
end
end
mutual
/-- data that a codec tells -/
def plW : WData → Bool
  | .none => true
  | .bool _ => true
  | .int _ => true
  | .str _ => true
  | .bytes _ => true
  | .list xs => plWs xs
  | .tuple xs => plWs xs
  | _ => false
def plWs : List WData → Bool
  | [] => true
  | x :: r => plW x && plWs r
end
theorem plWs_map {α : Type} {f : α → WData} (h : ∀ a, plW (f a) = true) : ∀ l : List α, plWs (l.map f) = true
  | [] => rfl
  | x :: r => by
    show (plW (f x) && plWs (r.map f)) = true
    rw [h x, plWs_map h r] <;> rfl
theorem pl_enc : ∀ (c : Codec) (a : c.denote), plW (c.enc a) = true
  | .unit, _ => rfl
  | .bool, _ => rfl
  | .int _ _, _ => rfl
  | .nat _ _, _ => rfl
  | .u8, _ => rfl
  | .bytes _ _, _ => rfl
  | .text _ _ _ _, _ => rfl
  | .list _ _ c, a => plWs_map (fun x => pl_enc c x) a
  | .pair c d, a => by
    show (plW (c.enc a.1) && (plW (d.enc a.2) && true)) = true
    rw [pl_enc c a.1, pl_enc d a.2] <;> rfl
  | .triple c d e, a => by
    show (plW (c.enc a.1) && (plW (d.enc a.2.1) && (plW (e.enc a.2.2) && true))) = true
    rw [pl_enc c a.1, pl_enc d a.2.1, pl_enc e a.2.2] <;> rfl
  | .option c, none => rfl
  | .option c, some x => pl_enc c x
theorem pl_encAll : ∀ (cs : List Codec) (a : Codec.denoteAll cs), plWs (Codec.encAll cs a) = true
  | [], _ => rfl
  | c :: cs, a => by
    show (plW (c.enc a.1) && plWs (Codec.encAll cs a.2)) = true
    rw [pl_enc c a.1, pl_encAll cs a.2] <;> rfl
theorem weight_mem : ∀ {xs : List WData} {d : WData}, d ∈ xs → d.weight ≤ WData.weightAll xs
  | [], d, h => absurd h (by simp)
  | x :: r, d, h => by
    show d.weight ≤ x.weight + 1 + WData.weightAll r
    rcases List.mem_cons.mp h with e | m
    · rw [e]
      omega
    · have z := weight_mem m
      omega
def toV : Value → V
  | .none => .non
  | .bool b => .bl b
  | .int i _ => .int i
  | .str x _ => .str x
  | .bytes b _ => .byt b
  | .ref a => .ref a
  | _ => .non
/-- a value of the arguments, its objects among A -/
def OkU (A : List Addr) : Value → Prop
  | .none => True
  | .bool _ => True
  | .int _ _ => True
  | .str _ _ => True
  | .bytes _ _ => True
  | .ref a => a ∈ A
  | _ => False
theorem OkU.mono {A B : List Addr} (h : ∀ a ∈ A, a ∈ B) : ∀ {u : Value}, OkU A u → OkU B u := fun {u} x => by
  cases u with
  | ref a => exact h a x
  | none => trivial
  | bool b => trivial
  | int i t => trivial
  | str s t => trivial
  | bytes b t => trivial
  | _ => exact False.elim x
theorem relV_toV {A : List Addr} {u : Value} (x : OkU A u) : RelV (toV u) u := by
  cases u with
  | ref a => rfl
  | none => rfl
  | bool b => rfl
  | int i t => exact ⟨t, rfl⟩
  | str s t => exact ⟨t, rfl⟩
  | bytes b t => exact ⟨t, rfl⟩
  | _ => exact False.elim x
theorem vals_toV {A : List Addr} : ∀ {vs : List Value}, (∀ u ∈ vs, OkU A u) → Vals (vs.map toV) vs
  | [], _ => .nil
  | u :: r, h => .cons (relV_toV (h u (List.mem_cons_self ..))) (vals_toV fun x hx => h x (List.mem_cons_of_mem _ hx))
/-- an object of the arguments -/
def ArgOb (h : Heap) (A : List Addr) (a : Addr) : Prop := ∃ vs : List Value, vs.length ≤ sizeLine ∧ (∀ u ∈ vs, OkU A u) ∧
  (h.get? a = some { cls := .type "list", data := .seq vs.toArray } ∨ h.get? a = some { cls := .type "tuple", data := .seq vs.toArray })
theorem ArgOb.mono {h : Heap} {A B : List Addr} {a : Addr} (k : ∀ a ∈ A, a ∈ B) (x : ArgOb h A a) : ArgOb h B a := by
  obtain ⟨vs, h1, h2, h3⟩ := x
  exact ⟨vs, h1, fun u hu => (h2 u hu).mono k, h3⟩
theorem wellAll_len {P : Params} {h : Heap} : ∀ {vs : List Value} {ds : List WData}, WellAll P h vs ds → vs.length = ds.length
  | _, _, .nil => rfl
  | _, _, .cons _ b => by
    show _ + 1 = _ + 1
    rw [wellAll_len b]
theorem well_list {P : Params} {h : Heap} {v : Value} {ds : List WData} (x : Well P h v (.list ds)) : ∃ (a : Addr) (vs : List Value), v = .ref a ∧ h.get? a = some { cls := .type "list", data := .seq vs.toArray } ∧ WellAll P h vs ds := by
  cases x with
  | list ho hall => exact ⟨_, _, rfl, ho, hall⟩
theorem well_tuple {P : Params} {h : Heap} {v : Value} {ds : List WData} (x : Well P h v (.tuple ds)) : ∃ (a : Addr) (vs : List Value), v = .ref a ∧ h.get? a = some { cls := .type "tuple", data := .seq vs.toArray } ∧ WellAll P h vs ds := by
  cases x with
  | tuple ho hall => exact ⟨_, _, rfl, ho, hall⟩
theorem well_cons {P : Params} {h : Heap} {us : List Value} {d : WData} {ds : List WData} (x : WellAll P h us (d :: ds)) : ∃ (v : Value) (vs : List Value), us = v :: vs ∧ Well P h v d ∧ WellAll P h vs ds := by
  cases x with
  | cons a b => exact ⟨_, _, rfl, a, b⟩
theorem line_of {n : Nat} (h : n ≤ 1048576) : n ≤ sizeLine := Nat.le_trans h (by decide)
section
variable {P : Params} {h : Heap}
mutual
theorem area_one : ∀ (d : WData) (v : Value), Well P h v d → plW d = true → d.weight ≤ 1048576 → ∃ A : List Addr, OkU A v ∧ ∀ a ∈ A, ArgOb h A a
  | .none, _, x, _, _ => by
    cases x
    exact ⟨[], trivial, fun a m => absurd m (by simp)⟩
  | .bool b, _, x, _, _ => by
    cases x
    exact ⟨[], trivial, fun a m => absurd m (by simp)⟩
  | .int i, _, x, _, _ => by
    cases x
    exact ⟨[], trivial, fun a m => absurd m (by simp)⟩
  | .str s, _, x, _, _ => by
    cases x
    exact ⟨[], trivial, fun a m => absurd m (by simp)⟩
  | .bytes b, _, x, _, _ => by
    cases x
    exact ⟨[], trivial, fun a m => absurd m (by simp)⟩
  | .list ds, _, x, p, z => by
    obtain ⟨a, vs, rfl, ho, hall⟩ := well_list x
    have z2 : WData.weightAll ds ≤ 1048576 := z
    obtain ⟨A, h1, h2⟩ := area_all ds _ hall p fun d hd => Nat.le_trans (weight_mem hd) z2
    have k : ∀ b ∈ A, b ∈ a :: A := fun b hb => List.mem_cons_of_mem _ hb
    refine ⟨a :: A, List.mem_cons_self .., fun b hb => ?_⟩
    rcases List.mem_cons.mp hb with e | m
    · rw [e]
      exact ⟨vs, line_of (by rw [wellAll_len hall]; exact Nat.le_trans (PySem.W.length_le_weightAllW ds) z2), fun u hu => (h1 u hu).mono k, .inl ho⟩
    · exact (h2 b m).mono k
  | .tuple ds, _, x, p, z => by
    obtain ⟨a, vs, rfl, ho, hall⟩ := well_tuple x
    have z2 : WData.weightAll ds ≤ 1048576 := z
    obtain ⟨A, h1, h2⟩ := area_all ds _ hall p fun d hd => Nat.le_trans (weight_mem hd) z2
    have k : ∀ b ∈ A, b ∈ a :: A := fun b hb => List.mem_cons_of_mem _ hb
    refine ⟨a :: A, List.mem_cons_self .., fun b hb => ?_⟩
    rcases List.mem_cons.mp hb with e | m
    · rw [e]
      exact ⟨vs, line_of (by rw [wellAll_len hall]; exact Nat.le_trans (PySem.W.length_le_weightAllW ds) z2), fun u hu => (h1 u hu).mono k, .inr ho⟩
    · exact (h2 b m).mono k
  | .float _, _, _, p, _ => Bool.noConfusion (show false = true from p)
  | .dict _, _, _, p, _ => Bool.noConfusion (show false = true from p)
  | .bytearray _, _, _, p, _ => Bool.noConfusion (show false = true from p)
  | .set _, _, _, p, _ => Bool.noConfusion (show false = true from p)
  | .frozenset _, _, _, p, _ => Bool.noConfusion (show false = true from p)
  | .obj _ _, _, _, p, _ => Bool.noConfusion (show false = true from p)
theorem area_all : ∀ (ds : List WData) (vs : List Value), WellAll P h vs ds → plWs ds = true → (∀ d ∈ ds, d.weight ≤ 1048576) → ∃ A : List Addr, (∀ u ∈ vs, OkU A u) ∧ ∀ a ∈ A, ArgOb h A a
  | [], _, x, _, _ => by
    cases x
    exact ⟨[], fun u m => absurd m (by simp), fun a m => absurd m (by simp)⟩
  | d :: ds, _, x, p, z => by
    obtain ⟨v, vs, rfl, x1, x2⟩ := well_cons x
    have q : plW d = true ∧ plWs ds = true := Bool.and_eq_true_iff.mp p
    obtain ⟨A, a1, a2⟩ := area_one d v x1 q.1 (z d (List.mem_cons_self ..))
    obtain ⟨B, b1, b2⟩ := area_all ds vs x2 q.2 fun e he => z e (List.mem_cons_of_mem _ he)
    have kA : ∀ b ∈ A, b ∈ A ++ B := fun b hb => List.mem_append.mpr (.inl hb)
    have kB : ∀ b ∈ B, b ∈ A ++ B := fun b hb => List.mem_append.mpr (.inr hb)
    refine ⟨A ++ B, fun u hu => ?_, fun b hb => ?_⟩
    · rcases List.mem_cons.mp hu with e | m
      · rw [e]
        exact a1.mono kA
      · exact (b1 u m).mono kB
    · rcases List.mem_append.mp hb with m | m
      · exact (a2 b m).mono kA
      · exact (b2 b m).mono kB
end
end
/-- what is tracked of an argument's object -/
def hoOf (o : Obj) : Option HO := match o.data with
  | .seq vs _ => if (o.cls == Value.type "list") = true then some (.frz o (.lst (vs.toList.map toV))) else some (.frz o (.tup (vs.toList.map toV)))
  | _ => none
def argH (K : PySem.W.Frag) (h : Heap) (A : List Addr) : Hp := fun b => if b ∈ A then (if (K.lookup b).isNone = true then (h.get? b).bind hoOf else none) else none
/-- nothing is tracked but what is known to the object -/
def OnlyF (H : Hp) : Prop := ∀ b, H b = none ∨ ∃ o u, H b = some (.frz o u)
theorem hoOf_lst (vs : List Value) : hoOf { cls := .type "list", data := .seq vs.toArray } = some (.frz { cls := .type "list", data := .seq vs.toArray } (.lst (vs.map toV))) := by
  show (if (Value.type "list" == Value.type "list") = true then some (HO.frz { cls := .type "list", data := .seq vs.toArray } (.lst (vs.toArray.toList.map toV))) else some (HO.frz { cls := .type "list", data := .seq vs.toArray } (.tup (vs.toArray.toList.map toV)))) = _
  rw [if_pos (beq_self_eq_true _)]
theorem hoOf_tup (vs : List Value) : hoOf { cls := .type "tuple", data := .seq vs.toArray } = some (.frz { cls := .type "tuple", data := .seq vs.toArray } (.tup (vs.map toV))) := by
  show (if (Value.type "tuple" == Value.type "list") = true then some (HO.frz { cls := .type "tuple", data := .seq vs.toArray } (.lst (vs.toArray.toList.map toV))) else some (HO.frz { cls := .type "tuple", data := .seq vs.toArray } (.tup (vs.toArray.toList.map toV)))) = _
  rw [if_neg (by decide)]
section
variable {P : Program} {w : World} {K : PySem.W.Frag} {h : Heap} {A : List Addr}
theorem argH_at {b : Addr} {o : Obj} (hb : b ∈ A) (hk : K.lookup b = none) (e : h.get? b = some o) : argH K h A b = hoOf o := by
  unfold argH
  rw [if_pos hb, hk, if_pos (show (none : Option Obj).isNone = true from rfl), e] <;> rfl
theorem of_argH {b : Addr} {u : HO} (q : argH K h A b = some u) : b ∈ A ∧ K.lookup b = none := by
  unfold argH at q
  by_cases hb : b ∈ A
  · rw [if_pos hb] at q
    cases hk : K.lookup b with
    | none => exact ⟨hb, rfl⟩
    | some o =>
      rw [hk, if_neg (by simp)] at q
      cases q
  · rw [if_neg hb] at q
    cases q
/-- what stands tracked -/
theorem argH_is (ar : ∀ a ∈ A, ArgOb h A a) {b : Addr} {u : HO} (q : argH K h A b = some u) : K.lookup b = none ∧ ∃ vs : List Value, vs.length ≤ sizeLine ∧ (∀ u ∈ vs, OkU A u) ∧
    ((h.get? b = some { cls := .type "list", data := .seq vs.toArray } ∧ u = .frz { cls := .type "list", data := .seq vs.toArray } (.lst (vs.map toV))) ∨
     (h.get? b = some { cls := .type "tuple", data := .seq vs.toArray } ∧ u = .frz { cls := .type "tuple", data := .seq vs.toArray } (.tup (vs.map toV)))) := by
  obtain ⟨hb, hk⟩ := of_argH q
  obtain ⟨vs, h1, h2, h3⟩ := ar b hb
  refine ⟨hk, vs, h1, h2, ?_⟩
  rcases h3 with e | e
  · rw [argH_at hb hk e, hoOf_lst] at q
    exact .inl ⟨e, (Option.some.inj q).symm⟩
  · rw [argH_at hb hk e, hoOf_tup] at q
    exact .inr ⟨e, (Option.some.inj q).symm⟩
theorem argH_only (ar : ∀ a ∈ A, ArgOb h A a) : OnlyF (argH K h A) := fun b => by
  cases q : argH K h A b with
  | none => exact .inl rfl
  | some u =>
    obtain ⟨_, vs, _, _, ⟨_, e⟩ | ⟨_, e⟩⟩ := argH_is ar q
    · exact .inr ⟨_, _, by rw [e]⟩
    · exact .inr ⟨_, _, by rw [e]⟩
theorem argH_ok (ar : ∀ a ∈ A, ArgOb h A a) : HOk P w (argH K h A) h := fun b u q => by
  obtain ⟨_, vs, h1, h2, ⟨e, rfl⟩ | ⟨e, rfl⟩⟩ := argH_is ar q
  · exact ⟨e, by rw [List.length_map]; exact h1, vs, _, vals_toV h2, e⟩
  · exact ⟨e, by rw [List.length_map]; exact h1, vs, vals_toV h2, _, e, rfl, _, rfl⟩
theorem seq_inj {c c' : Value} {vs us : List Value} (e : (some { cls := c, data := .seq vs.toArray } : Option Obj) = some { cls := c', data := .seq us.toArray }) : c = c' ∧ vs = us := by
  have e1 := Option.some.inj e
  have e2 : c = c' := congrArg Obj.cls e1
  have e3 : Data.seq vs.toArray = Data.seq us.toArray := congrArg Obj.data e1
  injection e3 with e4
  refine ⟨e2, ?_⟩
  have e5 := congrArg Array.toList e4
  simpa using e5
/-- a list argument -/
theorem argL (KX : K.In h) (ar : ∀ a ∈ A, ArgOb h A a) {a : Addr} {vs : List Value} (ha : a ∈ A) (e : h.get? a = some { cls := .type "list", data := .seq vs.toArray }) : (∀ u ∈ vs, OkU A u) ∧ SqL K (argH K h A) a (vs.map toV) := by
  obtain ⟨us, h1, h2, h3⟩ := ar a ha
  have hu : us = vs := by
    rcases h3 with q | q
    · rw [e] at q
      exact (seq_inj q).2.symm
    · rw [e] at q
      exact absurd (Value.type.inj (seq_inj q).1) (by decide)
  subst hu
  refine ⟨h2, ?_⟩
  cases hk : K.lookup a with
  | none => exact .inl (.inr ⟨_, by rw [argH_at ha hk e, hoOf_lst]⟩)
  | some o =>
    have e2 := KX a o hk
    rw [e] at e2
    obtain rfl := Option.some.inj e2
    exact .inr ⟨_, us.toArray, _, hk, rfl, rfl, rfl, by rw [List.size_toArray]; exact h1, by simpa using vals_toV h2⟩
theorem argT (KX : K.In h) (ar : ∀ a ∈ A, ArgOb h A a) {a : Addr} {vs : List Value} (ha : a ∈ A) (e : h.get? a = some { cls := .type "tuple", data := .seq vs.toArray }) : (∀ u ∈ vs, OkU A u) ∧ SqT K (argH K h A) a (vs.map toV) := by
  obtain ⟨us, h1, h2, h3⟩ := ar a ha
  have hu : us = vs := by
    rcases h3 with q | q
    · rw [e] at q
      exact absurd (Value.type.inj (seq_inj q).1) (by decide)
    · rw [e] at q
      exact (seq_inj q).2.symm
  subst hu
  refine ⟨h2, ?_⟩
  cases hk : K.lookup a with
  | none => exact .inl (.inr ⟨_, by rw [argH_at ha hk e, hoOf_tup]⟩)
  | some o =>
    have e2 := KX a o hk
    rw [e] at e2
    obtain rfl := Option.some.inj e2
    exact .inr ⟨_, us.toArray, _, hk, rfl, rfl, by rw [List.size_toArray]; exact h1, by simpa using vals_toV h2⟩
mutual
theorem dw_one {Pm : Params} (KX : K.In h) (ar : ∀ a ∈ A, ArgOb h A a) : ∀ (d : WData) (v : Value), Well Pm h v d → plW d = true → OkU A v → Dw K (argH K h A) (toV v) d
  | .none, _, x, _, _ => by
    cases x
    exact .non
  | .bool b, _, x, _, _ => by
    cases x
    exact .bl b
  | .int i, _, x, _, _ => by
    cases x
    exact .int i
  | .str s, _, x, _, _ => by
    cases x
    exact .str s
  | .bytes b, _, x, _, _ => by
    cases x
    have z := Dw.byt (K := K) (H := argH K h A) b.toArray
    exact z
  | .list ds, _, x, p, hu => by
    obtain ⟨a, vs, rfl, ho, hall⟩ := well_list x
    obtain ⟨h2, hs⟩ := argL KX ar hu ho
    exact .lst hs (dw_all KX ar ds _ hall p h2)
  | .tuple ds, _, x, p, hu => by
    obtain ⟨a, vs, rfl, ho, hall⟩ := well_tuple x
    obtain ⟨h2, hs⟩ := argT KX ar hu ho
    exact .tup hs (dw_all KX ar ds _ hall p h2)
  | .float _, _, _, p, _ => Bool.noConfusion (show false = true from p)
  | .dict _, _, _, p, _ => Bool.noConfusion (show false = true from p)
  | .bytearray _, _, _, p, _ => Bool.noConfusion (show false = true from p)
  | .set _, _, _, p, _ => Bool.noConfusion (show false = true from p)
  | .frozenset _, _, _, p, _ => Bool.noConfusion (show false = true from p)
  | .obj _ _, _, _, p, _ => Bool.noConfusion (show false = true from p)
theorem dw_all {Pm : Params} (KX : K.In h) (ar : ∀ a ∈ A, ArgOb h A a) : ∀ (ds : List WData) (vs : List Value), WellAll Pm h vs ds → plWs ds = true → (∀ u ∈ vs, OkU A u) → DwAll K (argH K h A) (vs.map toV) ds
  | [], _, x, _, _ => by
    cases x
    exact .nil
  | d :: ds, _, x, p, hu => by
    obtain ⟨v, vs, rfl, x1, x2⟩ := well_cons x
    have q : plW d = true ∧ plWs ds = true := Bool.and_eq_true_iff.mp p
    exact .cons (dw_one KX ar d v x1 q.1 (hu _ (List.mem_cons_self ..))) (dw_all KX ar ds vs x2 q.2 fun u m => hu u (List.mem_cons_of_mem _ m))
end
end
theorem spec_call {P : Program} {w : World} {K : PySem.W.Frag} {mg mb : Str → Option Value} {CX : CXT} {k : Nat} {fa : Addr} {fd : FuncData} {ps : List Str} {sp : Sp} {s₁ : Shared} {vals : List Value} {ds : List WData} {R : PySem.W.WRecords} {cl : Str → Option Addr} {d0 : WData}
    (KX : K.In s₁.heap) (hns : s₁.heap.Ns mainGlobals mg) (hb : s₁.heap.Ns builtinsNs mb) (hbb : ∀ x : Str, x ≠ "__name__" → mb x = bootBuiltins x) (hlim : s₁.heap.NoLimit) (hg : s₁.gens = #[])
    (hwl : WellAll w.params s₁.heap vals ds) (hpl : plWs ds = true) (hwt : ∀ d ∈ ds, d.weight ≤ 1048576) (hr : Room k callerA)
    (F : ∀ base : Heap, K.In base → base.Ns mainGlobals mg → FnOk P w K mg base CX k fa fd ps sp) (hbind : ∀ (s : Shared) (us : List Value), us.length = ps.length → BindsTo s fd ⟨us, []⟩ (ps.zip us)) (hlen : ds.length = ps.length)
    (hsp : ∀ (H : Hp) (xs : List V), OnlyF H → DwAll K H xs ds → sp xs H (fun v H' => Dw K H' v d0) fun _ _ _ => False)
    (hCX : ∀ H e s', CX [] H s₁ (fun _ _ _ => False) e s' → False) :
    codeAny (model P w) callerA (.call (.ref fa) ⟨vals, []⟩) (fun r s' => ∃ u as, r = .ok (.ret u) ∧ ReadsW R cl s'.heap u d0 as ∧ OldK s₁.heap s'.heap ∧ s'.os = s₁.os ∧ AllBare s'.gens) s₁ := by
  obtain ⟨A, ho, ar⟩ := area_all ds vals hwl hpl hwt
  have hO : OnlyF (argH K s₁.heap A) := argH_only ar
  have hok : HOk P w (argH K s₁.heap A) s₁.heap := argH_ok ar
  have hS := dw_all KX ar ds vals hwl hpl ho
  have hV := vals_toV ho
  have hK : ∀ b u, argH K s₁.heap A b = some u → K.lookup b = none := fun b u q => (argH_is ar q).1
  have noA : ∀ {b : Addr} {o : Obj} {es : Array DictEntry} {ep : Nat}, s₁.heap.get? b = some o → o.data = .dict es ep → argH K s₁.heap A b = none := fun {b o es ep} e d => by
    cases q : argH K s₁.heap A b with
    | none => rfl
    | some u =>
      obtain ⟨_, vs, _, _, ⟨e2, _⟩ | ⟨e2, _⟩⟩ := argH_is ar q
      · rw [e2] at e
        cases e
        have d' : Data.seq vs.toArray _ = Data.dict es ep := d
        cases d'
      · rw [e2] at e
        cases e
        have d' : Data.seq vs.toArray _ = Data.dict es ep := d
        cases d'
  generalize argH K s₁.heap A = H at hO hok hS hK noA
  have base_of : ∀ {b : Addr} {o : Obj}, s₁.heap.get? b = some o → H b = none → (hidT s₁.heap H).get? b = some o := fun e n => hidT_get e n
  have nsK : ∀ {b : Addr} {m : Str → Option Value}, s₁.heap.Ns b m → (hidT s₁.heap H).Ns b m := fun {b m} ⟨o, es, ep, e, d, r⟩ => ⟨o, es, ep, base_of e (noA e d), d, r⟩
  have nK : ∀ b o, K.lookup b = some o → H b = none := fun b o e => by
    cases q : H b with
    | none => rfl
    | some u =>
      rw [hK b u q] at e
      cases e
  have hKb : K.In (hidT s₁.heap H) := fun b o e => base_of (KX b o e) (nK b o e)
  have hM : Mod K mg (hidT s₁.heap H) := ⟨hKb, nsK hns, ⟨mb, nsK hb, hbb⟩, let ⟨mc, h1, h2⟩ := hlim; ⟨mc, nsK h1, h2⟩⟩
  have e0 : Env0 P w K mg (hidT s₁.heap H) callerA [] s₁ H := ⟨rfl, hM, fun b o e => of_hidT e, Nat.le_of_eq (hidT_size _ _), trivial, fun b hb => absurd (show b ∈ ([] : List Addr) from hb) (by simp), hok, .of_eq hg⟩
  have hl : vals.length = ps.length := by rw [wellAll_len hwl]; exact hlen
  refine codeAny_mono ((F _ hKb (nsK hns)).run callerA [] s₁ H ⟨vals, []⟩ vals (vals.map toV) _ _ hr e0 (hbind s₁ vals hl) hV (hsp H _ hO hS)) fun r s' x => ?_
  cases r with
  | error e => exact (hCX H e s' x).elim
  | ok fl =>
    cases fl with
    | next => exact False.elim x
    | brk => exact False.elim x
    | cont => exact False.elim x
    | ret u =>
      obtain ⟨v, H', os, bare, un, hok', r', q⟩ := x
      have kept : ∀ b o, s₁.heap.get? b = some o → s'.heap.get? b = some o := fun b o e => by
        cases q2 : H b with
        | none => exact un.keep b o e q2 (by intro z; exact absurd (show b ∈ ([] : List Addr) from z) (by simp)) (by simp)
        | some u2 =>
          rcases hO b with z | ⟨ob, u3, z⟩
          · rw [q2] at z
            cases z
          · have z2 := un.frzs b ob _ z
            obtain ⟨e1, _⟩ := hok b _ z
            obtain ⟨e2, _⟩ := hok' b _ z2
            rw [e] at e1
            cases e1
            exact e2
      have KX' : K.In s'.heap := fun b o e => kept b o (KX b o e)
      obtain ⟨as, hrd⟩ := Dw.reads (R := R) (cl := cl) hok' KX' d0 v u q r'
      exact ⟨u, as, rfl, hrd, OldK.of_keep kept, os, bare⟩
theorem layable_weight {ds : List WData} (h : WData.layableAll ds = true) : ∀ d ∈ ds, d.weight ≤ 1048576 := fun d hd =>
  (PySem.W.layableW_iff.mp (List.all_eq_true.mp h d hd)).2.2
theorem encAll_len : ∀ (cs : List Codec) (a : Codec.denoteAll cs), (Codec.encAll cs a).length = cs.length
  | [], _ => rfl
  | c :: cs, a => by
    show (Codec.encAll cs a.2).length + 1 = cs.length + 1
    rw [encAll_len cs a.2]
/-- the goal that k_headS leaves (case hc), from the promise of the row's def: whatever the arguments that the codecs let and the row asks for, the def gives what stands for enc (f ..) -/
theorem walk_spec {r : OpenSpec} {k : Nat} {q : Program} {loose : List Str} {XP : (Str → Option Value) → Heap → Prop} {YP : World → Heap → Prop} {d : DefRec} {K : Params → PySem.W.Frag} {CX : World → CXT} {ps : List Str} {sp : World → Sp}
    (hwell : r.wellSaid = true) (hdf : d.params.defaults = []) (hlen : r.args.length = ps.length) (hr : Room k callerA)
    (hY : ∀ (w : World) (h : Heap), YP w h → (K w.params).In h)
    (F : ∀ (w : World) (mg : Str → Option Value) (fa : Addr) (h : Heap), YP w h → (K w.params).In h → h.Ns mainGlobals mg → mg d.name = some (.ref fa) →
      ∃ fd : FuncData, (∀ (s : Shared) (us : List Value), us.length = ps.length → BindsTo s fd ⟨us, []⟩ (ps.zip us)) ∧
        ∀ base : Heap, (K w.params).In base → base.Ns mainGlobals mg → FnOk r.prog w (K w.params) mg base (CX w) k fa fd ps (sp w))
    (hsp : ∀ (w : World) (H : Hp) (xs : List V) (a : Codec.denoteAll r.args), OnlyF H → Codec.withinAll r.args a = true → Codec.app r.args r.asked a = true → DwAll (K w.params) H xs (Codec.encAll r.args a) →
      sp w xs H (fun v H' => Dw (K w.params) H' v (r.ret.enc (Codec.app r.args r.f a))) fun _ _ _ => False)
    (hCX : ∀ (w : World) (H : Hp) (s : Shared) (e : Value) (s' : Shared), CX w [] H s (fun _ _ _ => False) e s' → False) :
    PySem.W.WalkOS q loose XP YP r d [] (fun f vs => PySem.call f vs) := by
  intro w s_0 s₁ mg mb G Y fa o pm cd doc dV kV ho hd hcd hD hmg hg args vals as hpre hlay hrd hwl hlo
  obtain ⟨a, e1, e2⟩ := PySem.W.os_pre_some hpre
  obtain ⟨e3, hwi⟩ := Codec.encAll_of_decAll r.args args a e1
  subst e3
  have KX := hY w _ Y
  obtain ⟨fd, hb, hF⟩ := F w mg fa _ Y KX G.T.g hmg
  refine PySem.W.enter_call (codeAny_mono (spec_call (R := []) (cl := classAt s_0.heap) (d0 := r.ret.enc (Codec.app r.args r.f a)) KX G.T.g G.T.b G.T.builtins G.T.nolimit hg hwl (pl_encAll _ _) (layable_weight hlay) hr hF hb (by rw [encAll_len]; exact hlen)
    (fun H xs hO hS => hsp w H xs a hO hwi e2 hS) fun H e s' => hCX w H s₁ e s') fun r' s' hq => ?_)
  obtain ⟨u, as', rfl, h1, h2, h3, h4⟩ := hq
  exact ⟨.inl ⟨u, _, as', rfl, fun _ => rfl, h1, (OpenSpec.post_iff hwell hwi _ _).mpr rfl, fun z => Bool.noConfusion (show false = true from z)⟩, h2, h3, h4⟩
/-- the same where the promise hangs on the written part alone -/
theorem walk_specK {r : OpenSpec} {k : Nat} {q : Program} {loose : List Str} {XP : (Str → Option Value) → Heap → Prop} {YP : World → Heap → Prop} {d : DefRec} {K : Params → PySem.W.Frag} {CX : CXT} {ps : List Str} {sp : PySem.W.Frag → Sp}
    (hwell : r.wellSaid = true) (hdf : d.params.defaults = []) (hlen : r.args.length = ps.length) (hr : Room k callerA)
    (hY : ∀ (w : World) (h : Heap), YP w h → (K w.params).In h)
    (F : ∀ (w : World) (mg : Str → Option Value) (fa : Addr) (h : Heap), YP w h → (K w.params).In h → h.Ns mainGlobals mg → mg d.name = some (.ref fa) →
      ∃ fd : FuncData, (∀ (s : Shared) (us : List Value), us.length = ps.length → BindsTo s fd ⟨us, []⟩ (ps.zip us)) ∧
        ∀ base : Heap, (K w.params).In base → base.Ns mainGlobals mg → FnOk r.prog w (K w.params) mg base CX k fa fd ps (sp (K w.params)))
    (hsp : ∀ (K : PySem.W.Frag) (H : Hp) (xs : List V) (a : Codec.denoteAll r.args), OnlyF H → Codec.withinAll r.args a = true → Codec.app r.args r.asked a = true → DwAll K H xs (Codec.encAll r.args a) →
      sp K xs H (fun v H' => Dw K H' v (r.ret.enc (Codec.app r.args r.f a))) fun _ _ _ => False)
    (hCX : ∀ (H : Hp) (s : Shared) (e : Value) (s' : Shared), CX [] H s (fun _ _ _ => False) e s' → False) :
    PySem.W.WalkOS q loose XP YP r d [] (fun f vs => PySem.call f vs) :=
  walk_spec (K := K) (CX := fun _ => CX) (sp := fun w => sp (K w.params)) hwell hdf hlen hr hY F (fun w H xs a h1 h2 h3 h4 => hsp (K w.params) H xs a h1 h2 h3 h4) fun _ H s e s' => hCX H s e s'
end L2
-- rests on (row put in by the clerk, for the bench that shows a file only what it spells): KE.SpHead KE.OsShapes
end


set_option Elab.async false
set_option maxHeartbeats 1000000
namespace Nl
open Kgo3
abbrev zInts : List Nat → List Int := Kgo3Neutral.ints
theorem ints_append (a b : List Nat) : zInts (a ++ b) = zInts a ++ zInts b := List.map_append
theorem ints_length (a : List Nat) : (zInts a).length = a.length := List.length_map ..
theorem ints_nats : ∀ (l : List Int), (∀ z ∈ l, 0 ≤ z) → zInts (Kgo3Neutral.natsOf l) = l
  | [], _ => rfl
  | z :: l, h => by
    have h1 := h z (List.mem_cons_self ..)
    have h2 := ints_nats l fun y hy => h y (List.mem_cons_of_mem _ hy)
    show ((z.toNat : Int)) :: zInts (Kgo3Neutral.natsOf l) = z :: l
    rw [h2, Int.toNat_of_nonneg h1]
/-! ### CRC -/
theorem again_add {A : Type} (f : A → A) : ∀ (m n : Nat) (x : A), natAgain f (m + n) x = natAgain f m (natAgain f n x)
  | 0, n, x => by rw [Nat.zero_add]; rfl
  | m + 1, n, x => by
    rw [Nat.add_right_comm]
    show f (natAgain f (m + n) x) = f (natAgain f m (natAgain f n x))
    rw [again_add f m n x]
theorem crcBit_xor (a b : Nat) : crcBit (a ^^^ b) = crcBit a ^^^ crcBit b := by
  have o := @Nat.xor_mod_two_eq_one a b
  have d : (a ^^^ b) / 2 = a / 2 ^^^ b / 2 := Nat.xor_div_two
  unfold crcBit
  rw [d]
  by_cases ha : a % 2 = 1
  · by_cases hb : b % 2 = 1
    · rw [if_pos ha, if_pos hb, if_neg (by intro h; have := o.mp h; simp [ha, hb] at this)]
      rw [Nat.xor_assoc, Nat.xor_comm 0x82F63B78 (b / 2 ^^^ 0x82F63B78), Nat.xor_assoc, Nat.xor_self, Nat.xor_zero]
    · rw [if_pos ha, if_neg hb, if_pos (o.mpr (by simp [ha, hb]))]
      rw [Nat.xor_assoc, Nat.xor_assoc, Nat.xor_comm (b / 2)]
  · by_cases hb : b % 2 = 1
    · rw [if_neg ha, if_pos hb, if_pos (o.mpr (by simp [ha, hb]))]
      rw [Nat.xor_assoc]
    · rw [if_neg ha, if_neg hb, if_neg (by intro h; have := o.mp h; simp [ha, hb] at this)]
theorem again_xor (n : Nat) (a b : Nat) : natAgain crcBit n (a ^^^ b) = natAgain crcBit n a ^^^ natAgain crcBit n b := by
  induction n with
  | zero => rfl
  | succ n ih =>
    show crcBit (natAgain crcBit n (a ^^^ b)) = crcBit (natAgain crcBit n a) ^^^ crcBit (natAgain crcBit n b)
    rw [ih, crcBit_xor]
theorem crcBit_dbl (x : Nat) : crcBit (2 * x) = x := by
  unfold crcBit
  rw [if_neg (by omega)]
  omega
theorem split16 (c : Nat) : c = (16 * (c / 16)) ^^^ (c % 16) := by
  apply Nat.eq_of_testBit_eq
  intro i
  rw [Nat.testBit_xor, show (16 : Nat) = 2 ^ 4 from rfl, Nat.testBit_two_pow_mul, Nat.testBit_mod_two_pow, Nat.testBit_div_two_pow]
  by_cases h : i < 4
  · have h2 : ¬ 4 ≤ i := by omega
    simp [h, h2]
  · have h2 : 4 ≤ i := by omega
    simp [h, h2]
def tab : List Nat := [0, 274646895, 549293790, 820201905, 1098587580, 1361435347, 1640403810, 1905808397, 2197175160, 2460548119, 2722870694, 2987750089, 3280807620, 3553878443, 3811616794, 4084100981]
theorem tab_at : ∀ l, l < 16 → natAgain crcBit 4 l = tab.getD l 0 := by decide
def nib (c : Nat) : Nat := (c / 16) ^^^ tab.getD (c % 16) 0
theorem crc4 (c : Nat) : natAgain crcBit 4 c = nib c := by
  have e : natAgain crcBit 4 (16 * (c / 16)) = c / 16 := by
    generalize c / 16 = h
    show crcBit (crcBit (crcBit (crcBit (16 * h)))) = h
    rw [show 16 * h = 2 * (2 * (2 * (2 * h))) by omega, crcBit_dbl, crcBit_dbl, crcBit_dbl, crcBit_dbl]
  have s := split16 c
  have t : natAgain crcBit 4 c = natAgain crcBit 4 ((16 * (c / 16)) ^^^ (c % 16)) := by rw [← s]
  rw [t, again_xor, e, tab_at _ (Nat.mod_lt _ (by decide))]
  rfl
theorem crc8 (c : Nat) : natAgain crcBit 8 c = nib (nib c) := by
  rw [show (8 : Nat) = 4 + 4 from rfl, again_add, crc4, crc4]
/-- the register behind these bytes -/
def reg (b : List Nat) : Nat := b.foldl (fun c x => nib (nib (c ^^^ x))) 0xFFFFFFFF
theorem crc_reg (b : List Nat) : crc b = reg b ^^^ 0xFFFFFFFF := by
  unfold crc reg
  congr 2
  funext c x
  exact crc8 _
theorem reg_snoc (b : List Nat) (x : Nat) : reg (b ++ [x]) = nib (nib (reg b ^^^ x)) := by
  unfold reg
  rw [List.foldl_append]
  rfl
/-! ### numbers of four bytes -/
theorem le4 (n : Nat) : le n 4 = [n % 256, n / 256 % 256, n / 65536 % 256, n / 16777216 % 256] := by
  show [n % 256, n / 256 % 256, n / 256 / 256 % 256, n / 256 / 256 / 256 % 256] = _
  rw [Nat.div_div_eq_div_mul, Nat.div_div_eq_div_mul]
theorem le4_length (n : Nat) : (le n 4).length = 4 := rfl
theorem drop4 {b : List Nat} {i : Nat} (h : i + 4 ≤ b.length) : (b.drop i).take 4 = [b.getD i 0, b.getD (i + 1) 0, b.getD (i + 2) 0, b.getD (i + 3) 0] := by
  have g : ∀ j, j < b.length → b.drop j = b.getD j 0 :: b.drop (j + 1) := fun j hj => by
    rw [List.drop_eq_getElem_cons hj]
    congr 1
    rw [List.getD_eq_getElem?_getD, List.getElem?_eq_getElem hj]
    rfl
  rw [g i (by omega), g (i + 1) (by omega), g (i + 1 + 1) (by omega), g (i + 1 + 1 + 1) (by omega)]
  rfl
theorem part4 {b : List Nat} {i : Nat} (h : i + 4 ≤ b.length) : part b i 4 = b.getD i 0 + 256 * b.getD (i + 1) 0 + 65536 * b.getD (i + 2) 0 + 16777216 * b.getD (i + 3) 0 := by
  unfold part
  rw [drop4 h]
  show b.getD i 0 + 256 * (b.getD (i + 1) 0 + 256 * (b.getD (i + 2) 0 + 256 * (b.getD (i + 3) 0 + 256 * 0))) = _
  omega
/-- every number a byte -/
def Bytes8 (b : List Nat) : Prop := ∀ x ∈ b, x < 256
theorem Bytes8.getD {b : List Nat} (h : Bytes8 b) (i : Nat) : b.getD i 0 < 256 := by
  rw [List.getD_eq_getElem?_getD]
  cases e : b[i]? with
  | none => exact (by decide : (0 : Nat) < 256)
  | some x => exact h x (List.mem_of_getElem? e)
/-! ### a message for this end -/
/-- right, from the other, for this end -/
def readFor (b : List Nat) (other me : Nat) : Option Msg := match Kgo3.read b with
  | none => none
  | some x => if x.from_ ≠ other ∨ x.to_ ≠ me then none else some x
def lenOk (b : List Nat) : Bool := !decide (b.length < 28) && ((decide (b.getD 0 0 = 1) && decide (b.length = 28)) || (!decide (b.getD 0 0 = 1) && decide (b.getD 0 0 = 2) && decide (33 ≤ b.length) && decide (b.length ≤ 232)))
def msgOf (b : List Nat) : Msg := ⟨b.getD 1 0, b.getD 2 0, (part b 4 4, part b 8 4), (part b 12 4, part b 16 4), part b 20 4, if b.getD 0 0 = 2 then some (part b 24 4, (b.drop 28).take (b.length - 32)) else none⟩
theorem readFor_eq (b : List Nat) (other me : Nat) : readFor b other me =
    if lenOk b = false then none
    else if b.getD 1 0 ≠ other ∨ b.getD 2 0 ≠ me ∨ b.getD 3 0 ≠ 0 then none
    else if part b 4 4 = 0 ∨ part b 8 4 = 0 then none
    else if part b (b.length - 4) 4 ≠ crc (b.take (b.length - 4)) then none
    else some (msgOf b) := by
  unfold readFor Kgo3.read lenOk msgOf
  dsimp only
  generalize hn : b.length = n
  generalize part b (n - 4) 4 = c1
  generalize crc (b.take (n - 4)) = c2
  generalize part b 4 4 = l1
  generalize part b 8 4 = l2
  generalize b.getD 3 0 = z
  generalize b.getD 1 0 = f
  generalize b.getD 2 0 = t
  generalize b.getD 0 0 = k
  by_cases h1 : n < 28
  · simp [h1]
  by_cases h2 : c1 = c2
  case neg =>
    simp [h2]
  by_cases h3 : z = 0
  case neg =>
    simp [h3]
  by_cases h4 : l1 = 0
  case pos =>
    simp [h4]
  by_cases h5 : l2 = 0
  case pos =>
    simp [h5]
  simp only [h1, h2, h3, h4, h5]
  by_cases h6 : k = 1 ∧ n = 28
  · obtain ⟨rfl, rfl⟩ := h6
    simp
  · by_cases h7 : k = 2 ∧ 33 ≤ n ∧ n ≤ 232
    · obtain ⟨rfl, h8, h9⟩ := h7
      simp [h8, h9]
    · have h10 : ¬ (k = 2 ∧ 33 ≤ n ∧ n ≤ 232) := h7
      simp only [h6, h7]
      have e : ((decide (k = 1) && decide (n = 28)) || (!decide (k = 1) && decide (k = 2) && decide (33 ≤ n) && decide (n ≤ 232))) = false := by
        by_cases k1 : k = 1
        · have : ¬ n = 28 := fun e => h6 ⟨k1, e⟩
          simp [k1, this]
        · by_cases k2 : k = 2
          · have : ¬ (33 ≤ n ∧ n ≤ 232) := fun e => h7 ⟨k2, e.1, e.2⟩
            by_cases q : 33 ≤ n
            · have : ¬ n ≤ 232 := fun e => this ⟨q, e⟩
              simp [k2, q, this]
            · simp [k2, q]
          · simp [k1, k2]
      rw [e]
      simp
end Nl

set_option Elab.async false
set_option maxHeartbeats 1000000
namespace Nl
open Kgo3
/-! ### one call, by the program's own cases -/
structure Good (a : Abs) : Prop where
  ws : a.waiting.length ≤ a.sent
  w32 : a.waiting.length ≤ 32
  q : a.quiet ≤ 15
  down : a.up = false → a.got = 0 ∧ a.waiting = []
  each : ∀ b ∈ a.waiting, b ≠ [] ∧ b.length ≤ 200
def newAbs (me other life : Nat) : Abs := { me := me, other := other, life := life }
def doStart (a : Abs) (me other life : Nat) : Int × List Ask × Abs := if 255 < me ∨ 255 < other ∨ me = other ∨ life = 0 then (-22, [], a) else (0, [], newAbs me other life)
def doSend (a : Abs) (b : List Nat) : Int × List Ask × Abs :=
  if b.length = 0 ∨ 200 < b.length then (-22, [], a) else if a.up = false then (-11, [], a)
    else if 32 ≤ a.waiting.length then (-28, [.down], cut a)
    else (0, [msg { a with sent := a.sent + 1, waiting := a.waiting ++ [b] } (some (a.sent + 1, b))], { a with sent := a.sent + 1, waiting := a.waiting ++ [b] })
def doHeard (a : Abs) (m : List Nat) : Int × List Ask × Abs := match readFor m a.other a.me with
  | none => (-71, [], a)
  | some x => (0, (hears a x).2, (hears a x).1)
def doTick (a : Abs) : Int × List Ask × Abs := (0, (ticks a).2, (ticks a).1)
/-! what take does -/
def raised (b : Abs) : Abs := if b.up then b else { b with up := true, sent := 0, waiting := [], got := 0, quiet := 0 }
def acked (c : Abs) (g : Nat) : Abs := { c with waiting := if g ≤ c.sent then c.waiting.drop (g - (c.sent - c.waiting.length)) else c.waiting }
def takes (b : Abs) (m : Msg) : Abs × List Ask :=
  let d := acked { raised b with quiet := 0 } m.got
  let l := if b.up then [] else [Ask.up b.known.1]
  match m.piece with
  | none => (d, l)
  | some p => if p.1 = d.got + 1 then ({ d with got := d.got + 1 }, l ++ [.got p.2, beat { d with got := d.got + 1 }]) else (d, l ++ [beat d])
def meets (a : Abs) (m : Msg) : Abs := if newer m.mine a.known then { (if a.up then cut a else a) with known := m.mine } else a
theorem newer_tri {x y : Nat × Nat} (h1 : newer x y = false) (h2 : newer y x = false) : x = y := by
  unfold newer at h1 h2
  simp only [Bool.or_eq_false_iff, decide_eq_false_iff_not, Bool.and_eq_false_iff] at h1 h2
  obtain ⟨a1, a2⟩ := h1
  obtain ⟨b1, b2⟩ := h2
  have e1 : x.1 = y.1 := by omega
  simp [e1] at a2 b2
  exact Prod.ext e1 (by omega)
theorem meets_known {a : Abs} {m : Msg} (h : newer a.known m.mine = false) : (meets a m).known = m.mine := by
  unfold meets
  by_cases n : newer m.mine a.known = true
  · rw [if_pos n]
  · rw [if_neg n]
    exact newer_tri h (by simpa using n)
theorem hears_eq {a : Abs} {m : Msg} : hears a m =
    if newer a.known m.mine = true then (a, [])
    else if m.yours ≠ ((meets a m).life, (meets a m).session) then (meets a m, if newer m.mine a.known && a.up then [Ask.down] else [])
    else ((takes (meets a m) m).1, (if newer m.mine a.known && a.up then [Ask.down] else []) ++ (takes (meets a m) m).2) := by
  by_cases h : newer a.known m.mine = true
  · unfold hears
    rw [if_pos h, if_pos h]
  · have hk := meets_known (a := a) (m := m) (by simpa using h)
    have hm : meets a m = (if newer m.mine a.known then { (if a.up then cut a else a) with known := m.mine } else a) := rfl
    unfold hears
    rw [if_neg h, if_neg h, ← hm]
    dsimp only
    generalize meets a m = b at hk
    by_cases h2 : m.yours ≠ (b.life, b.session)
    · rw [if_pos h2, if_pos h2]
    · rw [if_neg h2, if_neg h2]
      unfold takes raised acked
      rw [← hk]
      dsimp only
      cases hp : m.piece with
      | none => cases hb : b.up <;> simp
      | some p =>
        cases hb : b.up <;> simp <;> split <;> simp
/-! Good stays -/
theorem good_new (me other life : Nat) : Good (newAbs me other life) := ⟨Nat.le_refl _, by show 0 ≤ 32; decide, by show 0 ≤ 15; decide, fun _ => ⟨rfl, rfl⟩, fun _ h => nomatch h⟩
theorem good_cut (a : Abs) : Good (cut a) := ⟨Nat.le_refl _, by show 0 ≤ 32; decide, by show 0 ≤ 15; decide, fun _ => ⟨rfl, rfl⟩, fun _ h => nomatch h⟩
theorem good_send {a : Abs} {b : List Nat} (g : Good a) : Good (doSend a b).2.2 := by
  unfold doSend
  split
  · exact g
  · rename_i hl
    split
    · exact g
    · rename_i hu
      split
      · exact good_cut a
      · rename_i hw
        refine ⟨?_, ?_, g.q, ?_, ?_⟩
        · show (a.waiting ++ [b]).length ≤ a.sent + 1
          have := g.ws
          simp; omega
        · show (a.waiting ++ [b]).length ≤ 32
          simp; omega
        · intro h
          exact absurd h hu
        · intro x hx
          have hx' : x ∈ a.waiting ++ [b] := hx
          rcases List.mem_append.mp hx' with h | h
          · exact g.each x h
          · have e : x = b := by simpa using h
            subst e
            refine ⟨fun e => hl (.inl (by rw [e]; rfl)), ?_⟩
            have : ¬ (200 < x.length) := fun z => hl (.inr z)
            omega
theorem good_meets {a : Abs} (m : Msg) (g : Good a) : Good (meets a m) := by
  unfold meets
  split
  · cases h : a.up with
    | true => exact ⟨Nat.le_refl _, by show 0 ≤ 32; decide, by show 0 ≤ 15; decide, fun _ => ⟨rfl, rfl⟩, fun _ h => nomatch h⟩
    | false => exact ⟨g.ws, g.w32, g.q, fun z => g.down z, g.each⟩
  · exact g
theorem good_raised {b : Abs} (g : Good b) : Good { raised b with quiet := 0 } := by
  unfold raised
  cases h : b.up with
  | true => exact ⟨g.ws, g.w32, by show 0 ≤ 15; decide, fun z => g.down z, g.each⟩
  | false => exact ⟨Nat.le_refl _, by show 0 ≤ 32; decide, by show 0 ≤ 15; decide, fun h => (nomatch h), fun _ h => nomatch h⟩
theorem good_acked {c : Abs} (n : Nat) (g : Good c) : Good (acked c n) := by
  have hs : ∀ b, b ∈ (if n ≤ c.sent then c.waiting.drop (n - (c.sent - c.waiting.length)) else c.waiting) → b ∈ c.waiting := fun b hb => by
    split at hb
    · exact List.mem_of_mem_drop hb
    · exact hb
  have hl : (if n ≤ c.sent then c.waiting.drop (n - (c.sent - c.waiting.length)) else c.waiting).length ≤ c.waiting.length := by
    split
    · rw [List.length_drop]; omega
    · exact Nat.le_refl _
  refine ⟨?_, ?_, g.q, fun h => ⟨(g.down h).1, ?_⟩, fun b hb => g.each b (hs b hb)⟩
  · exact Nat.le_trans hl g.ws
  · exact Nat.le_trans hl g.w32
  · show (if n ≤ c.sent then c.waiting.drop (n - (c.sent - c.waiting.length)) else c.waiting) = []
    rw [(g.down h).2]
    split
    · exact List.drop_nil
    · rfl
theorem up_raised (b : Abs) : (raised b).up = true := by
  unfold raised
  cases h : b.up with
  | true => simp [h]
  | false => rfl
theorem good_takes {b : Abs} (m : Msg) (g : Good b) : Good (takes b m).1 := by
  have g1 := good_acked m.got (good_raised g)
  have u : (acked { raised b with quiet := 0 } m.got).up = true := up_raised b
  unfold takes
  dsimp only
  cases m.piece with
  | none => exact g1
  | some p =>
    dsimp only
    split
    · exact ⟨g1.ws, g1.w32, g1.q, fun h => (nomatch (u.symm.trans h)), g1.each⟩
    · exact g1
theorem good_hears {a : Abs} (m : Msg) (g : Good a) : Good (hears a m).1 := by
  rw [hears_eq]
  split
  · exact g
  · split
    · exact good_meets m g
    · exact good_takes m (good_meets m g)
theorem good_heard {a : Abs} (m : List Nat) (g : Good a) : Good (doHeard a m).2.2 := by
  unfold doHeard
  split
  · exact g
  · exact good_hears _ g
theorem good_tick {a : Abs} (g : Good a) : Good (doTick a).2.2 := by
  show Good (ticks a).1
  unfold ticks
  split
  · exact g
  · split
    · exact good_cut a
    · rename_i h1 h2
      exact ⟨g.ws, g.w32, by show a.quiet + 1 ≤ 15; omega, g.down, g.each⟩
theorem good_start {a : Abs} (me other life : Nat) (g : Good a) : Good (doStart a me other life).2.2 := by
  unfold doStart
  split
  · exact g
  · exact good_new me other life
/-! how much is told -/
def tl (q : List Ask) : List (List Int) := q.map Kgo3Neutral.told
def tlen (q : List Ask) : Nat := (tl q).flatten.length
theorem tlen_nil : tlen [] = 0 := rfl
theorem tlen_cons (x : Ask) (q : List Ask) : tlen (x :: q) = (Kgo3Neutral.told x).length + tlen q := by
  show (Kgo3Neutral.told x ++ (tl q).flatten).length = _
  rw [List.length_append]
  rfl
theorem tlen_append (p q : List Ask) : tlen (p ++ q) = tlen p + tlen q := by
  unfold tlen tl
  rw [List.map_append, List.flatten_append, List.length_append]
theorem body_len (m : Msg) : (body m).length = 24 + (match m.piece with | none => 0 | some p => 4 + p.2.length) := by
  unfold body
  cases m.piece with
  | none => rfl
  | some p =>
    simp only [List.length_append, le4_length, List.length_cons, List.length_nil]
    all_goals omega
theorem written_len (m : Msg) : (written m).length = 28 + (match m.piece with | none => 0 | some p => 4 + p.2.length) := by
  unfold written
  rw [List.length_append, body_len, le4_length]
  omega
theorem told_net (m : List Nat) : (Kgo3Neutral.told (.net m)).length = 2 + m.length := by
  show (0 :: (m.length : Int) :: zInts m).length = _
  simp only [List.length_cons, ints_length]
  omega
theorem told_got (m : List Nat) : (Kgo3Neutral.told (.got m)).length = 2 + m.length := by
  show (2 :: (m.length : Int) :: zInts m).length = _
  simp only [List.length_cons, ints_length]
  omega
theorem told_beat (a : Abs) : (Kgo3Neutral.told (beat a)).length = 30 := by
  show (Kgo3Neutral.told (.net (written _))).length = 30
  rw [told_net, written_len]
  rfl
theorem told_piece (a : Abs) (n : Nat) (b : List Nat) : (Kgo3Neutral.told (msg a (some (n, b)))).length = 34 + b.length := by
  show (Kgo3Neutral.told (.net (written _))).length = _
  rw [told_net, written_len]
  dsimp only
  omega
theorem len_send {a : Abs} {b : List Nat} : tlen (doSend a b).2.1 ≤ 234 := by
  unfold doSend
  split
  · exact Nat.zero_le _
  · split
    · exact Nat.zero_le _
    · split
      · exact (by decide : tlen [Ask.down] ≤ 234)
      · rename_i h _ _
        show tlen [msg _ (some (a.sent + 1, b))] ≤ 234
        rw [tlen_cons, told_piece, tlen_nil]
        have : ¬ 200 < b.length := fun z => h (.inr z)
        omega
theorem len_takes (b : Abs) (m : Msg) (h : ∀ p, m.piece = some p → p.2.length ≤ 200) : tlen (takes b m).2 ≤ 240 := by
  have h1 : tlen (if b.up then [] else [Ask.up b.known.1]) ≤ 2 := by
    split
    · exact Nat.zero_le _
    · exact Nat.le_refl _
  unfold takes
  dsimp only
  cases hp : m.piece with
  | none =>
    dsimp only
    omega
  | some p =>
    have h2 := h p hp
    dsimp only
    split
    · dsimp only
      rw [tlen_append, tlen_cons, tlen_cons, told_got, told_beat, tlen_nil]
      omega
    · dsimp only
      rw [tlen_append, tlen_cons, told_beat, tlen_nil]
      omega
theorem len_hears (a : Abs) (m : Msg) (h : ∀ p, m.piece = some p → p.2.length ≤ 200) : tlen (hears a m).2 ≤ 250 := by
  have h1 : tlen (if newer m.mine a.known && a.up then [Ask.down] else []) ≤ 1 := by
    split
    · exact Nat.le_refl _
    · exact Nat.zero_le _
  rw [hears_eq]
  split
  · exact Nat.zero_le _
  · split
    · dsimp only
      omega
    · dsimp only
      have := len_takes (meets a m) m h
      rw [tlen_append]
      omega
theorem readFor_piece {b : List Nat} {o me : Nat} {x : Msg} (h : readFor b o me = some x) : ∀ p, x.piece = some p → p.2.length ≤ 200 := by
  intro p hp
  rw [readFor_eq] at h
  split at h
  · cases h
  · split at h
    · cases h
    · split at h
      · cases h
      · split at h
        · cases h
        · rename_i hl _ _ _
          cases h
          unfold msgOf at hp
          dsimp only at hp
          split at hp
          · rename_i hk
            cases hp
            show (List.take (b.length - 32) (List.drop 28 b)).length ≤ 200
            unfold lenOk at hl
            rw [hk] at hl
            rw [List.length_take, List.length_drop]
            have : b.length ≤ 232 := by
              rcases Nat.lt_or_ge 232 b.length with q | q
              · exfalso
                apply hl
                have : ¬ b.length ≤ 232 := by omega
                simp [this]
              · exact q
            omega
          · cases hp
theorem len_heard (a : Abs) (m : List Nat) : tlen (doHeard a m).2.1 ≤ 250 := by
  unfold doHeard
  split
  · exact Nat.zero_le _
  · rename_i x hx
    exact len_hears a x (readFor_piece hx)
theorem len_again (f : Nat → Ask) : ∀ (n : Nat), (∀ k, (Kgo3Neutral.told (f k)).length ≤ 234) → tlen ((List.range n).map f) ≤ 234 * n
  | 0, _ => Nat.le_refl _
  | n + 1, h => by
    have ih := len_again f n h
    have := h n
    rw [List.range_succ, List.map_append, tlen_append]
    show _ + tlen [f n] ≤ _
    rw [tlen_cons, tlen_nil]
    omega
theorem len_tick {a : Abs} (g : Good a) : tlen (doTick a).2.1 ≤ 940 := by
  show tlen (ticks a).2 ≤ 940
  unfold ticks
  split
  · show tlen [beat a] ≤ 940
    rw [tlen_cons, told_beat, tlen_nil]
    decide
  · split
    · exact (by decide : tlen [Ask.down] ≤ 940)
    · dsimp only
      split
      · rw [tlen_cons, told_beat, tlen_nil]
        decide
      · refine Nat.le_trans (len_again _ _ fun k => ?_) (m := 234 * min 4 a.waiting.length) ?_
        · rw [told_piece]
          have : (a.waiting.getD k []).length ≤ 200 := by
            rw [List.getD_eq_getElem?_getD]
            cases e : a.waiting[k]? with
            | none => exact Nat.zero_le _
            | some b => exact (g.each b (List.mem_of_getElem? e)).2
          omega
        · have := Nat.min_le_left 4 a.waiting.length
          omega
end Nl

set_option Elab.async false
set_option maxHeartbeats 1000000
namespace Nl
open Kgo3 Kgo3Neutral
/-! ### the list of calls -/
theorem whole_id (c : List (List Int)) : PyKgo3.whole c = c := by
  unfold PyKgo3.whole
  split <;> rfl
theorem map_whole (cs : List (List (List Int))) : cs.map PyKgo3.whole = cs := by
  induction cs with
  | nil => rfl
  | cons c cs ih => rw [List.map_cons, whole_id, ih]
/-- how a call stands at the front of a list, and what stands behind it -/
inductive Front : List Int → List (List Int) → List Int → Prop
  | start (m o l : Int) (t : List Int) : Front (0 :: m :: o :: l :: t) [[0, m, o, l]] t
  | send (b t : List Int) : Front (1 :: (b.length : Int) :: (b ++ t)) [[1], b] t
  | heard (b t : List Int) : Front (2 :: (b.length : Int) :: (b ++ t)) [[2], b] t
  | tick (t : List Int) : Front (3 :: t) [[3]] t
  | state (t : List Int) : Front (4 :: t) [[4]] t
theorem row_some {r x s : List Int} (h : PyFlat.row r = some (x, s)) : r = (x.length : Int) :: (x ++ s) := by
  cases r with
  | nil => cases h
  | cons n r =>
    unfold PyFlat.row at h
    dsimp only at h
    by_cases hn : 0 ≤ n ∧ n.toNat ≤ r.length
    · rw [if_pos hn] at h
      cases h
      rw [List.take_append_drop, List.length_take, Nat.min_eq_left hn.2, Int.toNat_of_nonneg hn.1]
    · rw [if_neg hn] at h
      cases h
theorem rows1_some {r : List Int} {x : List (List Int)} {s : List Int} (h : PyFlat.rows 1 r = some (x, s)) : ∃ y : List Int, x = [y] ∧ r = (y.length : Int) :: (y ++ s) := by
  unfold PyFlat.rows at h
  cases hr : PyFlat.row r with
  | none =>
    rw [hr] at h
    cases h
  | some ys =>
    obtain ⟨y, s'⟩ := ys
    rw [hr] at h
    cases h
    exact ⟨y, rfl, row_some hr⟩
theorem call_front {l : List Int} {c : List (List Int)} {t : List Int} (h : PyFlat.call PyKgo3.shape l = some (c, t)) : Front l c t := by
  cases l with
  | nil => cases h
  | cons p r =>
    unfold PyFlat.call PyKgo3.shape at h
    by_cases h0 : p = 0
    · subst h0
      simp only [if_true] at h
      split at h
      · cases h
      · rename_i hl
        have e : r.drop 0 = r := rfl
        simp only [PyFlat.rows] at h
        match r, hl, h with
        | m :: o :: l :: t', _, h =>
          cases h
          exact .start m o l t'
        | [], hl, _ => exact absurd (by decide) hl
        | [_], hl, _ => exact absurd (by simp) hl
        | [_, _], hl, _ => exact absurd (by simp) hl
    · by_cases h1 : p = 1
      · subst h1
        simp at h
        split at h
        · cases h
        · rename_i x s hr
          obtain ⟨y, rfl, e⟩ := rows1_some hr
          rw [e]
          simp at h
          obtain ⟨rfl, rfl⟩ := h
          exact .send _ _
      · by_cases h2 : p = 2
        · subst h2
          simp at h
          split at h
          · cases h
          · rename_i x s hr
            obtain ⟨y, rfl, e⟩ := rows1_some hr
            rw [e]
            simp at h
            obtain ⟨rfl, rfl⟩ := h
            exact .heard _ _
        · by_cases h3 : p = 3
          · subst h3
            simp [PyFlat.rows] at h
            obtain ⟨rfl, rfl⟩ := h
            exact .tick _
          · by_cases h4 : p = 4
            · subst h4
              simp [PyFlat.rows] at h
              obtain ⟨rfl, rfl⟩ := h
              exact .state _
            · simp [h0, h1, h2, h3, h4] at h
/-- these calls stand one behind another -/
inductive Calls : List Int → List (List (List Int)) → Prop
  | nil : Calls [] []
  | cons {l t : List Int} {c : List (List Int)} {cs : List (List (List Int))} : Front l c t → Calls t cs → Calls l (c :: cs)
theorem calls_front : ∀ (f : Nat) (l : List Int) (cs : List (List (List Int))), PyFlat.calls PyKgo3.shape f l = some cs → Calls l cs
  | f, [], cs, h => by
    have e : cs = [] := by
      cases f <;> (unfold PyFlat.calls at h; cases h; rfl)
    subst e
    exact .nil
  | 0, _ :: _, cs, h => by
    unfold PyFlat.calls at h
    cases h
  | f + 1, p :: r, cs, h => by
    unfold PyFlat.calls at h
    cases hc : PyFlat.call PyKgo3.shape (p :: r) with
    | none =>
      rw [hc] at h
      cases h
    | some ct =>
      obtain ⟨c, t⟩ := ct
      rw [hc] at h
      dsimp only at h
      cases ht : PyFlat.calls PyKgo3.shape f t with
      | none =>
        rw [ht] at h
        cases h
      | some cs' =>
        rw [ht] at h
        cases h
        exact .cons (call_front hc) (calls_front f t cs' ht)
/-! ### what is asked, what is due -/
structure Due (l : List Int) (out : List Int) : Prop where
  ex : ∃ cs, Calls l cs ∧ cs.length ≤ 1000 ∧ cs.all asked1 = true ∧ may start cs = true ∧ out = PyFlat.told (PyFlat.played step start cs)
theorem due_of {l : List Int} (h : PyKgo3.answers_asked l = true) : Due l (PyKgo3.answers l) := by
  unfold PyKgo3.answers_asked PyKgo3.calls at h
  unfold PyKgo3.answers PyKgo3.calls
  cases hc : PyFlat.calls PyKgo3.shape l.length l with
  | none =>
    rw [hc] at h
    cases h
  | some cs =>
    rw [hc] at h
    simp only [map_whole] at h ⊢
    rw [Bool.and_eq_true] at h
    have h2 := h.2
    unfold asked at h2
    rw [Bool.and_eq_true, Bool.and_eq_true, Bool.and_eq_true] at h2
    exact ⟨cs, calls_front _ _ _ hc, by simpa using h2.1.1.2, h2.1.2, h2.2, rfl⟩
/-! ### the state between two calls -/
theorem step_start (s : S) (a : Abs) (ha : s = none ∨ s = some a) (m o l : Int) : step s [[0, m, o, l]] = ((if (doStart a m.toNat o.toNat l.toNat).1 = 0 then some (doStart a m.toNat o.toNat l.toNat).2.2 else s), [(doStart a m.toNat o.toNat l.toNat).1, 0]) := by
  show (match (some (Call.start m.toNat o.toNat l.toNat)).bind (acts s) with
    | none => (s, [])
    | some (q, t, a) => (t, a.value :: (q.length : Int) :: (q.flatMap told ++ Kgo3Neutral.ints a.out))) = _
  by_cases h : 255 < m.toNat ∨ 255 < o.toNat ∨ m.toNat = o.toNat ∨ l.toNat = 0
  · simp only [Option.bind_some, acts, doStart, if_pos h]
    rfl
  · simp only [Option.bind_some, acts, doStart, if_neg h]
    rfl
theorem step_send (a : Abs) (b : List Int) : step (some a) [[1], b] = (some (doSend a (natsOf b)).2.2, (doSend a (natsOf b)).1 :: ((doSend a (natsOf b)).2.1.length : Int) :: (tl (doSend a (natsOf b)).2.1).flatten) := by
  have e : b.length = (natsOf b).length := (List.length_map ..).symm
  show (match (some (Call.send (natsOf b) b.length)).bind (acts (some a)) with
    | none => (some a, [])
    | some (q, t, a) => (t, a.value :: (q.length : Int) :: (q.flatMap told ++ Kgo3Neutral.ints a.out))) = _
  rw [e]
  simp only [Option.bind_some, acts, doSend, Option.map_some]
  split
  · rfl
  · split
    · rfl
    · split
      · rfl
      · simp [tl, say, Kgo3Neutral.ints]
theorem step_heard (a : Abs) (b : List Int) : step (some a) [[2], b] = (some (doHeard a (natsOf b)).2.2, (doHeard a (natsOf b)).1 :: ((doHeard a (natsOf b)).2.1.length : Int) :: (tl (doHeard a (natsOf b)).2.1).flatten) := by
  show (match (some (Call.heard (natsOf b))).bind (acts (some a)) with
    | none => (some a, [])
    | some (q, t, a) => (t, a.value :: (q.length : Int) :: (q.flatMap told ++ Kgo3Neutral.ints a.out))) = _
  simp only [Option.bind_some, acts, doHeard, readFor, Option.map_some]
  cases Kgo3.read (natsOf b) with
  | none => rfl
  | some x =>
    dsimp only
    split
    · rfl
    · simp [tl, say, Kgo3Neutral.ints, List.flatMap_def]
theorem step_tick (a : Abs) : step (some a) [[3]] = (some (doTick a).2.2, (doTick a).1 :: ((doTick a).2.1.length : Int) :: (tl (doTick a).2.1).flatten) := by
  show (match (some Call.tick).bind (acts (some a)) with
    | none => (some a, [])
    | some (q, t, a) => (t, a.value :: (q.length : Int) :: (q.flatMap told ++ Kgo3Neutral.ints a.out))) = _
  simp [acts, doTick, tl, say, Kgo3Neutral.ints, List.flatMap_def]
def stateOf (a : Abs) : List Int := [if a.up then 1 else 0, (a.session : Int), (a.waiting.length : Int), (a.known.1 : Int)]
theorem step_state (a : Abs) : step (some a) [[4]] = (some a, 0 :: 0 :: stateOf a) := by
  show (match (some Call.state).bind (acts (some a)) with
    | none => (some a, [])
    | some (q, t, a) => (t, a.value :: (q.length : Int) :: (q.flatMap told ++ Kgo3Neutral.ints a.out))) = _
  simp [acts, stateOf, Kgo3Neutral.ints]
  cases a.up <;> rfl
/-- a call that is no start, at a line's beginning: it may not come -/
theorem step_none {c : List (List Int)} (h : ∀ m o l, c ≠ [[0, m, o, l]]) : (step none c).2 = [] := by
  unfold step
  cases hc : callOf c with
  | none => rfl
  | some k =>
    cases k with
    | start me o l =>
      exfalso
      unfold callOf at hc
      split at hc <;> first | exact h _ _ _ rfl | cases hc
    | send _ _ => rfl
    | heard _ => rfl
    | tick => rfl
    | state => rfl
end Nl

set_option Elab.async false
set_option linter.all false
set_option maxRecDepth 100000
set_option maxHeartbeats 4000000
namespace HT
open PySem PyProof.Rows
theorem rcGt_int (A : Around) (s : Shared) (a : Int) (t : Tok) (c : Int) (u : Tok) (prog : Program) (w : World) (E : Value → Shared → Prop) (Q : Value → Shared → Prop) (h : Q (.bool (decide (c < a))) s) :
    wpAny (model prog w) A (richCompare .Gt (.int a t) (.int c u)) Q E s :=
  (PyProof.Rows.gt_int h : wpAny (model prog w) A (compareOp .Gt (.int a t) (.int c u)) Q E s)
section
open PySem.SeqAt
open PySem.AutoSeq1 (wpAny_loadPart')
open PySem.MeetsSeq PySem.MeetsSeq2 PySem.MeetsSeq3
theorem lexLt_flip (x y : Int) (xs ys : List Int) : lexLt (y :: ys) (x :: xs) = if x = y then lexLt ys xs else decide (y < x) := by
  rw [lexLt_cons]
  by_cases h : x = y
  · rw [if_pos h, if_pos h.symm]
  · rw [if_neg h, if_neg (fun e => h e.symm)]
theorem tuple_gt_ints (l b : Addr) (items items2 : Array Value) (n n2 : Nat) (dd dd2 : Option Addr) (sl sl2 : Array (Option Value)) (ns ms : List Int) (hi : IntsAre items.toList ns) (hj : IntsAre items2.toList ms) :
    Meets (Builtin.«tuple.__gt__» ⟨[.ref l, .ref b], []⟩)
      (fun _ R s => s.heap.get? l = some { cls := .type "tuple", dict := dd, data := .seq items n, slots := sl } ∧ s.heap.get? b = some { cls := .type "tuple", dict := dd2, data := .seq items2 n2, slots := sl2 } ∧
        R (.ok (.ret (.bool (lexLt ms ns)))) s) :=
  .of_wp fun prog w A R s h => by
    obtain ⟨hp, g, d, tk, os⟩ := s; obtain ⟨hl, hb, h⟩ := h
    have f2 := AutoSeq1.sub_tuple_tuple
    have z1 : items.size = ns.length := by rw [← hi.length]; simp
    have z2 : items2.size = ms.length := by rw [← hj.length]; simp
    wp_walk using wpAny_loadPart' hl, wpAny_loadPart' hb, wpAny_forIn_list _ (fun rest b s' => b.1 = none ∧ s' = ⟨hp, g, d, tk, os⟩ ∧ ∃ (vs ws : List Value) (ns' ms' : List Int), rest = vs.zip ws ∧
      IntsAre vs ns' ∧ IntsAre ws ms' ∧ ns'.length + items2.size = ms'.length + items.size ∧ R (.ok (.ret (.bool (lexLt ms' ns')))) ⟨hp, g, d, tk, os⟩) _
    case turn =>
      rintro ⟨y, x⟩ rest b s' ⟨hb', rfl, vs, ws, ns', ms', hz, hvi, hwi, hlen, hR⟩
      cases hvi with
      | nil => rw [List.zip_nil_left] at hz; cases hz
      | cons a t hvi' =>
        cases hwi with
        | nil => rw [List.zip_nil_right] at hz; cases hz
        | cons c u hwi' =>
          rw [List.zip_cons_cons] at hz
          injection hz with hyx hrest
          injection hyx with hy hx
          subst hy hx
          rw [lexLt_flip] at hR
          simp only [List.length_cons] at hlen
          obtain ⟨e, he, hiff⟩ := eqAt_int A.in1 ⟨hp, g, d, tk, os⟩ a t c u
          refine wpAny_bind (he prog w _ _ ?_)
          cases e with
          | true =>
            rw [if_pos (hiff.mp rfl)] at hR
            wp_walk
            exact ⟨rfl, rfl, _, _, _, _, hrest, hvi', hwi', by omega, hR⟩
          | false =>
            rw [if_neg (fun q => absurd (hiff.mpr q) Bool.false_ne_true)] at hR
            have hri := rcGt_int A.in1 ⟨hp, g, d, tk, os⟩ a t c u prog w
            wp_walk using hri
            exact ⟨_, rfl, by simpa using hR⟩
    case fin =>
      rintro ⟨b1, b2⟩ s' ⟨hb', rfl, vs, ws, ns', ms', hz, hvi, hwi, hlen, hR⟩
      simp only at hb'
      subst hb'
      have hv : lexLt ms' ns' = decide (items2.size < items.size) := by
        cases hvi with
        | nil =>
          cases hwi with
          | nil =>
            simp only [List.length_nil] at hlen
            rw [lexLt_nil_nil]
            exact (decide_eq_false (by omega)).symm
          | cons c u hw =>
            simp only [List.length_nil, List.length_cons] at hlen
            rw [lexLt_cons_nil]
            exact (decide_eq_false (by omega)).symm
        | cons a t hv =>
          cases hwi with
          | nil =>
            simp only [List.length_nil, List.length_cons] at hlen
            rw [lexLt_nil_cons]
            exact (decide_eq_true (by omega)).symm
          | cons c u hw =>
            rw [List.zip_cons_cons] at hz
            cases hz
      rw [hv] at hR
      wp_walk
      exact ⟨_, rfl, by simpa [Builtin.Tuple.tupleCompareSizes] using hR⟩
    case h =>
      exact ⟨rfl, rfl, items.toList, items2.toList, ns, ms, rfl, hi, hj, by omega, h⟩
end
section
variable {prog : Program} {w : World} {A : Around} {E : Value → Shared → Prop} {s : Shared}
theorem gt_tupInts {l b : Addr} {items items2 : Array Value} {ns ms : List Int} {Q : Value → Shared → Prop} (hl : IsTup s.heap l items) (hb : IsTup s.heap b items2) (hi : IntsAre items.toList ns) (hj : IntsAre items2.toList ms)
    (hu : A.units < cLine) (h : Q (.bool (lexLt ms ns)) s) : wpAny (model prog w) A (compareOp .Gt (.ref l) (.ref b)) Q E s := by
  obtain ⟨⟨cls, dd, data, sl⟩, ho, hc, n, hd⟩ := id hl
  obtain ⟨⟨cls2, dd2, data2, sl2⟩, ho2, hc2, n2, hd2⟩ := id hb
  simp only at hc hd hc2 hd2
  subst hc hd hc2 hd2
  exact richCompare_meets_room (op := .Gt) ⟨_, ho, rfl⟩ ⟨_, ho2, rfl⟩ PySem.F.slot_tuple_gt PySem.F.entry_tuple_gt (PySem.F.args_tuple_gt_2 _ _) (tuple_gt_ints l b items items2 n n2 dd dd2 sl sl2 ns ms hi hj)
    ⟨ho, ho2, show Value.bool (lexLt ms ns) ≠ Value.notImplemented ∧ Q (.bool (lexLt ms ns)) s from ⟨(fun x => nomatch x), h⟩⟩ hu
end
end HT
namespace L2
open PySem PySem.Spec PyProof.Rows
section
variable {X : Cx}
def rGtT (K : PySem.W.Frag) : R2 := fun x y H Q => ∃ a b ns ms, x = .ref a ∧ y = .ref b ∧ SqT K H a (ns.map V.int) ∧ SqT K H b (ms.map V.int) ∧ Q (.bl (HT.lexLt ms ns)) H
theorem op_gtT (hu : X.A.units < cLine) : OpR X (compareOp .Gt) (rGtT X.K) := by
  intro pins s σ H x y v u Q I rx ry h
  obtain ⟨a, b, ns, ms, rfl, rfl, ha, hb, q⟩ := h
  cases rx
  cases ry
  obtain ⟨its, r1, p1, _⟩ := I.tuple ha
  obtain ⟨its2, r2, p2, _⟩ := I.tuple hb
  have i1 : IntsAre its.toArray.toList ns := intsAre_of r1
  have i2 : IntsAre its2.toArray.toList ms := intsAre_of r2
  exact HT.gt_tupInts p1 p2 i1 i2 hu ⟨.bl (HT.lexLt ms ns), H, I, rfl, q⟩
end
end L2
namespace Nl
open PySem PySem.Spec PyProof.Rows L2
abbrev vz (l : List Int) : List V := l.map V.int
abbrev vn (l : List Nat) : List V := vz (zInts l)
theorem vn_len (l : List Nat) : (vn l).length = l.length := by rw [List.length_map, ints_length]
theorem vz_len (l : List Int) : (vz l).length = l.length := List.length_map ..
theorem vn_append (a b : List Nat) : vn (a ++ b) = vn a ++ vn b := by
  show (zInts (a ++ b)).map V.int = (zInts a).map V.int ++ (zInts b).map V.int
  rw [ints_append, List.map_append]
theorem vn_at {l : List Nat} {i : Nat} (h : i < l.length) : (vn l)[i]? = some (V.int (l.getD i 0 : Nat)) := by
  show ((l.map fun (x : Nat) => (x : Int)).map V.int)[i]? = _
  rw [List.getElem?_map, List.getElem?_map, List.getElem?_eq_getElem h, List.getD_eq_getElem?_getD, List.getElem?_eq_getElem h]
  rfl
theorem vn_get {l : List Nat} {i : Nat} {x : V} (h : (vn l)[i]? = some x) : ∃ n, l[i]? = some n ∧ x = V.int (n : Nat) := by
  have h' : ((l.map fun (x : Nat) => (x : Int)).map V.int)[i]? = some x := h
  rw [List.getElem?_map, List.getElem?_map] at h'
  cases e : l[i]? with
  | none =>
    rw [e] at h'
    cases h'
  | some n =>
    rw [e] at h'
    exact ⟨n, rfl, (Option.some.inj h').symm⟩
/-! ### bits of natural numbers -/
theorem nxor (a b : Nat) : Builtin.bitXor (a : Int) (b : Int) = ((a ^^^ b : Nat) : Int) := by
  rw [Bits.bitXor_pp (Int.natCast_nonneg _) (Int.natCast_nonneg _)]
  rfl
theorem nand255 (a : Nat) : Builtin.bitAnd (a : Int) 255 = ((a % 256 : Nat) : Int) := by
  have h := Bits.bitAnd_mask (x := (a : Int)) 8 (Int.natCast_nonneg _)
  exact h
theorem nand15 (a : Nat) : Builtin.bitAnd (a : Int) 15 = ((a % 16 : Nat) : Int) := by
  have h := Bits.bitAnd_mask (x := (a : Int)) 4 (Int.natCast_nonneg _)
  exact h
theorem nshr4 (a : Nat) : (a : Int) / 2 ^ (4 : Int).toNat = ((a / 16 : Nat) : Int) := by
  show (a : Int) / 16 = _
  omega
theorem nshr8 (a : Nat) : (a : Int) / 2 ^ (8 : Int).toNat = ((a / 256 : Nat) : Int) := by
  show (a : Int) / 256 = _
  omega
theorem nshr16 (a : Nat) : (a : Int) / 2 ^ (16 : Int).toNat = ((a / 65536 : Nat) : Int) := by
  show (a : Int) / 65536 = _
  omega
theorem nshr24 (a : Nat) : (a : Int) / 2 ^ (24 : Int).toNat = ((a / 16777216 : Nat) : Int) := by
  show (a : Int) / 16777216 = _
  omega
theorem join4 {a b c d : Nat} (ha : a < 256) (hb : b < 256) (hc : c < 256) :
    Builtin.bitOr (Builtin.bitOr (Builtin.bitOr (a : Int) ((b : Int) * 2 ^ (8 : Int).toNat)) ((c : Int) * 2 ^ (16 : Int).toNat)) ((d : Int) * 2 ^ (24 : Int).toNat) = ((a + 256 * b + 65536 * c + 16777216 * d : Nat) : Int) := by
  have e8 : (8 : Int).toNat = 8 := rfl
  have e16 : (16 : Int).toNat = 16 := rfl
  have e24 : (24 : Int).toNat = 24 := rfl
  rw [e8, e16, e24]
  rw [Bits.bitOr_join (k := 8) (Int.natCast_nonneg _) (by show (a : Int) < 256; omega) (Int.natCast_nonneg _)]
  rw [Bits.bitOr_join (k := 16) (by show (0 : Int) ≤ a + b * 256; omega) (by show (a : Int) + b * 256 < 65536; omega) (Int.natCast_nonneg _)]
  rw [Bits.bitOr_join (k := 24) (by show (0 : Int) ≤ a + b * 256 + c * 65536; omega) (by show (a : Int) + b * 256 + c * 65536 < 16777216; omega) (Int.natCast_nonneg _)]
  show (a : Int) + b * 256 + c * 65536 + d * 16777216 = _
  omega
/-! ### attributes, in a fixed order -/
theorem lookup_zip : ∀ {ns : List Str} {vs : List V} {i : Nat} {f : Str}, ns.Nodup → ns[i]? = some f → (ns.zip vs).lookup f = vs[i]?
  | [], _, _, _, _, h => by simp at h
  | n :: ns, [], i, f, _, _ => by simp
  | n :: ns, v :: vs, 0, f, _, h => by
    have e : n = f := by simpa using h
    subst e
    simp [List.lookup]
  | n :: ns, v :: vs, i + 1, f, hn, h => by
    have h' : ns[i]? = some f := by simpa using h
    have ne : ¬ (f = n) := fun e => (List.nodup_cons.mp hn).1 (e ▸ List.mem_of_getElem? h')
    have ih := lookup_zip (vs := vs) (List.nodup_cons.mp hn).2 h'
    have nb : (f == n) = false := by simpa using ne
    show ((n, v) :: ns.zip vs).lookup f = _
    rw [List.lookup_cons, nb]
    simpa using ih
theorem lookup_zip_none : ∀ {ns : List Str} {vs : List V} {f : Str}, f ∉ ns → (ns.zip vs).lookup f = none
  | [], _, _, _ => by simp
  | n :: ns, [], _, _ => by simp
  | n :: ns, v :: vs, f, h => by
    have ne : ¬ (f = n) := fun e => h (e ▸ List.mem_cons_self ..)
    have nb : (f == n) = false := by simpa using ne
    show ((n, v) :: ns.zip vs).lookup f = _
    rw [List.lookup_cons, nb]
    exact lookup_zip_none fun m => h (List.mem_cons_of_mem _ m)
theorem putF_zip (x : V) : ∀ {ns : List Str} {vs : List V} {i : Nat} {f : Str}, ns.Nodup → ns[i]? = some f → i ≤ vs.length → putF f x (ns.zip vs) = ns.zip (vs.take i ++ x :: vs.drop (i + 1))
  | [], _, _, _, _, h, _ => by simp at h
  | n :: ns, [], i, f, _, h, hi => by
    have e : i = 0 := by simpa using hi
    subst e
    have e : n = f := by simpa using h
    subst e
    simp [putF]
  | n :: ns, v :: vs, 0, f, _, h, _ => by
    have e : n = f := by simpa using h
    subst e
    show putF n x ((n, v) :: ns.zip vs) = _
    simp [putF]
  | n :: ns, v :: vs, i + 1, f, hn, h, hi => by
    have h' : ns[i]? = some f := by simpa using h
    have ne : ¬ (n = f) := fun e => (List.nodup_cons.mp hn).1 (e ▸ List.mem_of_getElem? h')
    have ih := putF_zip x (vs := vs) (List.nodup_cons.mp hn).2 h' (by simpa using hi)
    show putF f x ((n, v) :: ns.zip vs) = _
    show (if n = f then (n, x) :: ns.zip vs else (n, v) :: putF f x (ns.zip vs)) = _
    rw [if_neg ne, ih]
    rfl
def leN : List Str := ["me", "other", "life", "session", "known", "up", "sent", "waiting", "got", "quiet"]
def msN : List Str := ["kind", "own", "known", "got", "number", "piece"]
theorem leN_nd : leN.Nodup := by decide +kernel
theorem msN_nd : msN.Nodup := by decide +kernel
def leF (vs : List V) : List (Str × V) := leN.zip vs
def msF (vs : List V) : List (Str × V) := msN.zip vs
theorem leF_len (vs : List V) : (leF vs).length < 1000 := by
  unfold leF
  rw [List.length_zip]
  exact Nat.lt_of_le_of_lt (Nat.min_le_left _ _) (by decide)
theorem msF_len (vs : List V) : (msF vs).length < 1000 := by
  unfold msF
  rw [List.length_zip]
  exact Nat.lt_of_le_of_lt (Nat.min_le_left _ _) (by decide)
/-! ### what the text has -/
def Cst (mg : Str → Option Value) (x : Str) (v : V) : Prop := ∃ u, mg x = some u ∧ RelV v u
def KTup (K : PySem.W.Frag) (a : Addr) (xs : List V) : Prop := ∀ H, SqT K H a xs
def CTup (K : PySem.W.Frag) (mg : Str → Option Value) (x : Str) (xs : List V) : Prop := ∃ a, mg x = some (.ref a) ∧ KTup K a xs
structure Txt (K : PySem.W.Frag) (mg : Str → Option Value) (C M : Addr) : Prop where
  clE : Cls K C
  naE : ∀ (i : Nat) (f : Str), leN[i]? = some f → NoAttr K C f
  clM : Cls K M
  naM : ∀ (i : Nat) (f : Str), msN[i]? = some f → NoAttr K M f
  mgC : mg "LineEnd" = some (.ref C)
  mgM : mg "Message" = some (.ref M)
  len : mg "len" = none
  enum : mg "enumerate" = none
  ones : Cst mg "ALL_ONES" (.int 4294967295)
  four : CTup K mg "FOUR_STEPS" (vn tab)
  beat : Cst mg "BEAT" (.int 1)
  piece : Cst mg "PIECE" (.int 2)
  headLen : Cst mg "HEAD_LENGTH" (.int 24)
  numLen : Cst mg "NUMBER_LENGTH" (.int 4)
  chkLen : Cst mg "CHECK_LENGTH" (.int 4)
  longest : Cst mg "LONGEST_PIECE" (.int 200)
  done : Cst mg "DONE" (.int 0)
  wrong : Cst mg "WRONG_NUMBERS" (.int (-22))
  notUp : Cst mg "NOT_UP" (.int (-11))
  tooMany : Cst mg "TOO_MANY" (.int (-28))
  notRight : Cst mg "NOT_RIGHT" (.int (-71))
  tSent : Cst mg "TOLD_SENT" (.int 0)
  tUp : Cst mg "TOLD_UP" (.int 1)
  tGot : Cst mg "TOLD_GOT" (.int 2)
  tDown : Cst mg "TOLD_DOWN" (.int 3)
  nothing : CTup K mg "NOTHING" [.int 0, .int 0]
  highest : Cst mg "HIGHEST_NAME" (.int 255)
  most : Cst mg "MOST_WAITING" (.int 32)
  again : Cst mg "SENT_AGAIN" (.int 4)
  quietT : Cst mg "QUIET_TICKS" (.int 16)
  cStart : Cst mg "START" (.int 0)
  cSend : Cst mg "SEND" (.int 1)
  cHeard : Cst mg "HEARD" (.int 2)
  cTick : Cst mg "TICK" (.int 3)
section
variable {X : Cx} {x m : Str} {v : V} {pos p apos : Pos} {e o : Expr} {es : List Expr} {ta : TE} {t : TA} {ps : List Str} {k : Nat} {sp : Sp} {C : Addr}
theorem pe_cst (c : Cst X.mg x v) (hg : Gl X x) (hd : (x == ("__debug__" : Str)) = false := by decide) : PE X (.Name x pos) (tC v) := by
  obtain ⟨u, h, r⟩ := c
  exact pe_glob hg h r hd
def tCT (K : PySem.W.Frag) (xs : List V) : TE := fun _ H Q => ∀ a, KTup K a xs → Q (.ref a) H
theorem pe_ctup {xs : List V} (c : CTup X.K X.mg x xs) (hg : Gl X x) (hd : (x == ("__debug__" : Str)) = false := by decide) : PE X (.Name x pos) (tCT X.K xs) := by
  obtain ⟨a, h, r⟩ := c
  exact fun pins s σ H Q I q => pe_glob (v := .ref a) hg h rfl hd pins s σ H Q I (q a r)
/-- a def of the file, with its promise -/
structure GFn (P : Program) (w : World) (K : PySem.W.Frag) (mg : Str → Option Value) (base : Heap) (x : Str) (ps : List Str) (k : Nat) (sp : Sp) : Prop where
  ex : ∃ f fd, mg x = some (.ref f) ∧ PySem.W.keepIn K (.ref f) = true ∧ Binds K fd ps [] ∧ FnOk P w K mg base CX0 k f fd ps sp
/-- a method of the class at C, with its promise -/
structure MFn (P : Program) (w : World) (K : PySem.W.Frag) (mg : Str → Option Value) (base : Heap) (C : Addr) (m : Str) (ps : List Str) (k : Nat) (sp : Sp) : Prop where
  ex : ∃ f fd, Meth K C m f ∧ Binds K fd ps [] ∧ FnOk P w K mg base CX0 k f fd ps sp
/-- a class that is made, with its __init__'s promise -/
structure CFn (P : Program) (w : World) (K : PySem.W.Frag) (mg : Str → Option Value) (base : Heap) (C : Addr) (ps : List Str) (k : Nat) (sp : Sp) : Prop where
  ex : ∃ f fd, Mk K C f ∧ Binds K fd ps [] ∧ FnOk P w K mg base CX0 k f fd ps sp
theorem pe_g (G : GFn X.prog X.w X.K X.mg X.base x ps k sp) (hr : Room k X.A) (hg : Gl X x) (ha : PA X (e :: es) t) (hdb : (x == ("__debug__" : Str)) = false := by decide) (he : starEach (e :: es) X.env = (false, eval e X.env) :: starEach es X.env := by rfl)
    (hpl : (backTo pos (starEach es X.env)).any (·.1) = false := by rfl) : PE X (.Call (.Name x p) (e :: es) [] pos) (tCall sp [] E0 t) := by
  obtain ⟨f, fd, h1, h2, h3, h4⟩ := G.ex
  exact pe_call h4 hr hg h1 h2 h3 .nil pass0 ha hdb he hpl
theorem pe_mk (G : CFn X.prog X.w X.K X.mg X.base C ps k sp) (hr : Room (k + 1) X.A) (hg : Gl X x) (hm : X.mg x = some (.ref C)) (ha : PA X (e :: es) t) (hdb : (x == ("__debug__" : Str)) = false := by decide) (he : starEach (e :: es) X.env = (false, eval e X.env) :: starEach es X.env := by rfl)
    (hpl : (backTo pos (starEach es X.env)).any (·.1) = false := by rfl) : PE X (.Call (.Name x p) (e :: es) [] pos) (tMake C sp [] E0 t) := by
  obtain ⟨f, fd, h1, h3, h4⟩ := G.ex
  exact pe_make h1 h4 hr hg hm h3 .nil pass0 ha hdb he hpl
theorem pe_mk0 (G : CFn X.prog X.w X.K X.mg X.base C ps k sp) (hr : Room (k + 1) X.A) (hg : Gl X x) (hm : X.mg x = some (.ref C)) (hdb : (x == ("__debug__" : Str)) = false := by decide) : PE X (.Call (.Name x p) [] [] pos) (tMake C sp [] E0 tNil) := by
  obtain ⟨f, fd, h1, h3, h4⟩ := G.ex
  exact pe_make0 h1 h4 hr hg hm h3 .nil pass0 hdb
theorem pe_m {pl : Sem Bool} (he : PE X o ta) (c : Cls X.K C) (G : MFn X.prog X.w X.K X.mg X.base C m ps k sp) (hr : Room k X.A) (ha : PA X (e :: es) t)
    (hst : starEach (e :: es) X.env = (false, eval e X.env) :: starEach es X.env := by rfl) (hpl : (backTo pos (starEach es X.env)).any (·.1) = false := by rfl)
    (ht : eval (.Call (.Attribute o m apos) (e :: es) [] pos) X.env = (do
      let ov ← eval o X.env
      standAt apos.atName
      let (f, first) ← holding [ov] (getMethod ov m pl)
      callWith pos f first (backTo pos (starEach (e :: es) X.env)) (backToKw pos (keywordEach [] X.env))) := by rfl) :
    PE X (.Call (.Attribute o m apos) (e :: es) [] pos) (tMeth C m sp [] E0 ta t) := by
  obtain ⟨f, fd, h1, h3, h4⟩ := G.ex
  exact pe_meth he c h1 h4 hr h3 .nil pass0 ha hst hpl ht
theorem pe_mm {pl : Sem Bool} (he : PE X o ta) (c : Cls X.K C) (G : MFn X.prog X.w X.K X.mg X.base C m ps k sp) (hr : Room k X.A)
    (ht : eval (.Call (.Attribute o m apos) [] [] pos) X.env = (do
      let ov ← eval o X.env
      standAt apos.atName
      let (f, first) ← holding [ov] (getMethod ov m pl)
      callWith pos f first (backTo pos (starEach [] X.env)) (backToKw pos (keywordEach [] X.env))) := by rfl) :
    PE X (.Call (.Attribute o m apos) [] [] pos) (tMeth C m sp [] E0 ta tNil) := by
  obtain ⟨f, fd, h1, h3, h4⟩ := G.ex
  exact pe_meth0 he c h1 h4 hr h3 .nil pass0 ht
/-- len(e) of a list or tuple -/
theorem pe_len {a : Expr} (hg : Gl X "len") (hm : X.mg "len" = none) (ha : PA X [a] t) (he : starEach (a :: []) X.env = (false, eval a X.env) :: starEach [] X.env := by rfl) :
    PE X (.Call (.Name "len" p) [a] [] pos) (tCB (fun xs H Q => ∃ p ys, xs = [.ref p] ∧ (SqL X.K H p ys ∨ SqT X.K H p ys) ∧ Q (.int ys.length) H) t) :=
  pe_callB call_len_seq hg hm PySem.boot_len ha (he := he)
end
/-! ### heaps -/
theorem same_new {H : Hp} {l : Addr} {o : HO} (h : H l = Option.none) : Same H (upd H l o) := fun b u e => by
  rw [upd_ne (ne_of_none e h)]
  exact e
theorem Same.sqT {K : PySem.W.Frag} {H H' : Hp} {a : Addr} {xs : List V} (e : Same H H') (h : SqT K H a xs) : SqT K H' a xs := by
  rcases h with (h | ⟨o, h⟩) | h
  · exact .inl (.inl (e _ _ h))
  · exact .inl (.inr ⟨o, e _ _ h⟩)
  · exact .inr h
/-- a new list, a new tuple comes out; all else stays -/
def NewL (H : Hp) (xs : List V) (Q : VK) : Prop := ∀ (H' : Hp) (l : Addr), Same H H' → H l = Option.none → H' l = some (.lst xs) → Q (.ref l) H'
def NewT (H : Hp) (xs : List V) (Q : VK) : Prop := ∀ (H' : Hp) (l : Addr), Same H H' → H l = Option.none → H' l = some (.tup xs) → Q (.ref l) H'
theorem NewL.lay {H H1 : Hp} {xs : List V} {Q : VK} (n : NewL H xs Q) (s : Same H H1) {l : Addr} (h : H1 l = Option.none) : Q (.ref l) (upd H1 l (.lst xs)) :=
  n _ l (s.trans (same_new h)) (s.free h) upd_same
theorem NewT.lay {H H1 : Hp} {xs : List V} {Q : VK} (n : NewT H xs Q) (s : Same H H1) {l : Addr} (h : H1 l = Option.none) : Q (.ref l) (upd H1 l (.tup xs)) :=
  n _ l (s.trans (same_new h)) (s.free h) upd_same
theorem NewL.after {H H1 : Hp} {xs : List V} {Q : VK} (n : NewL H xs Q) (s : Same H H1) : NewL H1 xs Q := fun H' l s' h h' => n H' l (s.trans s') (s.free h) h'
theorem NewT.after {H H1 : Hp} {xs : List V} {Q : VK} (n : NewT H xs Q) (s : Same H H1) : NewT H1 xs Q := fun H' l s' h h' => n H' l (s.trans s') (s.free h) h'
theorem small {n : Nat} (h : n ≤ 100000) : n ≤ sizeLine := Nat.le_trans h (by decide)
/-! ### the text by places -/
def top (i : Nat) : Stmt := PySem.Challenge.pw_nodeline_s01_answers.main.body.getD i (.Pass ⟨0, 0, 0, 0⟩)
end Nl

set_option Elab.async false
set_option linter.all false
set_option maxRecDepth 100000
set_option maxHeartbeats 4000000
namespace Nl
open PySem PySem.Spec PyProof.Rows L2
section
variable {P : Program} {w : World} {K : PySem.W.Frag} {mg : Str → Option Value} {base : Heap} {C M : Addr} {f : Addr} {fd : FuncData}
theorem take_snoc {α : Type} : ∀ {l : List α} {i : Nat} {x : α}, l[i]? = some x → l.take (i + 1) = l.take i ++ [x]
  | [], i, x, h => by simp at h
  | a :: l, 0, x, h => by
    have e : a = x := Option.some.inj h
    subst e
    rfl
  | a :: l, i + 1, x, h => by
    have ih := take_snoc (l := l) (i := i) (x := x) h
    show a :: l.take (i + 1) = a :: l.take i ++ [x]
    rw [ih]
    rfl
/-! ### check_of -/
def spCheck (K : PySem.W.Frag) : Sp := fun vs H Q _ => ∃ (a : Addr) (b : List Nat), vs = [.ref a] ∧ SqL K H a (vn b) ∧ Q (.int (Kgo3.crc b : Nat)) H
theorem scCheck : FnScope ["numbers", "value", "number"] ["numbers"] (defScope (top 3)) := ⟨rfl, rfl, rfl, by decide +kernel, rfl, by decide +kernel, by decide +kernel⟩
theorem ok_check (F : Fun K "check_of" "check_of" (top 3) f fd) (T : Txt K mg C M) : FnOk P w K mg base CX0 1 f fd ["numbers"] (spCheck K) := by
  refine F.ok scCheck (fun vs H Q E h => ?_) (fun cdv A outer s H vs Q E hr h => ?_)
  · obtain ⟨a, b, rfl, _⟩ := h
    rfl
  · obtain ⟨a, b, rfl, hS, k⟩ := h
    refine ⟨_, pss_cons (ps_set (i := 1) scCheck.nd rfl (Or.inl rfl) (pe_cst T.ones rfl))
      (pss_cons (ps_for PassesOwn.never rfl (pi_list (pv 0)) (pg_name (i := 2) scCheck.nd rfl (Or.inl rfl))
        (pss_cons (ps_set (i := 1) scCheck.nd rfl (Or.inl rfl) (pe_op op_xor (pv 1) (pv 2)))
        (pss_cons (ps_set (i := 1) scCheck.nd rfl (Or.inl rfl) (pe_op op_xor (pe_op op_shr (pv 1) pe_int) (pe_ix ix_tup (pe_ctup T.four rfl) (pe_op op_and (pv 1) pe_int) (fun _ _ => rfl))))
        (pss_one (ps_set (i := 1) scCheck.nd rfl (Or.inl rfl) (pe_op op_xor (pe_op op_shr (pv 1) pe_int) (pe_ix ix_tup (pe_ctup T.four rfl) (pe_op op_and (pv 1) pe_int) (fun _ _ => rfl))))))))
      (pss_one (ps_ret (pe_op op_xor (pv 1) (pe_cst T.ones rfl))))), ?_⟩
    refine ⟨_, rfl, a, rfl, ⟨_, hS⟩, for_list (K := K) (a := a) (xs := vn b) (fun i σ H' => ∃ v : Option V, σ = [some (.ref a), some (.int (reg (b.take i) : Nat)), v] ∧ H' = H)
      ⟨none, rfl, rfl⟩ (fun i σ H' _ ⟨_, _, e⟩ => e ▸ hS) ?_ ?_⟩
    · rintro i x σ H' hi ⟨v, rfl, rfl⟩
      obtain ⟨n, hn, rfl⟩ := vn_get hi
      have nt : ∀ c : Nat, c % 16 < tab.length := fun c => Nat.mod_lt _ (by decide)
      generalize hc : reg (b.take i) ^^^ n = c
      have e1 : Builtin.bitXor ((reg (b.take i) : Nat) : Int) (n : Int) = (c : Int) := by rw [nxor, hc]
      refine ⟨_, rfl, _, rfl, _, _, rfl, rfl, ?_⟩
      refine ⟨_, rfl, _, _, congrArg V.int e1, rfl, (by show (0 : Int) ≤ 4; decide), fun a4 h4 => ⟨_, rfl, _, _, congrArg V.int e1, rfl, a4, _, _, _, rfl, rfl, h4 _, at_of (j := c % 16) (nand15 c) (vn_at (nt c)), _, _, congrArg V.int (nshr4 c), rfl, ?_⟩⟩
      have e2 : Builtin.bitXor ((c / 16 : Nat) : Int) ((tab.getD (c % 16) 0 : Nat) : Int) = ((nib c : Nat) : Int) := nxor _ _
      generalize hd : nib c = d at e2
      refine ⟨_, rfl, _, _, congrArg V.int e2, rfl, (by show (0 : Int) ≤ 4; decide), fun a5 h5 => ⟨_, rfl, _, _, congrArg V.int e2, rfl, a5, _, _, _, rfl, rfl, h5 _, at_of (j := d % 16) (nand15 d) (vn_at (nt d)), _, _, congrArg V.int (nshr4 d), rfl, ?_⟩⟩
      have e3 : Builtin.bitXor ((d / 16 : Nat) : Int) ((tab.getD (d % 16) 0 : Nat) : Int) = ((reg (b.take (i + 1)) : Nat) : Int) := by
        rw [take_snoc hn, reg_snoc, hc, hd]
        exact nxor _ _
      exact ⟨_, congrArg (fun z => [some (V.ref a), some (V.int z), some (V.int (n : Int))]) e3, rfl⟩
    · rintro σ H' ⟨v, rfl, rfl⟩
      rw [vn_len, List.take_length]
      refine ⟨_, rfl, _, _, rfl, rfl, ?_⟩
      have e4 : Builtin.bitXor ((reg b : Nat) : Int) 4294967295 = ((Kgo3.crc b : Nat) : Int) := by
        rw [crc_reg]
        exact nxor _ 4294967295
      exact (congrArg (fun z => Q (V.int z) H') e4).mpr k
/-! ### low_byte_first -/
def spLow : Sp := fun vs H Q _ => ∃ n : Nat, vs = [.int (n : Int)] ∧ NewL H (vn (Kgo3.le n 4)) Q
theorem scLow : FnScope ["number"] ["number"] (defScope (top 12)) := ⟨rfl, rfl, rfl, by decide +kernel, rfl, by decide +kernel, by decide +kernel⟩
theorem ok_low (F : Fun K "low_byte_first" "low_byte_first" (top 12) f fd) : FnOk P w K mg base CX0 1 f fd ["number"] spLow := by
  refine F.ok scLow (fun vs H Q E h => ?_) (fun cdv A outer s H vs Q E hr h => ?_)
  · obtain ⟨n, rfl, _⟩ := h
    rfl
  · obtain ⟨n, rfl, k⟩ := h
    refine ⟨_, pss_one (ps_ret (pe_lst (pa_cons (pe_op op_and (pv 0) pe_int) (pa_cons (pe_op op_and (pe_op op_shr (pv 0) pe_int) pe_int) (pa_cons (pe_op op_and (pe_op op_shr (pv 0) pe_int) pe_int) (pa_cons (pe_op op_and (pe_op op_shr (pv 0) pe_int) pe_int) pa_nil)))))), ?_⟩
    refine ⟨_, rfl, _, _, rfl, rfl, _, rfl, _, _, rfl, rfl, (by show (0 : Int) ≤ 8; decide), _, _, congrArg V.int (nshr8 n), rfl, _, rfl, _, _, rfl, rfl, (by show (0 : Int) ≤ 16; decide), _, _, congrArg V.int (nshr16 n), rfl, _, rfl, _, _, rfl, rfl, (by show (0 : Int) ≤ 24; decide), _, _, congrArg V.int (nshr24 n), rfl, (by show 4 ≤ sizeLine; decide), fun l hl => ?_⟩
    have e : [V.int (Builtin.bitAnd (n : Int) 255), V.int (Builtin.bitAnd ((n / 256 : Nat) : Int) 255), V.int (Builtin.bitAnd ((n / 65536 : Nat) : Int) 255), V.int (Builtin.bitAnd ((n / 16777216 : Nat) : Int) 255)] = vn (Kgo3.le n 4) := by
      rw [nand255, nand255, nand255, nand255, le4]
      rfl
    exact (congrArg (fun z => Q (.ref l) (upd H l (.lst z))) e).mpr (k.lay (Same.refl H) hl)
/-! ### number_at -/
def spNum (K : PySem.W.Frag) : Sp := fun vs H Q _ => ∃ (a : Addr) (b : List Nat) (i : Nat), vs = [.ref a, .int (i : Int)] ∧ SqL K H a (vn b) ∧ Bytes8 b ∧ i + 4 ≤ b.length ∧ Q (.int (Kgo3.part b i 4 : Nat)) H
theorem scNum : FnScope ["numbers", "at"] ["numbers", "at"] (defScope (top 13)) := ⟨rfl, rfl, rfl, by decide +kernel, rfl, by decide +kernel, by decide +kernel⟩
theorem ok_num (F : Fun K "number_at" "number_at" (top 13) f fd) : FnOk P w K mg base CX0 1 f fd ["numbers", "at"] (spNum K) := by
  refine F.ok scNum (fun vs H Q E h => ?_) (fun cdv A outer s H vs Q E hr h => ?_)
  · obtain ⟨a, b, i, rfl, _⟩ := h
    rfl
  · obtain ⟨a, b, i, rfl, hS, h8, hl, k⟩ := h
    refine ⟨_, pss_one (ps_ret (pe_op op_or (pe_op op_or (pe_op op_or (pe_ix ix_list (pv 0) (pv 1) (fun _ _ => rfl))
      (pe_op op_shl (pe_ix ix_list (pv 0) (pe_op op_add (pv 1) pe_int) (fun _ _ => rfl)) pe_int))
      (pe_op op_shl (pe_ix ix_list (pv 0) (pe_op op_add (pv 1) pe_int) (fun _ _ => rfl)) pe_int))
      (pe_op op_shl (pe_ix ix_list (pv 0) (pe_op op_add (pv 1) pe_int) (fun _ _ => rfl)) pe_int))), ?_⟩
    have cp : ∀ (j : Nat) (e : Int), 0 ≤ e → e ≤ 1000000 → CPow ((b.getD j 0 : Nat) : Int) e := fun j e h1 h2 => ⟨h1, h2, by
      have := h8.getD j
      show (b.getD j 0) < 2 ^ 64
      exact Nat.lt_trans this (by decide)⟩
    refine ⟨_, rfl, _, rfl, a, _, _, _, rfl, rfl, hS, at_of (j := i) rfl (vn_at (by omega)), ?_⟩
    refine ⟨_, rfl, _, rfl, _, _, rfl, rfl, a, _, _, _, rfl, rfl, hS, at_of (j := i + 1) (by omega) (vn_at (by omega)), _, _, rfl, rfl, cp _ _ (by decide) (by decide), _, _, rfl, rfl, ?_⟩
    refine ⟨_, rfl, _, rfl, _, _, rfl, rfl, a, _, _, _, rfl, rfl, hS, at_of (j := i + 2) (by omega) (vn_at (by omega)), _, _, rfl, rfl, cp _ _ (by decide) (by decide), _, _, rfl, rfl, ?_⟩
    refine ⟨_, rfl, _, rfl, _, _, rfl, rfl, a, _, _, _, rfl, rfl, hS, at_of (j := i + 3) (by omega) (vn_at (by omega)), _, _, rfl, rfl, cp _ _ (by decide) (by decide), _, _, rfl, rfl, ?_⟩
    have e := join4 (d := b.getD (i + 3) 0) (h8.getD i) (h8.getD (i + 1)) (h8.getD (i + 2))
    rw [← part4 hl] at e
    exact (congrArg (fun z => Q (V.int z) H) e).mpr k
/-! ### pair_at -/
def spPair (K : PySem.W.Frag) : Sp := fun vs H Q _ => ∃ (a : Addr) (b : List Nat) (i : Nat), vs = [.ref a, .int (i : Int)] ∧ SqL K H a (vn b) ∧ Bytes8 b ∧ i + 8 ≤ b.length ∧ NewT H [.int (Kgo3.part b i 4 : Nat), .int (Kgo3.part b (i + 4) 4 : Nat)] Q
theorem scPair : FnScope ["numbers", "at"] ["numbers", "at"] (defScope (top 14)) := ⟨rfl, rfl, rfl, by decide +kernel, rfl, by decide +kernel, by decide +kernel⟩
theorem ok_pair (F : Fun K "pair_at" "pair_at" (top 14) f fd) (G : GFn P w K mg base "number_at" ["numbers", "at"] 1 (spNum K)) : FnOk P w K mg base CX0 2 f fd ["numbers", "at"] (spPair K) := by
  refine F.ok scPair (fun vs H Q E h => ?_) (fun cdv A outer s H vs Q E hr h => ?_)
  · obtain ⟨a, b, i, rfl, _⟩ := h
    rfl
  · obtain ⟨a, b, i, rfl, hS, h8, hl, k⟩ := h
    refine ⟨_, pss_one (ps_ret (pe_tup (pa_cons (pe_g G hr rfl (pa_cons (pv 0) (pa_cons (pv 1) pa_nil))) (pa_cons (pe_g G hr rfl (pa_cons (pv 0) (pa_cons (pe_op op_add (pv 1) pe_int) pa_nil))) pa_nil)))), ?_⟩
    refine ⟨_, rfl, _, rfl, a, b, i, rfl, hS, h8, (by omega), ?_⟩
    refine ⟨_, rfl, _, rfl, _, _, rfl, rfl, a, b, i + 4, rfl, hS, h8, (by omega), ?_⟩
    exact ⟨(by show 2 ≤ sizeLine; decide), fun l hl => k.lay (Same.refl H) hl⟩
/-! ### with_check -/
def spWith : Sp := fun vs H Q _ => ∃ (a : Addr) (b : List Nat), vs = [.ref a] ∧ H a = some (.lst (vn b)) ∧ b.length ≤ 1000 ∧ NewL H (vn (b ++ Kgo3.le (Kgo3.crc b) 4)) Q
theorem scWith : FnScope ["numbers"] ["numbers"] (defScope (top 15)) := ⟨rfl, rfl, rfl, by decide +kernel, rfl, by decide +kernel, by decide +kernel⟩
theorem ok_with (F : Fun K "with_check" "with_check" (top 15) f fd) (G1 : GFn P w K mg base "check_of" ["numbers"] 1 (spCheck K)) (G2 : GFn P w K mg base "low_byte_first" ["number"] 1 spLow) : FnOk P w K mg base CX0 2 f fd ["numbers"] spWith := by
  refine F.ok scWith (fun vs H Q E h => ?_) (fun cdv A outer s H vs Q E hr h => ?_)
  · obtain ⟨a, b, rfl, _⟩ := h
    rfl
  · obtain ⟨a, b, rfl, hA, hb, k⟩ := h
    refine ⟨_, pss_one (ps_ret (pe_op op_cat (pv 0) (pe_g G2 hr rfl (pa_cons (pe_g G1 hr rfl (pa_cons (pv 0) pa_nil)) pa_nil)))), ?_⟩
    refine ⟨_, rfl, _, rfl, a, b, rfl, SqL.of hA, Kgo3.crc b, rfl, fun H1 l s1 n1 h1 => ⟨a, l, _, _, rfl, rfl, s1 _ _ hA, h1, ?_, fun p hp => ?_⟩⟩
    · rw [vn_len, vn_len, le4_length]
      exact small (by omega)
    · rw [← vn_append]
      exact k.lay s1 hp
/-! ### write_head -/
theorem sqT_upd {H : Hp} {a h : Addr} {xs ys : List V} {o : HO} (e : SqT K H a xs) (hh : H h = some (.lst ys)) : SqT K (upd H h o) a xs := by
  rcases e with (e | ⟨ob, e⟩) | e
  · exact .inl (.inl (by rw [upd_ne (ne_of e hh (by intro z; cases z))]; exact e))
  · exact .inl (.inr ⟨ob, by rw [upd_ne (ne_of e hh (by intro z; cases z))]; exact e⟩)
  · exact .inr e
def headOf (kd sd rc : Nat) (own known : Nat × Nat) (g : Nat) : List Nat := [kd, sd, rc, 0] ++ Kgo3.le own.1 4 ++ Kgo3.le own.2 4 ++ Kgo3.le known.1 4 ++ Kgo3.le known.2 4 ++ Kgo3.le g 4
def spHead (K : PySem.W.Frag) : Sp := fun vs H Q _ => ∃ (kd sd rc g : Nat) (own known : Nat × Nat) (ao ak : Addr), vs = [.int (kd : Int), .int (sd : Int), .int (rc : Int), .ref ao, .ref ak, .int (g : Int)] ∧
  SqT K H ao [.int (own.1 : Nat), .int (own.2 : Nat)] ∧ SqT K H ak [.int (known.1 : Nat), .int (known.2 : Nat)] ∧ NewL H (vn (headOf kd sd rc own known g)) Q
theorem scHead : FnScope ["kind", "sender", "receiver", "own", "known", "got", "head", "number"] ["kind", "sender", "receiver", "own", "known", "got"] (defScope (top 16)) := ⟨rfl, rfl, rfl, by decide +kernel, rfl, by decide +kernel, by decide +kernel⟩
theorem ok_head (F : Fun K "write_head" "write_head" (top 16) f fd) (G2 : GFn P w K mg base "low_byte_first" ["number"] 1 spLow) : FnOk P w K mg base CX0 2 f fd ["kind", "sender", "receiver", "own", "known", "got"] (spHead K) := by
  refine F.ok scHead (fun vs H Q E h => ?_) (fun cdv A outer s H vs Q E hr h => ?_)
  · obtain ⟨kd, sd, rc, g, own, known, ao, ak, rfl, _⟩ := h
    rfl
  · obtain ⟨kd, sd, rc, g, own, known, ao, ak, rfl, hO, hK, k⟩ := h
    refine ⟨_, pss_cons (ps_set (i := 6) scHead.nd rfl (Or.inl rfl) (pe_lst (pa_cons (pv 0) (pa_cons (pv 1) (pa_cons (pv 2) (pa_cons pe_int pa_nil))))))
      (pss_cons (ps_for PassesOwn.never rfl (pi_tup (pe_tup (pa_cons (pe_ix ix_tup (pv 3) pe_int (fun _ _ => rfl)) (pa_cons (pe_ix ix_tup (pv 3) pe_int (fun _ _ => rfl)) (pa_cons (pe_ix ix_tup (pv 4) pe_int (fun _ _ => rfl)) (pa_cons (pe_ix ix_tup (pv 4) pe_int (fun _ _ => rfl)) (pa_cons (pv 5) pa_nil)))))))
          (pg_name (i := 7) scHead.nd rfl (Or.inl rfl))
        (pss_one (ps_expr (pe_bm PySem.F.plainAttrs_list PySem.F.slot_list_extend PySem.F.type_list_extend mt_extend (pv 6) (pa_cons (pe_g G2 hr rfl (pa_cons (pv 7) pa_nil)) pa_nil)))))
      (pss_one (ps_ret (pv 6)))), ?_⟩
    refine ⟨_, rfl, _, rfl, _, rfl, (by show 4 ≤ sizeLine; decide), fun h hh => ?_⟩
    have s1 : Same H (upd H h (.lst (vn [kd, sd, rc, 0]))) := same_new hh
    have hO1 := Same.sqT s1 hO
    have hK1 := Same.sqT s1 hK
    refine ⟨_, rfl, ao, _, _, _, rfl, rfl, hO1, at_of (j := 0) rfl rfl, _, rfl, ao, _, _, _, rfl, rfl, hO1, at_of (j := 1) rfl rfl, _, rfl, ak, _, _, _, rfl, rfl, hK1, at_of (j := 0) rfl rfl, _, rfl, ak, _, _, _, rfl, rfl, hK1, at_of (j := 1) rfl rfl, _, rfl, (by show 5 ≤ sizeLine; decide), fun t ht => ?_⟩
    refine ⟨t, rfl, ⟨_, SqT.of upd_same⟩, for_tup (K := K) (a := t) (xs := vn [own.1, own.2, known.1, known.2, g])
      (fun i σ H' => ∃ v : Option V, σ = [some (.int (kd : Int)), some (.int (sd : Int)), some (.int (rc : Int)), some (.ref ao), some (.ref ak), some (.int (g : Int)), some (.ref h), v] ∧ Same H H' ∧
        H' h = some (.lst (vn ([kd, sd, rc, 0] ++ ([own.1, own.2, known.1, known.2, g].take i).flatMap fun n => Kgo3.le n 4))) ∧ SqT K H' t (vn [own.1, own.2, known.1, known.2, g]))
      ⟨none, rfl, s1.trans (same_new ht), ?_, SqT.of upd_same⟩ (fun i σ H' _ ⟨_, _, _, _, e⟩ => e) ?_ ?_⟩
    · rw [upd_ne (ne_of_none upd_same ht)]
      exact upd_same
    · rintro i x σ H' hi ⟨v, rfl, s2, hh', ht'⟩
      obtain ⟨n, hn, rfl⟩ := vn_get hi
      have hi5 : i < 5 := (List.getElem?_eq_some_iff.mp hn).1
      refine ⟨_, rfl, .inl ⟨rfl, _, SqL.of hh'⟩, _, rfl, n, rfl, fun H1 l s3 n3 h3 => ⟨h, l, _, _, rfl, rfl, s3 _ _ hh', h3, ?_, ?_⟩⟩
      · rw [vn_len, vn_len, le4_length, List.length_append, List.length_flatMap]
        refine small ?_
        have e : (List.map (fun n => (Kgo3.le n 4).length) (List.take i [own.1, own.2, known.1, known.2, g])).sum ≤ 4 * i := by
          match i, hi5 with
          | 0, _ => exact Nat.le_refl _
          | 1, _ => exact Nat.le_refl _
          | 2, _ => exact Nat.le_refl _
          | 3, _ => exact Nat.le_refl _
          | 4, _ => exact Nat.le_refl _
        show 4 + _ + 4 ≤ 100000
        omega
      · refine ⟨_, rfl, ?_, ?_, sqT_upd (Same.sqT s3 ht') (s3 _ _ hh')⟩
        · intro b o e
          rw [upd_ne (ne_of_none e hh)]
          exact s3 _ _ (s2 _ _ e)
        · rw [upd_same, ← vn_append, take_snoc hn, List.flatMap_append, List.append_assoc]
          simp
    · rintro σ H' ⟨v, rfl, s2, hh', ht'⟩
      refine ⟨_, rfl, ?_⟩
      exact k H' h s2 hh hh'
/-! ### write_beat, write_piece -/
def spBeat (K : PySem.W.Frag) : Sp := fun vs H Q _ => ∃ (sd rc g : Nat) (own known : Nat × Nat) (ao ak : Addr), vs = [.int (sd : Int), .int (rc : Int), .ref ao, .ref ak, .int (g : Int)] ∧
  SqT K H ao [.int (own.1 : Nat), .int (own.2 : Nat)] ∧ SqT K H ak [.int (known.1 : Nat), .int (known.2 : Nat)] ∧ NewL H (vn (Kgo3.written ⟨sd, rc, own, known, g, none⟩)) Q
theorem headOf_len (kd sd rc : Nat) (own known : Nat × Nat) (g : Nat) : (headOf kd sd rc own known g).length = 24 := rfl
theorem scBeat : FnScope ["sender", "receiver", "own", "known", "got"] ["sender", "receiver", "own", "known", "got"] (defScope (top 17)) := ⟨rfl, rfl, rfl, by decide +kernel, rfl, by decide +kernel, by decide +kernel⟩
theorem ok_beat (F : Fun K "write_beat" "write_beat" (top 17) f fd) (T : Txt K mg C M) (G1 : GFn P w K mg base "with_check" ["numbers"] 2 spWith) (G2 : GFn P w K mg base "write_head" ["kind", "sender", "receiver", "own", "known", "got"] 2 (spHead K)) :
    FnOk P w K mg base CX0 3 f fd ["sender", "receiver", "own", "known", "got"] (spBeat K) := by
  refine F.ok scBeat (fun vs H Q E h => ?_) (fun cdv A outer s H vs Q E hr h => ?_)
  · obtain ⟨sd, rc, g, own, known, ao, ak, rfl, _⟩ := h
    rfl
  · obtain ⟨sd, rc, g, own, known, ao, ak, rfl, hO, hK, k⟩ := h
    refine ⟨_, pss_one (ps_ret (pe_g G1 hr rfl (pa_cons (pe_g G2 hr rfl (pa_cons (pe_cst T.beat rfl) (pa_cons (pv 0) (pa_cons (pv 1) (pa_cons (pv 2) (pa_cons (pv 3) (pa_cons (pv 4) pa_nil))))))) pa_nil))), ?_⟩
    refine ⟨_, rfl, _, rfl, _, rfl, _, rfl, _, rfl, 1, sd, rc, g, own, known, ao, ak, rfl, hO, hK, fun H1 l s1 n1 h1 => ⟨l, _, rfl, h1, (by rw [headOf_len]; decide), ?_⟩⟩
    exact k.after s1
def spPiece (K : PySem.W.Frag) : Sp := fun vs H Q _ => ∃ (sd rc g n : Nat) (own known : Nat × Nat) (b : List Nat) (ao ak q : Addr), vs = [.int (sd : Int), .int (rc : Int), .ref ao, .ref ak, .int (g : Int), .int (n : Int), .ref q] ∧
  SqT K H ao [.int (own.1 : Nat), .int (own.2 : Nat)] ∧ SqT K H ak [.int (known.1 : Nat), .int (known.2 : Nat)] ∧ H q = some (.lst (vn b)) ∧ b.length ≤ 200 ∧ NewL H (vn (Kgo3.written ⟨sd, rc, own, known, g, some (n, b)⟩)) Q
theorem scPiece : FnScope ["sender", "receiver", "own", "known", "got", "number", "piece", "head"] ["sender", "receiver", "own", "known", "got", "number", "piece"] (defScope (top 18)) := ⟨rfl, rfl, rfl, by decide +kernel, rfl, by decide +kernel, by decide +kernel⟩
theorem ok_piece (F : Fun K "write_piece" "write_piece" (top 18) f fd) (T : Txt K mg C M) (G1 : GFn P w K mg base "with_check" ["numbers"] 2 spWith) (G2 : GFn P w K mg base "write_head" ["kind", "sender", "receiver", "own", "known", "got"] 2 (spHead K)) (G3 : GFn P w K mg base "low_byte_first" ["number"] 1 spLow) :
    FnOk P w K mg base CX0 3 f fd ["sender", "receiver", "own", "known", "got", "number", "piece"] (spPiece K) := by
  refine F.ok scPiece (fun vs H Q E h => ?_) (fun cdv A outer s H vs Q E hr h => ?_)
  · obtain ⟨sd, rc, g, n, own, known, b, ao, ak, q, rfl, _⟩ := h
    rfl
  · obtain ⟨sd, rc, g, n, own, known, b, ao, ak, q, rfl, hO, hK, hq, hb, k⟩ := h
    have hr1 : Room 1 _ := hr.mono (by decide)
    refine ⟨_, pss_cons (ps_set (i := 7) scPiece.nd rfl (Or.inl rfl) (pe_g G2 hr rfl (pa_cons (pe_cst T.piece rfl) (pa_cons (pv 0) (pa_cons (pv 1) (pa_cons (pv 2) (pa_cons (pv 3) (pa_cons (pv 4) pa_nil))))))))
      (pss_one (ps_ret (pe_g G1 hr rfl (pa_cons (pe_op op_cat (pe_op op_cat (pv 7) (pe_g G3 hr1 rfl (pa_cons (pv 5) pa_nil))) (pv 6)) pa_nil)))), ?_⟩
    refine ⟨_, rfl, _, rfl, _, rfl, _, rfl, _, rfl, 2, sd, rc, g, own, known, ao, ak, rfl, hO, hK, fun H1 l s1 n1 h1 => ?_⟩
    refine ⟨_, rfl, _, rfl, n, rfl, fun H2 l2 s2 n2 h2 => ⟨l, l2, _, _, rfl, rfl, s2 _ _ h1, h2, (by rw [vn_len, vn_len, le4_length, headOf_len]; exact small (by decide)), fun p hp => ?_⟩⟩
    have s3 := s2.trans (same_new (o := .lst (vn (headOf 2 sd rc own known g) ++ vn (Kgo3.le n 4))) hp)
    refine ⟨_, rfl, p, q, _, _, rfl, rfl, upd_same, s3 _ _ (s1 _ _ hq), (by rw [List.length_append, vn_len, vn_len, vn_len, le4_length, headOf_len]; exact small (by omega)), fun p2 hp2 => ?_⟩
    rw [← vn_append, ← vn_append] at *
    refine ⟨p2, _, rfl, upd_same, (by rw [List.length_append, List.length_append, le4_length, headOf_len]; omega), ?_⟩
    have s4 := (s1.trans s3).trans (same_new (o := .lst (vn (headOf 2 sd rc own known g ++ Kgo3.le n 4 ++ b))) hp2)
    refine NewL.after ?_ s4
    have e : Kgo3.written ⟨sd, rc, own, known, g, some (n, b)⟩ = (headOf 2 sd rc own known g ++ Kgo3.le n 4 ++ b) ++ Kgo3.le (Kgo3.crc (headOf 2 sd rc own known g ++ Kgo3.le n 4 ++ b)) 4 := by
      unfold Kgo3.written Kgo3.body headOf
      simp
    rw [← e]
    exact k
end
end Nl

set_option Elab.async false
set_option linter.all false
set_option maxRecDepth 100000
set_option maxHeartbeats 4000000
namespace Nl
open PySem PySem.Spec PyProof.Rows L2
/-! ### heaps: all but the object at p stays -/
def KeptP (H H' : Hp) (p : Addr) : Prop := ∀ b o, H b = some o → b ≠ p → H' b = some o
def Kept (H H' : Hp) (p wl : Addr) : Prop := ∀ b o, H b = some o → b ≠ p → b ≠ wl → H' b = some o
theorem KeptP.refl (H : Hp) (p : Addr) : KeptP H H p := fun _ _ e _ => e
theorem KeptP.trans {H H1 H2 : Hp} {p : Addr} (a : KeptP H H1 p) (b : KeptP H1 H2 p) : KeptP H H2 p := fun c o e n => b c o (a c o e n) n
theorem KeptP.same {H H1 H2 : Hp} {p : Addr} (a : KeptP H H1 p) (b : Same H1 H2) : KeptP H H2 p := fun c o e n => b c o (a c o e n)
theorem Same.kp {H H1 : Hp} (p : Addr) (a : Same H H1) : KeptP H H1 p := fun c o e _ => a c o e
theorem KeptP.kept {H H1 : Hp} {p wl : Addr} (a : KeptP H H1 p) : Kept H H1 p wl := fun c o e n _ => a c o e n
theorem KeptP.upd {H H1 : Hp} {p : Addr} {o : HO} (a : KeptP H H1 p) : KeptP H (upd H1 p o) p := fun c u e n => by
  rw [upd_ne n]
  exact a c u e n
theorem KeptP.free {H H' : Hp} {p l : Addr} (k : KeptP H H' p) (n : l ≠ p) (h : H' l = Option.none) : H l = Option.none := by
  cases e : H l with
  | none => rfl
  | some o =>
    rw [k l o e n] at h
    cases h
theorem KeptP.sqT {K : PySem.W.Frag} {H H' : Hp} {p a : Addr} {xs : List V} {Cc dx : Addr} {fs : List (Str × V)} (k : KeptP H H' p) (hp : H p = some (.ins Cc dx fs)) (h : SqT K H a xs) : SqT K H' a xs := by
  rcases h with (h | ⟨o, h⟩) | h
  · exact .inl (.inl (k _ _ h (ne_of h hp (by intro z; cases z))))
  · exact .inl (.inr ⟨o, k _ _ h (ne_of h hp (by intro z; cases z))⟩)
  · exact .inr h
theorem KeptP.lst {H H' : Hp} {p a : Addr} {xs : List V} {Cc dx : Addr} {fs : List (Str × V)} (k : KeptP H H' p) (hp : H p = some (.ins Cc dx fs)) (h : H a = some (.lst xs)) : H' a = some (.lst xs) :=
  k _ _ h (ne_of h hp (by intro z; cases z))
section
variable {P : Program} {w : World} {K : PySem.W.Frag} {mg : Str → Option Value} {base : Heap} {C M : Addr} {f : Addr} {fd : FuncData}
/-! ### is_piece_length -/
def lenB (z : Int) : Bool := decide (1 ≤ z) && decide (z ≤ 200)
def spIsLen : Sp := fun vs H Q _ => ∃ z : Int, vs = [.int z] ∧ Q (.bl (lenB z)) H
theorem scIsLen : FnScope ["length"] ["length"] (defScope (top 19)) := ⟨rfl, rfl, rfl, by decide +kernel, rfl, by decide +kernel, by decide +kernel⟩
theorem ok_isLen (F : Fun K "is_piece_length" "is_piece_length" (top 19) f fd) (T : Txt K mg C M) : FnOk P w K mg base CX0 1 f fd ["length"] spIsLen := by
  refine F.ok scIsLen (fun vs H Q E h => ?_) (fun cdv A outer s H vs Q E hr h => ?_)
  · obtain ⟨z, rfl, _⟩ := h
    rfl
  · obtain ⟨z, rfl, k⟩ := h
    refine ⟨_, pss_one (ps_ret (pe_chain op_le op_le pe_int (pv 0) (pe_cst T.longest rfl))), ?_⟩
    refine ⟨_, rfl, _, _, rfl, rfl, _, rfl, ?_⟩
    refine ite2 (fun h => ?_) (fun h => ?_)
    · have e : lenB z = decide (z ≤ 200) := by
        unfold lenB
        rw [h]
        rfl
      rw [e] at k
      exact ⟨_, _, rfl, rfl, k⟩
    · have e : lenB z = false := by
        unfold lenB
        rw [Bool.eq_false_iff.mpr h]
        rfl
      rw [e] at k
      exact k
/-! ### has_length_of_kind -/
def spKind (K : PySem.W.Frag) : Sp := fun vs H Q _ => ∃ (a : Addr) (b : List Nat), vs = [.ref a] ∧ SqL K H a (vn b) ∧ Q (.bl (lenOk b)) H
theorem scKind : FnScope ["numbers", "around"] ["numbers"] (defScope (top 20)) := ⟨rfl, rfl, rfl, by decide +kernel, rfl, by decide +kernel, by decide +kernel⟩
theorem ok_kind (F : Fun K "has_length_of_kind" "has_length_of_kind" (top 20) f fd) (T : Txt K mg C M) (G : GFn P w K mg base "is_piece_length" ["length"] 1 spIsLen) : FnOk P w K mg base CX0 2 f fd ["numbers"] (spKind K) := by
  refine F.ok scKind (fun vs H Q E h => ?_) (fun cdv A outer s H vs Q E hr h => ?_)
  · obtain ⟨a, b, rfl, _⟩ := h
    rfl
  · obtain ⟨a, b, rfl, hS, k⟩ := h
    refine ⟨_, pss_cons (ps_set (i := 1) scKind.nd rfl (Or.inl rfl) (pe_op op_add (pe_cst T.headLen rfl) (pe_cst T.chkLen rfl)))
      (pss_cons (ps_if (pt_cmpR op_lt (pe_len rfl T.len (pa_cons (pv 0) pa_nil)) (pv 1) (nomark _)) (pss_one (ps_ret pe_bl)) pss_nil)
      (pss_cons (ps_if (pt_cmpR op_eq (pe_ix ix_list (pv 0) pe_int (fun _ _ => rfl)) (pe_cst T.beat rfl) (nomark _)) (pss_one (ps_ret (pe_cmpR op_eq (pe_len rfl T.len (pa_cons (pv 0) pa_nil)) (pv 1) (nomark _)))) pss_nil)
      (pss_cons (ps_if (pt_cmpR op_eq (pe_ix ix_list (pv 0) pe_int (fun _ _ => rfl)) (pe_cst T.piece rfl) (nomark _)) (pss_one (ps_ret (pe_g G hr rfl (pa_cons (pe_op op_sub (pe_op op_sub (pe_len rfl T.len (pa_cons (pv 0) pa_nil)) (pv 1)) (pe_cst T.numLen rfl)) pa_nil)))) pss_nil)
      (pss_one (ps_ret pe_bl))))), ?_⟩
    refine ⟨_, _, rfl, rfl, ?_⟩
    refine ⟨_, rfl, a, _, rfl, .inl hS, _, rfl, _, _, rfl, rfl, _, rfl, ?_⟩
    rw [vn_len]
    refine ite2 (fun h => ?_) (fun h => ?_)
    · have e : lenOk b = false := by
        have h2 : b.length < 28 := by
          have h3 : ((b.length : Nat) : Int) < 24 + 4 := of_decide_eq_true h
          omega
        unfold lenOk
        simp [h2]
      rw [e] at k
      exact k
    · have h2 : ¬ b.length < 28 := by
        have h3 : ¬ ((b.length : Nat) : Int) < 24 + 4 := of_decide_eq_false (Bool.eq_false_iff.mpr h)
        omega
      have h0 : (vn b)[0]? = some (V.int (b.getD 0 0 : Nat)) := vn_at (by omega)
      refine ⟨_, rfl, a, _, _, _, rfl, rfl, hS, at_of (j := 0) rfl h0, rfl, _, rfl, ?_⟩
      refine ite2 (fun h => ?_) (fun h => ?_)
      · have h1 : b.getD 0 0 = 1 := by
          have z := of_decide_eq_true h
          injection z with z
          have z' : ((b.getD 0 0 : Nat) : Int) = 1 := z
          omega
        refine ⟨_, rfl, a, _, rfl, .inl hS, _, rfl, rfl, ?_⟩
        have e : decide (V.int ((vn b).length : Nat) = V.int (24 + 4)) = lenOk b := by
          rw [vn_len]
          unfold lenOk
          by_cases q : b.length = 28
          · rw [q, h1]
            rfl
          · have : ¬ (V.int (b.length : Nat) = V.int (24 + 4)) := fun z => by
              injection z with z
              omega
            rw [decide_eq_false this, h1]
            simp [q]
        rw [e]
        exact k
      · have h1 : ¬ b.getD 0 0 = 1 := fun z => h (by rw [z]; rfl)
        refine ⟨_, rfl, a, _, _, _, rfl, rfl, hS, at_of (j := 0) rfl h0, rfl, _, rfl, ?_⟩
        refine ite2 (fun h => ?_) (fun h => ?_)
        · have h3 : b.getD 0 0 = 2 := by
            have z := of_decide_eq_true h
            injection z with z
            have z' : ((b.getD 0 0 : Nat) : Int) = 2 := z
            omega
          refine ⟨_, rfl, a, _, rfl, .inl hS, _, rfl, _, _, rfl, rfl, _, _, rfl, rfl, _, rfl, ?_⟩
          have e : lenB (((vn b).length : Nat) - (24 + 4) - 4) = lenOk b := by
            rw [vn_len]
            unfold lenB lenOk
            rw [h3]
            by_cases q1 : 33 ≤ b.length
            · by_cases q2 : b.length ≤ 232
              · have a1 : (1 : Int) ≤ (b.length : Nat) - (24 + 4) - 4 := by omega
                have a2 : ((b.length : Nat) : Int) - (24 + 4) - 4 ≤ 200 := by omega
                rw [decide_eq_true a1, decide_eq_true a2]
                simp [q1, q2, h2]
              · have a2 : ¬ ((b.length : Nat) : Int) - (24 + 4) - 4 ≤ 200 := by omega
                rw [decide_eq_false a2]
                simp [q2]
            · have a1 : ¬ (1 : Int) ≤ (b.length : Nat) - (24 + 4) - 4 := by omega
              rw [decide_eq_false a1]
              simp [q1]
          rw [e]
          exact k
        · have h3 : ¬ b.getD 0 0 = 2 := fun z => h (by rw [z]; rfl)
          have e : lenOk b = false := by
            unfold lenOk
            rw [decide_eq_false h1, decide_eq_false h3]
            simp
          rw [e] at k
          exact k
/-! ### has_right_check -/
def chkOk (b : List Nat) : Bool := decide (Kgo3.part b (b.length - 4) 4 = Kgo3.crc (b.take (b.length - 4)))
def spRight (K : PySem.W.Frag) : Sp := fun vs H Q _ => ∃ (a : Addr) (b : List Nat), vs = [.ref a] ∧ SqL K H a (vn b) ∧ Bytes8 b ∧ 4 ≤ b.length ∧ ∀ H', Same H H' → Q (.bl (chkOk b)) H'
theorem scRight : FnScope ["numbers", "end"] ["numbers"] (defScope (top 21)) := ⟨rfl, rfl, rfl, by decide +kernel, rfl, by decide +kernel, by decide +kernel⟩
theorem cut_to {b : List Nat} {k : Nat} (h : k ≤ b.length) : cutV (vn b) none (some (k : Int)) = vn (b.take k) := by
  unfold cutV
  rw [HT.sIx_none, HT.sIx_nat, vn_len, Nat.min_eq_left h]
  show ((vn b).take (k - 0)) = _
  rw [Nat.sub_zero]
  show ((b.map fun (x : Nat) => (x : Int)).map V.int).take k = ((b.take k).map fun (x : Nat) => (x : Int)).map V.int
  rw [List.map_take, List.map_take]
theorem cut_mid {b : List Nat} {i k : Nat} (h : k ≤ b.length) : cutV (vn b) (some (i : Int)) (some (k : Int)) = vn ((b.drop i).take (k - i)) := by
  unfold cutV
  rw [HT.sIx_nat, HT.sIx_nat, vn_len, Nat.min_eq_left h]
  show (((b.map fun (x : Nat) => (x : Int)).map V.int).drop (min i b.length)).take (k - min i b.length) = (((b.drop i).take (k - i)).map fun (x : Nat) => (x : Int)).map V.int
  rw [List.map_take, List.map_take, List.map_drop, List.map_drop]
  by_cases q : i ≤ b.length
  · rw [Nat.min_eq_left q]
  · have e1 : k - min i b.length = 0 := by omega
    have e2 : k - i = 0 := by omega
    rw [e1, e2, List.take_zero, List.take_zero]
theorem ok_right (F : Fun K "has_right_check" "has_right_check" (top 21) f fd) (T : Txt K mg C M) (G1 : GFn P w K mg base "number_at" ["numbers", "at"] 1 (spNum K)) (G2 : GFn P w K mg base "check_of" ["numbers"] 1 (spCheck K)) : FnOk P w K mg base CX0 2 f fd ["numbers"] (spRight K) := by
  refine F.ok scRight (fun vs H Q E h => ?_) (fun cdv A outer s H vs Q E hr h => ?_)
  · obtain ⟨a, b, rfl, _⟩ := h
    rfl
  · obtain ⟨a, b, rfl, hS, h8, h4, k⟩ := h
    refine ⟨_, pss_cons (ps_set (i := 1) scRight.nd rfl (Or.inl rfl) (pe_op op_sub (pe_len rfl T.len (pa_cons (pv 0) pa_nil)) (pe_cst T.chkLen rfl)))
      (pss_one (ps_ret (pe_cmpR op_eq (pe_g G1 hr rfl (pa_cons (pv 0) (pa_cons (pv 1) pa_nil))) (pe_g G2 hr rfl (pa_cons (pe_slice sl_list (pv 0) po_none (po_some (pv 1))) pa_nil)) (nomark _)))), ?_⟩
    have e : ((vn b).length : Int) - 4 = ((b.length - 4 : Nat) : Int) := by
      rw [vn_len]
      omega
    refine ⟨_, rfl, a, _, rfl, .inl hS, _, _, rfl, rfl, ?_⟩
    refine ⟨_, rfl, _, rfl, a, b, b.length - 4, congrArg (fun z => [V.ref a, V.int z]) e, hS, h8, (by omega), ?_⟩
    refine ⟨_, rfl, _, rfl, _, congrArg V.int e, a, _, rfl, hS, fun p hp => ?_⟩
    rw [cut_to (by omega)]
    refine ⟨p, _, rfl, SqL.of upd_same, rfl, ?_⟩
    have e2 : decide (V.int (Kgo3.part b (b.length - 4) 4 : Nat) = V.int (Kgo3.crc (b.take (b.length - 4)) : Nat)) = chkOk b := by
      unfold chkOk
      by_cases q : Kgo3.part b (b.length - 4) 4 = Kgo3.crc (b.take (b.length - 4))
      · rw [q]
        simp
      · have : ¬ (V.int (Kgo3.part b (b.length - 4) 4 : Nat) = V.int (Kgo3.crc (b.take (b.length - 4)) : Nat)) := fun z => by
          injection z with z
          exact q (Int.ofNat.inj z)
        rw [decide_eq_false this, decide_eq_false q]
    rw [e2]
    exact k _ (same_new hp)
/-! ### Message -/
theorem fldM {vs : List V} {i : Nat} {nm : Str} {v : V} (h : msN[i]? = some nm) (hv : vs[i]? = some v) : (msF vs).lookup nm = some v := (lookup_zip msN_nd h).trans hv
theorem fldE {vs : List V} {i : Nat} {nm : Str} {v : V} (h : leN[i]? = some nm) (hv : vs[i]? = some v) : (leF vs).lookup nm = some v := (lookup_zip leN_nd h).trans hv
theorem putM (v : V) {vs ws : List V} {i : Nat} {nm : Str} (h : msN[i]? = some nm) (hi : i ≤ vs.length) (e : vs.take i ++ v :: vs.drop (i + 1) = ws) : putF nm v (msF vs) = msF ws := by
  unfold msF
  rw [putF_zip v msN_nd h hi, e]
theorem putE (v : V) {vs ws : List V} {i : Nat} {nm : Str} (h : leN[i]? = some nm) (hi : i ≤ vs.length) (e : vs.take i ++ v :: vs.drop (i + 1) = ws) : putF nm v (leF vs) = leF ws := by
  unfold leF
  rw [putF_zip v leN_nd h hi, e]
/-- writing one -/
theorem wrE (i : Nat) {nm : Str} {H : Hp} {p dx : Addr} {vs ws : List V} {v : V} {N : Hp → Prop} (T : Txt K mg C M) (h : leN[i]? = some nm) (hp : H p = some (.ins C dx (leF vs))) (hi : i ≤ vs.length) (e : vs.take i ++ v :: vs.drop (i + 1) = ws) (q : N (upd H p (.ins C dx (leF ws)))) :
    ∃ a C dx fs, V.ref p = .ref a ∧ H a = some (.ins C dx fs) ∧ Cls K C ∧ NoAttr K C nm ∧ fs.length < 1000 ∧ N (upd H a (.ins C dx (putF nm v fs))) :=
  ⟨p, C, dx, _, rfl, hp, T.clE, T.naE i nm h, leF_len _, by rw [putE v h hi e]; exact q⟩
theorem wrM (i : Nat) {nm : Str} {H : Hp} {p dx : Addr} {vs ws : List V} {v : V} {N : Hp → Prop} (T : Txt K mg C M) (h : msN[i]? = some nm) (hp : H p = some (.ins M dx (msF vs))) (hi : i ≤ vs.length) (e : vs.take i ++ v :: vs.drop (i + 1) = ws) (q : N (upd H p (.ins M dx (msF ws)))) :
    ∃ a C dx fs, V.ref p = .ref a ∧ H a = some (.ins C dx fs) ∧ Cls K C ∧ NoAttr K C nm ∧ fs.length < 1000 ∧ N (upd H a (.ins C dx (putF nm v fs))) :=
  ⟨p, M, dx, _, rfl, hp, T.clM, T.naM i nm h, msF_len _, by rw [putM v h hi e]; exact q⟩
def spMsg (M : Addr) : Sp := fun vs H Q _ => ∃ (p dx : Addr) (x1 x2 x3 x4 : V), vs = [.ref p, x1, x2, x3, x4] ∧ H p = some (.ins M dx []) ∧
  ∀ (H' : Hp) (l : Addr), H' p = some (.ins M dx (msF [x1, x2, x3, x4, .int 0, .ref l])) → H' l = some (.lst []) → H l = Option.none → (∀ b o, H b = some o → b ≠ p → H' b = some o) → Q .non H'
theorem scMsg : FnScope ["self", "kind", "own", "known", "got"] ["self", "kind", "own", "known", "got"] (defScope (inClass (top 11) 0)) := ⟨rfl, rfl, rfl, by decide +kernel, rfl, by decide +kernel, by decide +kernel⟩
theorem upd_twice {H : Hp} {p : Addr} {o u : HO} : upd (upd H p o) p u = upd H p u := by
  funext b
  unfold upd
  by_cases h : b = p
  · rw [if_pos h, if_pos h]
  · rw [if_neg h, if_neg h, if_neg h]
theorem ok_msg (F : Fun K "__init__" "Message.__init__" (inClass (top 11) 0) f fd) (T : Txt K mg C M) : FnOk P w K mg base CX0 1 f fd ["self", "kind", "own", "known", "got"] (spMsg M) := by
  refine F.ok scMsg (fun vs H Q E h => ?_) (fun cdv A outer s H vs Q E hr h => ?_)
  · obtain ⟨p, dx, x1, x2, x3, x4, rfl, _⟩ := h
    rfl
  · obtain ⟨p, dx, x1, x2, x3, x4, rfl, hp, k⟩ := h
    refine ⟨_, pss_cons (ps_fld (pv 0) (pv 1) rfl) (pss_cons (ps_fld (pv 0) (pv 2) rfl) (pss_cons (ps_fld (pv 0) (pv 3) rfl) (pss_cons (ps_fld (pv 0) (pv 4) rfl) (pss_cons (ps_fld (pv 0) pe_int rfl) (pss_one (ps_fld (pv 0) (pe_lst pa_nil) rfl)))))), ?_⟩
    refine ⟨_, rfl, _, rfl, wrM (vs := []) 0 T rfl hp (Nat.le_refl _) rfl ?_⟩
    refine ⟨_, rfl, _, rfl, wrM 1 T rfl upd_same (by show 1 ≤ 1; decide) rfl ?_⟩
    rw [upd_twice]
    refine ⟨_, rfl, _, rfl, wrM 2 T rfl upd_same (by show 2 ≤ 2; decide) rfl ?_⟩
    rw [upd_twice]
    refine ⟨_, rfl, _, rfl, wrM 3 T rfl upd_same (by show 3 ≤ 3; decide) rfl ?_⟩
    rw [upd_twice]
    refine ⟨_, rfl, wrM 4 T rfl upd_same (by show 4 ≤ 4; decide) rfl ?_⟩
    rw [upd_twice]
    refine ⟨(by show 0 ≤ sizeLine; decide), fun l hl => ⟨_, rfl, ?_⟩⟩
    have nlp : l ≠ p := fun e => by
      rw [e, upd_same] at hl
      cases hl
    refine wrM 5 T rfl ((upd_ne (fun e => nlp e.symm)).trans upd_same) (by show 5 ≤ 5; decide) rfl ?_
    refine k _ l upd_same ((upd_ne nlp).trans upd_same) ((upd_ne nlp).symm.trans hl) fun b o e hb => ?_
    have hbl : b ≠ l := fun q => by
      rw [← q, upd_ne hb] at hl
      rw [hl] at e
      cases e
    rw [upd_ne hb, upd_ne hbl, upd_ne hb]
    exact e
/-! ### told_sent, told_got -/
def spTold (ask : List Nat → Kgo3.Ask) : Sp := fun vs H Q _ => ∃ (a : Addr) (b : List Nat), vs = [.ref a] ∧ H a = some (.lst (vn b)) ∧ b.length ≤ 1000 ∧ NewL H (vz (Kgo3Neutral.told (ask b))) Q
theorem scSent : FnScope ["message"] ["message"] (defScope (top 38)) := ⟨rfl, rfl, rfl, by decide +kernel, rfl, by decide +kernel, by decide +kernel⟩
theorem ok_sent (F : Fun K "told_sent" "told_sent" (top 38) f fd) (T : Txt K mg C M) : FnOk P w K mg base CX0 1 f fd ["message"] (spTold .net) := by
  refine F.ok scSent (fun vs H Q E h => ?_) (fun cdv A outer s H vs Q E hr h => ?_)
  · obtain ⟨a, b, rfl, _⟩ := h
    rfl
  · obtain ⟨a, b, rfl, hA, hb, k⟩ := h
    refine ⟨_, pss_one (ps_ret (pe_op op_cat (pe_lst (pa_cons (pe_cst T.tSent rfl) (pa_cons (pe_len rfl T.len (pa_cons (pv 0) pa_nil)) pa_nil))) (pv 0))), ?_⟩
    refine ⟨_, rfl, a, _, rfl, .inl (SqL.of hA), (by show 2 ≤ sizeLine; decide), fun l hl => ⟨_, rfl, l, a, _, _, rfl, rfl, upd_same, same_new hl _ _ hA, ?_, fun p hp => ?_⟩⟩
    · rw [vn_len]
      exact small (by show 2 + b.length ≤ 100000; omega)
    · rw [vn_len] at hp ⊢
      exact k.lay (same_new hl) hp
theorem scGot : FnScope ["piece"] ["piece"] (defScope (top 39)) := ⟨rfl, rfl, rfl, by decide +kernel, rfl, by decide +kernel, by decide +kernel⟩
theorem ok_got (F : Fun K "told_got" "told_got" (top 39) f fd) (T : Txt K mg C M) : FnOk P w K mg base CX0 1 f fd ["piece"] (spTold .got) := by
  refine F.ok scGot (fun vs H Q E h => ?_) (fun cdv A outer s H vs Q E hr h => ?_)
  · obtain ⟨a, b, rfl, _⟩ := h
    rfl
  · obtain ⟨a, b, rfl, hA, hb, k⟩ := h
    refine ⟨_, pss_one (ps_ret (pe_op op_cat (pe_lst (pa_cons (pe_cst T.tGot rfl) (pa_cons (pe_len rfl T.len (pa_cons (pv 0) pa_nil)) pa_nil))) (pv 0))), ?_⟩
    refine ⟨_, rfl, a, _, rfl, .inl (SqL.of hA), (by show 2 ≤ sizeLine; decide), fun l hl => ⟨_, rfl, l, a, _, _, rfl, rfl, upd_same, same_new hl _ _ hA, ?_, fun p hp => ?_⟩⟩
    · rw [vn_len]
      exact small (by show 2 + b.length ≤ 100000; omega)
    · rw [vn_len] at hp ⊢
      exact k.lay (same_new hl) hp
/-! ### read_message -/
def numOf (x : Kgo3.Msg) : Nat := match x.piece with
  | none => 0
  | some p => p.1
def bytesOf (x : Kgo3.Msg) : List Nat := match x.piece with
  | none => []
  | some p => p.2
def kindOf (x : Kgo3.Msg) : Nat := if x.piece.isSome then 2 else 1
/-- a right message, read, stands at p; ao, ak: its pairs, pl: its bytes -/
structure MsgIn (K : PySem.W.Frag) (M : Addr) (H : Hp) (p : Addr) (x : Kgo3.Msg) (dx ao ak pl : Addr) : Prop where
  obj : H p = some (.ins M dx (msF [.int (kindOf x : Nat), .ref ao, .ref ak, .int (x.got : Nat), .int (numOf x : Nat), .ref pl]))
  own : SqT K H ao [.int (x.mine.1 : Nat), .int (x.mine.2 : Nat)]
  known : SqT K H ak [.int (x.yours.1 : Nat), .int (x.yours.2 : Nat)]
  lst : H pl = some (.lst (vn (bytesOf x)))
def MsgAt (K : PySem.W.Frag) (M : Addr) (H : Hp) (p : Addr) (x : Kgo3.Msg) : Prop := ∃ dx ao ak pl, MsgIn K M H p x dx ao ak pl
def spRead (K : PySem.W.Frag) (M : Addr) : Sp := fun vs H Q _ => ∃ (a : Addr) (b : List Nat) (s r : Nat), vs = [.ref a, .int (s : Int), .int (r : Int)] ∧ SqL K H a (vn b) ∧ Bytes8 b ∧
  (readFor b s r = none → ∀ H', Same H H' → Q .non H') ∧ ∀ x, readFor b s r = some x → ∀ H' p, Same H H' → H p = Option.none → MsgAt K M H' p x → Q (.ref p) H'
theorem scRead : FnScope ["numbers", "sender", "receiver", "own", "message"] ["numbers", "sender", "receiver"] (defScope (top 22)) := ⟨rfl, rfl, rfl, by decide +kernel, rfl, by decide +kernel, by decide +kernel⟩
theorem decI {i j : Nat} : decide (V.int (i : Int) = V.int (j : Int)) = decide (i = j) := by
  by_cases h : i = j
  · rw [h]
    simp
  · rw [decide_eq_false h, decide_eq_false]
    intro z
    injection z with z
    exact h (Int.ofNat.inj z)
theorem neI {i j : Nat} (h : (!decide (V.int (i : Int) = V.int (j : Int))) = true) : i ≠ j := fun e => by
  rw [e] at h
  simp at h
theorem eqI {i j : Nat} (h : ¬ (!decide (V.int (i : Int) = V.int (j : Int))) = true) : i = j := by
  rw [decI] at h
  by_cases e : i = j
  · exact e
  · exact absurd (by rw [decide_eq_false e]; rfl) h
theorem eqT {i j : Nat} (h : decide (V.int (i : Int) = V.int (j : Int)) = true) : i = j := by
  rw [decI] at h
  exact of_decide_eq_true h
theorem neT {i j : Nat} (h : ¬ decide (V.int (i : Int) = V.int (j : Int)) = true) : ¬ i = j := fun e => h (by rw [e]; simp)
theorem lenOk_28 {b : List Nat} (h : lenOk b = true) : 28 ≤ b.length := by
  unfold lenOk at h
  rw [Bool.and_eq_true] at h
  have := h.1
  simp at this
  exact this
theorem ok_read (F : Fun K "read_message" "read_message" (top 22) f fd) (T : Txt K mg C M) (G1 : GFn P w K mg base "has_length_of_kind" ["numbers"] 2 (spKind K)) (G2 : GFn P w K mg base "pair_at" ["numbers", "at"] 2 (spPair K))
    (G3 : GFn P w K mg base "has_right_check" ["numbers"] 2 (spRight K)) (G4 : GFn P w K mg base "number_at" ["numbers", "at"] 1 (spNum K)) (G5 : CFn P w K mg base M ["self", "kind", "own", "known", "got"] 1 (spMsg M)) :
    FnOk P w K mg base CX0 3 f fd ["numbers", "sender", "receiver"] (spRead K M) := by
  refine F.ok scRead (fun vs H Q E h => ?_) (fun cdv A outer s H vs Q E hr h => ?_)
  · obtain ⟨a, b, s, r, rfl, _⟩ := h
    rfl
  · obtain ⟨a, b, sd, rc, rfl, hS, h8, k0, k1⟩ := h
    have hr1 : Room 1 _ := hr.mono (by decide)
    refine ⟨_, pss_cons (ps_if (pt_not (pt_val (pe_g G1 hr rfl (pa_cons (pv 0) pa_nil)))) (pss_one (ps_ret pe_non)) pss_nil)
      (pss_cons (ps_if (pw_or (pt_cmpR op_ne (pe_ix ix_list (pv 0) pe_int (fun _ _ => rfl)) (pv 1) (nomark _)) (pw_or (pt_cmpR op_ne (pe_ix ix_list (pv 0) pe_int (fun _ _ => rfl)) (pv 2) (nomark _)) (pw_or1 (pt_cmpR op_ne (pe_ix ix_list (pv 0) pe_int (fun _ _ => rfl)) pe_int (nomark _))))).pt (pss_one (ps_ret pe_non)) pss_nil)
      (pss_cons (ps_set (i := 3) scRead.nd rfl (Or.inl rfl) (pe_g G2 hr rfl (pa_cons (pv 0) (pa_cons pe_int pa_nil))))
      (pss_cons (ps_if (pw_or (pt_cmpR op_eq (pe_ix ix_tup (pv 3) pe_int (fun _ _ => rfl)) pe_int (nomark _)) (pw_or1 (pt_cmpR op_eq (pe_ix ix_tup (pv 3) pe_int (fun _ _ => rfl)) pe_int (nomark _)))).pt (pss_one (ps_ret pe_non)) pss_nil)
      (pss_cons (ps_if (pt_not (pt_val (pe_g G3 hr rfl (pa_cons (pv 0) pa_nil)))) (pss_one (ps_ret pe_non)) pss_nil)
      (pss_cons (ps_set (i := 4) scRead.nd rfl (Or.inl rfl) (pe_mk G5 hr rfl T.mgM (pa_cons (pe_ix ix_list (pv 0) pe_int (fun _ _ => rfl)) (pa_cons (pv 3) (pa_cons (pe_g G2 hr rfl (pa_cons (pv 0) (pa_cons pe_int pa_nil))) (pa_cons (pe_g G4 hr1 rfl (pa_cons (pv 0) (pa_cons pe_int pa_nil))) pa_nil))))))
      (pss_cons (ps_if (pt_cmpR op_eq (pe_fld (pv 4) rfl) (pe_cst T.piece rfl) (nomark _))
        (pss_cons (ps_fld (pv 4) (pe_g G4 hr1 rfl (pa_cons (pv 0) (pa_cons (pe_cst T.headLen rfl) pa_nil))) rfl)
        (pss_one (ps_fld (pv 4) (pe_slice sl_list (pv 0) (po_some (pe_op op_add (pe_cst T.headLen rfl) (pe_cst T.numLen rfl))) (po_some (pe_op op_sub (pe_len rfl T.len (pa_cons (pv 0) pa_nil)) (pe_cst T.chkLen rfl)))) rfl))) pss_nil)
      (pss_one (ps_ret (pv 4))))))))), ?_⟩
    rw [readFor_eq] at k0 k1
    refine ⟨_, rfl, a, b, rfl, hS, _, rfl, ?_⟩
    refine ite2 (fun h => ?_) (fun h => ?_)
    · have e : lenOk b = false := by simpa using h
      rw [if_pos e] at k0
      exact k0 rfl H (Same.refl H)
    have hl : lenOk b = true := by simpa using h
    rw [if_neg (by rw [hl]; decide)] at k0 k1
    have h28 := lenOk_28 hl
    have hx : ∀ i, i < 28 → atI (vn b) (i : Nat) = some (V.int (b.getD i 0 : Nat)) := fun i hi => at_of rfl (vn_at (by omega))
    -- from, for, 0
    have no1 : (b.getD 1 0 ≠ sd ∨ b.getD 2 0 ≠ rc ∨ b.getD 3 0 ≠ 0) → Q .non H := fun z => by
      rw [if_pos z] at k0
      exact k0 rfl H (Same.refl H)
    refine ⟨_, rfl, a, _, _, _, rfl, rfl, hS, hx 1 (by decide), _, rfl, rfl, _, rfl, ?_⟩
    refine ite2 (fun h => iteT (no1 (.inl (neI h)))) (fun h1 => ?_)
    refine ⟨_, rfl, a, _, _, _, rfl, rfl, hS, hx 2 (by decide), _, rfl, rfl, _, rfl, ?_⟩
    refine ite2 (fun h => iteT (no1 (.inr (.inl (neI h))))) (fun h2 => ?_)
    refine ⟨_, rfl, a, _, _, _, rfl, rfl, hS, hx 3 (by decide), rfl, _, rfl, ?_⟩
    refine ite2 (fun h => no1 (.inr (.inr (neI (j := 0) h)))) (fun h3 => ?_)
    have ok1 : ¬ (b.getD 1 0 ≠ sd ∨ b.getD 2 0 ≠ rc ∨ b.getD 3 0 ≠ 0) := fun z => by
      rcases z with z | z | z
      · exact z (eqI h1)
      · exact z (eqI h2)
      · exact z (eqI (j := 0) h3)
    rw [if_neg ok1] at k0 k1
    -- own = pair_at(numbers, 4)
    refine ⟨_, rfl, a, b, 4, rfl, hS, h8, (by omega), fun H1 ao s1 n1 ho => ?_⟩
    have no2 : (Kgo3.part b 4 4 = 0 ∨ Kgo3.part b 8 4 = 0) → Q .non H1 := fun z => by
      rw [if_pos z] at k0
      exact k0 rfl H1 s1
    refine ⟨_, rfl, ao, _, _, _, rfl, rfl, SqT.of ho, at_of (j := 0) rfl rfl, rfl, _, rfl, ?_⟩
    refine ite2 (fun h => iteT (no2 (.inl (eqT (j := 0) h)))) (fun h4 => ?_)
    refine ⟨_, rfl, ao, _, _, _, rfl, rfl, SqT.of ho, at_of (j := 1) rfl rfl, rfl, _, rfl, ?_⟩
    refine ite2 (fun h => no2 (.inr (eqT (j := 0) h))) (fun h5 => ?_)
    have ok2 : ¬ (Kgo3.part b 4 4 = 0 ∨ Kgo3.part b 8 4 = 0) := fun z => by
      rcases z with z | z
      · exact neT (j := 0) h4 z
      · exact neT (j := 0) h5 z
    rw [if_neg ok2] at k0 k1
    -- if not has_right_check(numbers)
    refine ⟨_, rfl, a, b, rfl, s1.seq hS, h8, (by omega), fun H2 s2 => ⟨_, rfl, ?_⟩⟩
    have s12 := s1.trans s2
    refine ite2 (fun h => ?_) (fun h => ?_)
    · have z : Kgo3.part b (b.length - 4) 4 ≠ Kgo3.crc (b.take (b.length - 4)) := by
        have h' : chkOk b = false := by simpa using h
        exact of_decide_eq_false h'
      rw [if_pos z] at k0
      exact k0 rfl H2 s12
    have ok3 : ¬ (Kgo3.part b (b.length - 4) 4 ≠ Kgo3.crc (b.take (b.length - 4))) := by
      have h' : chkOk b = true := by simpa using h
      exact fun z => z (of_decide_eq_true h')
    rw [if_neg ok3] at k1
    have k2 := k1 (msgOf b) rfl
    -- message = Message(numbers[0], own, pair_at(numbers, 12), number_at(numbers, 20))
    refine ⟨_, rfl, a, _, _, _, rfl, rfl, s12.seq hS, hx 0 (by decide), _, rfl, _, rfl, a, b, 12, rfl, s12.seq hS, h8, (by omega), fun H3 ak s3 n3 hk => ?_⟩
    have s13 := s12.trans s3
    refine ⟨_, rfl, a, b, 20, rfl, s13.seq hS, h8, (by omega), fun q dq nq ndq neq => ?_⟩
    refine ⟨q, dq, _, _, _, _, rfl, upd_same, fun H4 pl hq4 hpl4 npl4 kq4 => ⟨rfl, ?_⟩⟩
    have s4 : Same H3 H4 := Same.made nq ndq kq4
    have s14 := s13.trans s4
    have nqo : H q = Option.none := s13.free nq
    have hlq : pl ≠ q := fun e => by
      rw [e, hq4] at hpl4
      cases hpl4
    have own4 : SqT K H4 ao [.int (Kgo3.part b 4 4 : Nat), .int (Kgo3.part b 8 4 : Nat)] := SqT.of (s4 _ _ (s3 _ _ (s2 _ _ ho)))
    have known4 : SqT K H4 ak [.int (Kgo3.part b 12 4 : Nat), .int (Kgo3.part b 16 4 : Nat)] := SqT.of (s4 _ _ hk)
    -- if message.kind == PIECE
    refine ⟨_, rfl, _, _, _, _, _, rfl, hq4, T.clM, T.naM 0 _ rfl, fldM (i := 0) rfl rfl, ⟨rfl, _, rfl, ?_⟩⟩
    refine ite2 (fun h => ?_) (fun h => ?_)
    · have h2 : b.getD 0 0 = 2 := eqT (j := 2) h
      have l33 : 33 ≤ b.length := by
        unfold lenOk at hl
        rw [h2] at hl
        simp at hl
        exact hl.2.1
      have em : (msgOf b).piece = some (Kgo3.part b 24 4, (b.drop 28).take (b.length - 32)) := by
        unfold msgOf
        dsimp only
        rw [if_pos h2]
      refine ⟨_, rfl, a, b, 24, rfl, s14.seq hS, h8, (by omega), _, rfl, ?_⟩
      refine wrM 4 T rfl hq4 (by show 4 ≤ 6; decide) rfl ?_
      have s5 : Same H (upd H4 q (.ins M dq (msF [.int (b.getD 0 0 : Nat), .ref ao, .ref ak, .int (Kgo3.part b 20 4 : Nat), .int (Kgo3.part b 24 4 : Nat), .ref pl]))) := fun c o e => by
        rw [upd_ne (ne_of_none e nqo)]
        exact s14 c o e
      refine ⟨_, rfl, _, _, rfl, rfl, _, rfl, _, rfl, a, _, rfl, .inl (s5.seq hS), _, _, rfl, rfl, _, rfl, a, _, rfl, s5.seq hS, fun pl2 hpl2 => ⟨_, rfl, ?_⟩⟩
      have e28 : (some ((24 : Int) + 4) : Option Int) = some ((28 : Nat) : Int) := rfl
      have elen : (some (((vn b).length : Int) - 4) : Option Int) = some ((b.length - 4 : Nat) : Int) := by
        rw [vn_len]
        congr 1
        omega
      have npl2 : pl2 ≠ q := fun e => by
        rw [e, upd_same] at hpl2
        cases hpl2
      refine wrM 5 T rfl ((upd_ne npl2.symm).trans upd_same) (by show 5 ≤ 6; decide) rfl ?_
      have kp7 := (((KeptP.refl H4 q).upd (o := .ins M dq (msF [.int (b.getD 0 0 : Nat), .ref ao, .ref ak, .int (Kgo3.part b 20 4 : Nat), .int (Kgo3.part b 24 4 : Nat), .ref pl]))).same (same_new (o := .lst (cutV (vn b) (some (24 + 4)) (some (((vn b).length : Int) - 4)))) hpl2)).upd (o := .ins M dq (msF [.int (b.getD 0 0 : Nat), .ref ao, .ref ak, .int (Kgo3.part b 20 4 : Nat), .int (Kgo3.part b 24 4 : Nat), .ref pl2]))
      refine ⟨_, rfl, k2 _ q (fun c o e => ?_) nqo ⟨dq, ao, ak, pl2, ?_, ?_, ?_, ?_⟩⟩
      · rw [upd_ne (ne_of_none e nqo), upd_ne (ne_of_none (s5 c o e) hpl2)]
        exact s5 c o e
      · rw [upd_same]
        unfold kindOf numOf
        rw [em, h2]
        rfl
      · exact kp7.sqT hq4 own4
      · exact kp7.sqT hq4 known4
      · rw [upd_ne npl2, upd_same, e28, elen, cut_mid (by omega)]
        have ez : b.length - 4 - 28 = b.length - 32 := by omega
        rw [ez]
        unfold bytesOf
        rw [em]
    · have h2 : ¬ b.getD 0 0 = 2 := neT (j := 2) h
      have h1 : b.getD 0 0 = 1 := by
        unfold lenOk at hl
        rw [decide_eq_false h2] at hl
        simp at hl
        have := hl.2.1
        simpa using this
      have em : (msgOf b).piece = none := by
        unfold msgOf
        dsimp only
        rw [if_neg h2]
      refine ⟨_, rfl, k2 H4 q s14 nqo ⟨dq, ao, ak, pl, ?_, own4, known4, ?_⟩⟩
      · rw [hq4]
        unfold kindOf numOf
        rw [em, h1]
        rfl
      · rw [hpl4]
        unfold bytesOf
        rw [em]
        rfl
end
end Nl

set_option Elab.async false
set_option linter.all false
set_option maxRecDepth 100000
set_option maxHeartbeats 4000000
namespace Nl
open PySem PySem.Spec PyProof.Rows L2
/-! ### an end, as it stands in the heap -/
def lvs (a : Kgo3.Abs) (kn wl : Addr) : List V := [.int (a.me : Nat), .int (a.other : Nat), .int (a.life : Nat), .int (a.session : Nat), .ref kn, .bl a.up, .int (a.sent : Nat), .ref wl, .int (a.got : Nat), .int (a.quiet : Nat)]
def Pieces (H : Hp) (ps : List Addr) (ws : List (List Nat)) : Prop := ps.length = ws.length ∧ ∀ (i : Nat) (q : Addr) (b : List Nat), ps[i]? = some q → ws[i]? = some b → H q = some (.lst (vn b))
/-- kn: the pair that is known; wl, ps: the list of pieces that wait, and these -/
structure EndIn (Z : Addr → Prop) (K : PySem.W.Frag) (C : Addr) (H : Hp) (p : Addr) (a : Kgo3.Abs) (wl dx kn : Addr) (ps : List Addr) : Prop where
  obj : H p = some (.ins C dx (leF (lvs a kn wl)))
  known : SqT K H kn [.int (a.known.1 : Nat), .int (a.known.2 : Nat)]
  lst : H wl = some (.lst (ps.map V.ref))
  each : Pieces H ps a.waiting
  av : ∀ q ∈ ps, ¬ Z q
def EndAt (Z : Addr → Prop) (K : PySem.W.Frag) (C : Addr) (H : Hp) (p : Addr) (a : Kgo3.Abs) (wl : Addr) : Prop := ∃ dx kn ps, EndIn Z K C H p a wl dx kn ps
theorem Pieces.mono {H H' : Hp} {ps : List Addr} {ws : List (List Nat)} (h : Pieces H ps ws) (k : ∀ q b, q ∈ ps → b ∈ ws → H q = some (.lst (vn b)) → H' q = some (.lst (vn b))) : Pieces H' ps ws :=
  ⟨h.1, fun i q b hq hb => k q b (List.mem_of_getElem? hq) (List.mem_of_getElem? hb) (h.2 i q b hq hb)⟩
theorem Pieces.nil (H : Hp) : Pieces H [] [] := ⟨rfl, fun i q b h => by simp at h⟩
theorem Pieces.snoc {H : Hp} {ps : List Addr} {ws : List (List Nat)} {q : Addr} {b : List Nat} (h : Pieces H ps ws) (hq : H q = some (.lst (vn b))) : Pieces H (ps ++ [q]) (ws ++ [b]) := by
  refine ⟨by rw [List.length_append, List.length_append, h.1]; rfl, fun i q' b' e1 e2 => ?_⟩
  by_cases hi : i < ps.length
  · rw [List.getElem?_append_left hi] at e1
    rw [List.getElem?_append_left (by rw [← h.1]; exact hi)] at e2
    exact h.2 i q' b' e1 e2
  · rw [List.getElem?_append_right (by omega)] at e1
    rw [List.getElem?_append_right (by rw [← h.1]; omega), ← h.1] at e2
    cases hj : i - ps.length with
    | zero =>
      rw [hj] at e1 e2
      simp at e1 e2
      rw [← e1, ← e2]
      exact hq
    | succ j =>
      rw [hj] at e1
      simp at e1
theorem Pieces.drop {H : Hp} {ps : List Addr} {ws : List (List Nat)} (n : Nat) (h : Pieces H ps ws) : Pieces H (ps.drop n) (ws.drop n) := by
  refine ⟨by rw [List.length_drop, List.length_drop, h.1], fun i q b e1 e2 => ?_⟩
  rw [List.getElem?_drop] at e1 e2
  exact h.2 _ q b e1 e2
/-- a list of objects is no list of bytes -/
theorem refs_ne {as : List Addr} {b : List Nat} (h : b ≠ []) : as.map V.ref ≠ vn b := by
  intro e
  cases b with
  | nil => exact h rfl
  | cons n b =>
    cases as with
    | nil => cases e
    | cons x as =>
      injection e with e1 _
      cases e1
theorem refs_inj : ∀ {as bs : List Addr}, as.map V.ref = bs.map V.ref → as = bs
  | [], [], _ => rfl
  | [], _ :: _, h => by cases h
  | _ :: _, [], h => by cases h
  | a :: as, b :: bs, h => by
    injection h with h1 h2
    injection h1 with h1
    rw [h1, refs_inj h2]
section
variable {Z : Addr → Prop} {K : PySem.W.Frag} {C M : Addr} {H H' : Hp} {p wl wl' dx kn t : Addr} {a : Kgo3.Abs} {ps : List Addr}
theorem EndIn.piece_ne (E : EndIn Z K C H p a wl dx kn ps) (g : ∀ b ∈ a.waiting, b ≠ []) {as : List Addr} (ht : H t = some (.lst (as.map V.ref))) : ∀ q b, q ∈ ps → b ∈ a.waiting → H q = some (.lst (vn b)) → q ≠ t := fun q b _ hb hq e => by
  rw [e, ht] at hq
  injection hq with hq
  injection hq with hq
  exact refs_ne (g b hb) hq
theorem EndIn.same (E : EndIn Z K C H p a wl dx kn ps) (s : Same H H') : EndIn Z K C H' p a wl dx kn ps :=
  ⟨s _ _ E.obj, Same.sqT s E.known, s _ _ E.lst, E.each.mono fun q b _ _ h => s _ _ h, E.av⟩
theorem EndAt.same (E : EndAt Z K C H p a wl) (s : Same H H') : EndAt Z K C H' p a wl := by
  obtain ⟨dx, kn, ps, E⟩ := E
  exact ⟨dx, kn, ps, E.same s⟩
theorem EndAt.lst_at (E : EndAt Z K C H p a wl) : ∃ ps : List Addr, H wl = some (.lst (ps.map V.ref)) := by
  obtain ⟨dx, kn, ps, E⟩ := E
  exact ⟨ps, E.lst⟩
theorem EndAt.obj_at (E : EndAt Z K C H p a wl) : ∃ dx fs, H p = some (.ins C dx fs) := by
  obtain ⟨dx, kn, ps, E⟩ := E
  exact ⟨dx, _, E.obj⟩
/-- the object itself is written, its list and its pair as they are -/
theorem EndIn.put (E : EndIn Z K C H p a wl dx kn ps) {a' : Kgo3.Abs} (hw : a'.waiting = a.waiting) (hk : a'.known = a.known) : EndIn Z K C (upd H p (.ins C dx (leF (lvs a' kn wl)))) p a' wl dx kn ps := by
  have k : KeptP H (upd H p (.ins C dx (leF (lvs a' kn wl)))) p := (KeptP.refl H p).upd
  exact ⟨upd_same, by rw [hk]; exact k.sqT E.obj E.known, k.lst E.obj E.lst, by rw [hw]; exact E.each.mono fun q b _ _ h => k.lst E.obj h, E.av⟩
/-- another list of objects is written -/
theorem EndIn.other (E : EndIn Z K C H p a wl dx kn ps) (g : ∀ b ∈ a.waiting, b ≠ []) {as : List Addr} {ys : List V} (ht : H t = some (.lst (as.map V.ref))) (hne : t ≠ wl) : EndIn Z K C (upd H t (.lst ys)) p a wl dx kn ps := by
  refine ⟨?_, sqT_upd E.known ht, ?_, E.each.mono fun q b hq hb h => ?_, E.av⟩
  · rw [upd_ne (ne_of E.obj ht (by intro z; cases z))]
    exact E.obj
  · rw [upd_ne (fun e => hne e.symm)]
    exact E.lst
  · rw [upd_ne (E.piece_ne g ht q b hq hb h)]
    exact h
theorem EndAt.other (E : EndAt Z K C H p a wl) (g : Good a) {as : List Addr} {ys : List V} (ht : H t = some (.lst (as.map V.ref))) (hne : t ≠ wl) : EndAt Z K C (upd H t (.lst ys)) p a wl := by
  obtain ⟨dx, kn, ps, E⟩ := E
  exact ⟨dx, kn, ps, E.other (fun b hb => (g.each b hb).1) ht hne⟩
/-- one piece more waits -/
theorem EndIn.snoc (E : EndIn Z K C H p a wl dx kn ps) (g : ∀ b ∈ a.waiting, b ≠ []) {q : Addr} {b : List Nat} (hq : H q = some (.lst (vn b))) (hb : b ≠ []) (hz : ¬ Z q) :
    EndIn Z K C (upd H wl (.lst (ps.map V.ref ++ [.ref q]))) p { a with waiting := a.waiting ++ [b] } wl dx kn (ps ++ [q]) := by
  have nq : q ≠ wl := fun e => by
    rw [e, E.lst] at hq
    injection hq with hq
    injection hq with hq
    exact refs_ne hb hq
  refine ⟨?_, sqT_upd E.known E.lst, by rw [upd_same, List.map_append]; rfl, Pieces.snoc (E.each.mono fun q b hq hb h => ?_) ((upd_ne nq).trans hq), fun c hc => ?_⟩
  · rw [upd_ne (ne_of E.obj E.lst (by intro z; cases z))]
    exact E.obj
  · rw [upd_ne (E.piece_ne g E.lst q b hq hb h)]
    exact h
  · rcases List.mem_append.mp hc with hc | hc
    · exact E.av c hc
    · have e : c = q := by simpa using hc
      rw [e]
      exact hz
theorem got_up (g : Good a) : (if a.up = true then a.got else 0) = a.got := by
  cases h : a.up with
  | true => rfl
  | false => rw [(g.down h).1]; rfl
end
/-- what is told: the list of these stands at t -/
def ToldAt (H : Hp) (t : Addr) (q : List Kgo3.Ask) : Prop := ∃ as : List Addr, H t = some (.lst (as.map V.ref)) ∧ as.length = q.length ∧ ∀ (i : Nat) (b : Addr) (k : Kgo3.Ask), as[i]? = some b → q[i]? = some k → H b = some (.lst (vz (Kgo3Neutral.told k)))
theorem told_ne (k : Kgo3.Ask) {as : List Addr} : as.map V.ref ≠ vz (Kgo3Neutral.told k) := by
  intro e
  cases as with
  | nil => cases k <;> cases e
  | cons x as => cases k <;> (injection e with e1 _; cases e1)
theorem ToldAt.nil {H : Hp} {t : Addr} (h : H t = some (.lst [])) : ToldAt H t [] := ⟨[], h, rfl, fun i b k e => by simp at e⟩
theorem ToldAt.same {H H' : Hp} {t : Addr} {q : List Kgo3.Ask} (h : ToldAt H t q) (s : Same H H') : ToldAt H' t q := by
  obtain ⟨as, h1, h2, h3⟩ := h
  exact ⟨as, s _ _ h1, h2, fun i b k e1 e2 => s _ _ (h3 i b k e1 e2)⟩
theorem ToldAt.kp {H H' : Hp} {t p : Addr} {q : List Kgo3.Ask} {Cc dx : Addr} {fs : List (Str × V)} (h : ToldAt H t q) (s : KeptP H H' p) (hp : H p = some (.ins Cc dx fs)) : ToldAt H' t q := by
  obtain ⟨as, h1, h2, h3⟩ := h
  exact ⟨as, s.lst hp h1, h2, fun i b k e1 e2 => s.lst hp (h3 i b k e1 e2)⟩
/-- one thing more -/
theorem ToldAt.push {H : Hp} {t b : Addr} {q : List Kgo3.Ask} {k : Kgo3.Ask} (h : ToldAt H t q) (hb : H b = some (.lst (vz (Kgo3Neutral.told k)))) : ∃ as : List Addr, H t = some (.lst (as.map V.ref)) ∧ as.length = q.length ∧ ToldAt (upd H t (.lst (as.map V.ref ++ [.ref b]))) t (q ++ [k]) := by
  obtain ⟨as, h1, h2, h3⟩ := h
  have nt : ∀ c k', H c = some (.lst (vz (Kgo3Neutral.told k'))) → c ≠ t := fun c k' hc e => by
    rw [e, h1] at hc
    injection hc with hc
    injection hc with hc
    exact told_ne k' hc
  refine ⟨as, h1, h2, as ++ [b], by rw [upd_same, List.map_append]; rfl, by rw [List.length_append, List.length_append, h2]; rfl, fun i c k' e1 e2 => ?_⟩
  by_cases hi : i < as.length
  · rw [List.getElem?_append_left hi] at e1
    rw [List.getElem?_append_left (by rw [← h2]; exact hi)] at e2
    have h4 := h3 i c k' e1 e2
    rw [upd_ne (nt c k' h4)]
    exact h4
  · rw [List.getElem?_append_right (by omega)] at e1
    rw [List.getElem?_append_right (by rw [← h2]; omega), ← h2] at e2
    cases hj : i - as.length with
    | zero =>
      rw [hj] at e1 e2
      simp at e1 e2
      rw [← e1, ← e2, upd_ne (nt b k hb)]
      exact hb
    | succ j =>
      rw [hj] at e1
      simp at e1
/-- several more -/
theorem ToldAt.cat {H : Hp} {t u : Addr} {q r : List Kgo3.Ask} (h : ToldAt H t q) (h' : ToldAt H u r) : ∃ as bs : List Addr, H t = some (.lst (as.map V.ref)) ∧ H u = some (.lst (bs.map V.ref)) ∧ as.length = q.length ∧ bs.length = r.length ∧
    ToldAt (upd H t (.lst (as.map V.ref ++ bs.map V.ref))) t (q ++ r) := by
  obtain ⟨as, h1, h2, h3⟩ := h
  obtain ⟨bs, h4, h5, h6⟩ := h'
  have nt : ∀ c k', H c = some (.lst (vz (Kgo3Neutral.told k'))) → c ≠ t := fun c k' hc e => by
    rw [e, h1] at hc
    injection hc with hc
    injection hc with hc
    exact told_ne k' hc
  refine ⟨as, bs, h1, h4, h2, h5, as ++ bs, by rw [upd_same, List.map_append], by rw [List.length_append, List.length_append, h2, h5], fun i c k' e1 e2 => ?_⟩
  by_cases hi : i < as.length
  · rw [List.getElem?_append_left hi] at e1
    rw [List.getElem?_append_left (by rw [← h2]; exact hi)] at e2
    have h7 := h3 i c k' e1 e2
    rw [upd_ne (nt c k' h7)]
    exact h7
  · rw [List.getElem?_append_right (by omega)] at e1
    rw [List.getElem?_append_right (by rw [← h2]; omega), ← h2] at e2
    have h7 := h6 _ c k' e1 e2
    rw [upd_ne (nt c k' h7)]
    exact h7
/-- the outcome of a call: its number and what is told -/
def OutAt (K : PySem.W.Frag) (H : Hp) (t : Addr) (v : Int) (q : List Kgo3.Ask) : Prop := ∃ l, SqT K H t [.int v, .ref l] ∧ ToldAt H l q
section
variable {P : Program} {w : World} {K : PySem.W.Frag} {mg : Str → Option Value} {base : Heap} {C M : Addr} {f : Addr} {fd : FuncData}
/-! ### begin, __init__ -/
def spBegin (C : Addr) : Sp := fun vs H Q _ => ∃ (p dx : Addr) (x0 x1 x2 x3 x4 : V) (rest : List V) (up : Bool), vs = [.ref p, .bl up] ∧ H p = some (.ins C dx (leF ([x0, x1, x2, x3, x4] ++ rest))) ∧
  ∀ (H' : Hp) (l : Addr), H' p = some (.ins C dx (leF [x0, x1, x2, x3, x4, .bl up, .int 0, .ref l, .int 0, .int 0])) → H' l = some (.lst []) → H l = Option.none → KeptP H H' p → Q .non H'
theorem scBegin : FnScope ["self", "up"] ["self", "up"] (defScope (inClass (top 40) 1)) := ⟨rfl, rfl, rfl, by decide +kernel, rfl, by decide +kernel, by decide +kernel⟩
theorem ok_begin (F : Fun K "begin" "LineEnd.begin" (inClass (top 40) 1) f fd) (T : Txt K mg C M) : FnOk P w K mg base CX0 1 f fd ["self", "up"] (spBegin C) := by
  refine F.ok scBegin (fun vs H Q E h => ?_) (fun cdv A outer s H vs Q E hr h => ?_)
  · obtain ⟨p, dx, x0, x1, x2, x3, x4, rest, up, rfl, _⟩ := h
    rfl
  · obtain ⟨p, dx, x0, x1, x2, x3, x4, rest, up, rfl, hp, k⟩ := h
    refine ⟨_, pss_cons (ps_fld (pv 0) (pv 1) rfl) (pss_cons (ps_fld (pv 0) pe_int rfl) (pss_cons (ps_fld (pv 0) (pe_lst pa_nil) rfl) (pss_cons (ps_fld (pv 0) pe_int rfl) (pss_one (ps_fld (pv 0) pe_int rfl))))), ?_⟩
    refine ⟨_, rfl, _, rfl, wrE 5 T rfl hp (by show 5 ≤ rest.length + 5; omega) rfl ?_⟩
    refine ⟨_, rfl, wrE 6 T rfl upd_same (by show 6 ≤ (List.drop 1 rest).length + 6; omega) rfl ?_⟩
    rw [upd_twice]
    refine ⟨(by show 0 ≤ sizeLine; decide), fun l hl => ⟨_, rfl, ?_⟩⟩
    have nlp : l ≠ p := fun e => by
      rw [e, upd_same] at hl
      cases hl
    have hpl : ∀ o : HO, upd (upd H p o) l (.lst []) p = some o := fun o => (upd_ne (fun e => nlp e.symm)).trans upd_same
    refine wrE 7 T rfl (hpl _) (by show 7 ≤ (List.drop 1 (List.drop 1 rest)).length + 7; omega) rfl ?_
    refine ⟨_, rfl, wrE 8 T rfl upd_same (by show 8 ≤ (List.drop 1 (List.drop 1 (List.drop 1 rest))).length + 8; omega) rfl ?_⟩
    rw [upd_twice]
    refine ⟨_, rfl, wrE 9 T rfl upd_same (by show 9 ≤ (List.drop 1 (List.drop 1 (List.drop 1 (List.drop 1 rest)))).length + 9; omega) rfl ?_⟩
    rw [upd_twice]
    refine k _ l ?_ ((upd_ne nlp).trans upd_same) ((upd_ne nlp).symm.trans hl) fun b o e hb => ?_
    · rw [upd_same]
      rfl
    have hbl : b ≠ l := fun q => by
      rw [← q, upd_ne hb] at hl
      rw [hl] at e
      cases e
    rw [upd_ne hb, upd_ne hbl, upd_ne hb]
    exact e
def zeroAbs : Kgo3.Abs := { me := 0, other := 0, life := 0, session := 0 }
theorem good_zero : Good zeroAbs := ⟨Nat.le_refl _, by show 0 ≤ 32; decide, by show 0 ≤ 15; decide, fun _ => ⟨rfl, rfl⟩, fun _ h => nomatch h⟩
def spInit (K : PySem.W.Frag) (C : Addr) : Sp := fun vs H Q _ => ∃ (p dx : Addr), vs = [.ref p] ∧ H p = some (.ins C dx []) ∧ ∀ (H' : Hp) (wl : Addr), (∀ Z, EndAt Z K C H' p zeroAbs wl) → H wl = Option.none → KeptP H H' p → Q .non H'
theorem scInit : FnScope ["self"] ["self"] (defScope (inClass (top 40) 0)) := ⟨rfl, rfl, rfl, by decide +kernel, rfl, by decide +kernel, by decide +kernel⟩
theorem ok_init (F : Fun K "__init__" "LineEnd.__init__" (inClass (top 40) 0) f fd) (T : Txt K mg C M) (G : MFn P w K mg base C "begin" ["self", "up"] 1 (spBegin C)) : FnOk P w K mg base CX0 2 f fd ["self"] (spInit K C) := by
  refine F.ok scInit (fun vs H Q E h => ?_) (fun cdv A outer s H vs Q E hr h => ?_)
  · obtain ⟨p, dx, rfl, _⟩ := h
    rfl
  · obtain ⟨p, dx, rfl, hp, k⟩ := h
    refine ⟨_, pss_cons (ps_fld (pv 0) pe_int rfl) (pss_cons (ps_fld (pv 0) pe_int rfl) (pss_cons (ps_fld (pv 0) pe_int rfl) (pss_cons (ps_fld (pv 0) pe_int rfl) (pss_cons (ps_fld (pv 0) (pe_ctup T.nothing rfl) rfl)
      (pss_one (ps_expr (pe_m (pv 0) T.clE G hr (pa_cons pe_bl pa_nil)))))))), ?_⟩
    refine ⟨_, rfl, wrE (vs := []) 0 T rfl hp (Nat.le_refl _) rfl ?_⟩
    refine ⟨_, rfl, wrE 1 T rfl upd_same (by show 1 ≤ 1; decide) rfl ?_⟩
    rw [upd_twice]
    refine ⟨_, rfl, wrE 2 T rfl upd_same (by show 2 ≤ 2; decide) rfl ?_⟩
    rw [upd_twice]
    refine ⟨_, rfl, wrE 3 T rfl upd_same (by show 3 ≤ 3; decide) rfl ?_⟩
    rw [upd_twice]
    refine fun kn hkn => ⟨_, rfl, wrE 4 T rfl upd_same (by show 4 ≤ 4; decide) rfl ?_⟩
    rw [upd_twice]
    refine ⟨_, rfl, p, dx, _, rfl, upd_same, lookup_zip_none (by decide +kernel), p, dx, _, _, _, _, _, [], false, rfl, upd_same, fun H' l h1 h2 h3 k' => ?_⟩
    have nlp : l ≠ p := fun e => by
      rw [e, upd_same] at h3
      cases h3
    rw [upd_ne nlp] at h3
    refine k H' l (fun _ => ⟨dx, kn, [], h1, hkn _, h2, Pieces.nil _, fun q hq => (nomatch hq)⟩) h3 fun b o e hb => k' b o ?_ hb
    rw [upd_ne hb]
    exact e
/-! ### start -/
def spStart (K : PySem.W.Frag) (C : Addr) : Sp := fun vs H Q _ => ∃ (Z : Addr → Prop) (p wl : Addr) (a : Kgo3.Abs) (me ot li : Nat), vs = [.ref p, .int (me : Int), .int (ot : Int), .int (li : Int)] ∧ EndAt Z K C H p a wl ∧
  ∀ (H' : Hp) (wl' t : Addr), EndAt Z K C H' p (doStart a me ot li).2.2 wl' → (wl' = wl ∨ H wl' = Option.none) → Kept H H' p wl → OutAt K H' t (doStart a me ot li).1 (doStart a me ot li).2.1 → Q (.ref t) H'
end
end Nl

set_option Elab.async false
set_option linter.all false
set_option maxRecDepth 100000
set_option maxHeartbeats 4000000
namespace Nl
open PySem PySem.Spec PyProof.Rows L2
section
variable {P : Program} {w : World} {K : PySem.W.Frag} {mg : Str → Option Value} {base : Heap} {C M : Addr} {f : Addr} {fd : FuncData}
/-! ### start -/
theorem scStart : FnScope ["self", "me", "other", "life"] ["self", "me", "other", "life"] (defScope (inClass (top 40) 2)) := ⟨rfl, rfl, rfl, by decide +kernel, rfl, by decide +kernel, by decide +kernel⟩
/-- a tuple of a number and an empty list, just made -/
theorem out_nil {H : Hp} {l t : Addr} {v : Int} (hl : H l = Option.none) (ht : upd H l (.lst []) t = Option.none) : OutAt K (upd (upd H l (.lst [])) t (.tup [.int v, .ref l])) t v [] :=
  ⟨l, SqT.of upd_same, ToldAt.nil (by rw [upd_ne (ne_of_none upd_same ht)]; exact upd_same)⟩
theorem ok_start (F : Fun K "start" "LineEnd.start" (inClass (top 40) 2) f fd) (T : Txt K mg C M) (G : MFn P w K mg base C "begin" ["self", "up"] 1 (spBegin C)) : FnOk P w K mg base CX0 2 f fd ["self", "me", "other", "life"] (spStart K C) := by
  refine F.ok scStart (fun vs H Q E h => ?_) (fun cdv A outer s H vs Q E hr h => ?_)
  · obtain ⟨Z, p, wl, a, me, ot, li, rfl, _⟩ := h
    rfl
  · obtain ⟨Z, p, wl, a, me, ot, li, rfl, E0, k⟩ := h
    refine ⟨_, pss_cons (ps_if (PW.pt (pw_or (pt_cmpR op_gt (pv 1) (pe_cst T.highest rfl) (nomark _)) (pw_or (pt_cmpR op_gt (pv 2) (pe_cst T.highest rfl) (nomark _)) (pw_or (pt_cmpR op_eq (pv 1) (pv 2) (nomark _)) (pw_or1 (pt_cmpR op_eq (pv 3) pe_int (nomark _)))))))
        (pss_one (ps_ret (pe_tup (pa_cons (pe_cst T.wrong rfl) (pa_cons (pe_lst pa_nil) pa_nil))))) pss_nil)
      (pss_cons (ps_fld (pv 0) (pv 1) rfl) (pss_cons (ps_fld (pv 0) (pv 2) rfl) (pss_cons (ps_fld (pv 0) (pv 3) rfl) (pss_cons (ps_fld (pv 0) pe_int rfl) (pss_cons (ps_fld (pv 0) (pe_ctup T.nothing rfl) rfl)
      (pss_cons (ps_expr (pe_m (pv 0) T.clE G hr (pa_cons pe_bl pa_nil)))
      (pss_one (ps_ret (pe_tup (pa_cons (pe_cst T.done rfl) (pa_cons (pe_lst pa_nil) pa_nil))))))))))), ?_⟩
    have no : (255 < me ∨ 255 < ot ∨ me = ot ∨ li = 0) → (0 : Nat) ≤ sizeLine ∧ ∀ l, H l = Option.none → (2 : Nat) ≤ sizeLine ∧ ∀ t, upd H l (.lst []) t = Option.none → Q (.ref t) (upd (upd H l (.lst [])) t (.tup [.int (-22), .ref l])) := fun z => ⟨(by decide), fun l hl => ⟨(by decide), fun t ht => by
      have ed : doStart a me ot li = (-22, [], a) := by
        unfold doStart
        rw [if_pos z]
      rw [ed] at k
      have s2 : Same H (upd (upd H l (.lst [])) t (.tup [.int (-22), .ref l])) := (same_new hl).trans (same_new ht)
      exact k _ wl t (E0.same s2) (.inl rfl) (Same.kp p s2).kept (out_nil hl ht)⟩⟩
    refine ⟨_, rfl, _, _, rfl, rfl, _, rfl, ?_⟩
    refine ite2 (fun h => iteT (no (.inl (by have := of_decide_eq_true h; omega)))) (fun h1 => ?_)
    refine ⟨_, rfl, _, _, rfl, rfl, _, rfl, ?_⟩
    refine ite2 (fun h => iteT (no (.inr (.inl (by have := of_decide_eq_true h; omega))))) (fun h2 => ?_)
    refine ⟨_, rfl, _, rfl, rfl, _, rfl, ?_⟩
    refine ite2 (fun h => iteT (no (.inr (.inr (.inl (eqT h)))))) (fun h3 => ?_)
    refine ⟨_, rfl, rfl, _, rfl, ?_⟩
    refine ite2 (fun h => no (.inr (.inr (.inr (eqT (j := 0) h))))) (fun h4 => ?_)
    have ok : ¬ (255 < me ∨ 255 < ot ∨ me = ot ∨ li = 0) := fun z => by
      rcases z with z | z | z | z
      · exact h1 (decide_eq_true (by omega))
      · exact h2 (decide_eq_true (by omega))
      · exact neT h3 z
      · exact neT (j := 0) h4 z
    have ed : doStart a me ot li = (0, [], newAbs me ot li) := by
      unfold doStart
      rw [if_neg ok]
    rw [ed] at k
    obtain ⟨dx, kn, ps, I⟩ := E0
    refine ⟨_, rfl, _, rfl, wrE 0 T rfl I.obj (by show 0 ≤ 10; decide) rfl ?_⟩
    refine ⟨_, rfl, _, rfl, wrE 1 T rfl upd_same (by show 1 ≤ 10; decide) rfl ?_⟩
    rw [upd_twice]
    refine ⟨_, rfl, _, rfl, wrE 2 T rfl upd_same (by show 2 ≤ 10; decide) rfl ?_⟩
    rw [upd_twice]
    refine ⟨_, rfl, wrE 3 T rfl upd_same (by show 3 ≤ 10; decide) rfl ?_⟩
    rw [upd_twice]
    refine fun kn' hkn => ⟨_, rfl, wrE 4 T rfl upd_same (by show 4 ≤ 10; decide) rfl ?_⟩
    rw [upd_twice]
    refine ⟨_, rfl, p, dx, _, rfl, upd_same, lookup_zip_none (by decide +kernel), p, dx, _, _, _, _, _, _, false, rfl, upd_same, fun H' l h1 h2 h3 k' => ?_⟩
    have nlp : l ≠ p := fun e => by
      rw [e, upd_same] at h3
      cases h3
    rw [upd_ne nlp] at h3
    have kp : KeptP H H' p := ((KeptP.refl H p).upd).trans k'
    have En : EndAt Z K C H' p (newAbs me ot li) l := ⟨dx, kn', [], h1, hkn _, h2, Pieces.nil _, fun q hq => (nomatch hq)⟩
    refine ⟨(by show 0 ≤ sizeLine; decide), fun l2 hl2 => ⟨(by show 2 ≤ sizeLine; decide), fun t ht => ?_⟩⟩
    have s2 : Same H' (upd (upd H' l2 (.lst [])) t (.tup [.int 0, .ref l2])) := (same_new hl2).trans (same_new ht)
    exact k _ l t (En.same s2) (.inr h3) (kp.same s2).kept (out_nil hl2 ht)
/-! ### cut -/
def spCut (K : PySem.W.Frag) (C : Addr) : Sp := fun vs H Q _ => ∃ (Z : Addr → Prop) (p wl : Addr) (a : Kgo3.Abs), vs = [.ref p] ∧ EndAt Z K C H p a wl ∧
  ∀ (H' : Hp) (wl' t : Addr), EndAt Z K C H' p (Kgo3.cut a) wl' → H wl' = Option.none → KeptP H H' p → H' t = some (.lst (vz (Kgo3Neutral.told .down))) → H t = Option.none → Q (.ref t) H'
theorem scCut : FnScope ["self"] ["self"] (defScope (inClass (top 40) 10)) := ⟨rfl, rfl, rfl, by decide +kernel, rfl, by decide +kernel, by decide +kernel⟩
theorem ok_cut (F : Fun K "cut" "LineEnd.cut" (inClass (top 40) 10) f fd) (T : Txt K mg C M) (G : MFn P w K mg base C "begin" ["self", "up"] 1 (spBegin C)) : FnOk P w K mg base CX0 2 f fd ["self"] (spCut K C) := by
  refine F.ok scCut (fun vs H Q E h => ?_) (fun cdv A outer s H vs Q E hr h => ?_)
  · obtain ⟨Z, p, wl, a, rfl, _⟩ := h
    rfl
  · obtain ⟨Z, p, wl, a, rfl, ⟨dx, kn, ps, I⟩, k⟩ := h
    refine ⟨_, pss_cons (ps_fldaug (pv 0) pe_int in_add) (pss_cons (ps_expr (pe_m (pv 0) T.clE G hr (pa_cons pe_bl pa_nil))) (pss_one (ps_ret (pe_lst (pa_cons (pe_cst T.tDown rfl) pa_nil))))), ?_⟩
    refine ⟨_, rfl, p, C, dx, _, _, rfl, I.obj, T.clE, T.naE 3 _ rfl, fldE (i := 3) rfl rfl, _, _, rfl, rfl, dx, _, I.obj, leF_len _, ?_⟩
    rw [putE (i := 3) (.int ((a.session : Nat) + 1)) rfl (by show 3 ≤ 10; decide) rfl]
    refine ⟨_, rfl, p, dx, _, rfl, upd_same, lookup_zip_none (by decide +kernel), p, dx, _, _, _, _, _, _, false, rfl, upd_same, fun H' l h1 h2 h3 k' => ?_⟩
    have kp : KeptP H H' p := ((KeptP.refl H p).upd).trans k'
    have nlp : l ≠ p := fun e => by
      rw [e, upd_same] at h3
      cases h3
    rw [upd_ne nlp] at h3
    refine ⟨(by show 1 ≤ sizeLine; decide), fun t ht => ?_⟩
    have Ec : EndAt Z K C H' p (Kgo3.cut a) l := ⟨dx, kn, [], h1, kp.sqT I.obj I.known, h2, Pieces.nil _, fun q hq => (nomatch hq)⟩
    have ntp : t ≠ p := fun e => by
      rw [e, h1] at ht
      cases ht
    exact k _ l t (Ec.same (same_new ht)) h3 (kp.same (same_new ht)) upd_same (kp.free ntp ht)
/-! ### own_pair, acknowledged, state -/
def spOwn (K : PySem.W.Frag) (C : Addr) : Sp := fun vs H Q _ => ∃ (Z : Addr → Prop) (p wl : Addr) (a : Kgo3.Abs), vs = [.ref p] ∧ EndAt Z K C H p a wl ∧ NewT H [.int (a.life : Nat), .int (a.session : Nat)] Q
theorem scOwn : FnScope ["self"] ["self"] (defScope (inClass (top 40) 11)) := ⟨rfl, rfl, rfl, by decide +kernel, rfl, by decide +kernel, by decide +kernel⟩
theorem ok_own (F : Fun K "own_pair" "LineEnd.own_pair" (inClass (top 40) 11) f fd) (T : Txt K mg C M) : FnOk P w K mg base CX0 1 f fd ["self"] (spOwn K C) := by
  refine F.ok scOwn (fun vs H Q E h => ?_) (fun cdv A outer s H vs Q E hr h => ?_)
  · obtain ⟨Z, p, wl, a, rfl, _⟩ := h
    rfl
  · obtain ⟨Z, p, wl, a, rfl, ⟨dx, kn, ps, I⟩, k⟩ := h
    refine ⟨_, pss_one (ps_ret (pe_tup (pa_cons (pe_fld (pv 0) rfl) (pa_cons (pe_fld (pv 0) rfl) pa_nil)))), ?_⟩
    refine ⟨_, rfl, _, _, _, _, _, rfl, I.obj, T.clE, T.naE 2 _ rfl, fldE (i := 2) rfl rfl, ⟨_, rfl, _, _, _, _, _, rfl, I.obj, T.clE, T.naE 3 _ rfl, fldE (i := 3) rfl rfl, ⟨(by show 2 ≤ sizeLine; decide), fun t ht => k.lay (Same.refl H) ht⟩⟩⟩
def spAcked (K : PySem.W.Frag) (C : Addr) : Sp := fun vs H Q _ => ∃ (Z : Addr → Prop) (p wl : Addr) (a : Kgo3.Abs), vs = [.ref p] ∧ EndAt Z K C H p a wl ∧ Good a ∧ Q (.int ((a.sent - a.waiting.length : Nat) : Int)) H
theorem scAcked : FnScope ["self"] ["self"] (defScope (inClass (top 40) 9)) := ⟨rfl, rfl, rfl, by decide +kernel, rfl, by decide +kernel, by decide +kernel⟩
theorem ok_acked (F : Fun K "acknowledged" "LineEnd.acknowledged" (inClass (top 40) 9) f fd) (T : Txt K mg C M) : FnOk P w K mg base CX0 1 f fd ["self"] (spAcked K C) := by
  refine F.ok scAcked (fun vs H Q E h => ?_) (fun cdv A outer s H vs Q E hr h => ?_)
  · obtain ⟨Z, p, wl, a, rfl, _⟩ := h
    rfl
  · obtain ⟨Z, p, wl, a, rfl, ⟨dx, kn, ps, I⟩, g, k⟩ := h
    refine ⟨_, pss_one (ps_ret (pe_op op_sub (pe_fld (pv 0) rfl) (pe_len rfl T.len (pa_cons (pe_fld (pv 0) rfl) pa_nil)))), ?_⟩
    refine ⟨_, rfl, _, _, _, _, _, rfl, I.obj, T.clE, T.naE 6 _ rfl, fldE (i := 6) rfl rfl, ⟨_, rfl, _, _, _, _, _, rfl, I.obj, T.clE, T.naE 7 _ rfl, fldE (i := 7) rfl rfl, ⟨wl, _, rfl, .inl (SqL.of I.lst), _, _, rfl, rfl, ?_⟩⟩⟩
    have e : ((a.sent : Nat) : Int) - ((ps.map V.ref).length : Nat) = ((a.sent - a.waiting.length : Nat) : Int) := by
      have := g.ws
      rw [List.length_map, I.each.1]
      omega
    exact (congrArg (fun z => Q (V.int z) H) e).mpr k
def spState (K : PySem.W.Frag) (C : Addr) : Sp := fun vs H Q _ => ∃ (Z : Addr → Prop) (p wl : Addr) (a : Kgo3.Abs), vs = [.ref p] ∧ EndAt Z K C H p a wl ∧ NewL H (vz (stateOf a)) Q
theorem scState : FnScope ["self"] ["self"] (defScope (inClass (top 40) 6)) := ⟨rfl, rfl, rfl, by decide +kernel, rfl, by decide +kernel, by decide +kernel⟩
theorem ok_state (F : Fun K "state" "LineEnd.state" (inClass (top 40) 6) f fd) (T : Txt K mg C M) : FnOk P w K mg base CX0 1 f fd ["self"] (spState K C) := by
  refine F.ok scState (fun vs H Q E h => ?_) (fun cdv A outer s H vs Q E hr h => ?_)
  · obtain ⟨Z, p, wl, a, rfl, _⟩ := h
    rfl
  · obtain ⟨Z, p, wl, a, rfl, ⟨dx, kn, ps, I⟩, k⟩ := h
    refine ⟨_, pss_one (ps_ret (pe_lst (pa_cons (pe_ifExp (pt_val (pe_fld (pv 0) rfl)) pe_int pe_int) (pa_cons (pe_fld (pv 0) rfl) (pa_cons (pe_len rfl T.len (pa_cons (pe_fld (pv 0) rfl) pa_nil)) (pa_cons (pe_ix ix_tup (pe_fld (pv 0) rfl) pe_int (fun _ _ => rfl)) pa_nil)))))), ?_⟩
    have fin : ∀ z : Int, z = (if a.up then 1 else 0) → (tCons (tFld K (tVar 0) "session") (tCons (tCB (fun xs H Q => ∃ p ys, xs = [.ref p] ∧ (SqL K H p ys ∨ SqT K H p ys) ∧ Q (.int ys.length) H) (tCons (tFld K (tVar 0) "waiting") tNil)) (tCons (tOp (rIxT K) (tFld K (tVar 0) "known") (tC (.int 0))) tNil))) [some (.ref p)] H fun xs H1 => (V.int z :: xs).length ≤ sizeLine ∧ ∀ t, H1 t = Option.none → Q (.ref t) (upd H1 t (.lst (V.int z :: xs))) := by
      intro z hz
      refine ⟨_, rfl, _, _, _, _, _, rfl, I.obj, T.clE, T.naE 3 _ rfl, fldE (i := 3) rfl rfl, ⟨_, rfl, _, _, _, _, _, rfl, I.obj, T.clE, T.naE 7 _ rfl, fldE (i := 7) rfl rfl, ⟨wl, _, rfl, .inl (SqL.of I.lst), _, rfl, _, _, _, _, _, rfl, I.obj, T.clE, T.naE 4 _ rfl, fldE (i := 4) rfl rfl, ⟨kn, _, _, _, rfl, rfl, I.known, at_of (j := 0) rfl rfl, (by show 4 ≤ sizeLine; decide), fun t ht => ?_⟩⟩⟩⟩
      have e : [V.int z, V.int (a.session : Nat), V.int ((ps.map V.ref).length : Nat), V.int (a.known.1 : Nat)] = vz (stateOf a) := by
        rw [List.length_map, I.each.1, hz]
        rfl
      exact (congrArg (fun z => Q (.ref t) (upd H t (.lst z))) e).mpr (k.lay (Same.refl H) ht)
    refine ⟨_, rfl, _, _, _, _, _, rfl, I.obj, T.clE, T.naE 5 _ rfl, fldE (i := 5) rfl rfl, ⟨_, rfl, ?_⟩⟩
    refine ite2 (fun h => ?_) (fun h => ?_)
    · exact fin 1 (by rw [h]; rfl)
    · exact fin 0 (by rw [if_neg h])
/-! ### beat_thing, piece_thing -/
def spBeatT (K : PySem.W.Frag) (C : Addr) : Sp := fun vs H Q _ => ∃ (Z : Addr → Prop) (p wl : Addr) (a : Kgo3.Abs), vs = [.ref p] ∧ EndAt Z K C H p a wl ∧ Good a ∧ NewL H (vz (Kgo3Neutral.told (Kgo3.beat a))) Q
theorem scBeatT : FnScope ["self"] ["self"] (defScope (inClass (top 40) 12)) := ⟨rfl, rfl, rfl, by decide +kernel, rfl, by decide +kernel, by decide +kernel⟩
theorem ok_beatT (F : Fun K "beat_thing" "LineEnd.beat_thing" (inClass (top 40) 12) f fd) (T : Txt K mg C M) (G1 : GFn P w K mg base "told_sent" ["message"] 1 (spTold .net)) (G2 : GFn P w K mg base "write_beat" ["sender", "receiver", "own", "known", "got"] 3 (spBeat K))
    (G3 : MFn P w K mg base C "own_pair" ["self"] 1 (spOwn K C)) : FnOk P w K mg base CX0 4 f fd ["self"] (spBeatT K C) := by
  refine F.ok scBeatT (fun vs H Q E h => ?_) (fun cdv A outer s H vs Q E hr h => ?_)
  · obtain ⟨Z, p, wl, a, rfl, _⟩ := h
    rfl
  · obtain ⟨Z, p, wl, a, rfl, ⟨dx, kn, ps, I⟩, g, k⟩ := h
    have hr1 : Room 1 _ := hr.mono (by decide)
    refine ⟨_, pss_one (ps_ret (pe_g G1 hr1 rfl (pa_cons (pe_g G2 hr rfl (pa_cons (pe_fld (pv 0) rfl) (pa_cons (pe_fld (pv 0) rfl) (pa_cons (pe_mm (pv 0) T.clE G3 hr1) (pa_cons (pe_fld (pv 0) rfl) (pa_cons (pe_fld (pv 0) rfl) pa_nil)))))) pa_nil))), ?_⟩
    refine ⟨_, rfl, _, _, _, _, _, rfl, I.obj, T.clE, T.naE 0 _ rfl, fldE (i := 0) rfl rfl, ⟨_, rfl, _, _, _, _, _, rfl, I.obj, T.clE, T.naE 1 _ rfl, fldE (i := 1) rfl rfl, ⟨_, rfl, p, dx, _, rfl, I.obj, lookup_zip_none (by decide +kernel), _, p, wl, a, rfl, ⟨dx, kn, ps, I⟩, fun H1 t s1 n1 h1 => ?_⟩⟩⟩
    have I1 := I.same s1
    refine ⟨_, rfl, _, _, _, _, _, rfl, I1.obj, T.clE, T.naE 4 _ rfl, fldE (i := 4) rfl rfl, ⟨_, rfl, _, _, _, _, _, rfl, I1.obj, T.clE, T.naE 8 _ rfl, fldE (i := 8) rfl rfl, ⟨a.me, a.other, a.got, (a.life, a.session), a.known, t, kn, rfl, SqT.of h1, I1.known, fun H2 l s2 n2 h2 => ⟨l, _, rfl, h2, ?_, ?_⟩⟩⟩⟩
    · rw [written_len]
      show 28 + 0 ≤ 1000
      decide
    · have e : Kgo3.beat a = .net (Kgo3.written ⟨a.me, a.other, (a.life, a.session), a.known, a.got, none⟩) := by
        unfold Kgo3.beat Kgo3.msg
        rw [got_up g]
      rw [e] at k
      exact (k.after s1).after s2
def spPieceT (K : PySem.W.Frag) (C : Addr) : Sp := fun vs H Q _ => ∃ (Z : Addr → Prop) (p wl q : Addr) (a : Kgo3.Abs) (n : Nat) (b : List Nat), vs = [.ref p, .int (n : Int), .ref q] ∧ EndAt Z K C H p a wl ∧ Good a ∧ H q = some (.lst (vn b)) ∧ b.length ≤ 200 ∧ NewL H (vz (Kgo3Neutral.told (Kgo3.msg a (some (n, b))))) Q
theorem scPieceT : FnScope ["self", "number", "piece"] ["self", "number", "piece"] (defScope (inClass (top 40) 13)) := ⟨rfl, rfl, rfl, by decide +kernel, rfl, by decide +kernel, by decide +kernel⟩
theorem ok_pieceT (F : Fun K "piece_thing" "LineEnd.piece_thing" (inClass (top 40) 13) f fd) (T : Txt K mg C M) (G1 : GFn P w K mg base "told_sent" ["message"] 1 (spTold .net)) (G2 : GFn P w K mg base "write_piece" ["sender", "receiver", "own", "known", "got", "number", "piece"] 3 (spPiece K))
    (G3 : MFn P w K mg base C "own_pair" ["self"] 1 (spOwn K C)) : FnOk P w K mg base CX0 4 f fd ["self", "number", "piece"] (spPieceT K C) := by
  refine F.ok scPieceT (fun vs H Q E h => ?_) (fun cdv A outer s H vs Q E hr h => ?_)
  · obtain ⟨Z, p, wl, q, a, n, b, rfl, _⟩ := h
    rfl
  · obtain ⟨Z, p, wl, q, a, n, b, rfl, ⟨dx, kn, ps, I⟩, g, hq, hb, k⟩ := h
    have hr1 : Room 1 _ := hr.mono (by decide)
    refine ⟨_, pss_one (ps_ret (pe_g G1 hr1 rfl (pa_cons (pe_g G2 hr rfl (pa_cons (pe_fld (pv 0) rfl) (pa_cons (pe_fld (pv 0) rfl) (pa_cons (pe_mm (pv 0) T.clE G3 hr1) (pa_cons (pe_fld (pv 0) rfl) (pa_cons (pe_fld (pv 0) rfl) (pa_cons (pv 1) (pa_cons (pv 2) pa_nil)))))))) pa_nil))), ?_⟩
    refine ⟨_, rfl, _, _, _, _, _, rfl, I.obj, T.clE, T.naE 0 _ rfl, fldE (i := 0) rfl rfl, ⟨_, rfl, _, _, _, _, _, rfl, I.obj, T.clE, T.naE 1 _ rfl, fldE (i := 1) rfl rfl, ⟨_, rfl, p, dx, _, rfl, I.obj, lookup_zip_none (by decide +kernel), _, p, wl, a, rfl, ⟨dx, kn, ps, I⟩, fun H1 t s1 n1 h1 => ?_⟩⟩⟩
    have I1 := I.same s1
    refine ⟨_, rfl, _, _, _, _, _, rfl, I1.obj, T.clE, T.naE 4 _ rfl, fldE (i := 4) rfl rfl, ⟨_, rfl, _, _, _, _, _, rfl, I1.obj, T.clE, T.naE 8 _ rfl, fldE (i := 8) rfl rfl, ⟨_, rfl, _, rfl, a.me, a.other, a.got, n, (a.life, a.session), a.known, b, t, kn, q, rfl, SqT.of h1, I1.known, s1 _ _ hq, hb, fun H2 l s2 n2 h2 => ⟨l, _, rfl, h2, ?_, ?_⟩⟩⟩⟩
    · rw [written_len]
      show 28 + (4 + b.length) ≤ 1000
      omega
    · have e : Kgo3.msg a (some (n, b)) = .net (Kgo3.written ⟨a.me, a.other, (a.life, a.session), a.known, a.got, some (n, b)⟩) := by
        unfold Kgo3.msg
        rw [got_up g]
      rw [e] at k
      exact (k.after s1).after s2
/-! ### acknowledge -/
def spAck (K : PySem.W.Frag) (C : Addr) : Sp := fun vs H Q _ => ∃ (Z : Addr → Prop) (p wl : Addr) (a : Kgo3.Abs) (n : Nat), vs = [.ref p, .int (n : Int)] ∧ EndAt Z K C H p a wl ∧ Good a ∧
  ∀ (H' : Hp) (wl' : Addr), EndAt Z K C H' p (acked a n) wl' → (wl' = wl ∨ H wl' = Option.none) → KeptP H H' p → Q .non H'
theorem scAck : FnScope ["self", "got"] ["self", "got"] (defScope (inClass (top 40) 8)) := ⟨rfl, rfl, rfl, by decide +kernel, rfl, by decide +kernel, by decide +kernel⟩
theorem cut_from {ps : List Addr} {k : Nat} : cutV (ps.map V.ref) (some (k : Int)) none = (ps.drop k).map V.ref := by
  unfold cutV
  rw [HT.sIx_nat, HT.sIx_none, List.length_map]
  rw [← List.map_drop, ← List.map_take]
  congr 1
  by_cases h : k ≤ ps.length
  · rw [Nat.min_eq_left h, List.take_of_length_le (by rw [List.length_drop]; omega)]
  · rw [Nat.min_eq_right (by omega), List.drop_eq_nil_of_le (by omega), List.drop_eq_nil_of_le (by omega), List.take_nil]
theorem ok_ack (F : Fun K "acknowledge" "LineEnd.acknowledge" (inClass (top 40) 8) f fd) (T : Txt K mg C M) (G : MFn P w K mg base C "acknowledged" ["self"] 1 (spAcked K C)) : FnOk P w K mg base CX0 2 f fd ["self", "got"] (spAck K C) := by
  refine F.ok scAck (fun vs H Q E h => ?_) (fun cdv A outer s H vs Q E hr h => ?_)
  · obtain ⟨Z, p, wl, a, n, rfl, _⟩ := h
    rfl
  · obtain ⟨Z, p, wl, a, n, rfl, ⟨dx, kn, ps, I⟩, g, k⟩ := h
    refine ⟨_, pss_one (ps_if (pt_chain op_lt op_le (pe_mm (pv 0) T.clE G hr) (pv 1) (pe_fld (pv 0) rfl)) (pss_one (ps_fld (pv 0) (pe_slice sl_list (pe_fld (pv 0) rfl) (po_some (pe_op op_sub (pv 1) (pe_mm (pv 0) T.clE G hr))) po_none) rfl)) pss_nil), ?_⟩
    have nm : (leF (lvs a kn wl)).lookup ("acknowledged" : Str) = none := lookup_zip_none (by decide +kernel)
    have skip : ¬ (a.sent - a.waiting.length < n ∧ n ≤ a.sent) → Q .non H := fun hn => by
      have e : acked a n = a := by
        unfold acked
        have : (if n ≤ a.sent then a.waiting.drop (n - (a.sent - a.waiting.length)) else a.waiting) = a.waiting := by
          split
          · rename_i h1
            have : n - (a.sent - a.waiting.length) = 0 := by omega
            rw [this]
            rfl
          · rfl
        rw [this]
      exact k H wl (by rw [e]; exact ⟨dx, kn, ps, I⟩) (.inl rfl) (KeptP.refl H p)
    refine ⟨_, rfl, p, dx, _, rfl, I.obj, nm, _, p, wl, a, rfl, ⟨dx, kn, ps, I⟩, g, _, rfl, _, _, rfl, rfl, _, rfl, ?_⟩
    refine ite2 (fun h => ?_) (fun h => ?_)
    · have h1 : a.sent - a.waiting.length < n := by
        have := of_decide_eq_true h
        omega
      refine ⟨_, rfl, _, _, _, _, _, rfl, I.obj, T.clE, T.naE 6 _ rfl, fldE (i := 6) rfl rfl, ⟨_, _, rfl, rfl, _, rfl, ?_⟩⟩
      refine ite2 (fun h => ?_) (fun h => ?_)
      · have h2 : n ≤ a.sent := by
          have := of_decide_eq_true h
          omega
        refine ⟨_, rfl, _, _, _, _, _, rfl, I.obj, T.clE, T.naE 7 _ rfl, fldE (i := 7) rfl rfl, ⟨_, rfl, _, rfl, p, dx, _, rfl, I.obj, nm, _, p, wl, a, rfl, ⟨dx, kn, ps, I⟩, g, _, _, rfl, rfl, _, rfl, wl, _, rfl, SqL.of I.lst, fun l hl => ⟨_, rfl, ?_⟩⟩⟩
        have e : ((n : Nat) : Int) - ((a.sent - a.waiting.length : Nat) : Int) = ((n - (a.sent - a.waiting.length) : Nat) : Int) := by omega
        have s1 : Same H (upd H l (.lst ((ps.drop (n - (a.sent - a.waiting.length))).map V.ref))) := same_new hl
        rw [e, cut_from]
        refine wrE 7 T rfl (I.same s1).obj (by show 7 ≤ 10; decide) rfl ?_
        have I1 := I.same s1
        have ea : acked a n = { a with waiting := a.waiting.drop (n - (a.sent - a.waiting.length)) } := by
          unfold acked
          rw [if_pos h2]
        have nlp : l ≠ p := fun e => by
          rw [e, I.obj] at hl
          cases hl
        have kp : KeptP H (upd (upd H l (.lst ((ps.drop (n - (a.sent - a.waiting.length))).map V.ref))) p (.ins C dx (leF (lvs (acked a n) kn l)))) p := (Same.kp p s1).upd
        refine k _ l ?_ (.inr hl) (by rw [ea] at kp; exact kp)
        rw [ea] at kp ⊢
        exact ⟨dx, kn, _, upd_same, kp.sqT I.obj I.known, (upd_ne nlp).trans upd_same, (I.each.drop _).mono fun q b _ _ hq => kp.lst I.obj hq, fun q hq => I.av q (List.mem_of_mem_drop hq)⟩
      · exact skip (fun z => h (decide_eq_true (by omega)))
    · exact ⟨_, rfl, iteF (skip (fun z => h (decide_eq_true (by omega))))⟩
end
end Nl

set_option Elab.async false
set_option linter.all false
set_option maxRecDepth 100000
set_option maxHeartbeats 4000000
namespace Nl
open PySem PySem.Spec PyProof.Rows L2
section
variable {P : Program} {w : World} {K : PySem.W.Frag} {mg : Str → Option Value} {base : Heap} {C M : Addr} {f : Addr} {fd : FuncData}
/-- a tuple of a number and a list of one thing, just made -/
theorem out_one {H : Hp} {l t x : Addr} {v : Int} {k : Kgo3.Ask} (hx : H x = some (.lst (vz (Kgo3Neutral.told k)))) (hl : H l = Option.none) (ht : upd H l (.lst [.ref x]) t = Option.none) : OutAt K (upd (upd H l (.lst [.ref x])) t (.tup [.int v, .ref l])) t v [k] := by
  have hl' : upd (upd H l (.lst [.ref x])) t (.tup [.int v, .ref l]) l = some (.lst [.ref x]) := (upd_ne (ne_of_none upd_same ht)).trans upd_same
  have s : Same H (upd (upd H l (.lst [.ref x])) t (.tup [.int v, .ref l])) := (same_new hl).trans (same_new ht)
  refine ⟨l, SqT.of upd_same, [x], hl', rfl, fun i b k' e1 e2 => ?_⟩
  match i, e1, e2 with
  | 0, e1, e2 =>
    simp at e1 e2
    rw [← e1, ← e2]
    exact s _ _ hx
  | i + 1, e1, _ => simp at e1
/-! ### send -/
def spSend (K : PySem.W.Frag) (C : Addr) : Sp := fun vs H Q _ => ∃ (Z : Addr → Prop) (p wl q : Addr) (a : Kgo3.Abs) (b : List Nat), vs = [.ref p, .ref q] ∧ EndAt Z K C H p a wl ∧ Good a ∧ H q = some (.lst (vn b)) ∧ ¬ Z q ∧
  ∀ (H' : Hp) (wl' t : Addr), EndAt Z K C H' p (doSend a b).2.2 wl' → (wl' = wl ∨ H wl' = Option.none) → Kept H H' p wl → OutAt K H' t (doSend a b).1 (doSend a b).2.1 → Q (.ref t) H'
theorem scSend : FnScope ["self", "piece"] ["self", "piece"] (defScope (inClass (top 40) 3)) := ⟨rfl, rfl, rfl, by decide +kernel, rfl, by decide +kernel, by decide +kernel⟩
theorem ok_send (F : Fun K "send" "LineEnd.send" (inClass (top 40) 3) f fd) (T : Txt K mg C M) (G1 : GFn P w K mg base "is_piece_length" ["length"] 1 spIsLen) (G2 : MFn P w K mg base C "cut" ["self"] 2 (spCut K C)) (G3 : MFn P w K mg base C "piece_thing" ["self", "number", "piece"] 4 (spPieceT K C)) :
    FnOk P w K mg base CX0 5 f fd ["self", "piece"] (spSend K C) := by
  refine F.ok scSend (fun vs H Q E h => ?_) (fun cdv A outer s H vs Q E hr h => ?_)
  · obtain ⟨Z, p, wl, q, a, b, rfl, _⟩ := h
    rfl
  · obtain ⟨Z, p, wl, q, a, b, rfl, ⟨dx, kn, ps, I⟩, g, hq, hzq, k⟩ := h
    have hr1 : Room 1 _ := hr.mono (by decide)
    have hr2 : Room 2 _ := hr.mono (by decide)
    refine ⟨_, pss_cons (ps_if (pt_not (pt_val (pe_g G1 hr1 rfl (pa_cons (pe_len rfl T.len (pa_cons (pv 1) pa_nil)) pa_nil)))) (pss_one (ps_ret (pe_tup (pa_cons (pe_cst T.wrong rfl) (pa_cons (pe_lst pa_nil) pa_nil))))) pss_nil)
      (pss_cons (ps_if (pt_not (pt_val (pe_fld (pv 0) rfl))) (pss_one (ps_ret (pe_tup (pa_cons (pe_cst T.notUp rfl) (pa_cons (pe_lst pa_nil) pa_nil))))) pss_nil)
      (pss_cons (ps_if (pt_cmpR op_eq (pe_len rfl T.len (pa_cons (pe_fld (pv 0) rfl) pa_nil)) (pe_cst T.most rfl) (nomark _)) (pss_one (ps_ret (pe_tup (pa_cons (pe_cst T.tooMany rfl) (pa_cons (pe_lst (pa_cons (pe_mm (pv 0) T.clE G2 hr2) pa_nil)) pa_nil))))) pss_nil)
      (pss_cons (ps_fldaug (pv 0) pe_int in_add)
      (pss_cons (ps_expr (pe_bm PySem.F.plainAttrs_list PySem.F.slot_list_append PySem.F.type_list_append mt_append (pe_fld (pv 0) rfl) (pa_cons (pv 1) pa_nil)))
      (pss_one (ps_ret (pe_tup (pa_cons (pe_cst T.done rfl) (pa_cons (pe_lst (pa_cons (pe_m (pv 0) T.clE G3 hr (pa_cons (pe_fld (pv 0) rfl) (pa_cons (pv 1) pa_nil))) pa_nil)) pa_nil))))))))), ?_⟩
    have nmc : ∀ a' kn' wl', (leF (lvs a' kn' wl')).lookup ("cut" : Str) = none := fun _ _ _ => lookup_zip_none (by decide +kernel)
    have nmp : ∀ a' kn' wl', (leF (lvs a' kn' wl')).lookup ("piece_thing" : Str) = none := fun _ _ _ => lookup_zip_none (by decide +kernel)
    have E0 : EndAt Z K C H p a wl := ⟨dx, kn, ps, I⟩
    have refuse : ∀ (v : Int), doSend a b = (v, [], a) → ∀ (l : Addr), H l = Option.none → (2 : Nat) ≤ sizeLine ∧ ∀ (t : Addr), upd H l (.lst []) t = Option.none → Q (.ref t) (upd (upd H l (.lst [])) t (.tup [.int v, .ref l])) := fun v e l hl => ⟨(by decide), fun t ht => by
      rw [e] at k
      have s2 : Same H (upd (upd H l (.lst [])) t (.tup [.int v, .ref l])) := (same_new hl).trans (same_new ht)
      exact k _ wl t (E0.same s2) (.inl rfl) (Same.kp p s2).kept (out_nil hl ht)⟩
    refine ⟨_, rfl, q, _, rfl, .inl (SqL.of hq), _, rfl, _, rfl, ?_⟩
    rw [vn_len]
    refine ite2 (fun h => ?_) (fun h => ?_)
    · have hz : lenB (b.length : Nat) = false := by simpa using h
      have e : doSend a b = (-22, [], a) := by
        unfold doSend
        rw [if_pos]
        unfold lenB at hz
        rw [Bool.and_eq_false_iff] at hz
        rcases hz with hz | hz
        · have := of_decide_eq_false hz
          omega
        · have := of_decide_eq_false hz
          omega
      exact ⟨(by show 0 ≤ sizeLine; decide), fun l hl => refuse (-22) e l hl⟩
    have hz : lenB (b.length : Nat) = true := by simpa using h
    have hn : ¬ (b.length = 0 ∨ 200 < b.length) := by
      unfold lenB at hz
      rw [Bool.and_eq_true] at hz
      have h1 := of_decide_eq_true hz.1
      have h2 := of_decide_eq_true hz.2
      omega
    refine ⟨_, rfl, _, _, _, _, _, rfl, I.obj, T.clE, T.naE 5 _ rfl, fldE (i := 5) rfl rfl, ⟨_, rfl, ?_⟩⟩
    refine ite2 (fun h => ?_) (fun h => ?_)
    · have hu : a.up = false := by simpa using h
      have e : doSend a b = (-11, [], a) := by
        unfold doSend
        rw [if_neg hn, if_pos hu]
      exact ⟨(by show 0 ≤ sizeLine; decide), fun l hl => refuse (-11) e l hl⟩
    have hu : ¬ a.up = false := by
      intro z
      apply h
      rw [z]
      rfl
    refine ⟨_, rfl, _, _, _, _, _, rfl, I.obj, T.clE, T.naE 7 _ rfl, fldE (i := 7) rfl rfl, ⟨wl, _, rfl, .inl (SqL.of I.lst), rfl, _, rfl, ?_⟩⟩
    have e32 : decide (V.int (((ps.map V.ref).length : Nat) : Int) = V.int 32) = decide (a.waiting.length = 32) := by
      rw [List.length_map, I.each.1]
      exact decI (j := 32)
    rw [e32]
    refine ite2 (fun h => ?_) (fun h => ?_)
    · have hw : a.waiting.length = 32 := of_decide_eq_true h
      have e : doSend a b = (-28, [.down], Kgo3.cut a) := by
        unfold doSend
        rw [if_neg hn, if_neg hu, if_pos (by omega)]
      rw [e] at k
      refine ⟨_, rfl, p, dx, _, rfl, I.obj, nmc _ _ _, _, p, wl, a, rfl, E0, fun H1 wl1 x1 E1 n1 k1 hx1 nx1 => ⟨(by show 1 ≤ sizeLine; decide), fun l hl => ⟨(by show 2 ≤ sizeLine; decide), fun t ht => ?_⟩⟩⟩
      have s2 : Same H1 (upd (upd H1 l (.lst [.ref x1])) t (.tup [.int (-28), .ref l])) := (same_new hl).trans (same_new ht)
      exact k _ wl1 t (E1.same s2) (.inr n1) (k1.same s2).kept (out_one hx1 hl ht)
    have hw : ¬ 32 ≤ a.waiting.length := by
      have := g.w32
      intro z
      exact h (decide_eq_true (by omega))
    have hbn : b ≠ [] := fun z => hn (.inl (by rw [z]; rfl))
    have e : doSend a b = (0, [Kgo3.msg { a with sent := a.sent + 1, waiting := a.waiting ++ [b] } (some (a.sent + 1, b))], { a with sent := a.sent + 1, waiting := a.waiting ++ [b] }) := by
      unfold doSend
      rw [if_neg hn, if_neg hu, if_neg hw]
    have gd : Good { a with sent := a.sent + 1, waiting := a.waiting ++ [b] } := by
      have := good_send (b := b) g
      rw [e] at this
      exact this
    rw [e] at k
    refine ⟨_, rfl, p, C, dx, _, _, rfl, I.obj, T.clE, T.naE 6 _ rfl, fldE (i := 6) rfl rfl, _, _, rfl, rfl, dx, _, I.obj, leF_len _, ?_⟩
    rw [putE (i := 6) (ws := lvs { a with sent := a.sent + 1 } kn wl) (.int ((a.sent : Nat) + 1)) rfl (by show 6 ≤ 10; decide) rfl]
    have I1 : EndIn Z K C (upd H p (.ins C dx (leF (lvs { a with sent := a.sent + 1 } kn wl)))) p { a with sent := a.sent + 1 } wl dx kn ps := I.put rfl rfl
    have k1 : KeptP H (upd H p (.ins C dx (leF (lvs { a with sent := a.sent + 1 } kn wl)))) p := (KeptP.refl H p).upd
    have hq1 := k1.lst I.obj hq
    generalize (upd H p (.ins C dx (leF (lvs { a with sent := a.sent + 1 } kn wl)))) = H1 at I1 k1 hq1
    refine ⟨_, rfl, _, _, _, _, _, rfl, I1.obj, T.clE, T.naE 7 _ rfl, fldE (i := 7) rfl rfl, ⟨.inl ⟨rfl, _, SqL.of I1.lst⟩, _, rfl, wl, _, _, rfl, rfl, I1.lst, ?_, ?_⟩⟩
    · rw [List.length_map, I.each.1]
      have := g.w32
      exact Nat.lt_of_le_of_lt this (by decide)
    have I2 := I1.snoc (fun b hb => (g.each b hb).1) hq1 hbn hzq
    have nqw : q ≠ wl := fun e => by
      rw [e, I1.lst] at hq1
      injection hq1 with hq1
      injection hq1 with hq1
      exact refs_ne hbn hq1
    have hq2 : (upd H1 wl (.lst (ps.map V.ref ++ [.ref q]))) q = some (.lst (vn b)) := (upd_ne nqw).trans hq1
    have k2 : Kept H (upd H1 wl (.lst (ps.map V.ref ++ [.ref q]))) p wl := fun c o e n1 n2 => by
      rw [upd_ne n2]
      exact k1 c o e n1
    generalize (upd H1 wl (.lst (ps.map V.ref ++ [.ref q]))) = H2 at I2 hq2 k2
    have E2 : EndAt Z K C H2 p { a with sent := a.sent + 1, waiting := a.waiting ++ [b] } wl := ⟨dx, kn, _, I2⟩
    refine ⟨_, rfl, p, dx, _, rfl, I2.obj, nmp _ _ _, _, rfl, _, _, _, _, _, rfl, I2.obj, T.clE, T.naE 6 _ rfl, fldE (i := 6) rfl rfl, ⟨_, rfl, _, p, wl, q, _, a.sent + 1, b, rfl, E2, gd, hq2, (by omega), fun H3 x s3 n3 h3 => ⟨(by show 1 ≤ sizeLine; decide), fun l hl => ⟨(by show 2 ≤ sizeLine; decide), fun t ht => ?_⟩⟩⟩⟩
    have s4 : Same H3 (upd (upd H3 l (.lst [.ref x])) t (.tup [.int 0, .ref l])) := (same_new hl).trans (same_new ht)
    exact k _ wl t (E2.same (s3.trans s4)) (.inl rfl) (fun c o e n1 n2 => (s3.trans s4) _ _ (k2 c o e n1 n2)) (out_one h3 hl ht)
/-! ### statements whose ways meet again -/
def tVia (N : L2.St → Hp → Prop) (t : TS) : TS := fun D σ H => t { D with nx := N } σ H ∧ ∀ σ' H', N σ' H' → D.nx σ' H'
theorem ps_via {X : Cx} {st : Stmt} {t : TS} (N : L2.St → Hp → Prop) (h : PS X st t) : PS X st (tVia N t) := by
  intro pins s σ H D I hw
  refine thn (h pins s σ H { D with nx := N } I hw.1) fun fl s1 q => ?_
  cases fl with
  | next =>
    obtain ⟨σ', H', I', q⟩ := q
    exact ⟨σ', H', I', hw.2 σ' H' q⟩
  | brk => exact q
  | cont => exact q
  | ret u => exact q
/-! ### take -/
theorem MsgIn.same {H H' : Hp} {q dq ao ak pl : Addr} {x : Kgo3.Msg} (m : MsgIn K M H q x dq ao ak pl) (s : Same H H') : MsgIn K M H' q x dq ao ak pl :=
  ⟨s _ _ m.obj, Same.sqT s m.own, Same.sqT s m.known, s _ _ m.lst⟩
theorem MsgIn.kp {H H' : Hp} {p q dq ao ak pl : Addr} {x : Kgo3.Msg} {dx : Addr} {fs : List (Str × V)} (m : MsgIn K M H q x dq ao ak pl) (s : KeptP H H' p) (hp : H p = some (.ins C dx fs)) (hne : q ≠ p) : MsgIn K M H' q x dq ao ak pl :=
  ⟨s _ _ m.obj hne, s.sqT hp m.own, s.sqT hp m.known, s.lst hp m.lst⟩
theorem MsgIn.other {H : Hp} {q t dq ao ak pl : Addr} {x : Kgo3.Msg} {as : List Addr} {ys : List V} (m : MsgIn K M H q x dq ao ak pl) (ht : H t = some (.lst (as.map V.ref))) (hne : t ≠ pl) : MsgIn K M (upd H t (.lst ys)) q x dq ao ak pl :=
  ⟨(upd_ne (ne_of m.obj ht (by intro z; cases z))).trans m.obj, sqT_upd m.own ht, sqT_upd m.known ht, (upd_ne (fun e => hne e.symm)).trans m.lst⟩
/-- between the parts of take: the list of what is told stands apart from the end's own and from the message's -/
structure Mid (Z : Addr → Prop) (K : PySem.W.Frag) (C M : Addr) (H0 H : Hp) (p wl0 wl q t dq ao ak pl : Addr) (a : Kgo3.Abs) (x : Kgo3.Msg) (l : List Kgo3.Ask) : Prop where
  ie : EndAt Z K C H p a wl
  ig : Good a
  iw : wl = wl0 ∨ H0 wl = Option.none
  im : MsgIn K M H q x dq ao ak pl
  ik : KeptP H0 H p
  it : ToldAt H t l
  ine : t ≠ wl
  inp : t ≠ pl
  inq : q ≠ p
  ifr : H0 t = Option.none
section
variable {Z : Addr → Prop} {H0 H H' : Hp} {p wl0 wl wl' q t dq ao ak pl : Addr} {a a' : Kgo3.Abs} {x : Kgo3.Msg} {l : List Kgo3.Ask}
theorem Mid.same (h : Mid Z K C M H0 H p wl0 wl q t dq ao ak pl a x l) (s : Same H H') : Mid Z K C M H0 H' p wl0 wl q t dq ao ak pl a x l :=
  ⟨h.ie.same s, h.ig, h.iw, h.im.same s, h.ik.same s, h.it.same s, h.ine, h.inp, h.inq, h.ifr⟩
/-- the end has turned -/
theorem Mid.turn (h : Mid Z K C M H0 H p wl0 wl q t dq ao ak pl a x l) (E : EndAt Z K C H' p a' wl') (g : Good a') (w : wl' = wl ∨ H wl' = Option.none) (k : KeptP H H' p) : Mid Z K C M H0 H' p wl0 wl' q t dq ao ak pl a' x l := by
  obtain ⟨dx, fs, hp⟩ := h.ie.obj_at
  obtain ⟨dx', fs', hp'⟩ := E.obj_at
  obtain ⟨ps', hl'⟩ := E.lst_at
  have nwp : wl' ≠ p := ne_of hl' hp' (by intro z; cases z)
  obtain ⟨as, ht, _⟩ := h.it
  refine ⟨E, g, ?_, h.im.kp k hp h.inq, h.ik.trans k, h.it.kp k hp, ?_, h.inp, h.inq, h.ifr⟩
  · rcases w with w | w
    · rw [w]
      exact h.iw
    · exact .inr (h.ik.free nwp w)
  · rcases w with w | w
    · rw [w]
      exact h.ine
    · exact ne_of_none ht w
/-- one thing more is told -/
theorem Mid.push (h : Mid Z K C M H0 H p wl0 wl q t dq ao ak pl a x l) {b : Addr} {k : Kgo3.Ask} (hb : H b = some (.lst (vz (Kgo3Neutral.told k)))) :
    ∃ as : List Addr, H t = some (.lst (as.map V.ref)) ∧ as.length = l.length ∧ Mid Z K C M H0 (upd H t (.lst (as.map V.ref ++ [.ref b]))) p wl0 wl q t dq ao ak pl a x (l ++ [k]) := by
  obtain ⟨as, h1, h2, h3⟩ := h.it.push hb
  refine ⟨as, h1, h2, h.ie.other h.ig h1 h.ine, h.ig, h.iw, h.im.other h1 h.inp, fun c o e n => ?_, h3, h.ine, h.inp, h.inq, h.ifr⟩
  rw [upd_ne (ne_of_none e h.ifr)]
  exact h.ik c o e n
end
def spTake (K : PySem.W.Frag) (C M : Addr) : Sp := fun vs H Q _ => ∃ (Z : Addr → Prop) (p wl q : Addr) (a : Kgo3.Abs) (x : Kgo3.Msg), vs = [.ref p, .ref q] ∧ EndAt Z K C H p a wl ∧ Good a ∧ MsgAt K M H q x ∧ q ≠ p ∧ (∀ r, x.piece = some r → r.2.length ≤ 200) ∧
  ∀ (H' : Hp) (wl' t : Addr), EndAt Z K C H' p (takes a x).1 wl' → (wl' = wl ∨ H wl' = Option.none) → KeptP H H' p → ToldAt H' t (takes a x).2 → H t = Option.none → Q (.ref t) H'
theorem scTake : FnScope ["self", "message", "told"] ["self", "message"] (defScope (inClass (top 40) 7)) := ⟨rfl, rfl, rfl, by decide +kernel, rfl, by decide +kernel, by decide +kernel⟩
def upAsk (a : Kgo3.Abs) : List Kgo3.Ask := if a.up then [] else [Kgo3.Ask.up a.known.1]
theorem ok_take (F : Fun K "take" "LineEnd.take" (inClass (top 40) 7) f fd) (T : Txt K mg C M) (G1 : MFn P w K mg base C "begin" ["self", "up"] 1 (spBegin C)) (G2 : MFn P w K mg base C "acknowledge" ["self", "got"] 2 (spAck K C))
    (G3 : GFn P w K mg base "told_got" ["piece"] 1 (spTold .got)) (G4 : MFn P w K mg base C "beat_thing" ["self"] 4 (spBeatT K C)) : FnOk P w K mg base CX0 5 f fd ["self", "message"] (spTake K C M) := by
  refine F.ok scTake (fun vs H Q E h => ?_) (fun cdv A outer s H vs Q E hr h => ?_)
  · obtain ⟨Z, p, wl, q, a, x, rfl, _⟩ := h
    rfl
  · obtain ⟨Z, p, wl, q, a, x, rfl, E0, g, ⟨dq, ao, ak, pl, m⟩, nqp, hlen, k⟩ := h
    have hr1 : Room 1 _ := hr.mono (by decide)
    have hr2 : Room 2 _ := hr.mono (by decide)
    let d := acked { raised a with quiet := 0 } x.got
    refine ⟨_, pss_cons (ps_set (i := 2) scTake.nd rfl (Or.inl rfl) (pe_lst pa_nil))
      (pss_cons (ps_via (fun σ H' => ∃ t wl', σ = [some (.ref p), some (.ref q), some (.ref t)] ∧ Mid Z K C M H H' p wl wl' q t dq ao ak pl (raised a) x (upAsk a))
        (ps_if (pt_not (pt_val (pe_fld (pv 0) rfl)))
          (pss_cons (ps_expr (pe_m (pv 0) T.clE G1 hr1 (pa_cons pe_bl pa_nil)))
          (pss_one (ps_expr (pe_bm PySem.F.plainAttrs_list PySem.F.slot_list_append PySem.F.type_list_append mt_append (pv 2) (pa_cons (pe_lst (pa_cons (pe_cst T.tUp rfl) (pa_cons (pe_ix ix_tup (pe_fld (pv 0) rfl) pe_int (fun _ _ => rfl)) pa_nil))) pa_nil))))) pss_nil))
      (pss_cons (ps_fld (pv 0) pe_int rfl)
      (pss_cons (ps_expr (pe_m (pv 0) T.clE G2 hr2 (pa_cons (pe_fld (pv 1) rfl) pa_nil)))
      (pss_cons (ps_via (fun σ H' => ∃ t wl', σ = [some (.ref p), some (.ref q), some (.ref t)] ∧ Mid Z K C M H H' p wl wl' q t dq ao ak pl (takes a x).1 x (takes a x).2)
        (ps_if (pt_cmpR op_eq (pe_fld (pv 1) rfl) (pe_cst T.piece rfl) (nomark _))
          (pss_cons (ps_via (fun σ H' => ∃ t wl', σ = [some (.ref p), some (.ref q), some (.ref t)] ∧ Mid Z K C M H H' p wl wl' q t dq ao ak pl (takes a x).1 x (upAsk a ++ if numOf x = d.got + 1 then [.got (bytesOf x)] else []))
            (ps_if (pt_cmpR op_eq (pe_fld (pv 1) rfl) (pe_op op_add (pe_fld (pv 0) rfl) pe_int) (nomark _))
              (pss_cons (ps_fldaug (pv 0) pe_int in_add)
              (pss_one (ps_expr (pe_bm PySem.F.plainAttrs_list PySem.F.slot_list_append PySem.F.type_list_append mt_append (pv 2) (pa_cons (pe_g G3 hr1 rfl (pa_cons (pe_fld (pv 1) rfl) pa_nil)) pa_nil))))) pss_nil))
          (pss_one (ps_expr (pe_bm PySem.F.plainAttrs_list PySem.F.slot_list_append PySem.F.type_list_append mt_append (pv 2) (pa_cons (pe_mm (pv 0) T.clE G4 hr) pa_nil))))) pss_nil))
      (pss_one (ps_ret (pv 2))))))), ?_⟩
    have few : ∀ l : List Kgo3.Ask, l.length ≤ 10 → ∀ as : List Addr, as.length = l.length → (as.map V.ref).length < sizeLine := fun l hl as e => by
      rw [List.length_map, e]
      exact Nat.lt_of_le_of_lt hl (by decide)
    have uple : (upAsk a).length ≤ 1 := by
      unfold upAsk
      split
      · exact Nat.zero_le _
      · exact Nat.le_refl _
    refine ⟨(by show 0 ≤ sizeLine; decide), fun t ht => ?_⟩
    have s1 : Same H (upd H t (.lst [])) := same_new ht
    obtain ⟨ps0, hwl0⟩ := E0.lst_at
    have m1 : Mid Z K C M H (upd H t (.lst [])) p wl wl q t dq ao ak pl a x [] := ⟨E0.same s1, g, .inl rfl, m.same s1, Same.kp p s1, ToldAt.nil upd_same, (ne_of_none hwl0 ht).symm, (ne_of_none m.lst ht).symm, nqp, ht⟩
    generalize (upd H t (.lst [])) = H1 at m1
    obtain ⟨dx, kn, ps, I⟩ := m1.ie
    refine ⟨?_, ?_⟩
    · refine ⟨_, rfl, _, _, _, _, _, rfl, I.obj, T.clE, T.naE 5 _ rfl, fldE (i := 5) rfl rfl, ⟨_, rfl, ?_⟩⟩
      refine ite2 (fun h => ?_) (fun h => ?_)
      · have hu : a.up = false := by simpa using h
        refine ⟨_, rfl, p, dx, _, rfl, I.obj, lookup_zip_none (by decide +kernel), p, dx, _, _, _, _, _, _, true, rfl, I.obj, fun H2 l h1 h2 h3 k2 => ?_⟩
        have er : raised a = { a with up := true, sent := 0, waiting := [], got := 0, quiet := 0 } := by
          unfold raised
          rw [hu]
          rfl
        have I2 : EndIn Z K C H2 p (raised a) l dx kn [] := by
          rw [er]
          exact ⟨h1, k2.sqT I.obj I.known, h2, Pieces.nil _, fun q hq => (nomatch hq)⟩
        have gr : Good (raised a) := by
          rw [er]
          exact ⟨Nat.le_refl _, by show 0 ≤ 32; decide, by show 0 ≤ 15; decide, fun z => (nomatch z), fun _ z => (nomatch z)⟩
        have m2 := m1.turn ⟨dx, kn, [], I2⟩ gr (.inr h3) k2
        have kn1 : (raised a).known = a.known := by rw [er]
        have I2k := I2.known
        rw [kn1] at I2k
        obtain ⟨as2, ht2, _⟩ := m2.it
        refine ⟨_, rfl, .inl ⟨rfl, _, SqL.of ht2⟩, _, rfl, _, _, _, _, _, rfl, I2.obj, T.clE, T.naE 4 _ rfl, fldE (i := 4) rfl rfl, ⟨kn, _, _, _, rfl, rfl, I2k, at_of (j := 0) rfl rfl, (by show 2 ≤ sizeLine; decide), fun u hu' => ?_⟩⟩
        have m3 := m2.same (same_new (o := .lst [.int 1, .int (a.known.1 : Nat)]) hu')
        obtain ⟨as, h4, h5, m4⟩ := m3.push (b := u) (k := .up a.known.1) upd_same
        refine ⟨t, _, _, rfl, rfl, h4, few [] (by decide) as h5, t, l, rfl, ?_⟩
        have eu : upAsk a = [] ++ [Kgo3.Ask.up a.known.1] := by
          unfold upAsk
          rw [hu]
          rfl
        rw [eu]
        exact m4
      · have hu : a.up = true := by
          cases hc : a.up with
          | true => rfl
          | false =>
            rw [hc] at h
            exact absurd rfl h
        have er : raised a = a := by
          unfold raised
          rw [if_pos hu]
        have eu : upAsk a = [] := by
          unfold upAsk
          rw [if_pos hu]
        exact ⟨t, wl, rfl, by rw [er, eu]; exact m1⟩
    · rintro σ' H2 ⟨t, wl2, rfl, m2⟩
      clear I ps kn dx m1 s1 ht
      obtain ⟨dx, kn, ps, I⟩ := m2.ie
      -- self.quiet = 0
      refine ⟨_, rfl, wrE 9 T rfl I.obj (by show 9 ≤ 10; decide) (ws := lvs { raised a with quiet := 0 } kn wl2) rfl ?_⟩
      have m3 := m2.turn (a' := { raised a with quiet := 0 }) ⟨dx, kn, ps, I.put (a' := { raised a with quiet := 0 }) rfl rfl⟩ (good_raised g) (.inl rfl) ((KeptP.refl H2 p).upd)
      generalize (upd H2 p (.ins C dx (leF (lvs { raised a with quiet := 0 } kn wl2)))) = H3 at m3
      clear I ps kn dx
      obtain ⟨dx, kn, ps, I⟩ := m3.ie
      -- self.acknowledge(message.got)
      refine ⟨_, rfl, p, dx, _, rfl, I.obj, lookup_zip_none (by decide +kernel), _, rfl, _, _, _, _, _, rfl, m3.im.obj, T.clM, T.naM 3 _ rfl, fldM (i := 3) rfl rfl, ⟨_, p, wl2, _, x.got, rfl, m3.ie, m3.ig, fun H4 wl4 E4 w4 k4 => ?_⟩⟩
      have m4 := m3.turn E4 (good_acked x.got (good_raised g)) w4 k4
      have ed : acked { raised a with quiet := 0 } x.got = d := rfl
      rw [ed] at m4
      clear I ps kn dx E4
      obtain ⟨dx, kn, ps, I⟩ := m4.ie
      refine ⟨?_, ?_⟩
      · refine ⟨_, rfl, _, _, _, _, _, rfl, m4.im.obj, T.clM, T.naM 0 _ rfl, fldM (i := 0) rfl rfl, ⟨rfl, _, rfl, ?_⟩⟩
        have ek : decide (V.int (kindOf x : Nat) = V.int 2) = x.piece.isSome := by
          unfold kindOf
          cases x.piece <;> rfl
        rw [ek]
        cases hp : x.piece with
        | none =>
          have et : takes a x = (d, upAsk a) := by
            unfold takes
            rw [hp]
            rfl
          exact iteF ⟨t, wl4, rfl, by rw [et]; exact m4⟩
        | some r =>
          have en : numOf x = r.1 := by
            unfold numOf
            rw [hp]
          have eb : bytesOf x = r.2 := by
            unfold bytesOf
            rw [hp]
          refine iteT ⟨?_, ?_⟩
          · refine ⟨_, rfl, _, _, _, _, _, rfl, m4.im.obj, T.clM, T.naM 4 _ rfl, fldM (i := 4) rfl rfl, ⟨_, rfl, _, _, _, _, _, rfl, I.obj, T.clE, T.naE 8 _ rfl, fldE (i := 8) rfl rfl, ⟨_, _, rfl, rfl, rfl, _, rfl, ?_⟩⟩⟩
            have eq : decide (V.int (numOf x : Nat) = V.int ((d.got : Nat) + 1)) = decide (numOf x = d.got + 1) := decI (j := d.got + 1)
            rw [eq]
            refine ite2 (fun h => ?_) (fun h => ?_)
            · have h1 : numOf x = d.got + 1 := of_decide_eq_true h
              have et : (takes a x).1 = { d with got := d.got + 1 } := by
                unfold takes
                rw [hp]
                dsimp only
                rw [if_pos (by rw [← en]; exact h1)]
              refine ⟨_, rfl, p, C, dx, _, _, rfl, I.obj, T.clE, T.naE 8 _ rfl, fldE (i := 8) rfl rfl, _, _, rfl, rfl, dx, _, I.obj, leF_len _, ?_⟩
              rw [putE (i := 8) (ws := lvs { d with got := d.got + 1 } kn wl4) (.int ((d.got : Nat) + 1)) rfl (by show 8 ≤ 10; decide) rfl]
              have m5 := m4.turn (a' := { d with got := d.got + 1 }) ⟨dx, kn, ps, I.put (a' := { d with got := d.got + 1 }) rfl rfl⟩ (by have := good_takes x g; rw [et] at this; exact this) (.inl rfl) ((KeptP.refl H4 p).upd)
              generalize (upd H4 p (.ins C dx (leF (lvs { d with got := d.got + 1 } kn wl4)))) = H5 at m5
              obtain ⟨as5, ht5, _⟩ := m5.it
              refine ⟨_, rfl, .inl ⟨rfl, _, SqL.of ht5⟩, _, rfl, _, _, _, _, _, rfl, m5.im.obj, T.clM, T.naM 5 _ rfl, fldM (i := 5) rfl rfl, ⟨pl, _, rfl, m5.im.lst, (by rw [eb]; have := hlen r hp; omega), fun H6 u s6 n6 h6 => ?_⟩⟩
              obtain ⟨as, h7, h8, m7⟩ := (m5.same s6).push (k := .got (bytesOf x)) h6
              refine ⟨t, _, _, rfl, rfl, h7, few (upAsk a) (by omega) as h8, t, wl4, rfl, ?_⟩
              rw [if_pos h1, et]
              exact m7
            · have h1 : ¬ numOf x = d.got + 1 := fun z => h (decide_eq_true z)
              have et : (takes a x).1 = d := by
                unfold takes
                rw [hp]
                dsimp only
                rw [if_neg (by rw [← en]; exact h1)]
              refine ⟨t, wl4, rfl, ?_⟩
              rw [if_neg h1, et, List.append_nil]
              exact m4
          · rintro σ' H5 ⟨t, wl5, rfl, m5⟩
            obtain ⟨dx5, kn5, ps5, I5⟩ := m5.ie
            obtain ⟨as5, ht5, _⟩ := m5.it
            refine ⟨_, rfl, .inl ⟨rfl, _, SqL.of ht5⟩, _, rfl, p, dx5, _, rfl, I5.obj, lookup_zip_none (by decide +kernel), _, p, wl5, _, rfl, m5.ie, m5.ig, fun H6 u s6 n6 h6 => ?_⟩
            obtain ⟨as, h7, h8, m7⟩ := (m5.same s6).push (k := Kgo3.beat (takes a x).1) h6
            refine ⟨t, _, _, rfl, rfl, h7, few _ (by
              rw [List.length_append]
              have : (if numOf x = d.got + 1 then [Kgo3.Ask.got (bytesOf x)] else []).length ≤ 1 := by split <;> simp
              omega) as h8, t, wl5, rfl, ?_⟩
            have et : (takes a x).2 = (upAsk a ++ if numOf x = d.got + 1 then [Kgo3.Ask.got (bytesOf x)] else []) ++ [Kgo3.beat (takes a x).1] := by
              unfold takes
              rw [hp]
              dsimp only
              by_cases h1 : numOf x = d.got + 1
              · rw [if_pos (show r.1 = (acked { raised a with quiet := 0 } x.got).got + 1 by rw [← en]; exact h1), if_pos h1, eb, List.append_assoc]
                rfl
              · rw [if_neg (show ¬ r.1 = (acked { raised a with quiet := 0 } x.got).got + 1 by rw [← en]; exact h1), if_neg h1, List.append_nil]
                rfl
            rw [et]
            exact m7
      · rintro σ' H5 ⟨t, wl5, rfl, m5⟩
        exact ⟨_, rfl, k H5 wl5 t m5.ie m5.iw m5.ik m5.it m5.ifr⟩
end
end Nl

set_option Elab.async false
set_option linter.all false
set_option maxRecDepth 100000
set_option maxHeartbeats 4000000
namespace Nl
open PySem PySem.Spec PyProof.Rows L2
section
variable {P : Program} {w : World} {K : PySem.W.Frag} {mg : Str → Option Value} {base : Heap} {C M : Addr} {f : Addr} {fd : FuncData}
/-! ### pairs compared -/
theorem lex_newer (x y : Nat × Nat) : HT.lexLt [(x.1 : Int), (x.2 : Int)] [(y.1 : Int), (y.2 : Int)] = Kgo3.newer y x := by
  unfold Kgo3.newer
  rw [HT.lexLt_cons]
  by_cases h : x.1 = y.1
  · rw [if_pos (by rw [h])]
    rw [HT.lexLt_cons]
    have a1 : ¬ x.1 < y.1 := by omega
    have a2 : (y.1 == x.1) = true := by simp [h]
    rw [decide_eq_false a1, a2]
    by_cases h2 : x.2 = y.2
    · rw [if_pos (by rw [h2]), HT.lexLt_nil_nil, decide_eq_false (by omega)]
      rfl
    · rw [if_neg (by omega)]
      by_cases h3 : x.2 < y.2
      · rw [decide_eq_true h3, decide_eq_true (by omega)]
        rfl
      · rw [decide_eq_false h3, decide_eq_false (by omega)]
        rfl
  · rw [if_neg (by omega)]
    have a2 : (y.1 == x.1) = false := by simp; omega
    rw [a2]
    by_cases h3 : x.1 < y.1
    · rw [decide_eq_true h3, decide_eq_true (by omega)]
      rfl
    · rw [decide_eq_false h3, decide_eq_false (by omega)]
      rfl
theorem pair_eqv (x y : Nat × Nat) : PyData.eqv (.tuple [.int (x.1 : Int), .int (x.2 : Int)]) (.tuple [.int (y.1 : Int), .int (y.2 : Int)]) = decide (x = y) := by
  show ((x.1 : Int) == (y.1 : Int) && ((x.2 : Int) == (y.2 : Int) && true)) = decide (x = y)
  by_cases h : x = y
  · rw [h, decide_eq_true rfl]
    simp
  · rw [decide_eq_false h]
    by_cases h1 : x.1 = y.1
    · have h2 : ¬ x.2 = y.2 := fun e => h (Prod.ext h1 e)
      have e2 : ((x.2 : Int) == (y.2 : Int)) = false := by
        simp
        omega
      rw [e2]
      simp
    · have e1 : ((x.1 : Int) == (y.1 : Int)) = false := by
        simp
        omega
      rw [e1]
      rfl
theorem dp_pair {H : Hp} {a : Addr} {x : Nat × Nat} (h : SqT K H a [.int (x.1 : Nat), .int (x.2 : Nat)]) : Dp K H (.ref a) (.tuple [.int (x.1 : Int), .int (x.2 : Int)]) := .tup h (.cons (.int _) (.cons (.int _) .nil))
/-! ### heard -/
def spHeard (K : PySem.W.Frag) (C : Addr) : Sp := fun vs H Q _ => ∃ (Z : Addr → Prop) (p wl q : Addr) (a : Kgo3.Abs) (b : List Nat), vs = [.ref p, .ref q] ∧ EndAt Z K C H p a wl ∧ Good a ∧ H q = some (.lst (vn b)) ∧ Bytes8 b ∧
  ∀ (H' : Hp) (wl' t : Addr), EndAt Z K C H' p (doHeard a b).2.2 wl' → (wl' = wl ∨ H wl' = Option.none) → Kept H H' p wl → OutAt K H' t (doHeard a b).1 (doHeard a b).2.1 → Q (.ref t) H'
theorem scHeard : FnScope ["self", "numbers", "message", "told"] ["self", "numbers"] (defScope (inClass (top 40) 4)) := ⟨rfl, rfl, rfl, by decide +kernel, rfl, by decide +kernel, by decide +kernel⟩
def downAsk (a : Kgo3.Abs) (x : Kgo3.Msg) : List Kgo3.Ask := if Kgo3.newer x.mine a.known && a.up then [Kgo3.Ask.down] else []
/-- the tuple of a number and the list told, just made -/
theorem out_of {H : Hp} {l t : Addr} {v : Int} {q : List Kgo3.Ask} (h : ToldAt H l q) (ht : H t = Option.none) : OutAt K (upd H t (.tup [.int v, .ref l])) t v q :=
  ⟨l, SqT.of upd_same, h.same (same_new ht)⟩
theorem ok_heard (F : Fun K "heard" "LineEnd.heard" (inClass (top 40) 4) f fd) (T : Txt K mg C M) (G1 : GFn P w K mg base "read_message" ["numbers", "sender", "receiver"] 3 (spRead K M)) (G2 : MFn P w K mg base C "cut" ["self"] 2 (spCut K C))
    (G3 : MFn P w K mg base C "own_pair" ["self"] 1 (spOwn K C)) (G4 : MFn P w K mg base C "take" ["self", "message"] 5 (spTake K C M)) : FnOk P w K mg base CX0 6 f fd ["self", "numbers"] (spHeard K C) := by
  refine F.ok scHeard (fun vs H Q E h => ?_) (fun cdv A outer s H vs Q E hr h => ?_)
  · obtain ⟨Z, p, wl, q, a, b, rfl, _⟩ := h
    rfl
  · obtain ⟨Z, p, wl, qb, a, b, rfl, E0, g, hq, h8, k⟩ := h
    have hr1 : Room 1 _ := hr.mono (by decide)
    have hr2 : Room 2 _ := hr.mono (by decide)
    have hr3 : Room 3 _ := hr.mono (by decide)
    have hu0 := hr.units0
    have hu64 := hr.units
    refine ⟨_, pss_cons (ps_set (i := 2) scHeard.nd rfl (Or.inl rfl) (pe_g G1 hr3 rfl (pa_cons (pv 1) (pa_cons (pe_fld (pv 0) rfl) (pa_cons (pe_fld (pv 0) rfl) pa_nil)))))
      (pss_cons (ps_if (pt_cmp (pc_isN (pv 2))) (pss_one (ps_ret (pe_tup (pa_cons (pe_cst T.notRight rfl) (pa_cons (pe_lst pa_nil) pa_nil))))) pss_nil)
      (pss_cons (ps_if (pt_cmpR (op_ltT hu0) (pe_fld (pv 2) rfl) (pe_fld (pv 0) rfl) (nomark _)) (pss_one (ps_ret (pe_tup (pa_cons (pe_cst T.done rfl) (pa_cons (pe_lst pa_nil) pa_nil))))) pss_nil)
      (pss_cons (ps_set (i := 3) scHeard.nd rfl (Or.inl rfl) (pe_lst pa_nil))
      (pss_cons (ps_via (fun σ H' => ∃ x q t wl' dq ao ak pl, readFor b a.other a.me = some x ∧ Kgo3.newer a.known x.mine = false ∧ σ = [some (.ref p), some (.ref qb), some (.ref q), some (.ref t)] ∧ Mid Z K C M H H' p wl wl' q t dq ao ak pl (meets a x) x (downAsk a x))
        (ps_if (pt_cmpR (op_gtT hu0) (pe_fld (pv 2) rfl) (pe_fld (pv 0) rfl) (nomark _))
          (pss_cons (ps_via (fun σ H' => ∃ x q t wl' dq ao ak pl, readFor b a.other a.me = some x ∧ Kgo3.newer a.known x.mine = false ∧ Kgo3.newer x.mine a.known = true ∧ σ = [some (.ref p), some (.ref qb), some (.ref q), some (.ref t)] ∧ Mid Z K C M H H' p wl wl' q t dq ao ak pl (if a.up then Kgo3.cut a else a) x (downAsk a x))
            (ps_if (pt_val (pe_fld (pv 0) rfl)) (pss_one (ps_expr (pe_bm PySem.F.plainAttrs_list PySem.F.slot_list_append PySem.F.type_list_append mt_append (pv 3) (pa_cons (pe_mm (pv 0) T.clE G2 hr2) pa_nil)))) pss_nil))
          (pss_one (ps_fld (pv 0) (pe_fld (pv 2) rfl) rfl))) pss_nil))
      (pss_cons (ps_via (fun σ H' => ∃ x q t wl', readFor b a.other a.me = some x ∧ σ = [some (.ref p), some (.ref qb), some (.ref q), some (.ref t)] ∧ EndAt Z K C H' p (Kgo3.hears a x).1 wl' ∧ (wl' = wl ∨ H wl' = Option.none) ∧ KeptP H H' p ∧ ToldAt H' t (Kgo3.hears a x).2)
        (ps_if (pt_cmpR (op_eqD hu64) (pe_fld (pv 2) rfl) (pe_mm (pv 0) T.clE G3 hr1) (nomark _))
          (pss_one (ps_expr (pe_bm PySem.F.plainAttrs_list PySem.F.slot_list_extend PySem.F.type_list_extend mt_extend (pv 3) (pa_cons (pe_m (pv 0) T.clE G4 hr (pa_cons (pv 2) pa_nil)) pa_nil)))) pss_nil))
      (pss_one (ps_ret (pe_tup (pa_cons (pe_cst T.done rfl) (pa_cons (pv 3) pa_nil)))))))))), ?_⟩
    obtain ⟨dx, kn, ps, I⟩ := E0
    have E0 : EndAt Z K C H p a wl := ⟨dx, kn, ps, I⟩
    have few : ∀ n, n ≤ 10 → n < sizeLine := fun n h => Nat.lt_of_le_of_lt h (by decide)
    -- message = read_message(numbers, self.other, self.me)
    refine ⟨_, rfl, _, rfl, _, _, _, _, _, rfl, I.obj, T.clE, T.naE 1 _ rfl, fldE (i := 1) rfl rfl, ⟨_, rfl, _, _, _, _, _, rfl, I.obj, T.clE, T.naE 0 _ rfl, fldE (i := 0) rfl rfl, ⟨qb, b, a.other, a.me, rfl, SqL.of hq, h8, ?_, ?_⟩⟩⟩
    · intro hn H1 s1
      have ed : doHeard a b = (-71, [], a) := by
        unfold doHeard
        rw [hn]
      rw [ed] at k
      refine ⟨_, rfl, _, rfl, iteT ⟨(by show 0 ≤ sizeLine; decide), fun l hl => ⟨(by show 2 ≤ sizeLine; decide), fun t ht => ?_⟩⟩⟩
      have s2 : Same H (upd (upd H1 l (.lst [])) t (.tup [.int (-71), .ref l])) := s1.trans ((same_new hl).trans (same_new ht))
      exact k _ wl t (E0.same s2) (.inl rfl) (Same.kp p s2).kept (out_nil hl ht)
    · intro x hx H1 q s1 nq1 m0
      have nqp : q ≠ p := (ne_of_none I.obj nq1).symm
      have ed : doHeard a b = (0, (Kgo3.hears a x).2, (Kgo3.hears a x).1) := by
        unfold doHeard
        rw [hx]
      rw [ed] at k
      obtain ⟨dq, ao, ak, pl, m⟩ := m0
      have I1 := I.same s1
      refine ⟨_, rfl, _, rfl, iteF ?_⟩
      -- if message.own < self.known
      refine ⟨_, rfl, _, _, _, _, _, rfl, m.obj, T.clM, T.naM 1 _ rfl, fldM (i := 1) rfl rfl, ⟨_, rfl, _, _, _, _, _, rfl, I1.obj, T.clE, T.naE 4 _ rfl, fldE (i := 4) rfl rfl, ⟨ao, kn, [(x.mine.1 : Int), (x.mine.2 : Int)], [(a.known.1 : Int), (a.known.2 : Int)], rfl, rfl, m.own, I1.known, _, rfl, ?_⟩⟩⟩
      rw [lex_newer]
      refine ite2 (fun h => ?_) (fun h => ?_)
      · have eh : Kgo3.hears a x = (a, []) := by
          rw [hears_eq, if_pos h]
        rw [eh] at k
        refine ⟨(by show 0 ≤ sizeLine; decide), fun l hl => ⟨(by show 2 ≤ sizeLine; decide), fun t ht => ?_⟩⟩
        have s2 : Same H (upd (upd H1 l (.lst [])) t (.tup [.int 0, .ref l])) := s1.trans ((same_new hl).trans (same_new ht))
        exact k _ wl t (E0.same s2) (.inl rfl) (Same.kp p s2).kept (out_nil hl ht)
      have hold : Kgo3.newer a.known x.mine = false := by simpa using h
      -- told = []
      refine ⟨(by show 0 ≤ sizeLine; decide), fun t ht => ?_⟩
      have s2 : Same H (upd H1 t (.lst [])) := s1.trans (same_new ht)
      have m1 : Mid Z K C M H (upd H1 t (.lst [])) p wl wl q t dq ao ak pl a x [] := ⟨E0.same s2, g, .inl rfl, m.same (same_new ht), Same.kp p s2, ToldAt.nil upd_same, (ne_of_none I1.lst ht).symm, (ne_of_none m.lst ht).symm, nqp, s1.free ht⟩
      generalize (upd H1 t (.lst [])) = H2 at m1
      clear s2 ht I1 I dx kn ps
      obtain ⟨dx, kn, ps, I⟩ := m1.ie
      refine ⟨?_, ?_⟩
      · -- if message.own > self.known
        refine ⟨_, rfl, _, _, _, _, _, rfl, m1.im.obj, T.clM, T.naM 1 _ rfl, fldM (i := 1) rfl rfl, ⟨_, rfl, _, _, _, _, _, rfl, I.obj, T.clE, T.naE 4 _ rfl, fldE (i := 4) rfl rfl, ⟨ao, kn, [(x.mine.1 : Int), (x.mine.2 : Int)], [(a.known.1 : Int), (a.known.2 : Int)], rfl, rfl, m1.im.own, I.known, _, rfl, ?_⟩⟩⟩
        rw [lex_newer]
        refine ite2 (fun h => ?_) (fun h => ?_)
        · refine ⟨?_, ?_⟩
          · refine ⟨_, rfl, _, _, _, _, _, rfl, I.obj, T.clE, T.naE 5 _ rfl, fldE (i := 5) rfl rfl, ⟨_, rfl, ?_⟩⟩
            refine ite2 (fun hu => ?_) (fun hu => ?_)
            · obtain ⟨as, hts, _⟩ := m1.it
              refine ⟨_, rfl, .inl ⟨rfl, _, SqL.of hts⟩, _, rfl, p, dx, _, rfl, I.obj, lookup_zip_none (by decide +kernel), _, p, wl, a, rfl, m1.ie, fun H3 wl3 u E3 n3 k3 hu3 nu3 => ?_⟩
              have m3 := m1.turn E3 (good_cut a) (.inr n3) k3
              obtain ⟨as3, h4, h5, m4⟩ := m3.push (k := .down) hu3
              refine ⟨t, _, _, rfl, rfl, h4, (by rw [List.length_map, h5]; exact few _ (by decide)), x, q, t, wl3, dq, ao, ak, pl, hx, hold, h, rfl, ?_⟩
              have e1 : downAsk a x = [] ++ [Kgo3.Ask.down] := by
                unfold downAsk
                rw [h, hu]
                rfl
              rw [if_pos hu, e1]
              exact m4
            · have e1 : downAsk a x = [] := by
                unfold downAsk
                rw [if_neg (by rw [Bool.and_eq_true]; exact fun z => hu z.2)]
              exact ⟨x, q, t, wl, dq, ao, ak, pl, hx, hold, h, rfl, by rw [if_neg hu, e1]; exact m1⟩
          · rintro σ' H3 ⟨x', q', t', wl3, dq', ao', ak', pl', hx', hold', hnew, rfl, m3⟩
            clear I dx kn ps
            obtain ⟨dx, kn, ps, I⟩ := m3.ie
            refine ⟨_, rfl, _, _, _, _, _, rfl, m3.im.obj, T.clM, T.naM 1 _ rfl, fldM (i := 1) rfl rfl, ⟨_, rfl, ?_⟩⟩
            have em : meets a x' = { (if a.up then Kgo3.cut a else a) with known := x'.mine } := by
              unfold meets
              rw [if_pos hnew]
            refine wrE 4 T rfl I.obj (by show 4 ≤ 10; decide) (ws := lvs (meets a x') ao' wl3) (by rw [em]; rfl) ?_
            refine ⟨x', q', t', wl3, dq', ao', ak', pl', hx', hold', rfl, ?_⟩
            have kp : KeptP H3 (upd H3 p (.ins C dx (leF (lvs (meets a x') ao' wl3)))) p := (KeptP.refl H3 p).upd
            refine m3.turn ⟨dx, ao', ps, upd_same, ?_, kp.lst I.obj I.lst, ?_, I.av⟩ (good_meets x' g) (.inl rfl) kp
            · rw [meets_known hold']
              exact kp.sqT I.obj m3.im.own
            · have ew : (meets a x').waiting = (if a.up then Kgo3.cut a else a).waiting := by rw [em]
              rw [ew]
              exact I.each.mono fun q b _ _ hq => kp.lst I.obj hq
        · have hn : Kgo3.newer x.mine a.known = false := by simpa using h
          have em : meets a x = a := by
            unfold meets
            rw [if_neg h]
          have e1 : downAsk a x = [] := by
            unfold downAsk
            rw [hn]
            rfl
          exact ⟨x, q, t, wl, dq, ao, ak, pl, hx, hold, rfl, by rw [em, e1]; exact m1⟩
      · rintro σ' H3 ⟨x', q', t', wl3, dq', ao', ak', pl', hx', hold', rfl, m3⟩
        have exx : x' = x := by
          rw [hx] at hx'
          exact (Option.some.inj hx').symm
        subst exx
        clear I dx kn ps m1
        obtain ⟨dx, kn, ps, I⟩ := m3.ie
        refine ⟨?_, ?_⟩
        · -- if message.known == self.own_pair()
          refine ⟨_, rfl, _, _, _, _, _, rfl, m3.im.obj, T.clM, T.naM 2 _ rfl, fldM (i := 2) rfl rfl, ⟨_, rfl, p, dx, _, rfl, I.obj, lookup_zip_none (by decide +kernel), _, p, wl3, _, rfl, m3.ie, fun H4 u s4 n4 h4 => ?_⟩⟩
          have m4 := m3.same s4
          refine ⟨_, _, dp_pair m4.im.known, dp_pair (x := ((meets a x').life, (meets a x').session)) (SqT.of h4), rfl, rfl, _, rfl, ?_⟩
          rw [pair_eqv]
          refine ite2 (fun h => ?_) (fun h => ?_)
          · have h1 : x'.yours = ((meets a x').life, (meets a x').session) := of_decide_eq_true h
            have eh : Kgo3.hears a x' = ((takes (meets a x') x').1, downAsk a x' ++ (takes (meets a x') x').2) := by
              rw [hears_eq, if_neg (by rw [hold']; decide), if_neg (fun z => z h1)]
              rfl
            obtain ⟨as, hts, _⟩ := m4.it
            have I4 := I.same s4
            refine ⟨_, rfl, .inl ⟨rfl, _, SqL.of hts⟩, _, rfl, p, dx, _, rfl, I4.obj, lookup_zip_none (by decide +kernel), _, rfl, _, p, wl3, q', _, x', rfl, m4.ie, m4.ig, ⟨dq', ao', ak', pl', m4.im⟩, m4.inq, readFor_piece hx, fun H5 wl5 u5 E5 w5 k5 t5 n5 => ?_⟩
            have m5 := m4.turn E5 (good_takes x' (good_meets x' g)) w5 k5
            obtain ⟨as5, bs5, h6, h7, h8', h9, t6⟩ := m5.it.cat t5
            refine ⟨t', u5, _, _, rfl, rfl, h6, h7, ?_, x', q', t', wl5, hx, rfl, ?_, m5.iw, ?_, ?_⟩
            · rw [List.length_map, List.length_map, h8', h9]
              have : (downAsk a x').length ≤ 1 := by
                unfold downAsk
                split <;> simp
              have : (takes (meets a x') x').2.length ≤ 10 := by
                unfold takes
                dsimp only
                cases x'.piece with
                | none =>
                  show (if (meets a x').up then [] else [Kgo3.Ask.up (meets a x').known.1]).length ≤ 10
                  split <;> simp
                | some r =>
                  have l1 : (if (meets a x').up then [] else [Kgo3.Ask.up (meets a x').known.1]).length ≤ 1 := by split <;> simp
                  dsimp only
                  split
                  · rw [List.length_append]
                    show _ + 2 ≤ 10
                    omega
                  · rw [List.length_append]
                    show _ + 1 ≤ 10
                    omega
              exact small (by omega)
            · rw [eh]
              exact m5.ie.other m5.ig h6 m5.ine
            · intro c o e n
              rw [upd_ne (ne_of_none e m5.ifr)]
              exact m5.ik c o e n
            · rw [eh]
              exact t6
          · have h1 : ¬ x'.yours = ((meets a x').life, (meets a x').session) := fun z => h (decide_eq_true z)
            have eh : Kgo3.hears a x' = (meets a x', downAsk a x') := by
              rw [hears_eq, if_neg (by rw [hold']; decide), if_pos h1]
              rfl
            exact ⟨x', q', t', wl3, hx, rfl, by rw [eh]; exact m4.ie, m4.iw, m4.ik, by rw [eh]; exact m4.it⟩
        · rintro σ' H4 ⟨x'', q'', t'', wl4, hx'', rfl, E4, w4, k4, t4⟩
          have exx : x'' = x' := by
            rw [hx] at hx''
            exact (Option.some.inj hx'').symm
          subst exx
          refine ⟨_, rfl, (by show 2 ≤ sizeLine; decide), fun t ht => ?_⟩
          exact k _ wl4 t (E4.same (same_new ht)) w4 (k4.same (same_new ht)).kept (out_of t4 ht)
end
end Nl

set_option Elab.async false
set_option linter.all false
set_option maxRecDepth 100000
set_option maxHeartbeats 4000000
namespace Nl
open PySem PySem.Spec PyProof.Rows L2
section
variable {P : Program} {w : World} {K : PySem.W.Frag} {mg : Str → Option Value} {base : Heap} {C M : Addr} {f : Addr} {fd : FuncData}
/-- a comprehension over enumerate of a list that the block leaves as it is -/
theorem lc_enum {a : Addr} {xs : List V} {g : TG} {tt : TT} {te : TE} {vs : List Nat} {σ : L2.St} {H1 : Hp} {D : Addr} {Qd : Hp → Prop} (Pv : Nat → Hp → Prop) (h0 : Pv 0 (upd H1 D (.lst []))) (hl : ∀ i H, i ≤ xs.length → Pv i H → SqL K H a xs)
    (hs : ∀ (i : Nat) (x : V) (H : Hp) (U : Addr), xs[i]? = some x → Pv i H → H U = Option.none → g (.ref U) (wipe σ vs) (upd H U (.tup [.int (i : Nat), x])) fun σ2 H2 => wipe σ2 vs = wipe σ vs ∧ tt σ2 H2 fun b H3 =>
      if b = true then te σ2 H3 fun y H4 => ∃ acc, H4 D = some (.lst acc) ∧ acc.length < sizeLine ∧ Pv (i + 1) (upd H4 D (.lst (acc ++ [y]))) else Pv (i + 1) H3) (hd : ∀ H, Pv xs.length H → Qd H) :
    ∃ W : Nat → Nat → Hp → Prop, (∃ m, W 0 m (upd H1 D (.lst []))) ∧ ∀ i m H, W i m H →
      ((Ite K a).stop i H ∧ Qd H) ∨ ((Ite K a).go i H ∧ ∃ Nx : Hp → Prop, (∀ H', Nx H' → ∃ m', m' < m ∧ W (i + 1) m' H') ∧ ∀ x H', (Ite K a).yld i H x H' → g x (wipe σ vs) H' fun σ2 H2 => wipe σ2 vs = wipe σ vs ∧ tt σ2 H2 fun b H3 =>
        if b = true then te σ2 H3 fun y H4 => ∃ acc, H4 D = some (.lst acc) ∧ acc.length < sizeLine ∧ Nx (upd H4 D (.lst (acc ++ [y]))) else Nx H3) := by
  refine ⟨fun i m H => m = xs.length - i ∧ i ≤ xs.length ∧ Pv i H, ⟨xs.length, by simp, Nat.zero_le _, h0⟩, ?_⟩
  rintro i m H ⟨rfl, hi, p⟩
  have q := hl i H hi p
  by_cases hlt : i < xs.length
  · refine .inr ⟨⟨xs, xs[i], q, by simp [hlt]⟩, Pv (i + 1), fun H' p' => ⟨xs.length - (i + 1), by omega, rfl, hlt, p'⟩, fun x H' y => ?_⟩
    obtain ⟨U, z, rfl, hU, rfl, y⟩ := y
    exact hs i z _ U (y xs q) p hU
  · have e : i = xs.length := by omega
    subst e
    exact .inl ⟨⟨xs, q, Nat.le_refl _⟩, hd H p⟩
/-! ### tick -/
def spTick (K : PySem.W.Frag) (C : Addr) : Sp := fun vs H Q _ => ∃ (Z : Addr → Prop) (p wl : Addr) (a : Kgo3.Abs), vs = [.ref p] ∧ EndAt Z K C H p a wl ∧ Good a ∧
  ∀ (H' : Hp) (wl' t : Addr), EndAt Z K C H' p (doTick a).2.2 wl' → (wl' = wl ∨ H wl' = Option.none) → Kept H H' p wl → OutAt K H' t (doTick a).1 (doTick a).2.1 → Q (.ref t) H'
theorem scTick : FnScope ["self", "first", "again", "k", "piece"] ["self"] (defScope (inClass (top 40) 5)) := ⟨rfl, rfl, rfl, by decide +kernel, rfl, by decide +kernel, by decide +kernel⟩
def scopeAgain : Scope := { kind := .function, names := [(".0", .local), ("k", .local), ("piece", .local), ("first", .free), ("self", .free)], isGenerator := false, isCoroutine := false }
theorem blkTick : BlkOk ["self", "first", "again", "k", "piece"] (defScope (inClass (top 40) 5)) scopeAgain [("k", 3), ("piece", 4)] := blkOk_by (by decide +kernel)
theorem cut_four {ps : List Addr} : cutV (ps.map V.ref) none (some (4 : Int)) = (ps.take 4).map V.ref := by
  unfold cutV
  have e4 : (some (4 : Int) : Option Int) = some ((4 : Nat) : Int) := rfl
  rw [e4, HT.sIx_none, HT.sIx_nat, List.length_map, List.drop_zero, Nat.sub_zero, ← List.map_take]
  by_cases h : 4 ≤ ps.length
  · rw [Nat.min_eq_left h]
  · rw [Nat.min_eq_right (by omega), List.take_length, List.take_of_length_le (by omega)]
def againAsk (a : Kgo3.Abs) (k : Nat) : Kgo3.Ask := Kgo3.msg { a with quiet := a.quiet + 1 } (some (a.sent - a.waiting.length + 1 + k, a.waiting.getD k []))
theorem ok_tick (F : Fun K "tick" "LineEnd.tick" (inClass (top 40) 5) f fd) (T : Txt K mg C M) (G1 : MFn P w K mg base C "beat_thing" ["self"] 4 (spBeatT K C)) (G2 : MFn P w K mg base C "cut" ["self"] 2 (spCut K C))
    (G3 : MFn P w K mg base C "acknowledged" ["self"] 1 (spAcked K C)) (G4 : MFn P w K mg base C "piece_thing" ["self", "number", "piece"] 4 (spPieceT K C)) : FnOk P w K mg base CX0 5 f fd ["self"] (spTick K C) := by
  refine F.ok scTick (fun vs H Q E h => ?_) (fun cdv A outer s H vs Q E hr h => ?_)
  · obtain ⟨Z, p, wl, a, rfl, _⟩ := h
    rfl
  · obtain ⟨Z, p, wl, a, rfl, ⟨dx, kn, ps, I⟩, g, k⟩ := h
    have hr1 : Room 1 _ := hr.mono (by decide)
    have hr2 : Room 2 _ := hr.mono (by decide)
    refine ⟨_, pss_cons (ps_if (pt_not (pt_val (pe_fld (pv 0) rfl))) (pss_one (ps_ret (pe_tup (pa_cons (pe_cst T.done rfl) (pa_cons (pe_lst (pa_cons (pe_mm (pv 0) T.clE G1 hr) pa_nil)) pa_nil))))) pss_nil)
      (pss_cons (ps_fldaug (pv 0) pe_int in_add)
      (pss_cons (ps_if (pt_cmpR op_eq (pe_fld (pv 0) rfl) (pe_cst T.quietT rfl) (nomark _)) (pss_one (ps_ret (pe_tup (pa_cons (pe_cst T.done rfl) (pa_cons (pe_lst (pa_cons (pe_mm (pv 0) T.clE G2 hr2) pa_nil)) pa_nil))))) pss_nil)
      (pss_cons (ps_if (pt_cmpR op_eq (pe_len rfl T.len (pa_cons (pe_fld (pv 0) rfl) pa_nil)) pe_int (nomark _)) (pss_one (ps_ret (pe_tup (pa_cons (pe_cst T.done rfl) (pa_cons (pe_lst (pa_cons (pe_mm (pv 0) T.clE G1 hr) pa_nil)) pa_nil))))) pss_nil)
      (pss_cons (ps_set (i := 1) scTick.nd rfl (Or.inr rfl) (pe_op op_add (pe_mm (pv 0) T.clE G3 hr1) pe_int))
      (pss_cons (ps_set (i := 2) scTick.nd rfl (Or.inl rfl) (pe_slice sl_list (pe_fld (pv 0) rfl) po_none (po_some (pe_cst T.again rfl))))
      (pss_one (ps_ret (pe_tup (pa_cons (pe_cst T.done rfl) (pa_cons (pe_lc (g := gTup K 2 (gCons (gName 3) (gCons (gName 4) gNil))) (tt := tYes) (te := tMeth C "piece_thing" (spPieceT K C) [] E0 (tVar 0) (tCons (tOp (rI0 fun i j => .int (i + j)) (tVar 1) (tVar 3)) (tCons (tVar 4) tNil))) rfl scTick.nd (pi_enum rfl T.enum (pa_cons (pv 2) pa_nil)) (own := [("k", 3), ("piece", 4)]) blkTick
        (fun s H Cc cl fp => pg_tup (n := 2) rfl (pgs_cons (pg_name (i := 3) scTick.nd rfl (Or.inl (lookup_relabel_local rfl)) (hf := .inr (lookup_relabel_local rfl))) (pgs_cons (pg_name (i := 4) scTick.nd rfl (Or.inl (lookup_relabel_local rfl)) (hf := .inr (lookup_relabel_local rfl))) pgs_nil)))
        (fun s H Cc cl fp => pts_nil)
        (fun s H Cc cl fp => pe_m (pv 0) T.clE G4 hr (pa_cons (pe_op op_add (pv 1) (pv 3)) (pa_cons (pv 4) pa_nil)))) pa_nil)))))))))), ?_⟩
    have E0 : EndAt Z K C H p a wl := ⟨dx, kn, ps, I⟩
    have nmb : ∀ a' kn' wl', (leF (lvs a' kn' wl')).lookup ("beat_thing" : Str) = none := fun _ _ _ => lookup_zip_none (by decide +kernel)
    have nmc : ∀ a' kn' wl', (leF (lvs a' kn' wl')).lookup ("cut" : Str) = none := fun _ _ _ => lookup_zip_none (by decide +kernel)
    have nma : ∀ a' kn' wl', (leF (lvs a' kn' wl')).lookup ("acknowledged" : Str) = none := fun _ _ _ => lookup_zip_none (by decide +kernel)
    have nmp : ∀ a' kn' wl', (leF (lvs a' kn' wl')).lookup ("piece_thing" : Str) = none := fun _ _ _ => lookup_zip_none (by decide +kernel)
    refine ⟨_, rfl, _, _, _, _, _, rfl, I.obj, T.clE, T.naE 5 _ rfl, fldE (i := 5) rfl rfl, _, rfl, ?_⟩
    refine ite2 (fun h => ?_) (fun h => ?_)
    · have hu : a.up = false := by simpa using h
      have ed : doTick a = (0, [Kgo3.beat a], a) := by
        unfold doTick Kgo3.ticks
        rw [if_pos hu]
      rw [ed] at k
      refine ⟨_, rfl, p, dx, _, rfl, I.obj, nmb _ _ _, _, p, wl, a, rfl, E0, g, fun H1 x s1 n1 h1 => ⟨(by show 1 ≤ sizeLine; decide), fun l hl => ⟨(by show 2 ≤ sizeLine; decide), fun t ht => ?_⟩⟩⟩
      have s2 : Same H (upd (upd H1 l (.lst [.ref x])) t (.tup [.int 0, .ref l])) := s1.trans ((same_new hl).trans (same_new ht))
      exact k _ wl t (E0.same s2) (.inl rfl) (Same.kp p s2).kept (out_one h1 hl ht)
    have hu : ¬ a.up = false := by
      intro z
      apply h
      rw [z]
      rfl
    -- self.quiet += 1
    refine ⟨_, rfl, p, C, dx, _, _, rfl, I.obj, T.clE, T.naE 9 _ rfl, fldE (i := 9) rfl rfl, _, _, rfl, rfl, dx, _, I.obj, leF_len _, ?_⟩
    rw [putE (i := 9) (ws := lvs { a with quiet := a.quiet + 1 } kn wl) (.int ((a.quiet : Nat) + 1)) rfl (by show 9 ≤ 10; decide) rfl]
    have I1 : EndIn Z K C (upd H p (.ins C dx (leF (lvs { a with quiet := a.quiet + 1 } kn wl)))) p { a with quiet := a.quiet + 1 } wl dx kn ps := I.put rfl rfl
    have k1 : KeptP H (upd H p (.ins C dx (leF (lvs { a with quiet := a.quiet + 1 } kn wl)))) p := (KeptP.refl H p).upd
    generalize (upd H p (.ins C dx (leF (lvs { a with quiet := a.quiet + 1 } kn wl)))) = H1 at I1 k1
    have E1 : EndAt Z K C H1 p { a with quiet := a.quiet + 1 } wl := ⟨dx, kn, ps, I1⟩
    -- if self.quiet == QUIET_TICKS
    refine ⟨_, rfl, _, _, _, _, _, rfl, I1.obj, T.clE, T.naE 9 _ rfl, fldE (i := 9) rfl rfl, rfl, _, rfl, ?_⟩
    have e16 : decide (V.int ((a.quiet + 1 : Nat) : Int) = V.int 16) = decide (a.quiet + 1 = 16) := decI (j := 16)
    refine ite2 (fun h => ?_) (fun h => ?_)
    · have hq : a.quiet + 1 = 16 := of_decide_eq_true (e16.symm.trans h)
      have ed : doTick a = (0, [.down], Kgo3.cut a) := by
        unfold doTick Kgo3.ticks
        rw [if_neg hu, if_pos (by omega)]
      rw [ed] at k
      refine ⟨_, rfl, p, dx, _, rfl, I1.obj, nmc _ _ _, _, p, wl, _, rfl, E1, fun H2 wl2 x E2 n2 k2 hx nx => ⟨(by show 1 ≤ sizeLine; decide), fun l hl => ⟨(by show 2 ≤ sizeLine; decide), fun t ht => ?_⟩⟩⟩
      have s2 : Same H2 (upd (upd H2 l (.lst [.ref x])) t (.tup [.int 0, .ref l])) := (same_new hl).trans (same_new ht)
      have ec : Kgo3.cut { a with quiet := a.quiet + 1 } = Kgo3.cut a := rfl
      rw [ec] at E2
      have nwp : wl2 ≠ p := by
        obtain ⟨_, _, hp2⟩ := E2.obj_at
        obtain ⟨_, hl2⟩ := E2.lst_at
        exact ne_of hl2 hp2 (by intro z; cases z)
      exact k _ wl2 t (E2.same s2) (.inr (k1.free nwp n2)) ((k1.trans k2).same s2).kept (out_one hx hl ht)
    have hq : ¬ 16 ≤ a.quiet + 1 := by
      have := g.q
      intro z
      exact h (e16.trans (decide_eq_true (by omega)))
    have gb : Good { a with quiet := a.quiet + 1 } := ⟨g.ws, g.w32, by show a.quiet + 1 ≤ 15; omega, fun z => g.down z, g.each⟩
    -- if len(self.waiting) == 0
    refine ⟨_, rfl, _, _, _, _, _, rfl, I1.obj, T.clE, T.naE 7 _ rfl, fldE (i := 7) rfl rfl, wl, _, rfl, .inl (SqL.of I1.lst), rfl, _, rfl, ?_⟩
    have e0 : decide (V.int (((ps.map V.ref).length : Nat) : Int) = V.int 0) = decide (a.waiting.length = 0) := by
      rw [List.length_map, I.each.1]
      exact decI (j := 0)
    rw [e0]
    refine ite2 (fun h => ?_) (fun h => ?_)
    · have hw : a.waiting.length = 0 := of_decide_eq_true h
      have ed : doTick a = (0, [Kgo3.beat { a with quiet := a.quiet + 1 }], { a with quiet := a.quiet + 1 }) := by
        unfold doTick Kgo3.ticks
        rw [if_neg hu, if_neg hq]
        have : a.waiting.isEmpty = true := by
          rw [List.isEmpty_iff]
          exact List.length_eq_zero_iff.mp hw
        dsimp only
        rw [if_pos this]
      rw [ed] at k
      refine ⟨_, rfl, p, dx, _, rfl, I1.obj, nmb _ _ _, _, p, wl, _, rfl, E1, gb, fun H2 x s1 n1 h1 => ⟨(by show 1 ≤ sizeLine; decide), fun l hl => ⟨(by show 2 ≤ sizeLine; decide), fun t ht => ?_⟩⟩⟩
      have s2 : Same H1 (upd (upd H2 l (.lst [.ref x])) t (.tup [.int 0, .ref l])) := s1.trans ((same_new hl).trans (same_new ht))
      exact k _ wl t (E1.same s2) (.inl rfl) (k1.same s2).kept (out_one h1 hl ht)
    have hw : ¬ a.waiting.length = 0 := fun z => h (decide_eq_true z)
    have ed : doTick a = (0, (List.range (min 4 a.waiting.length)).map (againAsk a), { a with quiet := a.quiet + 1 }) := by
      unfold doTick Kgo3.ticks
      rw [if_neg hu, if_neg hq]
      have : ¬ a.waiting.isEmpty = true := by
        rw [List.isEmpty_iff]
        exact fun z => hw (by rw [z]; rfl)
      dsimp only
      rw [if_neg this]
      rfl
    rw [ed] at k
    -- first = self.acknowledged() + 1
    refine ⟨_, rfl, p, dx, _, rfl, I1.obj, nma _ _ _, _, p, wl, _, rfl, E1, gb, _, _, rfl, rfl, ?_⟩
    -- again = self.waiting[:SENT_AGAIN]
    refine ⟨_, rfl, _, _, _, _, _, rfl, I1.obj, T.clE, T.naE 7 _ rfl, fldE (i := 7) rfl rfl, _, rfl, wl, _, rfl, SqL.of I1.lst, fun ag hag => ?_⟩
    rw [cut_four] at *
    have s1 : Same H1 (upd H1 ag (.lst ((ps.take 4).map V.ref))) := same_new hag
    have hag1 : (upd H1 ag (.lst ((ps.take 4).map V.ref))) ag = some (.lst ((ps.take 4).map V.ref)) := upd_same
    have I2 := I1.same s1
    have k2 := k1.same s1
    generalize (upd H1 ag (.lst ((ps.take 4).map V.ref))) = H2 at s1 hag1 I2 k2
    have E2 : EndAt Z K C H2 p { a with quiet := a.quiet + 1 } wl := ⟨dx, kn, ps, I2⟩
    refine ⟨_, rfl, ag, _, rfl, SqL.of hag1, fun D hD => ?_⟩
    have len4 : ((ps.take 4).map V.ref).length = min 4 a.waiting.length := by
      rw [List.length_map, List.length_take, I.each.1]
    refine lc_enum (K := K) (a := ag) (xs := (ps.take 4).map V.ref) (fun i H' => Same H2 H' ∧ ToldAt H' D ((List.range i).map (againAsk a))) ⟨same_new hD, ToldAt.nil upd_same⟩ (fun i H' _ ⟨s3, _⟩ => SqL.of (s3 _ _ hag1)) ?_ ?_
    · rintro i x H3 U hi ⟨s3, t3⟩ hU
      have hi4 : i < min 4 a.waiting.length := by
        rw [← len4]
        exact (List.getElem?_eq_some_iff.mp hi).1
      obtain ⟨q, hq', rfl⟩ : ∃ q, ps[i]? = some q ∧ x = V.ref q := by
        rw [List.getElem?_map, List.getElem?_take] at hi
        have hi' : i < 4 := by omega
        rw [if_pos hi'] at hi
        cases e : ps[i]? with
        | none =>
          rw [e] at hi
          cases hi
        | some q =>
          rw [e] at hi
          exact ⟨q, rfl, (Option.some.inj hi).symm⟩
      have hiw : i < a.waiting.length := by omega
      have hb : a.waiting[i]? = some (a.waiting.getD i []) := by
        rw [List.getD_eq_getElem?_getD, List.getElem?_eq_getElem hiw]
        rfl
      have s4 : Same H3 (upd H3 U (.tup [.int (i : Nat), .ref q])) := same_new hU
      have hq2 : H2 q = some (.lst (vn (a.waiting.getD i []))) := I2.each.2 i q _ hq' hb
      refine ⟨U, _, rfl, SqT.of upd_same, rfl, _, _, rfl, _, _, rfl, rfl, rfl, ?_⟩
      have I4 := I2.same (s3.trans s4)
      have en : (((a.sent - a.waiting.length : Nat) : Int) + 1 + (i : Int)) = ((a.sent - a.waiting.length + 1 + i : Nat) : Int) := by omega
      refine ⟨_, rfl, p, dx, _, rfl, I4.obj, nmp _ _ _, _, rfl, _, rfl, _, _, rfl, rfl, _, rfl, _, p, wl, q, _, a.sent - a.waiting.length + 1 + i, _, congrArg (fun z => [V.ref p, V.int z, V.ref q]) en, ⟨dx, kn, ps, I4⟩, gb, s4 _ _ (s3 _ _ hq2), ?_, fun H5 x s5 n5 h5 => ?_⟩
      · exact (g.each _ (List.mem_of_getElem? hb)).2
      · obtain ⟨as, h6, h7, t6⟩ := ((t3.same s4).same s5).push (k := againAsk a i) h5
        refine ⟨_, h6, ?_, ?_, ?_⟩
        · rw [List.length_map, h7, List.length_map, List.length_range]
          exact Nat.lt_of_lt_of_le (Nat.lt_of_lt_of_le hi4 (Nat.min_le_left _ _)) (by decide)
        · intro c o e
          rw [upd_ne (ne_of_none e hD)]
          exact s5 _ _ (s4 _ _ (s3 _ _ e))
        · rw [List.range_succ, List.map_append]
          exact t6
    · rintro H3 ⟨s3, t3⟩
      rw [len4] at t3
      refine ⟨(by show 2 ≤ sizeLine; decide), fun t ht => ?_⟩
      have s4 := s3.trans (same_new (o := .tup [.int 0, .ref D]) ht)
      exact k _ wl t (E2.same s4) (.inl rfl) (k2.same s4).kept (out_of t3 ht)
end
end Nl

set_option Elab.async false
set_option linter.all false
set_option maxRecDepth 100000
set_option maxHeartbeats 4000000
namespace Nl
open PySem PySem.Spec PyProof.Rows L2
/-! ### calls at a place of the list -/
theorem Front.split {l t : List Int} {c : List (List Int)} (h : Front l c t) : ∃ pre, l = pre ++ t ∧ Front pre c [] ∧ 0 < pre.length := by
  cases h with
  | start m o li => exact ⟨[0, m, o, li], rfl, .start m o li [], by simp⟩
  | send b => exact ⟨1 :: (b.length : Int) :: b, rfl, by have := Front.send b []; rw [List.append_nil] at this; exact this, by simp⟩
  | heard b => exact ⟨2 :: (b.length : Int) :: b, rfl, by have := Front.heard b []; rw [List.append_nil] at this; exact this, by simp⟩
  | tick => exact ⟨[3], rfl, .tick [], by simp⟩
  | state => exact ⟨[4], rfl, .state [], by simp⟩
theorem vz_at {l : List Int} {i j : Nat} {z : Int} (h : (l.drop i)[j]? = some z) : (vz l)[i + j]? = some (.int z) := by
  rw [List.getElem?_drop] at h
  show (l.map V.int)[i + j]? = _
  rw [List.getElem?_map, h]
  rfl
theorem cutZ {l : List Int} {i k : Nat} (h : i + k ≤ l.length) : cutV (vz l) (some (i : Int)) (some ((i + k : Nat) : Int)) = vz ((l.drop i).take k) := by
  unfold cutV
  rw [HT.sIx_nat, HT.sIx_nat, vz_len, Nat.min_eq_left h, Nat.min_eq_left (by omega)]
  show ((l.map V.int).drop i).take (i + k - i) = ((l.drop i).take k).map V.int
  rw [List.map_take, List.map_drop]
  congr 1
  omega
theorem cutZ2 {l : List Int} : cutV (vz l) (some (2 : Int)) none = vz (l.drop 2) := by
  unfold cutV
  have e2 : (some (2 : Int) : Option Int) = some ((2 : Nat) : Int) := rfl
  rw [e2, HT.sIx_nat, HT.sIx_none, vz_len]
  show ((l.map V.int).drop (min 2 l.length)).take (l.length - min 2 l.length) = (l.drop 2).map V.int
  rw [← List.map_drop, ← List.map_take]
  congr 1
  by_cases h : 2 ≤ l.length
  · rw [Nat.min_eq_left h, List.take_of_length_le (by rw [List.length_drop]; omega)]
  · rw [Nat.min_eq_right (by omega), List.drop_eq_nil_of_le (by omega), List.drop_eq_nil_of_le (by omega), List.take_nil]
section
variable {P : Program} {w : World} {K : PySem.W.Frag} {mg : Str → Option Value} {base : Heap} {C M : Addr} {f : Addr} {fd : FuncData}
theorem dec_lit {z y : Int} : decide (V.int z = V.int y) = decide (z = y) := by
  by_cases h : z = y
  · rw [h]
    simp
  · rw [decide_eq_false h, decide_eq_false]
    intro e
    injection e with e
    exact h e
/-! ### call_length -/
def spLen (K : PySem.W.Frag) : Sp := fun vs H Q _ => ∃ (a : Addr) (l pre t : List Int) (i : Nat) (c : List (List Int)), vs = [.ref a, .int (i : Int)] ∧ SqL K H a (vz l) ∧ l.drop i = pre ++ t ∧ Front pre c [] ∧ Q (.int (pre.length : Nat)) H
theorem scLen : FnScope ["calls", "at"] ["calls", "at"] (defScope (top 46)) := ⟨rfl, rfl, rfl, by decide +kernel, rfl, by decide +kernel, by decide +kernel⟩
theorem ok_len (F : Fun K "call_length" "call_length" (top 46) f fd) (T : Txt K mg C M) : FnOk P w K mg base CX0 1 f fd ["calls", "at"] (spLen K) := by
  refine F.ok scLen (fun vs H Q E h => ?_) (fun cdv A outer s H vs Q E hr h => ?_)
  · obtain ⟨a, l, pre, t, i, c, rfl, _⟩ := h
    rfl
  · obtain ⟨a, l, pre, t, i, c, rfl, hS, hd, fr, k⟩ := h
    refine ⟨_, pss_cons (ps_if (pt_cmpR op_eq (pe_ix ix_list (pv 0) (pv 1) (fun _ _ => rfl)) (pe_cst T.cStart rfl) (nomark _)) (pss_one (ps_ret pe_int)) pss_nil)
      (pss_cons (ps_if (PW.pt (pw_or (pt_cmpR op_eq (pe_ix ix_list (pv 0) (pv 1) (fun _ _ => rfl)) (pe_cst T.cSend rfl) (nomark _)) (pw_or1 (pt_cmpR op_eq (pe_ix ix_list (pv 0) (pv 1) (fun _ _ => rfl)) (pe_cst T.cHeard rfl) (nomark _))))) (pss_one (ps_ret (pe_op op_add pe_int (pe_ix ix_list (pv 0) (pe_op op_add (pv 1) pe_int) (fun _ _ => rfl))))) pss_nil)
      (pss_one (ps_ret pe_int))), ?_⟩
    have at0 : ∀ z r, pre = z :: r → atI (vz l) (i : Int) = some (.int z) := fun z r e => at_of (j := i) rfl (by
      have := vz_at (l := l) (i := i) (j := 0) (z := z) (by rw [hd, e]; rfl)
      exact this)
    have at1 : ∀ z y r, pre = z :: y :: r → atI (vz l) ((i : Int) + 1) = some (.int y) := fun z y r e => at_of (j := i + 1) (by omega) (vz_at (l := l) (i := i) (j := 1) (z := y) (by rw [hd, e]; rfl))
    cases fr with
    | start m o li =>
      refine ⟨_, rfl, _, rfl, a, _, _, _, rfl, rfl, hS, at0 _ _ rfl, rfl, _, rfl, iteT ?_⟩
      exact k
    | send b =>
      refine ⟨_, rfl, _, rfl, a, _, _, _, rfl, rfl, hS, at0 _ _ rfl, rfl, _, rfl, iteF ?_⟩
      refine ⟨_, rfl, _, rfl, a, _, _, _, rfl, rfl, hS, at0 _ _ rfl, rfl, _, rfl, iteT (iteT ?_)⟩
      refine ⟨_, rfl, _, rfl, _, _, rfl, rfl, a, _, _, _, rfl, rfl, hS, at1 _ _ _ rfl, _, _, rfl, rfl, ?_⟩
      have e : (2 : Int) + (b.length : Nat) = (((1 : Int) :: (b.length : Int) :: (b ++ [])).length : Nat) := by
        simp only [List.length_cons, List.length_append, List.length_nil]
        omega
      exact (congrArg (fun z => Q (V.int z) H) e).mpr k
    | heard b =>
      refine ⟨_, rfl, _, rfl, a, _, _, _, rfl, rfl, hS, at0 _ _ rfl, rfl, _, rfl, iteF ?_⟩
      refine ⟨_, rfl, _, rfl, a, _, _, _, rfl, rfl, hS, at0 _ _ rfl, rfl, _, rfl, iteF ?_⟩
      refine ⟨_, rfl, _, rfl, a, _, _, _, rfl, rfl, hS, at0 _ _ rfl, rfl, _, rfl, iteT ?_⟩
      refine ⟨_, rfl, _, rfl, _, _, rfl, rfl, a, _, _, _, rfl, rfl, hS, at1 _ _ _ rfl, _, _, rfl, rfl, ?_⟩
      have e : (2 : Int) + (b.length : Nat) = (((2 : Int) :: (b.length : Int) :: (b ++ [])).length : Nat) := by
        simp only [List.length_cons, List.length_append, List.length_nil]
        omega
      exact (congrArg (fun z => Q (V.int z) H) e).mpr k
    | tick =>
      refine ⟨_, rfl, _, rfl, a, _, _, _, rfl, rfl, hS, at0 _ _ rfl, rfl, _, rfl, iteF ?_⟩
      refine ⟨_, rfl, _, rfl, a, _, _, _, rfl, rfl, hS, at0 _ _ rfl, rfl, _, rfl, iteF ?_⟩
      refine ⟨_, rfl, _, rfl, a, _, _, _, rfl, rfl, hS, at0 _ _ rfl, rfl, _, rfl, iteF ?_⟩
      exact k
    | state =>
      refine ⟨_, rfl, _, rfl, a, _, _, _, rfl, rfl, hS, at0 _ _ rfl, rfl, _, rfl, iteF ?_⟩
      refine ⟨_, rfl, _, rfl, a, _, _, _, rfl, rfl, hS, at0 _ _ rfl, rfl, _, rfl, iteF ?_⟩
      refine ⟨_, rfl, _, rfl, a, _, _, _, rfl, rfl, hS, at0 _ _ rfl, rfl, _, rfl, iteF ?_⟩
      exact k
/-! ### whole_answer -/
def spWhole (K : PySem.W.Frag) : Sp := fun vs H Q _ => ∃ (t b : Addr) (v : Int) (q : List Kgo3.Ask) (bs : List Int), vs = [.ref t, .ref b] ∧ OutAt K H t v q ∧ H b = some (.lst (vz bs)) ∧ 2 + tlen q + bs.length ≤ 100000 ∧
  NewL H (vz (v :: (q.length : Int) :: ((tl q).flatten ++ bs))) Q
theorem scWhole : FnScope ["outcome", "besides", "told", "answer", "thing"] ["outcome", "besides"] (defScope (top 47)) := ⟨rfl, rfl, rfl, by decide +kernel, rfl, by decide +kernel, by decide +kernel⟩
theorem flat_le : ∀ (i : Nat) (l : List (List Int)), (l.take i).flatten.length ≤ l.flatten.length
  | 0, l => by simp
  | i + 1, [] => by simp
  | i + 1, x :: l => by
    have := flat_le i l
    simp only [List.take_succ_cons, List.flatten_cons, List.length_append]
    omega
theorem ok_whole (F : Fun K "whole_answer" "whole_answer" (top 47) f fd) (T : Txt K mg C M) : FnOk P w K mg base CX0 1 f fd ["outcome", "besides"] (spWhole K) := by
  refine F.ok scWhole (fun vs H Q E h => ?_) (fun cdv A outer s H vs Q E hr h => ?_)
  · obtain ⟨t, b, v, q, bs, rfl, _⟩ := h
    rfl
  · obtain ⟨t, b, v, q, bs, rfl, ⟨l, hT, as, hl, hlen, hth⟩, hb, hz, k⟩ := h
    refine ⟨_, pss_cons (ps_set (i := 2) scWhole.nd rfl (Or.inl rfl) (pe_ix ix_tup (pv 0) pe_int (fun _ _ => rfl)))
      (pss_cons (ps_set (i := 3) scWhole.nd rfl (Or.inl rfl) (pe_lst (pa_cons (pe_ix ix_tup (pv 0) pe_int (fun _ _ => rfl)) (pa_cons (pe_len rfl T.len (pa_cons (pv 2) pa_nil)) pa_nil))))
      (pss_cons (ps_for PassesOwn.never rfl (pi_list (pv 2)) (pg_name (i := 4) scWhole.nd rfl (Or.inl rfl))
        (pss_one (ps_expr (pe_bm PySem.F.plainAttrs_list PySem.F.slot_list_extend PySem.F.type_list_extend mt_extend (pv 3) (pa_cons (pv 4) pa_nil)))))
      (pss_one (ps_ret (pe_op op_cat (pv 3) (pv 1)))))), ?_⟩
    refine ⟨_, rfl, t, _, _, _, rfl, rfl, hT, at_of (j := 1) rfl rfl, ?_⟩
    refine ⟨_, rfl, t, _, _, _, rfl, rfl, hT, at_of (j := 0) rfl rfl, _, rfl, l, _, rfl, .inl (SqL.of hl), (by show 2 ≤ sizeLine; decide), fun an han => ?_⟩
    have s1 : Same H (upd H an (.lst [.int v, .int ((as.map V.ref).length : Nat)])) := same_new han
    refine ⟨_, rfl, l, rfl, ⟨_, SqL.of (s1 _ _ hl)⟩, for_list (K := K) (a := l) (xs := as.map V.ref) (fun i σ H' => ∃ x : Option V, σ = [some (.ref t), some (.ref b), some (.ref l), some (.ref an), x] ∧ Same H H' ∧ H' an = some (.lst (vz (v :: (q.length : Int) :: ((tl q).take i).flatten))))
      ⟨none, rfl, s1, ?_⟩ (fun i σ H' _ ⟨_, _, s2, _⟩ => SqL.of (s2 _ _ hl)) ?_ ?_⟩
    · rw [upd_same, List.length_map, hlen]
      rfl
    · rintro i x σ H' hi ⟨x0, rfl, s2, han2⟩
      obtain ⟨c, hc, rfl⟩ : ∃ c, as[i]? = some c ∧ x = V.ref c := by
        rw [List.getElem?_map] at hi
        cases e : as[i]? with
        | none =>
          rw [e] at hi
          cases hi
        | some c =>
          rw [e] at hi
          exact ⟨c, rfl, (Option.some.inj hi).symm⟩
      have hiq : i < q.length := by
        rw [← hlen]
        exact (List.getElem?_eq_some_iff.mp hc).1
      have hk : q[i]? = some q[i] := List.getElem?_eq_getElem hiq
      have hth' := s2 _ _ (hth i c _ hc hk)
      have et : (tl q)[i]? = some (Kgo3Neutral.told q[i]) := by
        unfold tl
        rw [List.getElem?_map, hk]
        rfl
      have ef : ((tl q).take (i + 1)).flatten = ((tl q).take i).flatten ++ Kgo3Neutral.told q[i] := by
        rw [take_snoc et, List.flatten_append]
        simp
      refine ⟨_, rfl, .inl ⟨rfl, _, SqL.of han2⟩, _, rfl, an, c, _, _, rfl, rfl, han2, hth', ?_, _, rfl, ?_, ?_⟩
      · have h1 := flat_le (i + 1) (tl q)
        rw [ef, List.length_append] at h1
        rw [vz_len, vz_len]
        refine small ?_
        show ((tl q).take i).flatten.length + 2 + _ ≤ 100000
        have : tlen q = (tl q).flatten.length := rfl
        omega
      · intro d o e
        rw [upd_ne (ne_of_none e han)]
        exact s2 _ _ e
      · rw [upd_same, ef]
        show some (HO.lst (vz (v :: (q.length : Int) :: ((tl q).take i).flatten) ++ vz (Kgo3Neutral.told q[i]))) = _
        simp
    · rintro σ H' ⟨x0, rfl, s2, han2⟩
      have el : (as.map V.ref).length = (tl q).length := by
        unfold tl
        rw [List.length_map, List.length_map, hlen]
      rw [el, List.take_length] at han2
      refine ⟨_, rfl, _, rfl, an, b, _, _, rfl, rfl, han2, s2 _ _ hb, ?_, fun r hr => ?_⟩
      · rw [vz_len, vz_len]
        refine small ?_
        show (tl q).flatten.length + 2 + bs.length ≤ 100000
        have : tlen q = (tl q).flatten.length := rfl
        omega
      · have e : vz (v :: (q.length : Int) :: (tl q).flatten) ++ vz bs = vz (v :: (q.length : Int) :: ((tl q).flatten ++ bs)) := by simp
        rw [e]
        exact k.lay s2 hr
end
end Nl

set_option Elab.async false
set_option linter.all false
set_option maxRecDepth 100000
set_option maxHeartbeats 4000000
namespace Nl
open PySem PySem.Spec PyProof.Rows L2
section
variable {P : Program} {w : World} {K : PySem.W.Frag} {mg : Str → Option Value} {base : Heap} {C M : Addr} {f : Addr} {fd : FuncData}
/-! ### answer_of -/
def spAnswer (K : PySem.W.Frag) (C : Addr) : Sp := fun vs H Q _ => ∃ (Z : Addr → Prop) (p wl q : Addr) (a : Kgo3.Abs) (s : Kgo3Neutral.S) (c : List (List Int)) (cl : List Int), vs = [.ref p, .ref q] ∧ EndAt Z K C H p a wl ∧ (∀ b, Z b → ∃ o, H b = some o) ∧ Good a ∧ (s = none ∨ s = some a) ∧
  H q = some (.lst (vz cl)) ∧ Front cl c [] ∧ Kgo3Neutral.asked1 c = true ∧ (Kgo3Neutral.step s c).2 ≠ [] ∧
  ∀ (H' : Hp) (wl' r : Addr) (a' : Kgo3.Abs), EndAt Z K C H' p a' wl' → Good a' → ((Kgo3Neutral.step s c).1 = none ∨ (Kgo3Neutral.step s c).1 = some a') → (wl' = wl ∨ H wl' = Option.none) → Kept H H' p wl →
    H' r = some (.lst (vz (Kgo3Neutral.step s c).2)) → (∀ b o, H b = some o → b ≠ p → b ≠ wl → r ≠ b) → (Kgo3Neutral.step s c).2.length ≤ 1000 → Q (.ref r) H'
theorem scAnswer : FnScope ["end", "call"] ["end", "call"] (defScope (top 48)) := ⟨rfl, rfl, rfl, by decide +kernel, rfl, by decide +kernel, by decide +kernel⟩
theorem nat_of {z : Int} {n : Nat} (h : Kgo3Neutral.natural z n = true) : z = ((z.toNat : Nat) : Int) := by
  unfold Kgo3Neutral.natural at h
  rw [Bool.and_eq_true] at h
  have := of_decide_eq_true h.1
  omega
theorem bytes_of {b : List Int} (h : b.all (fun (z : Int) => Kgo3Neutral.natural z 8) = true) : zInts (Kgo3Neutral.natsOf b) = b ∧ Bytes8 (Kgo3Neutral.natsOf b) := by
  have h1 : ∀ z ∈ b, 0 ≤ z ∧ z < 256 := fun z hz => by
    have := List.all_eq_true.mp h z hz
    unfold Kgo3Neutral.natural at this
    rw [Bool.and_eq_true] at this
    exact ⟨of_decide_eq_true this.1, of_decide_eq_true this.2⟩
  refine ⟨ints_nats b fun z hz => (h1 z hz).1, fun x hx => ?_⟩
  obtain ⟨z, hz, rfl⟩ := List.mem_map.mp hx
  have := h1 z hz
  omega
/-- from a call's outcome to the list that is answered -/
theorem Kept.trans {H H1 H2 : Hp} {p wl : Addr} (a : Kept H H1 p wl) (b : Same H1 H2) : Kept H H2 p wl := fun c o e n1 n2 => b _ _ (a c o e n1 n2)
theorem Same.kept {H H1 H2 : Hp} {p wl : Addr} (a : Same H H1) (b : Kept H1 H2 p wl) : Kept H H2 p wl := fun c o e n1 n2 => b c o (a _ _ e) n1 n2
theorem ok_answer (F : Fun K "answer_of" "answer_of" (top 48) f fd) (T : Txt K mg C M) (G0 : GFn P w K mg base "whole_answer" ["outcome", "besides"] 1 (spWhole K)) (G1 : MFn P w K mg base C "start" ["self", "me", "other", "life"] 2 (spStart K C))
    (G2 : MFn P w K mg base C "send" ["self", "piece"] 5 (spSend K C)) (G3 : MFn P w K mg base C "heard" ["self", "numbers"] 6 (spHeard K C)) (G4 : MFn P w K mg base C "tick" ["self"] 5 (spTick K C)) (G5 : MFn P w K mg base C "state" ["self"] 1 (spState K C)) :
    FnOk P w K mg base CX0 7 f fd ["end", "call"] (spAnswer K C) := by
  refine F.ok scAnswer (fun vs H Q E h => ?_) (fun cdv A outer s H vs Q E hr h => ?_)
  · obtain ⟨Z, p, wl, q, a, s, c, cl, rfl, _⟩ := h
    rfl
  · obtain ⟨Z, p, wl, q, a, st, c, cl, rfl, E0, hZ, g, hs, hq, fr, hask, hmay, k⟩ := h
    have hr1 : Room 1 _ := hr.mono (by decide)
    have hr2 : Room 2 _ := hr.mono (by decide)
    have hr5 : Room 5 _ := hr.mono (by decide)
    refine ⟨_, pss_cons (ps_if (pt_cmpR op_eq (pe_ix ix_list (pv 1) pe_int (fun _ _ => rfl)) (pe_cst T.cStart rfl) (nomark _))
        (pss_one (ps_ret (pe_g G0 hr1 rfl (pa_cons (pe_m (pv 0) T.clE G1 hr2 (pa_cons (pe_ix ix_list (pv 1) pe_int (fun _ _ => rfl)) (pa_cons (pe_ix ix_list (pv 1) pe_int (fun _ _ => rfl)) (pa_cons (pe_ix ix_list (pv 1) pe_int (fun _ _ => rfl)) pa_nil)))) (pa_cons (pe_lst pa_nil) pa_nil))))) pss_nil)
      (pss_cons (ps_if (pt_cmpR op_eq (pe_ix ix_list (pv 1) pe_int (fun _ _ => rfl)) (pe_cst T.cSend rfl) (nomark _))
        (pss_one (ps_ret (pe_g G0 hr1 rfl (pa_cons (pe_m (pv 0) T.clE G2 hr5 (pa_cons (pe_slice sl_list (pv 1) (po_some pe_int) po_none) pa_nil)) (pa_cons (pe_lst pa_nil) pa_nil))))) pss_nil)
      (pss_cons (ps_if (pt_cmpR op_eq (pe_ix ix_list (pv 1) pe_int (fun _ _ => rfl)) (pe_cst T.cHeard rfl) (nomark _))
        (pss_one (ps_ret (pe_g G0 hr1 rfl (pa_cons (pe_m (pv 0) T.clE G3 hr (pa_cons (pe_slice sl_list (pv 1) (po_some pe_int) po_none) pa_nil)) (pa_cons (pe_lst pa_nil) pa_nil))))) pss_nil)
      (pss_cons (ps_if (pt_cmpR op_eq (pe_ix ix_list (pv 1) pe_int (fun _ _ => rfl)) (pe_cst T.cTick rfl) (nomark _))
        (pss_one (ps_ret (pe_g G0 hr1 rfl (pa_cons (pe_mm (pv 0) T.clE G4 hr5) (pa_cons (pe_lst pa_nil) pa_nil))))) pss_nil)
      (pss_one (ps_ret (pe_g G0 hr1 rfl (pa_cons (pe_tup (pa_cons pe_int (pa_cons (pe_lst pa_nil) pa_nil))) (pa_cons (pe_mm (pv 0) T.clE G5 hr1) pa_nil)))))))), ?_⟩
    obtain ⟨dx, kn, ps, I⟩ := E0
    have E0 : EndAt Z K C H p a wl := ⟨dx, kn, ps, I⟩
    have ix : ∀ (j : Nat) (z : Int), cl[j]? = some z → atI (vz cl) (j : Nat) = some (V.int z) := fun j z h => at_of rfl (by
      show (cl.map V.int)[j]? = _
      rw [List.getElem?_map, h]
      rfl)
    -- the way out: an outcome, then whole_answer(.., [])
    have out : ∀ (H1 : Hp) (wl1 t : Addr) (r : Int × List Kgo3.Ask × Kgo3.Abs), Kgo3Neutral.step st c = ((Kgo3Neutral.step st c).1, r.1 :: (r.2.1.length : Int) :: (tl r.2.1).flatten) → ((Kgo3Neutral.step st c).1 = none ∨ (Kgo3Neutral.step st c).1 = some r.2.2) → Good r.2.2 → tlen r.2.1 ≤ 990 →
        EndAt Z K C H1 p r.2.2 wl1 → (wl1 = wl ∨ H wl1 = Option.none) → Kept H H1 p wl → OutAt K H1 t r.1 r.2.1 →
        (0 : Nat) ≤ sizeLine ∧ ∀ b, H1 b = Option.none → spWhole K [.ref t, .ref b] (upd H1 b (.lst [])) Q L2.E0 := fun H1 wl1 t r hst hs1 g1 hl1 E1 w1 k1 o1 => by
      refine ⟨(by decide), fun b hb => ?_⟩
      have s1 : Same H1 (upd H1 b (.lst [])) := same_new hb
      obtain ⟨l1, o2, o3⟩ := o1
      refine ⟨t, b, r.1, r.2.1, [], rfl, ⟨l1, Same.sqT s1 o2, o3.same s1⟩, upd_same, (by show 2 + tlen r.2.1 + 0 ≤ 100000; omega), fun H2 x s2 n2 h2 => ?_⟩
      have e2 : (Kgo3Neutral.step st c).2 = r.1 :: (r.2.1.length : Int) :: (tl r.2.1).flatten := congrArg Prod.snd hst
      have s12 := s1.trans s2
      refine k H2 wl1 x r.2.2 (E1.same s12) g1 hs1 w1 (k1.trans s12) ?_ ?_ ?_
      · rw [h2, e2, List.append_nil]
      · intro d o e n1 n2'
        exact (ne_of_none ((k1.trans s1) d o e n1 n2') n2).symm
      · rw [e2]
        show (tl r.2.1).flatten.length + 2 ≤ 1000
        have : tlen r.2.1 = (tl r.2.1).flatten.length := rfl
        omega
    have sl2 : ∀ (j : Addr), H j = Option.none → Same H (upd H j (.lst (vz (cl.drop 2)))) := fun j hj => same_new hj
    cases fr with
    | start m o li =>
      have h3 : Kgo3Neutral.natural m 32 = true ∧ Kgo3Neutral.natural o 32 = true ∧ Kgo3Neutral.natural li 32 = true := by
        have : (Kgo3Neutral.natural m 32 && (Kgo3Neutral.natural o 32 && (Kgo3Neutral.natural li 32))) = true := hask
        rw [Bool.and_eq_true, Bool.and_eq_true] at this
        exact this
      have e1 := nat_of h3.1
      have e2 := nat_of h3.2.1
      have e3 := nat_of h3.2.2
      refine ⟨_, rfl, q, _, _, _, rfl, rfl, SqL.of hq, ix 0 _ rfl, rfl, _, rfl, iteT ?_⟩
      refine ⟨_, rfl, p, dx, _, rfl, I.obj, lookup_zip_none (by decide +kernel), _, rfl, q, _, _, _, rfl, rfl, SqL.of hq, ix 1 _ rfl, _, rfl, q, _, _, _, rfl, rfl, SqL.of hq, ix 2 _ rfl, _, rfl, q, _, _, _, rfl, rfl, SqL.of hq, ix 3 _ rfl, _, p, wl, a, m.toNat, o.toNat, li.toNat, ?_, E0, fun H1 wl1 t E1 w1 k1 o1 => ?_⟩
      · rw [← e1, ← e2, ← e3]
        rfl
      · have hst := step_start st a hs m o li
        have hd : doStart a m.toNat o.toNat li.toNat = (-22, [], a) ∨ doStart a m.toNat o.toNat li.toNat = (0, [], newAbs m.toNat o.toNat li.toNat) := by
          unfold doStart
          split
          · exact .inl rfl
          · exact .inr rfl
        refine out H1 wl1 t (doStart a m.toNat o.toNat li.toNat) ?_ ?_ (good_start _ _ _ g) ?_ E1 w1 k1 o1
        · rw [hst]
          rcases hd with hd | hd <;> (rw [hd]; rfl)
        · rw [hst]
          rcases hd with hd | hd
          · rw [hd]
            exact hs
          · rw [hd]
            exact .inr rfl
        · rcases hd with hd | hd <;> (rw [hd]; exact Nat.zero_le _)
    | send b =>
      have hst : st = some a := by
        rcases hs with hs | hs
        · exfalso
          rw [hs] at hmay
          exact hmay (step_none (by intro m o l z; cases z))
        · exact hs
      subst hst
      have h8 := bytes_of (b := b) hask
      have hb : (1 :: (b.length : Int) :: (b ++ [])).drop 2 = zInts (Kgo3Neutral.natsOf b) := by
        rw [h8.1, List.append_nil]
        rfl
      refine ⟨_, rfl, q, _, _, _, rfl, rfl, SqL.of hq, ix 0 _ rfl, rfl, _, rfl, iteF ?_⟩
      refine ⟨_, rfl, q, _, _, _, rfl, rfl, SqL.of hq, ix 0 _ rfl, rfl, _, rfl, iteT ?_⟩
      refine ⟨_, rfl, p, dx, _, rfl, I.obj, lookup_zip_none (by decide +kernel), _, rfl, _, rfl, q, _, rfl, SqL.of hq, fun j hj => ?_⟩
      rw [cutZ2, hb]
      have s1 : Same H (upd H j (.lst (vn (Kgo3Neutral.natsOf b)))) := same_new hj
      refine ⟨_, p, wl, j, a, Kgo3Neutral.natsOf b, rfl, E0.same s1, g, upd_same, (fun z => by obtain ⟨o, e⟩ := hZ j z; rw [hj] at e; cases e), fun H1 wl1 t E1 w1 k1 o1 => ?_⟩
      have hs2 := step_send a b
      refine out H1 wl1 t (doSend a (Kgo3Neutral.natsOf b)) ?_ ?_ (good_send g) (Nat.le_trans len_send (by decide)) E1 ?_ (Same.kept s1 k1) o1
      · rw [hs2]
      · rw [hs2]
        exact .inr rfl
      · rcases w1 with w1 | w1
        · exact .inl w1
        · exact .inr (s1.free w1)
    | heard b =>
      have hst : st = some a := by
        rcases hs with hs | hs
        · exfalso
          rw [hs] at hmay
          exact hmay (step_none (by intro m o l z; cases z))
        · exact hs
      subst hst
      have h8 := bytes_of (b := b) hask
      have hb : (2 :: (b.length : Int) :: (b ++ [])).drop 2 = zInts (Kgo3Neutral.natsOf b) := by
        rw [h8.1, List.append_nil]
        rfl
      refine ⟨_, rfl, q, _, _, _, rfl, rfl, SqL.of hq, ix 0 _ rfl, rfl, _, rfl, iteF ?_⟩
      refine ⟨_, rfl, q, _, _, _, rfl, rfl, SqL.of hq, ix 0 _ rfl, rfl, _, rfl, iteF ?_⟩
      refine ⟨_, rfl, q, _, _, _, rfl, rfl, SqL.of hq, ix 0 _ rfl, rfl, _, rfl, iteT ?_⟩
      refine ⟨_, rfl, p, dx, _, rfl, I.obj, lookup_zip_none (by decide +kernel), _, rfl, _, rfl, q, _, rfl, SqL.of hq, fun j hj => ?_⟩
      rw [cutZ2, hb]
      have s1 : Same H (upd H j (.lst (vn (Kgo3Neutral.natsOf b)))) := same_new hj
      refine ⟨_, p, wl, j, a, Kgo3Neutral.natsOf b, rfl, E0.same s1, g, upd_same, h8.2, fun H1 wl1 t E1 w1 k1 o1 => ?_⟩
      have hs2 := step_heard a b
      refine out H1 wl1 t (doHeard a (Kgo3Neutral.natsOf b)) ?_ ?_ (good_heard _ g) (Nat.le_trans (len_heard _ _) (by decide)) E1 ?_ (Same.kept s1 k1) o1
      · rw [hs2]
      · rw [hs2]
        exact .inr rfl
      · rcases w1 with w1 | w1
        · exact .inl w1
        · exact .inr (s1.free w1)
    | tick =>
      have hst : st = some a := by
        rcases hs with hs | hs
        · exfalso
          rw [hs] at hmay
          exact hmay (step_none (by intro m o l z; cases z))
        · exact hs
      subst hst
      refine ⟨_, rfl, q, _, _, _, rfl, rfl, SqL.of hq, ix 0 _ rfl, rfl, _, rfl, iteF ?_⟩
      refine ⟨_, rfl, q, _, _, _, rfl, rfl, SqL.of hq, ix 0 _ rfl, rfl, _, rfl, iteF ?_⟩
      refine ⟨_, rfl, q, _, _, _, rfl, rfl, SqL.of hq, ix 0 _ rfl, rfl, _, rfl, iteF ?_⟩
      refine ⟨_, rfl, q, _, _, _, rfl, rfl, SqL.of hq, ix 0 _ rfl, rfl, _, rfl, iteT ?_⟩
      refine ⟨_, rfl, p, dx, _, rfl, I.obj, lookup_zip_none (by decide +kernel), _, p, wl, a, rfl, E0, g, fun H1 wl1 t E1 w1 k1 o1 => ?_⟩
      have hs2 := step_tick a
      refine out H1 wl1 t (doTick a) ?_ ?_ (good_tick g) (Nat.le_trans (len_tick g) (by decide)) E1 w1 k1 o1
      · rw [hs2]
      · rw [hs2]
        exact .inr rfl
    | state =>
      have hst : st = some a := by
        rcases hs with hs | hs
        · exfalso
          rw [hs] at hmay
          exact hmay (step_none (by intro m o l z; cases z))
        · exact hs
      subst hst
      have hs2 := step_state a
      rw [hs2] at k
      refine ⟨_, rfl, q, _, _, _, rfl, rfl, SqL.of hq, ix 0 _ rfl, rfl, _, rfl, iteF ?_⟩
      refine ⟨_, rfl, q, _, _, _, rfl, rfl, SqL.of hq, ix 0 _ rfl, rfl, _, rfl, iteF ?_⟩
      refine ⟨_, rfl, q, _, _, _, rfl, rfl, SqL.of hq, ix 0 _ rfl, rfl, _, rfl, iteF ?_⟩
      refine ⟨_, rfl, q, _, _, _, rfl, rfl, SqL.of hq, ix 0 _ rfl, rfl, _, rfl, iteF ?_⟩
      refine ⟨(by show 0 ≤ sizeLine; decide), fun l hl => ⟨(by show 2 ≤ sizeLine; decide), fun t ht => ?_⟩⟩
      have s1 : Same H (upd (upd H l (.lst [])) t (.tup [.int 0, .ref l])) := (same_new hl).trans (same_new ht)
      have o1 : OutAt K (upd (upd H l (.lst [])) t (.tup [.int 0, .ref l])) t 0 [] := out_nil hl ht
      generalize (upd (upd H l (.lst [])) t (.tup [.int 0, .ref l])) = H1 at s1 o1
      have I1 := I.same s1
      refine ⟨_, rfl, p, dx, _, rfl, I1.obj, lookup_zip_none (by decide +kernel), _, p, wl, a, rfl, E0.same s1, fun H2 b s2 n2 h2 => ?_⟩
      obtain ⟨l1, o2, o3⟩ := o1
      refine ⟨t, b, 0, [], stateOf a, rfl, ⟨l1, Same.sqT s2 o2, o3.same s2⟩, h2, (by show 2 + 0 + 4 ≤ 100000; decide), fun H3 x s3 n3 h3 => ?_⟩
      have s13 := (s1.trans s2).trans s3
      refine k H3 wl x a (E0.same s13) g (.inr rfl) (.inl rfl) (Same.kp p s13).kept h3 ?_ ?_
      · intro d o e n1 n2'
        exact (ne_of_none ((s1.trans s2) d o e) n3).symm
      · show 6 ≤ 1000
        decide
end
end Nl

set_option Elab.async false
set_option linter.all false
set_option maxRecDepth 100000
set_option maxHeartbeats 4000000
namespace Nl
open PySem PySem.Spec PyProof.Rows L2
section
variable {P : Program} {w : World} {K : PySem.W.Frag} {mg : Str → Option Value} {base : Heap} {C M : Addr} {f : Addr} {fd : FuncData}
/-! ### answers -/
/-- a list that is handed in: known to the object -/
def Handed (K : PySem.W.Frag) (H : Hp) (a : Addr) (xs : List V) : Prop := (∃ o, H a = some (.frz o (.lst xs))) ∨
  ∃ (o : Obj) (its : Array Value) (n : Nat), K.lookup a = some o ∧ o.cls = .type "list" ∧ o.dict = none ∧ o.data = .seq its n ∧ its.size ≤ sizeLine ∧ Vals xs its.toList
theorem Handed.sq {H : Hp} {a : Addr} {xs : List V} (h : Handed K H a xs) : SqL K H a xs := by
  rcases h with ⟨o, h⟩ | h
  · exact .inl (.inr ⟨o, h⟩)
  · exact .inr h
theorem Handed.same {H H' : Hp} {a : Addr} {xs : List V} (h : Handed K H a xs) (s : Same H H') : Handed K H' a xs := by
  rcases h with ⟨o, h⟩ | h
  · exact .inl ⟨o, s _ _ h⟩
  · exact .inr h
theorem Handed.kept {H H' : Hp} {a p wl : Addr} {xs ys : List V} {Cc dx : Addr} {fs : List (Str × V)} (h : Handed K H a xs) (s : Kept H H' p wl) (hp : H p = some (.ins Cc dx fs)) (hw : H wl = some (.lst ys)) : Handed K H' a xs := by
  rcases h with ⟨o, h⟩ | h
  · exact .inl ⟨o, s _ _ h (ne_of h hp (by intro z; cases z)) (ne_of h hw (by intro z; cases z))⟩
  · exact .inr h
theorem Handed.write {H : Hp} {a g : Addr} {xs ys zs : List V} (h : Handed K H a xs) (hg : H g = some (.lst ys)) : Handed K (upd H g (.lst zs)) a xs := by
  rcases h with ⟨o, h⟩ | h
  · exact .inl ⟨o, (upd_ne (ne_of h hg (by intro z; cases z))).trans h⟩
  · exact .inr h
/-- an end stays where a list is written that is not its own -/
theorem EndAt.apart {Z : Addr → Prop} {H : Hp} {p wl gv : Addr} {a : Kgo3.Abs} {l ys : List V} (E : EndAt Z K C H p a wl) (hg : H gv = some (.lst l)) (hne : gv ≠ wl) (hz : Z gv) : EndAt Z K C (upd H gv (.lst ys)) p a wl := by
  obtain ⟨dx, kn, ps, I⟩ := E
  refine ⟨dx, kn, ps, ?_, sqT_upd I.known hg, ?_, I.each.mono fun q b hq hb h => ?_, I.av⟩
  · rw [upd_ne (ne_of I.obj hg (by intro z; cases z))]
    exact I.obj
  · rw [upd_ne (fun e => hne e.symm)]
    exact I.lst
  · rw [upd_ne (fun e => I.av q hq (by rw [e]; exact hz))]
    exact h
def spAns (K : PySem.W.Frag) : Sp := fun vs H Q _ => ∃ (a : Addr) (l : List Int), vs = [.ref a] ∧ Handed K H a (vz l) ∧ PyKgo3.answers_asked l = true ∧ ∀ (H' : Hp) (p : Addr), H' p = some (.lst (vz (PyKgo3.answers l))) → Q (.ref p) H'
theorem scAns : FnScope ["calls", "end", "given", "at", "length", "answer"] ["calls"] (defScope (top 49)) := ⟨rfl, rfl, rfl, by decide +kernel, rfl, by decide +kernel, by decide +kernel⟩
/-- between two calls -/
structure Loop (K : PySem.W.Frag) (C : Addr) (l out : List Int) (H : Hp) (c p gv : Addr) (i : Nat) : Prop where
  ex : ∃ (cs : List (List (List Int))) (s : Kgo3Neutral.S) (a : Kgo3.Abs) (wl : Addr) (given : List Int), Calls (l.drop i) cs ∧ cs.all Kgo3Neutral.asked1 = true ∧ Kgo3Neutral.may s cs = true ∧ EndAt (fun b => b = gv) K C H p a wl ∧ Good a ∧ (s = none ∨ s = some a) ∧
    H gv = some (.lst (vz given)) ∧ gv ≠ wl ∧ given ++ PyFlat.told (PyFlat.played Kgo3Neutral.step s cs) = out ∧ given.length + 1001 * cs.length ≤ 1001000
  le : i ≤ l.length
  hc : Handed K H c (vz l)
def left (l : List Int) (σ : L2.St) : Nat := match σ with
  | [_, _, _, some (.int i), _, _] => l.length - i.toNat
  | _ => 0
theorem ok_ans (F : Fun K "answers" "answers" (top 49) f fd) (T : Txt K mg C M) (G0 : CFn P w K mg base C ["self"] 2 (spInit K C)) (G1 : GFn P w K mg base "call_length" ["calls", "at"] 1 (spLen K)) (G2 : GFn P w K mg base "answer_of" ["end", "call"] 7 (spAnswer K C)) :
    FnOk P w K mg base CX0 8 f fd ["calls"] (spAns K) := by
  refine F.ok scAns (fun vs H Q E h => ?_) (fun cdv A outer s H vs Q E hr h => ?_)
  · obtain ⟨a, l, rfl, _⟩ := h
    rfl
  · obtain ⟨c, l, rfl, hc, hask, k⟩ := h
    have hr1 : Room 1 _ := hr.mono (by decide)
    have hr3 : Room 3 _ := hr.mono (by decide)
    refine ⟨_, pss_cons (ps_set (i := 1) scAns.nd rfl (Or.inl rfl) (pe_mk0 G0 hr3 rfl T.mgC))
      (pss_cons (ps_set (i := 2) scAns.nd rfl (Or.inl rfl) (pe_lst pa_nil))
      (pss_cons (ps_set (i := 3) scAns.nd rfl (Or.inl rfl) pe_int)
      (pss_cons (ps_while PassesOwn.never (pt_cmpR op_lt (pv 3) (pe_len rfl T.len (pa_cons (pv 0) pa_nil)) (nomark _))
        (pss_cons (ps_set (i := 4) scAns.nd rfl (Or.inl rfl) (pe_g G1 hr1 rfl (pa_cons (pv 0) (pa_cons (pv 3) pa_nil))))
        (pss_cons (ps_set (i := 5) scAns.nd rfl (Or.inl rfl) (pe_g G2 hr rfl (pa_cons (pv 1) (pa_cons (pe_slice sl_list (pv 0) (po_some (pv 3)) (po_some (pe_op op_add (pv 3) (pv 4)))) pa_nil))))
        (pss_cons (ps_expr (pe_bm PySem.F.plainAttrs_list PySem.F.slot_list_append PySem.F.type_list_append mt_append (pv 2) (pa_cons (pe_len rfl T.len (pa_cons (pv 5) pa_nil)) pa_nil)))
        (pss_cons (ps_expr (pe_bm PySem.F.plainAttrs_list PySem.F.slot_list_extend PySem.F.type_list_extend mt_extend (pv 2) (pa_cons (pv 5) pa_nil)))
        (pss_one (ps_aug (i := 3) scAns.nd rfl (Or.inl rfl) (pv 4) ip_add)))))))
      (pss_one (ps_ret (pv 2)))))), ?_⟩
    -- end = LineEnd()
    intro p dp np ndp nep
    refine ⟨p, dp, rfl, upd_same, fun H1 wl EZ nwl kp1 => ⟨rfl, ?_⟩⟩
    have s1 : Same H H1 := Same.made np ndp kp1
    -- given = []
    refine ⟨(by show 0 ≤ sizeLine; decide), fun gv hgv => ?_⟩
    have s2 : Same H1 (upd H1 gv (.lst [])) := same_new hgv
    obtain ⟨cs, hcs, hlen, hall, hmay, hout⟩ := (due_of hask).ex
    have L0 : Loop K C l (PyKgo3.answers l) (upd H1 gv (.lst [])) c p gv 0 := by
      refine ⟨⟨cs, none, zeroAbs, wl, [], hcs, hall, hmay, (EZ _).same s2, good_zero, .inl rfl, upd_same, ?_, ?_, ?_⟩, Nat.zero_le _, (hc.same s1).same s2⟩
      · obtain ⟨ps, hw⟩ := (EZ (fun _ => False)).lst_at
        exact (ne_of_none hw hgv).symm
      · exact hout.symm
      · show 0 + 1001 * cs.length ≤ 1001000
        omega
    refine ⟨fun m σ H' => m = left l σ ∧ ∃ (i : Nat) (v4 v5 : Option V), σ = [some (.ref c), some (.ref p), some (.ref gv), some (.int (i : Int)), v4, v5] ∧ Loop K C l (PyKgo3.answers l) H' c p gv i, ⟨_, rfl, 0, none, none, rfl, L0⟩, ?_⟩
    rintro m σ H2 ⟨rfl, i, v4, v5, rfl, ⟨⟨cs, s, a, wl2, given, hcs, hall, hmay, E2, g2, hs, hgv2, ngw, hout, hsz⟩, hle, hc2⟩⟩
    refine ⟨_, rfl, _, rfl, c, _, rfl, .inl hc2.sq, _, _, rfl, rfl, _, rfl, ?_⟩
    rw [vz_len]
    refine ite2 (fun h => ?_) (fun h => ?_)
    · have hi : i < l.length := by
        have := of_decide_eq_true h
        omega
      refine ⟨fun σ' H' => ∃ (i' : Nat) (v4 v5 : Option V), σ' = [some (.ref c), some (.ref p), some (.ref gv), some (.int (i' : Int)), v4, v5] ∧ Loop K C l (PyKgo3.answers l) H' c p gv i' ∧ i < i', ?_, ?_⟩
      · rintro σ' H' ⟨i', w4, w5, rfl, L', hlt⟩
        refine ⟨_, ?_, rfl, i', w4, w5, rfl, L'⟩
        show l.length - ((i' : Nat) : Int).toNat < l.length - ((i : Nat) : Int).toNat
        rw [Int.toNat_natCast, Int.toNat_natCast]
        omega
      have hne : l.drop i ≠ [] := fun e => by
        have := congrArg List.length e
        rw [List.length_drop] at this
        simp at this
        omega
      obtain ⟨ll, hll⟩ : ∃ ll, ll = l.drop i := ⟨_, rfl⟩
      rw [← hll] at hcs hne
      cases hcs with
      | nil => exact absurd rfl hne
      | @cons _ t c1 cs1 fr hrest =>
        obtain ⟨pre, epre, fr1, hpos⟩ := fr.split
        have hdrop : l.drop i = pre ++ t := hll.symm.trans epre
        have hsum : i + pre.length + t.length = l.length := by
          have := congrArg List.length hdrop
          rw [List.length_drop, List.length_append] at this
          omega
        have hask1 : Kgo3Neutral.asked1 c1 = true ∧ cs1.all Kgo3Neutral.asked1 = true := by
          rw [List.all_cons, Bool.and_eq_true] at hall
          exact hall
        have hmay1 : (Kgo3Neutral.step s c1).2 ≠ [] ∧ Kgo3Neutral.may (Kgo3Neutral.step s c1).1 cs1 = true := by
          have : (!((Kgo3Neutral.step s c1).2.isEmpty) && Kgo3Neutral.may (Kgo3Neutral.step s c1).1 cs1) = true := hmay
          rw [Bool.and_eq_true] at this
          refine ⟨fun e => ?_, this.2⟩
          have h1 := this.1
          rw [e] at h1
          cases h1
        -- length = call_length(calls, at)
        refine ⟨_, rfl, _, rfl, c, l, pre, t, i, c1, rfl, hc2.sq, hdrop, fr1, ?_⟩
        -- answer = answer_of(end, calls[at:at + length])
        refine ⟨_, rfl, _, rfl, _, rfl, _, rfl, _, rfl, _, rfl, _, _, rfl, rfl, _, rfl, c, _, rfl, hc2.sq, fun q hq => ?_⟩
        have ecut : cutV (vz l) (some (i : Int)) (some ((i : Int) + (pre.length : Nat))) = vz pre := by
          have e1 : ((i : Int) + (pre.length : Nat)) = ((i + pre.length : Nat) : Int) := by omega
          rw [e1, cutZ (by omega), hdrop, List.take_left']
          rfl
        rw [ecut]
        have s3 : Same H2 (upd H2 q (.lst (vz pre))) := same_new hq
        obtain ⟨dxe, fse, hpe⟩ := E2.obj_at
        obtain ⟨pse, hwe⟩ := E2.lst_at
        have ngp : gv ≠ p := ne_of hgv2 hpe (by intro z; cases z)
        refine ⟨_, p, wl2, q, a, s, c1, pre, rfl, E2.same s3, (fun b hb => ⟨.lst (vz given), by rw [show b = gv from hb]; exact s3 _ _ hgv2⟩), g2, hs, upd_same, fr1, hask1.1, hmay1.1, fun H3 wl3 r a3 E3 g3 hs3 w3 k3 hr3' hrn hrl => ?_⟩
        have k23 : Kept H2 H3 p wl2 := Same.kept s3 k3
        have hgv3 : H3 gv = some (.lst (vz given)) := k23 _ _ hgv2 ngp ngw
        have hc3 : Handed K H3 c (vz l) := hc2.kept k23 hpe hwe
        have ngw3 : gv ≠ wl3 := by
          rcases w3 with w3 | w3
          · rw [w3]
            exact ngw
          · exact ne_of_none (s3 _ _ hgv2) w3
        have nrg : r ≠ gv := hrn gv _ (s3 _ _ hgv2) ngp ngw
        have hszc : given.length + 1001 * (cs1.length + 1) ≤ 1001000 := hsz
        -- given.append(len(answer))
        refine ⟨_, rfl, .inl ⟨rfl, _, SqL.of hgv3⟩, _, rfl, r, _, rfl, .inl (SqL.of hr3'), gv, _, _, rfl, rfl, hgv3, ?_, ?_⟩
        · rw [vz_len]
          exact Nat.lt_of_le_of_lt (Nat.le_trans (Nat.le_add_right _ _) hszc) (by decide)
        have hgv4 : (upd H3 gv (.lst (vz given ++ [.int ((vz (Kgo3Neutral.step s c1).2).length : Nat)]))) gv = some (.lst (vz given ++ [.int ((vz (Kgo3Neutral.step s c1).2).length : Nat)])) := upd_same
        have hr4 : (upd H3 gv (.lst (vz given ++ [.int ((vz (Kgo3Neutral.step s c1).2).length : Nat)]))) r = some (.lst (vz (Kgo3Neutral.step s c1).2)) := (upd_ne nrg).trans hr3'
        have E4 := E3.apart (ys := vz given ++ [.int ((vz (Kgo3Neutral.step s c1).2).length : Nat)]) hgv3 ngw3 rfl
        have hc4 := hc3.write (zs := vz given ++ [.int ((vz (Kgo3Neutral.step s c1).2).length : Nat)]) hgv3
        generalize (upd H3 gv (.lst (vz given ++ [.int ((vz (Kgo3Neutral.step s c1).2).length : Nat)]))) = H4 at hgv4 hr4 E4 hc4
        -- given.extend(answer)
        refine ⟨_, rfl, .inl ⟨rfl, _, SqL.of hgv4⟩, _, rfl, gv, r, _, _, rfl, rfl, hgv4, hr4, ?_, ?_⟩
        · rw [List.length_append, vz_len, vz_len]
          show given.length + 1 + _ ≤ sizeLine
          exact Nat.le_trans (show given.length + 1 + (Kgo3Neutral.step s c1).2.length ≤ 1001000 by omega) (by decide)
        have ev : vz given ++ [.int ((vz (Kgo3Neutral.step s c1).2).length : Nat)] ++ vz (Kgo3Neutral.step s c1).2 = vz (given ++ ((Kgo3Neutral.step s c1).2.length : Int) :: (Kgo3Neutral.step s c1).2) := by
          rw [vz_len]
          simp
        rw [ev]
        have E5 := E4.apart (ys := vz (given ++ ((Kgo3Neutral.step s c1).2.length : Int) :: (Kgo3Neutral.step s c1).2)) hgv4 ngw3 rfl
        have hc5 := hc4.write (zs := vz (given ++ ((Kgo3Neutral.step s c1).2.length : Int) :: (Kgo3Neutral.step s c1).2)) hgv4
        -- at += length
        refine ⟨_, rfl, _, rfl, _, _, rfl, rfl, i + pre.length, some (.int (pre.length : Nat)), some (.ref r), ?_, ⟨⟨cs1, (Kgo3Neutral.step s c1).1, a3, wl3, _, ?_, hask1.2, hmay1.2, E5, g3, hs3, upd_same, ngw3, ?_, ?_⟩, ?_, hc5⟩, ?_⟩
        · have e1 : ((i : Int) + (pre.length : Nat)) = ((i + pre.length : Nat) : Int) := by omega
          exact congrArg (fun z => [some (V.ref c), some (V.ref p), some (V.ref gv), some (V.int z), some (V.int (pre.length : Nat)), some (V.ref r)]) e1
        · have : l.drop (i + pre.length) = t := by
            rw [← List.drop_drop, hdrop, List.drop_left']
            rfl
          rw [this]
          exact hrest
        · rw [← hout]
          show _ = given ++ (((Kgo3Neutral.step s c1).2.length : Int) :: (Kgo3Neutral.step s c1).2 ++ PyFlat.told (PyFlat.played Kgo3Neutral.step (Kgo3Neutral.step s c1).1 cs1))
          rw [List.append_assoc]
        · rw [List.length_append, List.length_cons]
          omega
        · omega
        · omega
    · have hi : i = l.length := by
        have : ¬ ((i : Int) < (l.length : Int)) := fun z => h (decide_eq_true z)
        omega
      have hnil : cs = [] := by
        rw [hi, List.drop_length] at hcs
        cases hcs with
        | nil => rfl
        | cons fr _ => cases fr
      subst hnil
      have e : given = PyKgo3.answers l := by
        rw [← hout]
        show given = given ++ []
        rw [List.append_nil]
      rw [e] at hgv2
      exact ⟨_, rfl, k H2 gv hgv2⟩
end
end Nl

set_option Elab.async false
set_option linter.all false
set_option maxRecDepth 100000
set_option maxHeartbeats 4000000
namespace Nl
open PySem PySem.Spec PyProof.Rows L2
open PySem.W (Codec)
/-! ### what the top has written -/
def GF (K : PySem.W.Frag) (x qual : Str) (st : Stmt) : Prop := ∃ f fd, PySem.W.nsIn K mainGlobals x = some (some (.ref f)) ∧ Fun K x qual st f fd
def MF (K : PySem.W.Frag) (C : Addr) (m qual : Str) (st : Stmt) : Prop := ∃ f fd, Meth K C m f ∧ Fun K m qual st f fd
theorem gf_mk {K : PySem.W.Frag} {x qual : Str} {st : Stmt} {f : Addr} {oc : Value} {od an : Option Addr} {osl : Array (Option Value)} {kV doc pm cdv ct : Value} (a : PySem.W.nsIn K mainGlobals x = some (some (.ref f)))
    (l : K.lookup f = some ⟨oc, od, .func (PySem.W.fnOf x qual (defArgs st) (defBody st) (defScope st) .none kV doc pm an cdv ct), osl⟩) (c : PySem.W.codeIn K cdv qual = true) (k : PySem.W.keepIn K (.ref f) = true) : GF K x qual st := ⟨f, _, a, fun_mk l c k⟩
theorem mf_mk {K : PySem.W.Frag} {C : Addr} {x qual : Str} {st : Stmt} {f : Addr} {oc : Value} {od an : Option Addr} {osl : Array (Option Value)} {kV doc pm cdv ct : Value} (a : PySem.W.findIn K (.ref C) x = some (some (.ref f))) (i : PySem.W.isFn K (.ref f) = true)
    (l : K.lookup f = some ⟨oc, od, .func (PySem.W.fnOf x qual (defArgs st) (defBody st) (defScope st) .none kV doc pm an cdv ct), osl⟩) (c : PySem.W.codeIn K cdv qual = true) (k : PySem.W.keepIn K (.ref f) = true) : MF K C x qual st := ⟨f, _, ⟨a, i, k⟩, fun_mk l c k⟩
theorem cst_mk {K : PySem.W.Frag} {h : Heap} {mg : Str → Option Value} {x : Str} {v : V} {u : Value} (X : K.In h) (G : h.Ns mainGlobals mg) (a : PySem.W.nsIn K mainGlobals x = some (some u)) (r : RelV v u) : Cst mg x v := ⟨u, PySem.W.mg_of X G a, r⟩
theorem rel_abs {u : Value} {v : V} (h : absV u = some v) : RelV v u := by
  cases u <;> (first | (injection h with h; subst h; first | rfl | exact ⟨_, rfl⟩) | cases h)
theorem vals_abs : ∀ {us : List Value} {xs : List V}, us.map absV = xs.map some → Vals xs us
  | [], [], _ => .nil
  | [], _ :: _, h => by cases h
  | _ :: _, [], h => by cases h
  | u :: us, x :: xs, h => by
    injection h with h1 h2
    exact .cons (rel_abs h1) (vals_abs h2)
theorem tup_mk {K : PySem.W.Frag} {h : Heap} {mg : Str → Option Value} {x : Str} {xs : List V} {a : Addr} {od : Option Addr} {its : Array Value} {n : Nat} {sl : Array (Option Value)} (X : K.In h) (G : h.Ns mainGlobals mg) (e : PySem.W.nsIn K mainGlobals x = some (some (.ref a)))
    (l : K.lookup a = some ⟨.type "tuple", od, .seq its n, sl⟩) (z : its.size ≤ sizeLine) (r : its.toList.map absV = xs.map some) : CTup K mg x xs := ⟨a, PySem.W.mg_of X G e, fun _ => .inr ⟨_, its, n, l, rfl, rfl, z, vals_abs r⟩⟩
structure ClsTxt (K : PySem.W.Frag) (C : Addr) (x : Str) : Prop where
  at_ : PySem.W.nsIn K mainGlobals x = some (some (.ref C))
  cl : Cls K C
  makes : PySem.W.makesIn K C = true
  kc : PySem.W.keepIn K (.ref C) = true
theorem cls_mk {K : PySem.W.Frag} {C : Addr} {x : Str} (a : PySem.W.nsIn K mainGlobals x = some (some (.ref C))) (pg : PySem.W.plainGet K C Str.empty = true) (hd : PySem.W.hasDictIn K C = true) (po : PySem.W.plainOver K C = true) (sa : PySem.W.findIn K (.ref C) "__setattr__" = some (some (.builtin "object.__setattr__")))
    (mk : PySem.W.makesIn K C = true) (kc : PySem.W.keepIn K (.ref C) = true) : ClsTxt K C x := ⟨a, ⟨pg, hd, po, sa⟩, mk, kc⟩
structure EndTxt (K : PySem.W.Frag) (C : Addr) : Prop where
  c : ClsTxt K C "LineEnd"
  na : ∀ (i : Nat) (f : Str), leN[i]? = some f → NoAttr K C f
  m0 : MF K C "__init__" "LineEnd.__init__" (inClass (top 40) 0)
  m1 : MF K C "begin" "LineEnd.begin" (inClass (top 40) 1)
  m2 : MF K C "start" "LineEnd.start" (inClass (top 40) 2)
  m3 : MF K C "send" "LineEnd.send" (inClass (top 40) 3)
  m4 : MF K C "heard" "LineEnd.heard" (inClass (top 40) 4)
  m5 : MF K C "tick" "LineEnd.tick" (inClass (top 40) 5)
  m6 : MF K C "state" "LineEnd.state" (inClass (top 40) 6)
  m7 : MF K C "take" "LineEnd.take" (inClass (top 40) 7)
  m8 : MF K C "acknowledge" "LineEnd.acknowledge" (inClass (top 40) 8)
  m9 : MF K C "acknowledged" "LineEnd.acknowledged" (inClass (top 40) 9)
  m10 : MF K C "cut" "LineEnd.cut" (inClass (top 40) 10)
  m11 : MF K C "own_pair" "LineEnd.own_pair" (inClass (top 40) 11)
  m12 : MF K C "beat_thing" "LineEnd.beat_thing" (inClass (top 40) 12)
  m13 : MF K C "piece_thing" "LineEnd.piece_thing" (inClass (top 40) 13)
structure MsgTxt (K : PySem.W.Frag) (M : Addr) : Prop where
  c : ClsTxt K M "Message"
  na : ∀ (i : Nat) (f : Str), msN[i]? = some f → NoAttr K M f
  m0 : MF K M "__init__" "Message.__init__" (inClass (top 11) 0)
theorem na_leN {K : PySem.W.Frag} {C : Addr} (n0 : PySem.W.findIn K (.ref C) "me" = some none) (n1 : PySem.W.findIn K (.ref C) "other" = some none) (n2 : PySem.W.findIn K (.ref C) "life" = some none) (n3 : PySem.W.findIn K (.ref C) "session" = some none) (n4 : PySem.W.findIn K (.ref C) "known" = some none) (n5 : PySem.W.findIn K (.ref C) "up" = some none) (n6 : PySem.W.findIn K (.ref C) "sent" = some none) (n7 : PySem.W.findIn K (.ref C) "waiting" = some none) (n8 : PySem.W.findIn K (.ref C) "got" = some none) (n9 : PySem.W.findIn K (.ref C) "quiet" = some none) : ∀ (i : Nat) (f : Str), leN[i]? = some f → NoAttr K C f
  | 0, _, h => by
    cases h
    exact n0
  | 1, _, h => by
    cases h
    exact n1
  | 2, _, h => by
    cases h
    exact n2
  | 3, _, h => by
    cases h
    exact n3
  | 4, _, h => by
    cases h
    exact n4
  | 5, _, h => by
    cases h
    exact n5
  | 6, _, h => by
    cases h
    exact n6
  | 7, _, h => by
    cases h
    exact n7
  | 8, _, h => by
    cases h
    exact n8
  | 9, _, h => by
    cases h
    exact n9
  | i + 10, _, h => by simp [leN] at h
theorem na_msN {K : PySem.W.Frag} {C : Addr} (n0 : PySem.W.findIn K (.ref C) "kind" = some none) (n1 : PySem.W.findIn K (.ref C) "own" = some none) (n2 : PySem.W.findIn K (.ref C) "known" = some none) (n3 : PySem.W.findIn K (.ref C) "got" = some none) (n4 : PySem.W.findIn K (.ref C) "number" = some none) (n5 : PySem.W.findIn K (.ref C) "piece" = some none) : ∀ (i : Nat) (f : Str), msN[i]? = some f → NoAttr K C f
  | 0, _, h => by
    cases h
    exact n0
  | 1, _, h => by
    cases h
    exact n1
  | 2, _, h => by
    cases h
    exact n2
  | 3, _, h => by
    cases h
    exact n3
  | 4, _, h => by
    cases h
    exact n4
  | 5, _, h => by
    cases h
    exact n5
  | i + 6, _, h => by simp [msN] at h
theorem end_mk {K : PySem.W.Frag} {C : Addr} (c : ClsTxt K C "LineEnd") (na : ∀ (i : Nat) (f : Str), leN[i]? = some f → NoAttr K C f) (m0 : MF K C "__init__" "LineEnd.__init__" (inClass (top 40) 0)) (m1 : MF K C "begin" "LineEnd.begin" (inClass (top 40) 1)) (m2 : MF K C "start" "LineEnd.start" (inClass (top 40) 2)) (m3 : MF K C "send" "LineEnd.send" (inClass (top 40) 3)) (m4 : MF K C "heard" "LineEnd.heard" (inClass (top 40) 4)) (m5 : MF K C "tick" "LineEnd.tick" (inClass (top 40) 5)) (m6 : MF K C "state" "LineEnd.state" (inClass (top 40) 6)) (m7 : MF K C "take" "LineEnd.take" (inClass (top 40) 7)) (m8 : MF K C "acknowledge" "LineEnd.acknowledge" (inClass (top 40) 8)) (m9 : MF K C "acknowledged" "LineEnd.acknowledged" (inClass (top 40) 9)) (m10 : MF K C "cut" "LineEnd.cut" (inClass (top 40) 10)) (m11 : MF K C "own_pair" "LineEnd.own_pair" (inClass (top 40) 11)) (m12 : MF K C "beat_thing" "LineEnd.beat_thing" (inClass (top 40) 12)) (m13 : MF K C "piece_thing" "LineEnd.piece_thing" (inClass (top 40) 13)) : ∃ C, EndTxt K C := ⟨C, c, na, m0, m1, m2, m3, m4, m5, m6, m7, m8, m9, m10, m11, m12, m13⟩
theorem msg_mk {K : PySem.W.Frag} {M : Addr} (c : ClsTxt K M "Message") (na : ∀ (i : Nat) (f : Str), msN[i]? = some f → NoAttr K M f) (m0 : MF K M "__init__" "Message.__init__" (inClass (top 11) 0)) : ∃ M, MsgTxt K M := ⟨M, c, na, m0⟩
theorem txt_mk {K : PySem.W.Frag} {h : Heap} {mg : Str → Option Value} {C M : Addr} (X : K.In h) (G : h.Ns mainGlobals mg) (E : EndTxt K C) (Ms : MsgTxt K M) (zl : PySem.W.nsIn K mainGlobals "len" = some none) (ze : PySem.W.nsIn K mainGlobals "enumerate" = some none)
    (four : CTup K mg "FOUR_STEPS" (vn tab)) (nothing : CTup K mg "NOTHING" [.int 0, .int 0]) (ones : Cst mg "ALL_ONES" (.int 4294967295)) (beat : Cst mg "BEAT" (.int 1)) (piece : Cst mg "PIECE" (.int 2)) (headLen : Cst mg "HEAD_LENGTH" (.int 24)) (numLen : Cst mg "NUMBER_LENGTH" (.int 4)) (chkLen : Cst mg "CHECK_LENGTH" (.int 4)) (longest : Cst mg "LONGEST_PIECE" (.int 200)) (done : Cst mg "DONE" (.int 0)) (wrong : Cst mg "WRONG_NUMBERS" (.int (-22))) (notUp : Cst mg "NOT_UP" (.int (-11))) (tooMany : Cst mg "TOO_MANY" (.int (-28))) (notRight : Cst mg "NOT_RIGHT" (.int (-71))) (tSent : Cst mg "TOLD_SENT" (.int 0)) (tUp : Cst mg "TOLD_UP" (.int 1)) (tGot : Cst mg "TOLD_GOT" (.int 2)) (tDown : Cst mg "TOLD_DOWN" (.int 3)) (highest : Cst mg "HIGHEST_NAME" (.int 255)) (most : Cst mg "MOST_WAITING" (.int 32)) (again : Cst mg "SENT_AGAIN" (.int 4)) (quietT : Cst mg "QUIET_TICKS" (.int 16)) (cStart : Cst mg "START" (.int 0)) (cSend : Cst mg "SEND" (.int 1)) (cHeard : Cst mg "HEARD" (.int 2)) (cTick : Cst mg "TICK" (.int 3)) : Txt K mg C M where
  clE := E.c.cl
  naE := E.na
  clM := Ms.c.cl
  naM := Ms.na
  mgC := PySem.W.mg_of X G E.c.at_
  mgM := PySem.W.mg_of X G Ms.c.at_
  len := PySem.W.mg_none_of X G zl
  enum := PySem.W.mg_none_of X G ze
  four := four
  nothing := nothing
  ones := ones
  beat := beat
  piece := piece
  headLen := headLen
  numLen := numLen
  chkLen := chkLen
  longest := longest
  done := done
  wrong := wrong
  notUp := notUp
  tooMany := tooMany
  notRight := notRight
  tSent := tSent
  tUp := tUp
  tGot := tGot
  tDown := tDown
  highest := highest
  most := most
  again := again
  quietT := quietT
  cStart := cStart
  cSend := cSend
  cHeard := cHeard
  cTick := cTick
section
variable {P : Program} {w : World} {K : PySem.W.Frag} {h : Heap} {mg : Str → Option Value} {base : Heap}
theorem gfn {x qual : Str} {st : Stmt} {ps : List Str} {k : Nat} {sp : Sp} (X : K.In h) (G : h.Ns mainGlobals mg) (g : GF K x qual st) (hb : ∀ (kV doc pm : Value) (an : Option Addr) (cdv ct : Value) (us : List Value), us.length = ps.length → bindArgs (PySem.W.fnOf x qual (defArgs st) (defBody st) (defScope st) .none kV doc pm an cdv ct) ⟨us, []⟩ = pure (ps.zip us))
    (ok : ∀ f fd, Fun K x qual st f fd → FnOk P w K mg base CX0 k f fd ps sp) : GFn P w K mg base x ps k sp := by
  obtain ⟨f, fd, a, F⟩ := g
  exact ⟨f, fd, PySem.W.mg_of X G a, F.kp, F.binds hb, ok f fd F⟩
theorem mfn {C : Addr} {x qual : Str} {st : Stmt} {ps : List Str} {k : Nat} {sp : Sp} (g : MF K C x qual st) (hb : ∀ (kV doc pm : Value) (an : Option Addr) (cdv ct : Value) (us : List Value), us.length = ps.length → bindArgs (PySem.W.fnOf x qual (defArgs st) (defBody st) (defScope st) .none kV doc pm an cdv ct) ⟨us, []⟩ = pure (ps.zip us))
    (ok : ∀ f fd, Fun K x qual st f fd → FnOk P w K mg base CX0 k f fd ps sp) : MFn P w K mg base C x ps k sp := by
  obtain ⟨f, fd, a, F⟩ := g
  exact ⟨f, fd, a, F.binds hb, ok f fd F⟩
theorem cfn {C : Addr} {y qual : Str} {st : Stmt} {ps : List Str} {k : Nat} {sp : Sp} (c : ClsTxt K C y) (g : MF K C "__init__" qual st) (hb : ∀ (kV doc pm : Value) (an : Option Addr) (cdv ct : Value) (us : List Value), us.length = ps.length → bindArgs (PySem.W.fnOf "__init__" qual (defArgs st) (defBody st) (defScope st) .none kV doc pm an cdv ct) ⟨us, []⟩ = pure (ps.zip us))
    (ok : ∀ f fd, Fun K "__init__" qual st f fd → FnOk P w K mg base CX0 k f fd ps sp) : CFn P w K mg base C ps k sp := by
  obtain ⟨f, fd, a, F⟩ := g
  exact ⟨f, fd, ⟨c.makes, a.at_, a.fn, c.kc⟩, F.binds hb, ok f fd F⟩
end
theorem all_mk {P : Program} {w : World} {K : PySem.W.Frag} {h : Heap} {mg : Str → Option Value} {fa C M : Addr} (X : K.In h) (G : h.Ns mainGlobals mg) (hfa : mg "answers" = some (.ref fa)) (T : Txt K mg C M) (E : EndTxt K C) (Ms : MsgTxt K M)
    (g3 : GF K "check_of" "check_of" (top 3)) (g12 : GF K "low_byte_first" "low_byte_first" (top 12)) (g13 : GF K "number_at" "number_at" (top 13)) (g14 : GF K "pair_at" "pair_at" (top 14)) (g15 : GF K "with_check" "with_check" (top 15)) (g16 : GF K "write_head" "write_head" (top 16)) (g17 : GF K "write_beat" "write_beat" (top 17)) (g18 : GF K "write_piece" "write_piece" (top 18)) (g19 : GF K "is_piece_length" "is_piece_length" (top 19)) (g20 : GF K "has_length_of_kind" "has_length_of_kind" (top 20)) (g21 : GF K "has_right_check" "has_right_check" (top 21)) (g22 : GF K "read_message" "read_message" (top 22)) (g38 : GF K "told_sent" "told_sent" (top 38)) (g39 : GF K "told_got" "told_got" (top 39)) (g46 : GF K "call_length" "call_length" (top 46)) (g47 : GF K "whole_answer" "whole_answer" (top 47)) (g48 : GF K "answer_of" "answer_of" (top 48)) (g49 : GF K "answers" "answers" (top 49)) :
    ∃ fd : FuncData, (∀ (s : Shared) (us : List Value), us.length = (["calls"] : List Str).length → BindsTo s fd ⟨us, []⟩ ((["calls"] : List Str).zip us)) ∧ ∀ base : Heap, K.In base → base.Ns mainGlobals mg → FnOk P w K mg base CX0 8 fa fd ["calls"] (spAns K) := by
  obtain ⟨f, fd, a49, F49⟩ := g49
  have e := hfa.symm.trans (PySem.W.mg_of X G a49)
  cases e
  have b49 := F49.binds (ps := ["calls"]) (fun _ _ _ _ _ _ us hl => match us, hl with | [_], _ => rfl)
  obtain ⟨oc, od, kV, doc, pm, an, cdv, ct, osl, hfd, lk, hcd⟩ := F49.ex
  refine ⟨fd, fun s us hu => ?_, fun base kb nb => ?_⟩
  · subst hfd
    match us, hu with | [_], _ => exact .of_eq rfl
  have G3 : GFn P w K mg base "check_of" ["numbers"] 1 (spCheck K) := gfn X G g3 (fun _ _ _ _ _ _ us hl => match us, hl with | [_], _ => rfl) fun f fd F => ok_check F T
  have G12 : GFn P w K mg base "low_byte_first" ["number"] 1 (spLow) := gfn X G g12 (fun _ _ _ _ _ _ us hl => match us, hl with | [_], _ => rfl) fun f fd F => ok_low F
  have G13 : GFn P w K mg base "number_at" ["numbers", "at"] 1 (spNum K) := gfn X G g13 (fun _ _ _ _ _ _ us hl => match us, hl with | [_, _], _ => rfl) fun f fd F => ok_num F
  have G14 : GFn P w K mg base "pair_at" ["numbers", "at"] 2 (spPair K) := gfn X G g14 (fun _ _ _ _ _ _ us hl => match us, hl with | [_, _], _ => rfl) fun f fd F => ok_pair F G13
  have G15 : GFn P w K mg base "with_check" ["numbers"] 2 (spWith) := gfn X G g15 (fun _ _ _ _ _ _ us hl => match us, hl with | [_], _ => rfl) fun f fd F => ok_with F G3 G12
  have G16 : GFn P w K mg base "write_head" ["kind", "sender", "receiver", "own", "known", "got"] 2 (spHead K) := gfn X G g16 (fun _ _ _ _ _ _ us hl => match us, hl with | [_, _, _, _, _, _], _ => rfl) fun f fd F => ok_head F G12
  have G17 : GFn P w K mg base "write_beat" ["sender", "receiver", "own", "known", "got"] 3 (spBeat K) := gfn X G g17 (fun _ _ _ _ _ _ us hl => match us, hl with | [_, _, _, _, _], _ => rfl) fun f fd F => ok_beat F T G15 G16
  have G18 : GFn P w K mg base "write_piece" ["sender", "receiver", "own", "known", "got", "number", "piece"] 3 (spPiece K) := gfn X G g18 (fun _ _ _ _ _ _ us hl => match us, hl with | [_, _, _, _, _, _, _], _ => rfl) fun f fd F => ok_piece F T G15 G16 G12
  have G19 : GFn P w K mg base "is_piece_length" ["length"] 1 (spIsLen) := gfn X G g19 (fun _ _ _ _ _ _ us hl => match us, hl with | [_], _ => rfl) fun f fd F => ok_isLen F T
  have G20 : GFn P w K mg base "has_length_of_kind" ["numbers"] 2 (spKind K) := gfn X G g20 (fun _ _ _ _ _ _ us hl => match us, hl with | [_], _ => rfl) fun f fd F => ok_kind F T G19
  have G21 : GFn P w K mg base "has_right_check" ["numbers"] 2 (spRight K) := gfn X G g21 (fun _ _ _ _ _ _ us hl => match us, hl with | [_], _ => rfl) fun f fd F => ok_right F T G13 G3
  have Gm : CFn P w K mg base M ["self", "kind", "own", "known", "got"] 1 (spMsg M) := cfn Ms.c Ms.m0 (fun _ _ _ _ _ _ us hl => match us, hl with | [_, _, _, _, _], _ => rfl) fun f fd F => ok_msg F T
  have G22 : GFn P w K mg base "read_message" ["numbers", "sender", "receiver"] 3 (spRead K M) := gfn X G g22 (fun _ _ _ _ _ _ us hl => match us, hl with | [_, _, _], _ => rfl) fun f fd F => ok_read F T G20 G14 G21 G13 Gm
  have G38 : GFn P w K mg base "told_sent" ["message"] 1 (spTold .net) := gfn X G g38 (fun _ _ _ _ _ _ us hl => match us, hl with | [_], _ => rfl) fun f fd F => ok_sent F T
  have G39 : GFn P w K mg base "told_got" ["piece"] 1 (spTold .got) := gfn X G g39 (fun _ _ _ _ _ _ us hl => match us, hl with | [_], _ => rfl) fun f fd F => ok_got F T
  have M1 : MFn P w K mg base C "begin" ["self", "up"] 1 (spBegin C) := mfn E.m1 (fun _ _ _ _ _ _ us hl => match us, hl with | [_, _], _ => rfl) fun f fd F => ok_begin F T
  have Ge : CFn P w K mg base C ["self"] 2 (spInit K C) := cfn E.c E.m0 (fun _ _ _ _ _ _ us hl => match us, hl with | [_], _ => rfl) fun f fd F => ok_init F T M1
  have M2 : MFn P w K mg base C "start" ["self", "me", "other", "life"] 2 (spStart K C) := mfn E.m2 (fun _ _ _ _ _ _ us hl => match us, hl with | [_, _, _, _], _ => rfl) fun f fd F => ok_start F T M1
  have M10 : MFn P w K mg base C "cut" ["self"] 2 (spCut K C) := mfn E.m10 (fun _ _ _ _ _ _ us hl => match us, hl with | [_], _ => rfl) fun f fd F => ok_cut F T M1
  have M11 : MFn P w K mg base C "own_pair" ["self"] 1 (spOwn K C) := mfn E.m11 (fun _ _ _ _ _ _ us hl => match us, hl with | [_], _ => rfl) fun f fd F => ok_own F T
  have M9 : MFn P w K mg base C "acknowledged" ["self"] 1 (spAcked K C) := mfn E.m9 (fun _ _ _ _ _ _ us hl => match us, hl with | [_], _ => rfl) fun f fd F => ok_acked F T
  have M6 : MFn P w K mg base C "state" ["self"] 1 (spState K C) := mfn E.m6 (fun _ _ _ _ _ _ us hl => match us, hl with | [_], _ => rfl) fun f fd F => ok_state F T
  have M12 : MFn P w K mg base C "beat_thing" ["self"] 4 (spBeatT K C) := mfn E.m12 (fun _ _ _ _ _ _ us hl => match us, hl with | [_], _ => rfl) fun f fd F => ok_beatT F T G38 G17 M11
  have M13 : MFn P w K mg base C "piece_thing" ["self", "number", "piece"] 4 (spPieceT K C) := mfn E.m13 (fun _ _ _ _ _ _ us hl => match us, hl with | [_, _, _], _ => rfl) fun f fd F => ok_pieceT F T G38 G18 M11
  have M8 : MFn P w K mg base C "acknowledge" ["self", "got"] 2 (spAck K C) := mfn E.m8 (fun _ _ _ _ _ _ us hl => match us, hl with | [_, _], _ => rfl) fun f fd F => ok_ack F T M9
  have M3 : MFn P w K mg base C "send" ["self", "piece"] 5 (spSend K C) := mfn E.m3 (fun _ _ _ _ _ _ us hl => match us, hl with | [_, _], _ => rfl) fun f fd F => ok_send F T G19 M10 M13
  have M7 : MFn P w K mg base C "take" ["self", "message"] 5 (spTake K C M) := mfn E.m7 (fun _ _ _ _ _ _ us hl => match us, hl with | [_, _], _ => rfl) fun f fd F => ok_take F T M1 M8 G39 M12
  have M4 : MFn P w K mg base C "heard" ["self", "numbers"] 6 (spHeard K C) := mfn E.m4 (fun _ _ _ _ _ _ us hl => match us, hl with | [_, _], _ => rfl) fun f fd F => ok_heard F T G22 M10 M11 M7
  have M5 : MFn P w K mg base C "tick" ["self"] 5 (spTick K C) := mfn E.m5 (fun _ _ _ _ _ _ us hl => match us, hl with | [_], _ => rfl) fun f fd F => ok_tick F T M12 M10 M9 M13
  have G46 : GFn P w K mg base "call_length" ["calls", "at"] 1 (spLen K) := gfn X G g46 (fun _ _ _ _ _ _ us hl => match us, hl with | [_, _], _ => rfl) fun f fd F => ok_len F T
  have G47 : GFn P w K mg base "whole_answer" ["outcome", "besides"] 1 (spWhole K) := gfn X G g47 (fun _ _ _ _ _ _ us hl => match us, hl with | [_, _], _ => rfl) fun f fd F => ok_whole F T
  have G48 : GFn P w K mg base "answer_of" ["end", "call"] 7 (spAnswer K C) := gfn X G g48 (fun _ _ _ _ _ _ us hl => match us, hl with | [_, _], _ => rfl) fun f fd F => ok_answer F T G47 M2 M3 M4 M5 M6
  exact ok_ans F49 T Ge G46 G48
end Nl

set_option Elab.async false
set_option linter.all false
open PySem PySem.W PyProof.Rows
set_option maxRecDepth 100000 in
set_option maxHeartbeats 0 in
theorem PySem.Challenge.cw_nodeline_s01_answers_holds : PySem.Challenge.rw_nodeline_s01_answers.Holds := by
  w_on; k_headS; (case hw => exact ⟨[.list [.int 0, .int 1, .int 2, .int 7]], by decide +kernel, by decide +kernel⟩)
  k_fillS
  refine L2.walk_specK (r := PySem.Challenge.rw_nodeline_s01_answers) (k := 8) (CX := L2.CX0) (ps := ["calls"]) (sp := Nl.spAns) (by decide +kernel) rfl rfl ⟨rfl, by decide, by decide⟩ (fun w h Y => PySem.W.kIn_of Y) ?F ?S (fun _ _ _ _ z => z)
  case F =>
    intro w mg fa h Y KX G hmg
    have E : ∃ C, Nl.EndTxt (L2.KOf KX) C := by
      dsimp only [L2.KOf]
      refine' Nl.end_mk ?c ?na ?m0 ?m1 ?m2 ?m3 ?m4 ?m5 ?m6 ?m7 ?m8 ?m9 ?m10 ?m11 ?m12 ?m13
      case c => (refine' Nl.cls_mk ?a ?pg ?hd ?po ?sa ?mk ?kc; (case a => k_is); (case pg => k_is); (case hd => k_is); (case po => k_is); (case sa => k_is); (case mk => k_is); (case kc => k_is))
      case na => (refine' Nl.na_leN ?n0 ?n1 ?n2 ?n3 ?n4 ?n5 ?n6 ?n7 ?n8 ?n9; (case n0 => k_is); (case n1 => k_is); (case n2 => k_is); (case n3 => k_is); (case n4 => k_is); (case n5 => k_is); (case n6 => k_is); (case n7 => k_is); (case n8 => k_is); (case n9 => k_is))
      case m0 => (refine' Nl.mf_mk ?a ?i ?l ?c ?k; (case a => k_is); (case i => k_is); (case l => k_is); (case c => k_is); (case k => k_is))
      case m1 => (refine' Nl.mf_mk ?a ?i ?l ?c ?k; (case a => k_is); (case i => k_is); (case l => k_is); (case c => k_is); (case k => k_is))
      case m2 => (refine' Nl.mf_mk ?a ?i ?l ?c ?k; (case a => k_is); (case i => k_is); (case l => k_is); (case c => k_is); (case k => k_is))
      case m3 => (refine' Nl.mf_mk ?a ?i ?l ?c ?k; (case a => k_is); (case i => k_is); (case l => k_is); (case c => k_is); (case k => k_is))
      case m4 => (refine' Nl.mf_mk ?a ?i ?l ?c ?k; (case a => k_is); (case i => k_is); (case l => k_is); (case c => k_is); (case k => k_is))
      case m5 => (refine' Nl.mf_mk ?a ?i ?l ?c ?k; (case a => k_is); (case i => k_is); (case l => k_is); (case c => k_is); (case k => k_is))
      case m6 => (refine' Nl.mf_mk ?a ?i ?l ?c ?k; (case a => k_is); (case i => k_is); (case l => k_is); (case c => k_is); (case k => k_is))
      case m7 => (refine' Nl.mf_mk ?a ?i ?l ?c ?k; (case a => k_is); (case i => k_is); (case l => k_is); (case c => k_is); (case k => k_is))
      case m8 => (refine' Nl.mf_mk ?a ?i ?l ?c ?k; (case a => k_is); (case i => k_is); (case l => k_is); (case c => k_is); (case k => k_is))
      case m9 => (refine' Nl.mf_mk ?a ?i ?l ?c ?k; (case a => k_is); (case i => k_is); (case l => k_is); (case c => k_is); (case k => k_is))
      case m10 => (refine' Nl.mf_mk ?a ?i ?l ?c ?k; (case a => k_is); (case i => k_is); (case l => k_is); (case c => k_is); (case k => k_is))
      case m11 => (refine' Nl.mf_mk ?a ?i ?l ?c ?k; (case a => k_is); (case i => k_is); (case l => k_is); (case c => k_is); (case k => k_is))
      case m12 => (refine' Nl.mf_mk ?a ?i ?l ?c ?k; (case a => k_is); (case i => k_is); (case l => k_is); (case c => k_is); (case k => k_is))
      case m13 => (refine' Nl.mf_mk ?a ?i ?l ?c ?k; (case a => k_is); (case i => k_is); (case l => k_is); (case c => k_is); (case k => k_is))
    have Ms : ∃ M, Nl.MsgTxt (L2.KOf KX) M := by
      dsimp only [L2.KOf]
      refine' Nl.msg_mk ?c ?na ?m0
      case c => (refine' Nl.cls_mk ?a ?pg ?hd ?po ?sa ?mk ?kc; (case a => k_is); (case pg => k_is); (case hd => k_is); (case po => k_is); (case sa => k_is); (case mk => k_is); (case kc => k_is))
      case na => (refine' Nl.na_msN ?n0 ?n1 ?n2 ?n3 ?n4 ?n5; (case n0 => k_is); (case n1 => k_is); (case n2 => k_is); (case n3 => k_is); (case n4 => k_is); (case n5 => k_is))
      case m0 => (refine' Nl.mf_mk ?a ?i ?l ?c ?k; (case a => k_is); (case i => k_is); (case l => k_is); (case c => k_is); (case k => k_is))
    obtain ⟨C, E⟩ := E
    obtain ⟨M, Ms⟩ := Ms
    have T : Nl.Txt (L2.KOf KX) mg C M := by
      refine' Nl.txt_mk KX G E Ms ?zl ?ze ?four ?nothing ?ones ?beat ?piece ?headLen ?numLen ?chkLen ?longest ?done ?wrong ?notUp ?tooMany ?notRight ?tSent ?tUp ?tGot ?tDown ?highest ?most ?again ?quietT ?cStart ?cSend ?cHeard ?cTick
      case zl => (dsimp only [L2.KOf]; k_is)
      case ze => (dsimp only [L2.KOf]; k_is)
      case four => (dsimp only [L2.KOf]; refine' Nl.tup_mk KX G ?e ?l ?z ?r; (case e => k_is); (case l => k_is); (case z => decide); (case r => rfl))
      case nothing => (dsimp only [L2.KOf]; refine' Nl.tup_mk KX G ?e ?l ?z ?r; (case e => k_is); (case l => k_is); (case z => decide); (case r => rfl))
      case ones => (refine' Nl.cst_mk KX G ?a ?r; (case a => k_is); (case r => exact ⟨_, rfl⟩))
      case beat => (refine' Nl.cst_mk KX G ?a ?r; (case a => k_is); (case r => exact ⟨_, rfl⟩))
      case piece => (refine' Nl.cst_mk KX G ?a ?r; (case a => k_is); (case r => exact ⟨_, rfl⟩))
      case headLen => (refine' Nl.cst_mk KX G ?a ?r; (case a => k_is); (case r => exact ⟨_, rfl⟩))
      case numLen => (refine' Nl.cst_mk KX G ?a ?r; (case a => k_is); (case r => exact ⟨_, rfl⟩))
      case chkLen => (refine' Nl.cst_mk KX G ?a ?r; (case a => k_is); (case r => exact ⟨_, rfl⟩))
      case longest => (refine' Nl.cst_mk KX G ?a ?r; (case a => k_is); (case r => exact ⟨_, rfl⟩))
      case done => (refine' Nl.cst_mk KX G ?a ?r; (case a => k_is); (case r => exact ⟨_, rfl⟩))
      case wrong => (refine' Nl.cst_mk KX G ?a ?r; (case a => k_is); (case r => exact ⟨_, rfl⟩))
      case notUp => (refine' Nl.cst_mk KX G ?a ?r; (case a => k_is); (case r => exact ⟨_, rfl⟩))
      case tooMany => (refine' Nl.cst_mk KX G ?a ?r; (case a => k_is); (case r => exact ⟨_, rfl⟩))
      case notRight => (refine' Nl.cst_mk KX G ?a ?r; (case a => k_is); (case r => exact ⟨_, rfl⟩))
      case tSent => (refine' Nl.cst_mk KX G ?a ?r; (case a => k_is); (case r => exact ⟨_, rfl⟩))
      case tUp => (refine' Nl.cst_mk KX G ?a ?r; (case a => k_is); (case r => exact ⟨_, rfl⟩))
      case tGot => (refine' Nl.cst_mk KX G ?a ?r; (case a => k_is); (case r => exact ⟨_, rfl⟩))
      case tDown => (refine' Nl.cst_mk KX G ?a ?r; (case a => k_is); (case r => exact ⟨_, rfl⟩))
      case highest => (refine' Nl.cst_mk KX G ?a ?r; (case a => k_is); (case r => exact ⟨_, rfl⟩))
      case most => (refine' Nl.cst_mk KX G ?a ?r; (case a => k_is); (case r => exact ⟨_, rfl⟩))
      case again => (refine' Nl.cst_mk KX G ?a ?r; (case a => k_is); (case r => exact ⟨_, rfl⟩))
      case quietT => (refine' Nl.cst_mk KX G ?a ?r; (case a => k_is); (case r => exact ⟨_, rfl⟩))
      case cStart => (refine' Nl.cst_mk KX G ?a ?r; (case a => k_is); (case r => exact ⟨_, rfl⟩))
      case cSend => (refine' Nl.cst_mk KX G ?a ?r; (case a => k_is); (case r => exact ⟨_, rfl⟩))
      case cHeard => (refine' Nl.cst_mk KX G ?a ?r; (case a => k_is); (case r => exact ⟨_, rfl⟩))
      case cTick => (refine' Nl.cst_mk KX G ?a ?r; (case a => k_is); (case r => exact ⟨_, rfl⟩))
    have g3 : Nl.GF (L2.KOf KX) "check_of" "check_of" (Nl.top 3) := by
      dsimp only [L2.KOf]
      refine' Nl.gf_mk ?a ?l ?c ?k; (case a => k_is); (case l => k_is); (case c => k_is); (case k => k_is)
    have g12 : Nl.GF (L2.KOf KX) "low_byte_first" "low_byte_first" (Nl.top 12) := by
      dsimp only [L2.KOf]
      refine' Nl.gf_mk ?a ?l ?c ?k; (case a => k_is); (case l => k_is); (case c => k_is); (case k => k_is)
    have g13 : Nl.GF (L2.KOf KX) "number_at" "number_at" (Nl.top 13) := by
      dsimp only [L2.KOf]
      refine' Nl.gf_mk ?a ?l ?c ?k; (case a => k_is); (case l => k_is); (case c => k_is); (case k => k_is)
    have g14 : Nl.GF (L2.KOf KX) "pair_at" "pair_at" (Nl.top 14) := by
      dsimp only [L2.KOf]
      refine' Nl.gf_mk ?a ?l ?c ?k; (case a => k_is); (case l => k_is); (case c => k_is); (case k => k_is)
    have g15 : Nl.GF (L2.KOf KX) "with_check" "with_check" (Nl.top 15) := by
      dsimp only [L2.KOf]
      refine' Nl.gf_mk ?a ?l ?c ?k; (case a => k_is); (case l => k_is); (case c => k_is); (case k => k_is)
    have g16 : Nl.GF (L2.KOf KX) "write_head" "write_head" (Nl.top 16) := by
      dsimp only [L2.KOf]
      refine' Nl.gf_mk ?a ?l ?c ?k; (case a => k_is); (case l => k_is); (case c => k_is); (case k => k_is)
    have g17 : Nl.GF (L2.KOf KX) "write_beat" "write_beat" (Nl.top 17) := by
      dsimp only [L2.KOf]
      refine' Nl.gf_mk ?a ?l ?c ?k; (case a => k_is); (case l => k_is); (case c => k_is); (case k => k_is)
    have g18 : Nl.GF (L2.KOf KX) "write_piece" "write_piece" (Nl.top 18) := by
      dsimp only [L2.KOf]
      refine' Nl.gf_mk ?a ?l ?c ?k; (case a => k_is); (case l => k_is); (case c => k_is); (case k => k_is)
    have g19 : Nl.GF (L2.KOf KX) "is_piece_length" "is_piece_length" (Nl.top 19) := by
      dsimp only [L2.KOf]
      refine' Nl.gf_mk ?a ?l ?c ?k; (case a => k_is); (case l => k_is); (case c => k_is); (case k => k_is)
    have g20 : Nl.GF (L2.KOf KX) "has_length_of_kind" "has_length_of_kind" (Nl.top 20) := by
      dsimp only [L2.KOf]
      refine' Nl.gf_mk ?a ?l ?c ?k; (case a => k_is); (case l => k_is); (case c => k_is); (case k => k_is)
    have g21 : Nl.GF (L2.KOf KX) "has_right_check" "has_right_check" (Nl.top 21) := by
      dsimp only [L2.KOf]
      refine' Nl.gf_mk ?a ?l ?c ?k; (case a => k_is); (case l => k_is); (case c => k_is); (case k => k_is)
    have g22 : Nl.GF (L2.KOf KX) "read_message" "read_message" (Nl.top 22) := by
      dsimp only [L2.KOf]
      refine' Nl.gf_mk ?a ?l ?c ?k; (case a => k_is); (case l => k_is); (case c => k_is); (case k => k_is)
    have g38 : Nl.GF (L2.KOf KX) "told_sent" "told_sent" (Nl.top 38) := by
      dsimp only [L2.KOf]
      refine' Nl.gf_mk ?a ?l ?c ?k; (case a => k_is); (case l => k_is); (case c => k_is); (case k => k_is)
    have g39 : Nl.GF (L2.KOf KX) "told_got" "told_got" (Nl.top 39) := by
      dsimp only [L2.KOf]
      refine' Nl.gf_mk ?a ?l ?c ?k; (case a => k_is); (case l => k_is); (case c => k_is); (case k => k_is)
    have g46 : Nl.GF (L2.KOf KX) "call_length" "call_length" (Nl.top 46) := by
      dsimp only [L2.KOf]
      refine' Nl.gf_mk ?a ?l ?c ?k; (case a => k_is); (case l => k_is); (case c => k_is); (case k => k_is)
    have g47 : Nl.GF (L2.KOf KX) "whole_answer" "whole_answer" (Nl.top 47) := by
      dsimp only [L2.KOf]
      refine' Nl.gf_mk ?a ?l ?c ?k; (case a => k_is); (case l => k_is); (case c => k_is); (case k => k_is)
    have g48 : Nl.GF (L2.KOf KX) "answer_of" "answer_of" (Nl.top 48) := by
      dsimp only [L2.KOf]
      refine' Nl.gf_mk ?a ?l ?c ?k; (case a => k_is); (case l => k_is); (case c => k_is); (case k => k_is)
    have g49 : Nl.GF (L2.KOf KX) "answers" "answers" (Nl.top 49) := by
      dsimp only [L2.KOf]
      refine' Nl.gf_mk ?a ?l ?c ?k; (case a => k_is); (case l => k_is); (case c => k_is); (case k => k_is)
    exact Nl.all_mk KX G hmg T E Ms g3 g12 g13 g14 g15 g16 g17 g18 g19 g20 g21 g22 g38 g39 g46 g47 g48 g49
  case S =>
    intro K H xs a hO hwi hask hx
    cases hx with
    | cons h1 h2 =>
      cases h2
      cases h1 with
      | lst hs ha =>
        have e := L2.ints_dw a.1 _ ha
        subst e
        refine ⟨_, a.1, rfl, ?_, hask, fun H' p hp => .lst (L2.SqL.of hp) (L2.dw_ints _)⟩
        rcases hs with (hs | hs) | hs
        · exfalso
          rcases hO _ with z | ⟨o, u, z⟩
          · rw [hs] at z
            cases z
          · rw [hs] at z
            cases z
        · exact .inl hs
        · exact .inr hs
#print axioms PySem.Challenge.cw_nodeline_s01_answers_holds
